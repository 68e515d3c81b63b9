import PyProof.Rows.All
import Wide.All
import OpenK.AllK
import Wide.FinOn
import PyProof.EqAt
import PyProof.EqKinds
import PyProof.TupleCall
import KE.KIsAll
import KE.KExcInit
import PyProof.Rows.ReprR
import HandS.Base
import HandS.Call
import HandS.List
import HandS.Comp
import HandS.Dict
import HandS.Iter
import HandS.Text
import HandS.Ends
import HandS.Exc
import HandS.ExcOwn
import HandS.ExcInit
import HandS.ExcIs
import HandS.ExcValue
import HandS.IsInst
import HandS.Style
import HandS.Conv
import HandS.Words
import HandS.WordsList
import HandS.WordsDict
import HandS.ExcField
import HandS.TryOnly
import HandS.WordsExc
import HandS.Walk
import HandS.StrMore
import HandS.Deep
import HandS.RevRange
import HandS.Rev
import HandS.Star
import PyProof.ListRange
import PyProof.ListNew
import KE.KDictList
import HandS.OwnEq
import HandS.ListItems
import KE.GoesEnum
import HandS.More
import HandS.DictComp
import HandS.FStr
import HandS.RaiseMore
import HandS.HeadHook3
import PySem.Challenge.RW_bushcoins_k12_whole_texts_of_books_and_b
set_option Elab.async false
set_option linter.all false
set_option maxRecDepth 100000
set_option maxHeartbeats 4000000
/-! Guarded defs (nothing is being shown by repr), exceptions as values, repr of data. -/
namespace Bc
open PySem PySem.Spec PyProof.Rows L2

/-! ### a def's promise where no repr is under way -/
structure FnG (P : Program) (w : World) (K : PySem.W.Frag) (mg : Str → Option Value) (base : Heap) (k : Nat) (f : Addr) (fd : FuncData) (ps : List Str) (sp : Sp) : Prop where
  len : ∀ vs H Q E, sp vs H Q E → vs.length = ps.length
  go : ∀ (A : Around) (outer : List Env) (s : Shared) (H : Hp) (args : Args) (us : List Value) (vs : List V) (Q : VK) (E : XK), Room k A → A.guards = some [] →
    Env0 P w K mg base A outer s H → BindsTo s fd args (ps.zip us) → Vals vs us → sp vs H Q E →
    codeAny (model P w) A (.call (.ref f) args) (CR CX0 outer P w H s Q E) s

section
variable {P : Program} {w : World} {K : PySem.W.Frag} {mg : Str → Option Value} {base : Heap}
theorem FnG.body {x qual : Str} {st : Stmt} {f : Addr} {fd : FuncData} {N ps : List Str} {k : Nat} {sp : Sp}
    (F : Fun K x qual st f fd) (S : FnScope N ps (defScope st)) (hlen : ∀ vs H Q E, sp vs H Q E → vs.length = ps.length)
    (hb : ∀ (cdv : Value) (A : Around) (outer : List Env) (s : Shared) (H : Hp) (vs : List V) (Q : VK) (E : XK),
      Room k (A.deeper (envOfC qual (defScope st) s.heap.objs.size f cdv)) → (A.deeper (envOfC qual (defScope st) s.heap.objs.size f cdv)).guards = some [] → sp vs H Q E →
      ∃ t, PSs (cxOf CX0 P w K mg base N qual (defScope st) f cdv A outer s H E).nox (defBody st) t ∧ t { nx := fun _ H' => Q .non H', rt := Q } (start N vs) H) :
    FnG P w K mg base (k + 1) f fd ps sp := by
  obtain ⟨oc, od, kV, doc, pm, an, cdv, ct, osl, rfl, lk, hcd⟩ := F.ex
  refine ⟨hlen, fun A outer s H args us vs Q E hr hg e0 hbd r hsp => ?_⟩
  -- the promise of this one call, told of all calls with these arguments
  let sp1 : Sp := fun vs' H' Q' E' => vs' = vs ∧ H' = H ∧ sp vs' H' Q' E' ∧ True
  have hl := hlen _ _ _ _ hsp
  have KX : K.In s.heap := e0.mod.kin.keeps fun b o e => (e0.bs b o e).1
  have lim : s.heap.NoLimit := e0.mod.nolimit.keeps fun b o e => (e0.bs b o e).1
  have hkind : ∀ y ∈ ps.zip us, (defScope st).names.lookup y.1 = some .local ∨
      ((defScope st).names.lookup y.1 = some .cell ∧ ((cellsFrom (s.heap.objs.size + 1) (defScope st).names []).lookup y.1).isSome = true) := by
    intro y hy
    rcases S.par y.1 (List.of_mem_zip (a := y.1) (b := y.2) hy).1 with q | q
    · exact Or.inl q
    · exact Or.inr ⟨q, PySem.W.cellsFrom_some _ _ _ (Or.inl q)⟩
  refine codeAny_call_function hr.depth (KX _ _ lk) rfl S.co S.gen rfl (PySem.W.codeRec_of KX hcd) (hbd _ _ _ _ ?_)
  refine wpAny_newFunctionEnv_cells S.kind hkind fun env he s1 x => ?_
  subst he
  refine ⟨lim.keeps x.toInCall.keep, codeAny_func ?_⟩
  obtain ⟨t, ht, hq⟩ := hb cdv A outer s H vs Q E (hr.deeper _) hg hsp
  have I : Inv (cxOf CX0 P w K mg base N qual (defScope st) f cdv A outer s H E) [] (start N vs) H s1 := inv_start S hr.hd e0 hl r x
  refine wpAny_mono (ht.nox.run [] s1 (start N vs) H _ I hq) (fun fl s' hs => ?_) fun e s' hs => hs
  cases fl with
  | ret u =>
    obtain ⟨v, σ', H', J, rv, q⟩ := hs
    exact ⟨v, H', J.os, J.bare, J.base, J.hok, rv, q⟩
  | next =>
    obtain ⟨σ', H', J, q⟩ := hs
    exact ⟨V.non, H', J.os, J.bare, J.base, J.hok, rfl, q⟩
  | brk =>
    obtain ⟨_, _, _, q⟩ := hs
    exact q.elim
  | cont =>
    obtain ⟨_, _, _, q⟩ := hs
    exact q.elim
end
section
variable {X : Cx} {k : Nat} {f : Addr} {fd : FuncData} {ps : List Str} {sp : Sp} {x : Str} {p pos : Pos} {e : Expr} {es : List Expr} {t : TA}
/-- f(e, ..), f a guarded def -/
theorem pe_callG (F : FnG X.prog X.w X.K X.mg X.base k f fd ps sp) (hr : Room k X.A) (hgu : X.A.guards = some []) (hg : Gl X x) (hm : X.mg x = some (.ref f)) (hk : PySem.W.keepIn X.K (.ref f) = true)
    (hb : Binds X.K fd ps []) (ha : PA X (e :: es) t) (hdb : (x == ("__debug__" : Str)) = false := by decide)
    (he : starEach (e :: es) X.env = (false, eval e X.env) :: starEach es X.env := by rfl) (hpl : (backTo pos (starEach es X.env)).any (·.1) = false := by rfl) :
    PE X (.Call (.Name x p) (e :: es) [] pos) (tCall sp [] E0 t) := by
  refine ⟨fun pins s σ H Q I h => ?_⟩
  refine wpAny_Call_Name_kw (ld_glob I hg hm ?_ hdb)
  refine PySem.W.callWith_K (h₀ := X.base) I.ok.mod.kin hk (thn (ha.run pos pins s σ H _ I h) fun us s1 ⟨vs, H1, I1, r, q⟩ => ⟨I1.kIn, ?_⟩) he hpl
  have q' : sp vs H1 Q E0 := by
    have z : sp (vs ++ []) H1 Q E0 := q
    rwa [List.append_nil] at z
  have hl : (us ++ []).length = ps.length := by
    rw [List.append_nil, ← r.length]
    exact F.len _ _ _ _ q'
  have hbd := hb s1 us I1.kIn hl
  rw [List.append_nil] at hbd
  refine wpAny_call (codeAny_mono (F.go X.A X.stack s1 H1 ⟨us, []⟩ us vs Q E0 hr hgu I1.env0 hbd r q') fun r s' hq => ?_)
  cases r with
  | error e => exact hq.elim
  | ok fl =>
    cases fl with
    | ret u => exact I1.after hq
    | next => exact hq.elim
    | brk => exact hq.elim
    | cont => exact hq.elim
end
end Bc

namespace Bc
open PySem PySem.Spec PyProof.Rows L2

/-! ### the end of a law by a guarded def -/
/-- what a law's call has to come to -/
abbrev LawEnd (s₁ : Shared) : Result → Shared → Prop := fun r s' => r = .ok (.ret (.bool true)) ∧ OldK s₁.heap s'.heap ∧ s'.os = s₁.os ∧ AllBare s'.gens

theorem lawG_core {P : Program} {w : World} {K : PySem.W.Frag} {mg mb : Str → Option Value} {k : Nat} {fa a : Addr} {fd : FuncData} {x : Str} {sp : Sp} {s₁ : Shared} {vs : List Value} {H : Hp}
    (kin : K.In s₁.heap) (hns : s₁.heap.Ns mainGlobals mg) (hb : s₁.heap.Ns builtinsNs mb) (hbb : ∀ x : Str, x ≠ "__name__" → mb x = bootBuiltins x) (hlim : s₁.heap.NoLimit) (hg : s₁.gens = #[])
    (ha : s₁.heap.get? a = some { cls := .type "list", data := .seq vs.toArray }) (hr : Room k callerA)
    (hF : ∀ base : Heap, K.In base → base.Ns mainGlobals mg → FnG P w K mg base k fa fd [x] sp) (hbd : ∀ (s : Shared) (u : Value), BindsTo s fd ⟨[u], []⟩ [(x, u)])
    (hsp : sp [.ref a] H (fun v _ => v = .bl true) E0) (hO : Only H) (hok : HOk P w H s₁.heap) (only : ∀ b, H b ≠ none → b = a) (hK : H a ≠ none → K.lookup a = none) :
    codeAny (model P w) callerA (.call (.ref fa) ⟨[.ref a], []⟩) (LawEnd s₁) s₁ := by
  have down : ∀ {b : Addr} {o : Obj}, s₁.heap.get? b = some o → H b = none → (hidT s₁.heap H).get? b = some o := fun h1 h2 => hidT_get h1 h2
  have nodict : ∀ {b : Addr} {o : Obj} {es : Array DictEntry} {ep : Nat}, s₁.heap.get? b = some o → o.data = .dict es ep → H b = none := by
    intro b o es ep h1 h2
    cases q : H b with
    | none => rfl
    | some u =>
      have z : b = a := only b (by rw [q]; exact Option.some_ne_none u)
      subst z
      rw [ha] at h1
      cases h1
      cases h2
  have nsd : ∀ {b : Addr} {m : Str → Option Value}, s₁.heap.Ns b m → (hidT s₁.heap H).Ns b m := by
    rintro b m ⟨o, es, ep, h1, h2, r⟩
    exact ⟨o, es, ep, down h1 (nodict h1 h2), h2, r⟩
  have kind : K.In (hidT s₁.heap H) := by
    intro b o e
    refine down (kin b o e) ?_
    cases q : H b with
    | none => rfl
    | some u =>
      have z : b = a := only b (by rw [q]; exact Option.some_ne_none u)
      subst z
      rw [hK (by rw [q]; exact Option.some_ne_none u)] at e
      cases e
  have md : Mod K mg (hidT s₁.heap H) := ⟨kind, nsd hns, ⟨mb, nsd hb, hbb⟩, by
    obtain ⟨mc, h1, h2⟩ := hlim
    exact ⟨mc, nsd h1, h2⟩⟩
  have env : Env0 P w K mg (hidT s₁.heap H) callerA [] s₁ H := ⟨rfl, md, fun b o e => of_hidT e, Nat.le_of_eq (hidT_size _ _), trivial, fun b z => absurd (show b ∈ ([] : List Addr) from z) (by simp), hok, .of_eq hg⟩
  refine codeAny_mono ((hF _ kind (nsd hns)).go callerA [] s₁ H ⟨[.ref a], []⟩ [.ref a] [.ref a] _ _ hr rfl env (hbd s₁ (.ref a)) (.cons rfl .nil) hsp) fun r s' h => ?_
  cases r with
  | error e => exact h.elim
  | ok fl =>
    cases fl with
    | next => exact h.elim
    | brk => exact h.elim
    | cont => exact h.elim
    | ret u =>
      obtain ⟨v, H', os, bare, un, hok', r', q⟩ := h
      have qv : v = .bl true := q
      subst qv
      obtain rfl : u = Value.bool true := r'
      refine ⟨rfl, OldK.of_keep fun b o e => ?_, os, bare⟩
      cases q : H b with
      | none => exact un.keep b o e q (fun z => absurd (show b ∈ ([] : List Addr) from z) (by simp)) (by simp)
      | some u =>
        rcases hO b with z | ⟨ob, xs, z⟩
        · rw [q] at z
          cases z
        · obtain ⟨e1, _⟩ := hok b _ z
          obtain ⟨e2, _⟩ := hok' b _ (un.frzs b ob _ z)
          rw [e] at e1
          cases e1
          exact e2

theorem lawG_call {P : Program} {w : World} {K : PySem.W.Frag} {mg mb : Str → Option Value} {k : Nat} {fa a : Addr} {fd : FuncData} {x : Str} {sp : Sp} {s₁ : Shared} {vs : List Value} {ns : List Int}
    (kin : K.In s₁.heap) (hns : s₁.heap.Ns mainGlobals mg) (hb : s₁.heap.Ns builtinsNs mb) (hbb : ∀ x : Str, x ≠ "__name__" → mb x = bootBuiltins x) (hlim : s₁.heap.NoLimit) (hg : s₁.gens = #[])
    (ha : s₁.heap.get? a = some { cls := .type "list", data := .seq vs.toArray }) (hi : IntsAre vs ns) (hl : ns.length ≤ sizeLine) (hr : Room k callerA)
    (hF : ∀ base : Heap, K.In base → base.Ns mainGlobals mg → FnG P w K mg base k fa fd [x] sp) (hbd : ∀ (s : Shared) (u : Value), BindsTo s fd ⟨[u], []⟩ [(x, u)])
    (hsp : ∀ H : Hp, Only H → SqL K H a (ns.map V.int) → sp [.ref a] H (fun v _ => v = .bl true) E0) :
    codeAny (model P w) callerA (.call (.ref fa) ⟨[.ref a], []⟩) (LawEnd s₁) s₁ := by
  have rv := vals_ints hi
  have lenV := hi.length
  cases hk : K.lookup a with
  | some o =>
    have e := kin a o hk
    rw [ha] at e
    cases e
    have hO : Only (fun _ => none) := fun _ => Or.inl rfl
    have hS : SqL K (fun _ => none) a (ns.map V.int) := Or.inr ⟨_, vs.toArray, _, hk, rfl, rfl, rfl, by rw [List.size_toArray, lenV]; exact hl, by simpa using rv⟩
    exact lawG_core kin hns hb hbb hlim hg ha hr hF hbd (hsp _ hO hS) hO (fun b u z => nomatch (show (none : Option HO) = some u from z)) (fun b z => absurd rfl z) fun z => absurd rfl z
  | none =>
    have hS : SqL K (fun b => if b = a then some (HO.frz { cls := .type "list", data := .seq vs.toArray } (.lst (ns.map V.int))) else none) a (ns.map V.int) :=
      Or.inl (Or.inr ⟨{ cls := .type "list", data := .seq vs.toArray }, if_pos rfl⟩)
    have hO : Only (fun b => if b = a then some (HO.frz { cls := .type "list", data := .seq vs.toArray } (.lst (ns.map V.int))) else none) := by
      intro b
      by_cases z : b = a
      · exact Or.inr ⟨_, _, if_pos z⟩
      · exact Or.inl (if_neg z)
    refine lawG_core kin hns hb hbb hlim hg ha hr hF hbd (hsp _ hO hS) hO (fun b u z => ?_) (fun b z => ?_) fun _ => hk
    · by_cases y : b = a
      · have z' := (if_pos y).symm.trans z
        cases z'
        subst y
        exact ⟨ha, by rw [List.length_map]; exact hl, vs, _, rv, ha⟩
      · have z' := (if_neg y).symm.trans z
        cases z'
    · by_cases y : b = a
      · exact y
      · exact absurd (if_neg y) z

theorem walkG {l : PySem.W.OpenLaw} {n k : Nat} {q : Program} {loose : List Str} {XP : (Str → Option Value) → Heap → Prop} {YP : World → Heap → Prop} {d : DefRec} {K : Params → PySem.W.Frag} {sp : World → Sp} {x : Str}
    (hn : l.most = some n) (hn2 : n ≤ sizeLine) (hdf : d.params.defaults = []) (hr : Room k callerA)
    (hY : ∀ (w : World) (h : Heap), YP w h → (K w.params).In h)
    (F : ∀ (w : World) (mg : Str → Option Value) (fa : Addr) (h : Heap), (K w.params).In h → h.Ns mainGlobals mg → mg d.name = some (.ref fa) →
      ∃ fd : FuncData, (∀ (s : Shared) (u : Value), BindsTo s fd ⟨[u], []⟩ [(x, u)]) ∧
        ∀ base : Heap, (K w.params).In base → base.Ns mainGlobals mg → FnG l.prog w (K w.params) mg base k fa fd [x] (sp w))
    (hsp : ∀ (w : World) (H : Hp) (a : Addr) (ns : List Int), ns.length ≤ n → Only H → SqL (K w.params) H a (ns.map V.int) → sp w [.ref a] H (fun v _ => v = .bl true) E0) :
    PySem.W.WalkO q loose XP YP l.row.toRowW d [] (fun f vs => PySem.call f vs) := by
  refine Att.attach_call hn hdf fun w s₀ s₁ mg mb fa o pm cd doc a vs ns G Y ho hd hcd hmg hobj hints hlen hg => ?_
  have KX := hY w _ Y
  obtain ⟨fd, hb, hF⟩ := F w mg fa _ KX G.T.g hmg
  exact lawG_call KX G.T.g G.T.b G.T.builtins G.T.nolimit hg hobj hints (Nat.le_trans hlen hn2) hr hF hb (fun H hO hS => hsp w H a ns hlen hO hS)

/-! ### own exceptions as values -/
/-- what the written part says of an exception's class -/
structure XC (K : PySem.W.Frag) (C : Addr) : Prop extends ExcC K C where
  kC : PySem.W.keepIn K (.ref C) = true
/-- one whose __init__ is a def at fI -/
structure XI (K : PySem.W.Frag) (C fI : Addr) : Prop extends XC K C where
  cls : ∃ nm q N bs bm sn sub ab col dd k0 k1 k2 k3 k5 B newId initId bmB, ExcBaseFacts B newId initId bmB ∧ StoreFacts B bmB "object.__setattr__" "object" ∧ PySem.W.excTail bmB bm = true ∧
    K.lookup C = some (excClassObj nm q C N bs bm true sn sub ab col dd k0 k1 k2 k3 k5 newId)
  sa : PySem.W.findIn K (.ref C) "__setattr__" = some (some (.builtin "object.__setattr__"))
  iC : PySem.W.findIn K (.ref C) "__init__" = some (some (.ref fI))
  tI : PySem.W.typeIn K (.ref fI) = some (.type "function")

/-- at a stands an exception of the class at C, raised by nobody -/
def XAt (H : Hp) (a C : Addr) : Prop := H a = some (ExO (.ref C) a) ∨ H a = some (exo a C none) ∨ ∃ dx fs, H a = some (exo a C (some dx)) ∧ H dx = some (exd dx fs)
/-- .. with these attributes -/
def XFs (H : Hp) (a C : Addr) (fs : List (Str × V)) : Prop := ∃ dx, H a = some (exo a C (some dx)) ∧ H dx = some (exd dx fs)
theorem XFs.at {H : Hp} {a C : Addr} {fs : List (Str × V)} (x : XFs H a C fs) : XAt H a C := by
  obtain ⟨dx, h1, h2⟩ := x
  exact Or.inr (Or.inr ⟨dx, fs, h1, h2⟩)
theorem XAt.same {H H' : Hp} {a C : Addr} (x : XAt H a C) (s : Same H H') : XAt H' a C := by
  rcases x with x | x | ⟨dx, fs, x, y⟩
  · exact Or.inl (s _ _ x)
  · exact Or.inr (Or.inl (s _ _ x))
  · exact Or.inr (Or.inr ⟨dx, fs, s _ _ x, s _ _ y⟩)
theorem XFs.same {H H' : Hp} {a C : Addr} {fs : List (Str × V)} (x : XFs H a C fs) (s : Same H H') : XFs H' a C fs := by
  obtain ⟨dx, h1, h2⟩ := x
  exact ⟨dx, s _ _ h1, s _ _ h2⟩

section
variable {X : Cx} {pins : List (Addr × Obj)} {σ : L2.St} {H : Hp} {s : Shared} {a C : Addr}
theorem XAt.inst (x : XAt H a C) (I : Inv X pins σ H s) : ∃ oe od, PySem.W.InstAt s.heap a oe C od := by
  rcases x with x | x | ⟨dx, fs, x, y⟩
  · obtain ⟨⟨oe, vs, ho, hz, hd, _⟩, _⟩ := I.hok a _ x
    obtain ⟨oc, od, oda, osl⟩ := oe
    obtain ⟨z1, z2⟩ := hz
    dsimp only at z1 z2 hd
    subst z1 z2 hd
    exact ⟨_, none, ho, rfl, rfl, trivial⟩
  · obtain ⟨t1, ho⟩ := exo_at I.hok x
    exact ⟨_, none, ho, rfl, rfl, trivial⟩
  · obtain ⟨t1, ho⟩ := exo_at I.hok x
    obtain ⟨mA, hns, _⟩ := exd_at I.hok y
    obtain ⟨o, es, ep, e1, _⟩ := hns
    exact ⟨_, some o, ho, rfl, rfl, e1⟩
end

/-! ### isinstance of such -/
section
open PySem.W PySem.Calls
variable {prog : Program} {w : World} {A : Around} {E : Value → Shared → Prop} {s : Shared} {K : Frag} {x D : Addr} {ox : Obj} {od : Option Obj}
theorem found_data {C : Addr} {name : Str} {a g : Value} (hc : (clsIn K C).isSome = true) (ha : findIn K (.ref C) name = some (some a)) (hg : specialIn K a "__get__" = some (some g)) (ht : takesIn K a = some true) : findObj K C od name = some (.bind g a) := by
  cases h : clsIn K C with
  | none =>
    rw [h] at hc
    cases hc
  | some cd =>
    unfold findObj
    simp [h, ha, hg, ht]
theorem class_of_exc {Q : Option Value → Shared → Prop} (T : ExcC K D) (X : K.In s.heap) (I : InstAt s.heap x ox D od) (h : Q (some (.ref D)) { s with toks := s.toks + 1 }) :
    wpAny (model prog w) A (getAttr? (.ref x) "__class__") Q E s := by
  have hsome : (clsIn K D).isSome = true := by
    obtain ⟨cd, hc, _⟩ := any_some T.hd
    rw [hc]
    rfl
  have hf : findObj K D od "__class__" = some (.bind (.builtin "getset_descriptor.__get__") (.builtin "object.__class__")) := found_data hsome T.ha T.hn T.ht
  obtain ⟨hp, g, d, t, os⟩ := s
  have L0 := I.type (M := model prog w)
  have L1 := looks_findIn (M := model prog w) X T.hg
  have L2 := looks_findIn (M := model prog w) X T.hk
  have L3 := looks_find (M := model prog w) X I hf
  have isB : Looks (model prog w) hp (isInstance (.ref x) (.type "BaseException")) true := L0.andThen (looks_subIn X T.hs)
  have n0 : (false && onTheHeap (Value.builtin "BaseException.__getattribute__")) = false := rfl
  have n2 : (Value.builtin "BaseException.__getattribute__" == Value.builtin "object.__getattribute__") = false := by decide +kernel
  have n1 : (onTheHeap (Value.ref D) && Value.builtin "BaseException.__getattribute__" == Value.builtin "object.__getattribute__") = false := by
    rw [n2]
    rfl
  unfold getAttr? getAttrBy? getAttrBy
  refine wpAny_bind (wpAny_mkText (wpAny_bind (wpAny_attempt (wpAny_holding (wpAny_bind (L0.at (wpAny_bind (L1.at ?_))))))))
  show wpAny _ _ (if (onTheHeap (Value.ref D) && Value.builtin "BaseException.__getattribute__" == Value.builtin "object.__getattribute__") = true then _ else _) _ _ _
  rw [n1, if_neg Bool.false_ne_true]
  unfold getAttrByItsOwn hookBefore
  refine wpAny_bind ?_
  rw [if_pos (show onTheHeap (Value.ref D) = true from rfl)]
  refine L2.at (wpAny_bind (wpAny_attempt (wpAny_holding ?_)))
  unfold callGetattribute
  rw [n0, if_neg Bool.false_ne_true]
  unfold boundAndCalled
  rw [PySem.F.excAttr_ValueError.ga.bind (.ref x)]
  refine wpAny_bind (wpAny_pure ?_)
  show wpAny _ _ (call (.builtin "BaseException.__getattribute__") [.ref x, .str "__class__" t]) _ _ _
  refine wpAny_call (codeAny_call_builtin PySem.F.excAttr_ValueError.ga.plain PySem.F.entry_bexc_ga ?_)
  refine @check_slot (model prog w) _ _ ⟨hp, g, d, t + 1, os⟩ "BaseException.__getattribute__" "BaseException" "__getattribute__" (.ref x) [.str "__class__" t] [] _ (by decide +kernel) (by decide +kernel) isB (PySem.F.args_bexc_ga (.ref x) (.str "__class__" t)) ?_
  unfold Builtin.«object.__getattribute__»
  refine wpAny_bind (wpAny_of_eq (a := ((Value.ref x : Value), [Value.str "__class__" t])) (by first | rfl | (simp only [slotArgs]; rfl)) (wpAny_bind (wpAny_pure (wpAny_bind (L0.at (wpAny_bind (L3.at ?_)))))))
  show wpAny _ _ (holding [Value.builtin "object.__class__"] (call (.builtin "getset_descriptor.__get__") [.builtin "object.__class__", .ref x, .ref D]) >>= ret) _ _ _
  refine wpAny_bind (wpAny_holding (wpAny_call (class_get (s := ⟨hp, g, d, t + 1, os⟩) (ox := ox) (od := od) X I T.hm (wpAny_pure ?_))))
  show wpAny _ _ (handedOut (.ref D)) _ _ _
  rw [handedOut_of (v := .ref D) rfl]
  first
    | exact wpAny_pure (wpAny_pure h)
    | exact wpAny_pure h
    | exact wpAny_pure (wpAny_bind (wpAny_pure (wpAny_pure h)))
theorem kitx_exc (T : ExcC K D) : KitX K (.ref x) (.ref D) (fun h => InstAt h x ox D od) := by
  have look : ∃ c' d' cd' sl', K.lookup D = some ⟨c', d', .cls cd', sl'⟩ := by
    obtain ⟨cd, hc, _⟩ := any_some T.hd
    unfold clsIn at hc
    split at hc
    · rename_i c' d' cd' sl' ho
      exact ⟨c', d', cd', sl', ho⟩
    · cases hc
  obtain ⟨c', d', cd', sl', ho⟩ := look
  refine ⟨fun _ _ _ I => I.type, fun M h KX _ => ?_, fun h tp dd its n sl KX htp => ?_, fun KX I k => class_of_exc T KX I k⟩
  · intro A' Q' E' s' k q
    unfold isType loadHead
    exact wpAny_bind (wpAny_loadPart (k _ _ (KX _ _ ho)) (wpAny_pure q))
  · refine Bool.eq_false_iff.mpr fun q => ?_
    have e : D = tp := Value.ref.inj (beq_iff_eq.mp q)
    subst e
    have z := (KX _ _ ho).symm.trans htp
    cases z
end
/-- isinstance(e, c), e an exception's object -/
def rIsX (K : PySem.W.Frag) : List V → Hp → VK → Prop := fun xs H Q => ∃ (a C : Addr) (c : V) (cv : Value) (b : Bool), xs = [.ref a, c] ∧ XAt H a C ∧ ExcC K C ∧ ClsV c cv ∧ PySem.W.kitOne K (.ref C) cv = some b ∧ Q (.bl b) H
def rIsXT (K : PySem.W.Frag) : List V → Hp → VK → Prop := fun xs H Q => ∃ (a C tp : Addr) (cs : List V) (us : List Value) (b : Bool), xs = [.ref a, .ref tp] ∧ H tp = some (.tup cs) ∧ Paired ClsV cs us ∧ XAt H a C ∧ ExcC K C ∧ PySem.W.kitAny K (.ref C) us = some b ∧ Q (.bl b) H
section
variable {X : Cx}
theorem call_isX : CallR X (.builtin "isinstance") (rIsX X.K) := by
  intro pins s σ H xs us Q I r h
  obtain ⟨a, C, c, cv, b, rfl, hx, T, hc, e, q⟩ := h
  obtain ⟨u1, u2, rfl, r1, r2⟩ := vals2 r
  cases (show u1 = Value.ref a from r1)
  have e2 := hc.eq r2
  subst e2
  obtain ⟨oe, od, J⟩ := hx.inst I
  exact PySem.W.kia_one (kitx_exc T) I.kIn J e (fun z => nomatch z) fun tk => ⟨.bl b, H, I.tok tk, rfl, q⟩
theorem call_isXT : CallR X (.builtin "isinstance") (rIsXT X.K) := by
  intro pins s σ H xs us Q I r h
  obtain ⟨a, C, tp, cs, ws, b, rfl, hT, hc, hx, T, e, q⟩ := h
  obtain ⟨u1, u2, rfl, r1, r2⟩ := vals2 r
  cases (show u1 = Value.ref a from r1)
  cases (show u2 = Value.ref tp from r2)
  obtain ⟨oe, od, J⟩ := hx.inst I
  obtain ⟨_, its, rv, o, h1, h2, n, h3⟩ := (show ObjOk X.prog X.w H s.heap tp (.tup cs) from I.hok tp _ hT)
  have e3 := ClsV.all hc rv
  subst e3
  obtain ⟨oc, od', dt, sl⟩ := o
  simp only at h2 h3
  subst h2 h3
  exact PySem.W.kia_tup (kitx_exc T) I.kIn J h1 e (fun z => nomatch z) fun tk => ⟨.bl b, H, I.tok tk, rfl, q⟩
end

/-! ### an attribute of such -/
def tXF (K : PySem.W.Frag) (f : Str) (te : TE) : TE := fun σ H Q => te σ H fun x H1 => ∃ (a C : Addr) (fs : List (Str × V)) (v : V), x = .ref a ∧ XFs H1 a C fs ∧ ExcC K C ∧ PySem.W.findIn K (.ref C) f = some none ∧ fs.lookup f = some v ∧ Q v H1
theorem pe_xF {X : Cx} {e : Expr} {te : TE} {f : Str} {pos : Pos} (he : PE X e te) (hb : attributeBase e f X.env (eval e X.env) = eval e X.env := by rfl) : PE X (.Attribute e f pos) (tXF X.K f te) := by
  refine ⟨fun pins s σ H Q I h => ?_⟩
  refine attr_of hb (thn (he.run pins s σ H _ I h) fun u s1 hh => ?_)
  obtain ⟨x, H1, I1, rx, a, C, fs, v, ex, ⟨dx, ea, ed⟩, T, hno, hl, q⟩ := hh
  subst ex
  obtain rfl : u = Value.ref a := rx
  obtain ⟨t1, ho⟩ := exo_at I1.hok ea
  obtain ⟨mA, hns, hr⟩ := exd_at I1.hok ed
  have hns1 := hns
  obtain ⟨od, hod, hlk⟩ := lookIn_ns hns
  obtain ⟨u, hu, ru⟩ := RelO.some_of (v := v) (o := mA f) (by rw [← hl]; exact hr f)
  have J : PySem.W.InstAt s1.heap a _ C (some od) := ⟨ho, rfl, rfl, hod⟩
  exact HandSPX.exc_get I1.kIn J T.hg T.hk T.hs (PySem.W.findObj_own T.hd hno rfl (by rw [hlk, hu])) (handed_of ru) ⟨v, H1, I1.tok _, ru, q⟩

/-! ### own exceptions made as values -/
/-- C(), no __init__ of its own -/
theorem pe_x0 {X : Cx} {C : Addr} {bmB : List Value} {B newId initId : String} {x : Str} {p pos : Pos} (F : ExcBaseFacts B newId initId bmB) (q : PySem.W.excIn X.K C bmB newId = true) (gC : X.mg x = some (.ref C)) (kC : PySem.W.keepIn X.K (.ref C) = true) (hg : Gl X x)
    (hdb : (x == ("__debug__" : Str)) = false := by decide) :
    PE X (.Call (.Name x p) [] [] pos) (fun σ H Q => ∀ a, H a = none → Q (.ref a) (upd H a (ExO (.ref C) a))) := by
  refine ⟨fun pins s σ H Q I h => ?_⟩
  refine wpAny_Call_Name_kw (ld_glob I hg gC ?_ hdb)
  refine PySem.W.callWith_K0 I.kIn kC ?_
  show wpAny _ _ (call (.ref C) []) _ _ _
  obtain ⟨bm, N, nm, qn, bs, hdct, sn, sub, ab, col, dd, k0, k1, k2, k3, k5, mN, hC, hN, hni, T⟩ := exc_obj I.kIn q
  refine wpAny_call_exc_subT F T hC hN hni (fun h' a hm => ?_) (Nat.zero_le _)
  have hn : H a = none := I.hok.gone hm.new
  obtain ⟨t, ht, _, _⟩ := hm.there
  exact ⟨.ref a, upd H a (ExO (.ref C) a), I.laidN hm.keeps hm.new hn (exO_ok ht ⟨rfl, rfl⟩ rfl rfl rfl (show 4 < 6 by decide)), rfl, h a hn⟩

/-- C(e, ..), C's own __init__ keeping sp -/
def tMkX (C : Addr) (sp : Sp) (ta : TA) : TE := fun σ H Q => ta σ H fun vs H1 => vs.length ≤ 1000 ∧ ∀ a, H1 a = none → sp (.ref a :: vs) (upd H1 a (exo a C none)) (fun v H2 => v = .non ∧ Q (.ref a) H2) E0
theorem pe_mkX {X : Cx} {x : Str} {C fI : Addr} {k : Nat} {fd : FuncData} {ps : List Str} {sp : Sp} {e : Expr} {es : List Expr} {ta : TA} {p pos : Pos} (T : XI X.K C fI)
    (F1 : FnOk X.prog X.w X.K X.mg X.base CX0 k fI fd ps sp) (hr : Room (k + 1) X.A) (hb : Binds X.K fd ps []) (hg : Gl X x) (hm : X.mg x = some (.ref C)) (ha : PA X (e :: es) ta)
    (hdb : (x == ("__debug__" : Str)) = false := by decide) (he : starEach (e :: es) X.env = (false, eval e X.env) :: starEach es X.env := by rfl) (hpl : (backTo pos (starEach es X.env)).any (·.1) = false := by rfl) :
    PE X (.Call (.Name x p) (e :: es) [] pos) (tMkX C sp ta) := by
  refine ⟨fun pins s σ H Q I h => ?_⟩
  obtain ⟨nm, q, N, bs, bm, sn, sub, ab, col, dd, k0, k1, k2, k3, k5, B, newId, initId, bmB, FB, SF, hbm, hC⟩ := T.cls
  refine wpAny_Call_Name_kw (ld_glob I hg hm ?_ hdb)
  refine PySem.W.callWith_K (h₀ := X.base) I.ok.mod.kin T.kC (thn (ha.run pos pins s σ H _ I h) fun us s1 ⟨vs, H1, I1, r1, hz, q1⟩ => ⟨I1.kIn, ?_⟩) he hpl
  show wpAny _ _ (call (.ref C) us) _ _ _
  obtain ⟨hp, g, dr, tk, os⟩ := s1
  have up1 : hp.objs.size ≤ hp.objs.size + 1 := Nat.le_succ _
  have hq := q1 (hp.objs.size + 1) (I1.hok.fresh up1)
  have kk : ∀ b o, hp.get? b = some o → ((hp.push (PySem.W.kdv_tup us)).push (PySem.HandSPX.excO C hp.objs.size)).get? b = some o := fun b o e => Heap.get?_push_of_some _ (Heap.get?_push_of_some _ e)
  have made : ((hp.push (PySem.W.kdv_tup us)).push (PySem.HandSPX.excO C hp.objs.size)).get? (hp.objs.size + 1) = some (PySem.HandSPX.excO C hp.objs.size) := by heap_get
  have I2 : Inv X pins σ (upd H1 (hp.objs.size + 1) (exo (hp.objs.size + 1) C none)) ⟨(hp.push (PySem.W.kdv_tup us)).push (PySem.HandSPX.excO C hp.objs.size), g, dr, tk, os⟩ :=
    I1.laid (t' := tk) (a := hp.objs.size + 1) (o := exo (hp.objs.size + 1) C none) (h' := (hp.push (PySem.W.kdv_tup us)).push (PySem.HandSPX.excO C hp.objs.size)) kk up1 (exo_ok made)
  have r2 : Vals (V.ref (hp.objs.size + 1) :: vs) (Value.ref (hp.objs.size + 1) :: us) := .cons rfl r1
  have hl : (Value.ref (hp.objs.size + 1) :: us ++ []).length = ps.length := by
    rw [List.append_nil, ← r2.length]
    exact F1.len _ _ _ _ hq
  have hus : us.length ≤ sizeLine := by
    rw [← Paired.length r1, sizeLine_eq]
    omega
  have hbd := hb ⟨(hp.push (PySem.W.kdv_tup us)).push (PySem.HandSPX.excO C hp.objs.size), g, dr, tk, os⟩ (Value.ref (hp.objs.size + 1) :: us) I2.kIn hl
  rw [List.append_nil] at hbd
  refine wpAny_call (PySem.HandSPX.call_own FB (fun Y => PySem.W.excTail_contains Y bm hbm) (I1.kIn _ _ hC) (PySem.W.looks_findIn I1.kIn T.iC) (fun self => PySem.W.bind_fn I1.kIn self T.tI) hus
    (codeAny_mono (F1.run _ X.stack _ _ ⟨Value.ref (hp.objs.size + 1) :: us, []⟩ (Value.ref (hp.objs.size + 1) :: us) _ _ E0 (hr.make C us []) (I2.env0.make C us []) hbd r2 hq) fun r s' hq' => ?_))
  cases r with
  | error er => exact hq'.elim
  | ok fl =>
    cases fl with
    | ret u =>
      obtain ⟨v, H2, os2, bare2, un2, hok2, rv, ev, q2⟩ := hq'
      subst ev
      exact ⟨rv, .ref (hp.objs.size + 1), H2, I2.call' (ch := []) os2 un2 hok2 bare2 (fun b z => absurd z (by simp)), rfl, q2⟩
    | next => exact hq'.elim
    | brk => exact hq'.elim
    | cont => exact hq'.elim
end Bc

namespace Bc
open PySem PySem.Spec PyProof.Rows L2

/-! ### data of any depth, dicts among them -/
def keyD : Key → PyData
  | .inl i => .int i
  | .inr x => .str x
mutual
inductive Dq (K : PySem.W.Frag) (H : Hp) : V → PyData → Prop
  | non : Dq K H .non .none
  | bl (b : Bool) : Dq K H (.bl b) (.bool b)
  | int (i : Int) : Dq K H (.int i) (.int i)
  | str (x : Str) : Dq K H (.str x) (.str x)
  | lst {a : Addr} {xs : List V} {ds : List PyData} : SqL K H a xs → DqAll K H xs ds → a ≠ sysModules → Dq K H (.ref a) (.list ds)
  | tup {a : Addr} {xs : List V} {ds : List PyData} : SqT K H a xs → DqAll K H xs ds → Dq K H (.ref a) (.tuple ds)
  | dic {a : Addr} {kvs : List (Key × V)} {ds : List PyData} : H a = some (.dK kvs) → DqAll K H (kvs.map (·.2)) ds → Dq K H (.ref a) (.dict ((kvs.map fun p => keyD p.1).zip ds))
inductive DqAll (K : PySem.W.Frag) (H : Hp) : List V → List PyData → Prop
  | nil : DqAll K H [] []
  | cons {v : V} {vs : List V} {d : PyData} {ds : List PyData} : Dq K H v d → DqAll K H vs ds → DqAll K H (v :: vs) (d :: ds)
end
theorem DqAll.len {K : PySem.W.Frag} {H : Hp} : ∀ {vs : List V} {ds : List PyData}, DqAll K H vs ds → vs.length = ds.length
  | _, _, .nil => rfl
  | _, _, .cons _ t => congrArg (· + 1) (DqAll.len t)
theorem Same.sqT {K : PySem.W.Frag} {H H' : Hp} {a : Addr} {xs : List V} (e : Same H H') (h : SqT K H a xs) : SqT K H' a xs := by
  rcases h with (h | ⟨o, h⟩) | h
  · exact .inl (.inl (e _ _ h))
  · exact .inl (.inr ⟨o, e _ _ h⟩)
  · exact .inr h
mutual
theorem Dq.same {K : PySem.W.Frag} {H H' : Hp} (s : Same H H') : ∀ {v : V} {d : PyData}, Dq K H v d → Dq K H' v d
  | _, _, .non => .non
  | _, _, .bl b => .bl b
  | _, _, .int i => .int i
  | _, _, .str x => .str x
  | _, _, .lst h t n => .lst (s.seq h) (DqAll.same s t) n
  | _, _, .tup h t => .tup (Same.sqT s h) (DqAll.same s t)
  | _, _, .dic h t => .dic (s _ _ h) (DqAll.same s t)
theorem DqAll.same {K : PySem.W.Frag} {H H' : Hp} (s : Same H H') : ∀ {vs : List V} {ds : List PyData}, DqAll K H vs ds → DqAll K H' vs ds
  | _, _, .nil => .nil
  | _, _, .cons h t => .cons (Dq.same s h) (DqAll.same s t)
end
theorem reads_keys {prog : Program} {w : World} {h : Heap} : ∀ {es : List DictEntry} {kvs : List (Key × Value)}, Pairs (mixKind prog w) es kvs → ReadsAll h (es.map (·.key)) (kvs.map fun p => keyD p.1) [] ∧ es.map (·.val) = kvs.map (·.2)
  | _, _, .nil => ⟨.nil, rfl⟩
  | _, _, .cons (e := e) (kv := kv) hk hv t => by
    obtain ⟨h1, h2⟩ := reads_keys t
    refine ⟨?_, by rw [List.map_cons, List.map_cons, h2, hv]⟩
    obtain ⟨k, v⟩ := kv
    rcases keyIs_shape (show keyIs k e.key = true from hk) with ⟨i, u, rfl, q⟩ | ⟨y, u, rfl, q⟩
    · show ReadsAll h (e.key :: _) (PyData.int i :: _) ([] ++ [])
      rw [q]
      exact .cons (.int i u) h1
    · show ReadsAll h (e.key :: _) (PyData.str y :: _) ([] ++ [])
      rw [q]
      exact .cons (.str y u) h1
theorem kv_keys {kvs : List (Key × V)} {vs : List (Key × Value)} (r : KV kvs vs) : (vs.map fun p => keyD p.1) = kvs.map fun p => keyD p.1 := by
  induction r with
  | nil => rfl
  | cons h t ih =>
    rw [List.map_cons, List.map_cons, ih, h.1]
theorem kv_vals {kvs : List (Key × V)} {vs : List (Key × Value)} (r : KV kvs vs) : Vals (kvs.map (·.2)) (vs.map (·.2)) := by
  induction r with
  | nil => exact .nil
  | cons h t ih => exact .cons h.2 ih
theorem zip_fst {α β : Type} : ∀ {l : List α} {m : List β}, l.length = m.length → (l.zip m).map (·.1) = l
  | [], _, _ => rfl
  | a :: l, b :: m, h => by
    rw [List.zip_cons_cons, List.map_cons, zip_fst (Nat.succ.inj h)]
theorem zip_snd {α β : Type} : ∀ {l : List α} {m : List β}, l.length = m.length → (l.zip m).map (·.2) = m
  | [], [], _ => rfl
  | a :: l, b :: m, h => by
    rw [List.zip_cons_cons, List.map_cons, zip_snd (Nat.succ.inj h)]
section
variable {X : Cx} {pins : List (Addr × Obj)} {σ : L2.St} {H : Hp} {s : Shared}
mutual
theorem Dq.reads (I : Inv X pins σ H s) : ∀ {v : V} {d : PyData} (u : Value), Dq X.K H v d → RelV v u → ∃ as, Reads s.heap u d as ∧ sysModules ∉ as
  | _, _, _, .non, r => by
    cases r
    exact ⟨_, .none, by simp⟩
  | _, _, _, .bl b, r => by
    cases r
    exact ⟨_, .bool b, by simp⟩
  | _, _, _, .int i, r => by
    obtain ⟨t, rfl⟩ := r
    exact ⟨_, .int i t, by simp⟩
  | _, _, _, .str x, r => by
    obtain ⟨t, rfl⟩ := r
    exact ⟨_, .str x t, by simp⟩
  | _, _, _, .lst (a := a) hs ha hn, r => by
    cases r
    obtain ⟨its, rv, ⟨o, n, ho, hc, _, hd⟩, _⟩ := I.list hs
    obtain ⟨as, hr, hm⟩ := DqAll.reads I its ha rv
    refine ⟨_, .list ho hc hd hr, fun y => ?_⟩
    rcases List.mem_cons.mp y with q | q
    · exact hn q.symm
    · exact hm q
  | _, _, _, .tup hs ha, r => by
    cases r
    obtain ⟨its, rv, ⟨o, ho, hc, n, hd⟩, _⟩ := I.tuple hs
    obtain ⟨as, hr, hm⟩ := DqAll.reads I its ha rv
    exact ⟨_, .tuple ho hc hd hr, hm⟩
  | _, _, _, .dic (a := a) (kvs := kvs) (ds := ds) hs ha, r => by
    cases r
    obtain ⟨_, nsys, vs, rel, o, es, ep, ho, hx, hd, _, hp, _⟩ := dk_of I.hok hs
    obtain ⟨h1, h2⟩ := reads_keys (h := s.heap) hp
    obtain ⟨bs, hr, hm⟩ := DqAll.reads I _ ha (kv_vals rel)
    have hlen : (kvs.map fun p => keyD p.1).length = ds.length := by
      rw [List.length_map, ← ha.len, List.length_map]
    refine ⟨_, .dict ho hx.1 hd (as := []) (bs := bs) ?_ ?_, fun y => ?_⟩
    · rw [zip_fst hlen, ← kv_keys rel]
      exact h1
    · rw [zip_snd hlen, h2]
      exact hr
    · rcases List.mem_append.mp y with q | q
      · rcases List.mem_cons.mp q with q | q
        · rw [q] at nsys
          simp at nsys
        · cases q
      · exact hm q
theorem DqAll.reads (I : Inv X pins σ H s) : ∀ {vs : List V} {ds : List PyData} (us : List Value), DqAll X.K H vs ds → Vals vs us → ∃ as, ReadsAll s.heap us ds as ∧ sysModules ∉ as
  | _, _, _, .nil, r => by
    cases r
    exact ⟨_, .nil, by simp⟩
  | _, _, _, .cons h t, r => by
    cases r with
    | cons r1 r2 =>
      obtain ⟨as, q1, m1⟩ := Dq.reads I _ h r1
      obtain ⟨bs, q2, m2⟩ := DqAll.reads I _ t r2
      refine ⟨_, .cons q1 q2, fun y => ?_⟩
      rcases List.mem_append.mp y with q | q
      · exact m1 q
      · exact m2 q
end
/-- repr(x), x a list, a tuple or a dict of data -/
def rRepr (K : PySem.W.Frag) : List V → Hp → VK → Prop := fun xs H Q => ∃ (a : Addr) (d : PyData), xs = [.ref a] ∧ Dq K H (.ref a) d ∧ d.showable = true ∧ d.depth ≤ 60 ∧ d.shown.length ≤ sizeLine ∧ Q (.str d.shown) H
theorem call_repr (hg : X.A.guards = some []) (hu : X.A.units + 64 < cLine) : CallR X (.builtin "repr") (rRepr X.K) := by
  intro pins s σ H xs us Q I r h
  obtain ⟨a, d, rfl, hd, hs, hdep, hz, q⟩ := h
  obtain ⟨u, rfl, ru⟩ := vals1 r
  obtain ⟨as, hr, hm⟩ := Dq.reads I u hd ru
  cases (show u = Value.ref a from ru)
  exact repr_of_reads' hr hs (fun _ => hm) hg (by omega) (fun _ _ e => e) (fun h' u tk hk => ⟨.str d.shown, H, I.kept (t' := tk) hk, ⟨_, rfl⟩, q⟩) hz
end

/-! ### displays, told apart from the import table -/
def tLstB (t : TA) : TE := fun σ H Q => t σ H fun xs H1 => xs.length ≤ sizeLine ∧ ∀ p, H1 p = none → p ≠ sysModules → Q (.ref p) (upd H1 p (.lst xs))
section
variable {X : Cx} {es : List Expr} {t : TA} {pos : Pos}
theorem pe_lstB (h : PA X es t) : PE X (.List es pos) (tLstB t) := by
  refine ⟨fun pins s σ H Q I hq => ?_⟩
  refine wpAny_List_spliced (thn (h.run pos pins s σ H _ I hq) fun us s1 ⟨xs, H1, I1, r, z, q⟩ => ⟨by rw [← r.length]; exact z, ?_⟩)
  have hf : H1 s1.heap.objs.size = none := I1.hok.fresh (Nat.le_refl _)
  have hn : s1.heap.objs.size ≠ sysModules := Nat.ne_of_gt I1.big
  exact ⟨.ref s1.heap.objs.size, upd H1 s1.heap.objs.size (.lst xs), I1.laid (t' := s1.toks) (fun b u e => Heap.get?_push_of_some _ e) (Nat.le_refl _) ⟨z, us, 0, r, Heap.get?_push_size _ rfl⟩, rfl, q _ hf hn⟩
end
/-- xs * k, the new list told apart -/
def rRepB : R2 := fun x y H Q => ∃ l k xs, x = .ref l ∧ y = .int k ∧ H l = some (.lst xs) ∧ -(2 ^ 63) ≤ k ∧ k < 2 ^ 63 ∧ xs.length * k.toNat ≤ sizeLine ∧ ∀ p, H p = none → p ≠ sysModules → Q (.ref p) (upd H p (.lst (List.replicate k.toNat xs).flatten))
theorem op_repB {X : Cx} : OpR X (binaryOp .Mult) rRepB := by
  intro pins s σ H x y v u Q I rx ry h
  obtain ⟨l, k, xs, rfl, rfl, hH, h1, h2, hz, q⟩ := h
  cases rx
  obtain ⟨t, rfl⟩ := ry
  obtain ⟨z, its, n, r, hl, e⟩ := I.lstM hH
  have short : its.toArray.size * k.toNat ≤ sizeLine := by
    rw [List.size_toArray, ← hl]
    exact hz
  have cap : ¬ its.toArray.size * k.toNat > (2 ^ 63 - 1) / 8 := by
    have z2 : (sizeLine : Nat) ≤ (2 ^ 63 - 1) / 8 := by decide
    omega
  have fit : ¬ (!Builtin.List.listFitsIndex k) = true := by
    rw [fitsIndex_both h1 h2]
    decide
  have long : ¬ Builtin.List.listTooLong (its.toArray.size * k.toNat) = true := by
    rw [notLongL short]
    decide
  have made : List.foldl (fun x1 x2 => x1 ++ x2) #[] (List.replicate (if its.toArray.isEmpty = true then 0 else k.toNat) its.toArray) = (List.replicate k.toNat its).flatten.toArray := by
    have all : ∀ m : Nat, List.foldl (fun x1 x2 => x1 ++ x2) #[] (List.replicate m its.toArray) = (List.replicate m its).flatten.toArray := by
      intro m
      simpa using foldl_rep its m []
    rw [all]
    cases its with
    | nil => simp
    | cons a r' => rw [if_neg (by simp)]
  refine wpAny_binaryOp_repeat_ref (T := "list") (U := "int") (by decide) ⟨_, e, rfl⟩ (fun s' => typeIs_int s' k t) noFill_list_mul F.fills_int_mul F.slot_int_rmul repeat_list F.slot_int_index.lookup ?_
  refine call_meets F.slot_int_rmul (typeIs_int s k t) F.entry_int_rmul (F.args_int_rmul_2 _ _) (int___rmul___int_list k t l its.toArray n) ⟨e, rfl, ⟨_, e, rfl⟩, ?_⟩
  refine call_meets F.slot_list_mul ⟨_, e, rfl⟩ F.entry_list_mul (F.args_list_mul_2 _ _) (AutoListH.list___mul___list_int_3 l its.toArray n k t fit cap long) ⟨e, ?_⟩
  rw [made]
  exact ⟨.ref _, _, I.lnew (t' := s.toks) (r.rep k.toNat) (by rw [PyProof.Rows.lm_len_rep_flat, Nat.mul_comm]; exact hz), rfl, q _ I.fresh (Nat.ne_of_gt I.big)⟩
/-- s * n -/
theorem op_mul_str {X : Cx} : OpR X (binaryOp .Mult) (fun x y H Q => ∃ z n, x = .str z ∧ y = .int n ∧ MulOk z n ∧ Q (.str (Txt.mul z n)) H) := by
  intro pins s σ H x y v u Q I rx ry h
  obtain ⟨z, n, rfl, rfl, hm, q⟩ := h
  obtain ⟨t, rfl⟩ := rx
  obtain ⟨t', rfl⟩ := ry
  exact SB.mul hm fun _ _ => ⟨.str _, H, I.tok _, ⟨_, rfl⟩, q⟩

/-! ### what an exception's __init__ stores -/
section
open PySem.W PySem.Calls
open Builtin Builtin.ObjectAttr
variable {prog : Program} {w : World} {A : Around} {R : Result → Shared → Prop} {hp : Heap} {g : Array GenState} {d : Drawn} {t : Nat} {os : OsState}
/-- the classes along which a store is looked at let it pass -/
structure Lets (K : Frag) (C : Addr) : Prop where
  ex : ∃ cd, clsIn K C = some cd ∧ (∀ self, refuseLoop self "__setattr__" cd.mro = pure ()) ∧ cd.mro.isEmpty = false ∧ cd.mro.contains (.type "object") = true ∧ cd.hasDict = true
theorem XI.lets {K : Frag} {C fI : Addr} (T : XI K C fI) : Lets K C := by
  obtain ⟨nm, q, N, bs, bm, sn, sub, ab, col, dd, k0, k1, k2, k3, k5, B, newId, initId, bmB, FB, SF, hbm, hC⟩ := T.cls
  refine ⟨{ name := nm, bases := bs, mro := .ref C :: bm, ns := N, qualname := q, hasDict := true, slotNames := sn, subclasses := sub, abstract := ab, collection := col, hasDel := false }, ?_, fun self => ?_, rfl, ?_, rfl⟩
  · unfold clsIn
    rw [hC] <;> rfl
  · show refuseLoop self "__setattr__" (.ref C :: bm) = pure ()
    rw [refuseLoop_ref]
    exact excTail_pass self (SF.passes self) bm hbm
  · show (Value.ref C :: bm).contains (.type "object") = true
    rw [List.contains_cons, excTail_contains "object" bm hbm, SF.hasOwner, Bool.or_true]
theorem store_first {K : Frag} {name : Str} {tk : Tok} {v : Value} {x C : Addr} {fv : Array Value} (T : Lets K C)
    (X : K.In hp) (hx : hp.get? x = some { cls := .ref C, data := .fields fv }) (ha : findIn K (.ref C) name = some none)
    (hq : ∀ h' tk' dx, (∀ b o, b ≠ x → hp.get? b = some o → h'.get? b = some o) → hp.objs.size ≤ dx → dx ≠ x → h'.get? x = some { cls := .ref C, dict := some dx, data := .fields fv } →
      h'.Ns1 dx (fun y => if y = name then some v else none) → R (.ok (.ret .none)) ⟨h', g, d, tk', os⟩) :
    codeAny (model prog w) A (.call (.builtin "object.__setattr__") ⟨[.ref x, .str name tk, v], []⟩) R ⟨hp, g, d, t, os⟩ := by
  obtain ⟨cd, hcd, hpass, ne, hob, hh⟩ := T.ex
  have I : InstAt hp x { cls := .ref C, data := .fields fv } C none := ⟨hx, rfl, rfl, trivial⟩
  have SF := F.store_object
  have apart : x ≠ hp.objs.size := Nat.ne_of_lt (Heap.lt_size hx)
  have isO : Looks (model prog w) hp (isInstance (.ref x) (.type "object")) true :=
    I.type.andThen (looks_mroIn X (by unfold mroIn; rw [hcd, Option.bind_some, if_neg (by rw [ne]; decide), hob]))
  refine codeAny_call_builtin SF.slot.plain SF.entry (@check_slot (model prog w) _ _ ⟨hp, g, d, t, os⟩ "object.__setattr__" "object" "__setattr__" (.ref x) [.str name tk, v] [] _ SF.kind SF.split isO (SF.args (.ref x) (.str name tk) v) ?_)
  have along : Looks (model prog w) hp (mroOf (.ref C)) cd.mro := (looks_clsIn X hcd).andThen .now
  have taker : Looks (model prog w) hp (storeTaker? none) none := .now
  have theCls : Looks (model prog w) hp (classData C) cd := looks_clsIn X hcd
  rw [osa_eq, refuse_eq]
  refine wpAny_bind (wpAny_bind (I.type.at (wpAny_bind (along.at ?_))))
  rw [hpass]
  refine wpAny_pure (wpAny_bind (I.type.at (wpAny_bind ((looks_findIn X ha).at (wpAny_bind (taker.at ?_))))))
  show wpAny _ _ (storeInOwnDict (.ref x) (.ref C) (.str name tk) name v false) _ _ _
  obtain ⟨nm, bs, mro, ns, qn, hd, sn, sb, ab, col, del⟩ := cd
  dsimp only at hh
  subst hh
  unfold storeInOwnDict ownDictForStores
  repeat (first | with_reducible refine HandSPX.store_in_new ?_ ?_ | with_reducible refine wpAny_loadPart_at hx ?_ | with_reducible refine theCls.at ?_ | wp_step)
  · exact ⟨_, #[], _, (Heap.get?_update_ne _ _ _ _ apart.symm).trans (Heap.get?_push_at rfl rfl), rfl, fun e he => absurd he (by simp), fun _ => rfl⟩
  · intro h' tk' hn' hs
    have held : (hp.push { cls := .type "dict", data := .dict #[] }).get? x = some { cls := .ref C, data := .fields fv } := Heap.get?_push_of_some _ hx
    refine hq h' tk' hp.objs.size (fun b o hb ho => ?_) (Nat.le_refl _) apart.symm ((hs.2 x apart).trans (Heap.get?_update_self _ held rfl)) hn'
    exact (hs.2 b (Nat.ne_of_lt (Heap.lt_size ho))).trans ((Heap.get?_update_ne _ _ _ _ hb).trans (Heap.get?_push_of_some _ ho))
theorem store_more {K : Frag} {name : Str} {tk : Tok} {v : Value} {x C dx : Addr} {fv : Array Value} {m0 : Str → Option Value} {nl : List Str} (T : Lets K C)
    (X : K.In hp) (hx : hp.get? x = some { cls := .ref C, dict := some dx, data := .fields fv }) (hns : hp.Ns1 dx m0) (hw : Within m0 nl) (hz : nl.length ≤ 1000) (ha : findIn K (.ref C) name = some none)
    (hq : ∀ h' tk', (∀ b o, b ≠ dx → hp.get? b = some o → h'.get? b = some o) → h'.Ns1 dx (fun y => if y = name then some v else m0 y) → R (.ok (.ret .none)) ⟨h', g, d, tk', os⟩) :
    codeAny (model prog w) A (.call (.builtin "object.__setattr__") ⟨[.ref x, .str name tk, v], []⟩) R ⟨hp, g, d, t, os⟩ := by
  obtain ⟨cd, hcd, hpass, ne, hob, hh⟩ := T.ex
  obtain ⟨oD, esD, epD, hoD, hdD, _⟩ := hns.count hw
  have I : InstAt hp x { cls := .ref C, dict := some dx, data := .fields fv } C (some oD) := ⟨hx, rfl, rfl, hoD⟩
  have SF := F.store_object
  have isO : Looks (model prog w) hp (isInstance (.ref x) (.type "object")) true :=
    I.type.andThen (looks_mroIn X (by unfold mroIn; rw [hcd, Option.bind_some, if_neg (by rw [ne]; decide), hob]))
  refine codeAny_call_builtin SF.slot.plain SF.entry (@check_slot (model prog w) _ _ ⟨hp, g, d, t, os⟩ "object.__setattr__" "object" "__setattr__" (.ref x) [.str name tk, v] [] _ SF.kind SF.split isO (SF.args (.ref x) (.str name tk) v) ?_)
  have along : Looks (model prog w) hp (mroOf (.ref C)) cd.mro := (looks_clsIn X hcd).andThen .now
  have taker : Looks (model prog w) hp (storeTaker? none) none := .now
  have theCls : Looks (model prog w) hp (classData C) cd := looks_clsIn X hcd
  rw [osa_eq, refuse_eq]
  refine wpAny_bind (wpAny_bind (I.type.at (wpAny_bind (along.at ?_))))
  rw [hpass]
  refine wpAny_pure (wpAny_bind (I.type.at (wpAny_bind ((looks_findIn X ha).at (wpAny_bind (taker.at ?_))))))
  show wpAny _ _ (storeInOwnDict (.ref x) (.ref C) (.str name tk) name v false) _ _ _
  obtain ⟨nm, bs, mro, ns, qn, hd, sn, sb, ab, col, del⟩ := cd
  dsimp only at hh
  subst hh
  unfold storeInOwnDict ownDictForStores
  repeat (first | with_reducible refine OEX.store_in_old hns hw hz ?_ | with_reducible refine wpAny_loadPart_at hx ?_ | with_reducible refine theCls.at ?_ | wp_step)
  intro h' tk' hn' hs
  exact hq h' tk' (fun b o hb ho => (hs.2 b hb).trans ho) hn'
end
section
variable {X : Cx} {pins : List (Addr × Obj)} {σ : L2.St} {H : Hp} {s : Shared} {a C fI dx : Addr} {f : Str} {y : V} {u : Value} {fs : List (Str × V)} {Q : Unit → Shared → Prop} {E : Value → Shared → Prop} {A : Around}
theorem xst_first (T : XI X.K C fI) (I : Inv X pins σ H s) (e : H a = some (exo a C none)) (hno : PySem.W.findIn X.K (.ref C) f = some none) (ry : RelV y u)
    (h : ∀ dx s', H dx = none → dx ≠ a → Inv X pins σ (upd (upd H dx (exd dx [(f, y)])) a (exo a C (some dx))) s' → Q () s') : wpAny (model X.prog X.w) A (setAttr (.ref a) f u) Q E s := by
  obtain ⟨t1, ho⟩ := exo_at I.hok e
  obtain ⟨hp, g, d, t, os⟩ := s
  refine PySem.W.set_plain I.kIn (ox := { cls := .ref C, dict := none, data := .fields #[.ref t1, .none, .none, .none, .bool false, .none] }) (od := none) ⟨ho, rfl, rfl, trivial⟩ T.sa ?_
  refine store_first T.lets I.kIn ho hno fun h' tk' dx k dn dne hx hn => ?_
  have fresh : H dx = none := I.hok.fresh dn
  have ned : ∀ {b : Addr} {o : Obj}, hp.get? b = some o → b ≠ dx := fun {b o} q => Nat.ne_of_lt (Nat.lt_of_lt_of_le (Heap.lt_size q) dn)
  have nea : ∀ {b : Addr}, H b = none → b ≠ a := by
    intro b n z
    rw [z, e] at n
    cases n
  have un : Un X.fs [] H (upd (upd H dx (exd dx [(f, y)])) a (exo a C (some dx))) hp h' := by
    refine ⟨fun b o q n _ _ => k b o (nea n) q, fun b o q n _ _ => ⟨o.slots, k b o (nea n) q⟩, fun b o q n _ => ?_, fun b o q _ => ?_, fun b xs q => ?_, fun b o v q => ?_, fun b ps q => ⟨#[], ?_⟩⟩
    · rw [upd_ne (nea n), upd_ne (ned q)]
      exact n
    · by_cases hb : b = a
      · exact ⟨_, by rw [hb]; exact hx⟩
      · exact ⟨o, k b o hb q⟩
    · rw [upd_ne (at_ne e q exo_tup), upd_ne (ne_of_none q fresh)]
      exact q
    · rw [upd_ne (at_ne e q exo_frz), upd_ne (ne_of_none q fresh)]
      exact q
    · rw [upd_ne (at_ne e q exo_tbl), upd_ne (ne_of_none q fresh), q]
      simp
  refine h dx _ fresh dne (I.un (t' := tk') un fun b o q => ?_)
  by_cases hb : b = a
  · subst hb
    rw [upd_same] at q
    cases q
    exact exo_ok hx
  · rw [upd_ne hb] at q
    by_cases hd : b = dx
    · subst hd
      rw [upd_same] at q
      cases q
      exact exd_ok hn (relO_put (fs := []) ry fun g => True.intro)
    · rw [upd_ne hd] at q
      refine (I.hok b o q).stay (fun c v hc z => k c v ?_ z) (fun c hc => ?_) (fun c xs hc => ?_)
      · rcases hc with hc | hc
        · rw [hc]
          exact hb
        · exact at_ne e hc exo_own
      · rw [upd_ne (at_ne e hc exo_own), upd_ne (ne_of_none hc fresh)]
        exact hc
      · rw [upd_ne (at_ne e hc exo_tup), upd_ne (ne_of_none hc fresh)]
        exact hc
theorem xst_more (T : XI X.K C fI) (I : Inv X pins σ H s) (e : H a = some (exo a C (some dx))) (ed : H dx = some (exd dx fs)) (hl : fs.length ≤ 900) (hno : PySem.W.findIn X.K (.ref C) f = some none) (ry : RelV y u)
    (h : ∀ s', Inv X pins σ (upd H dx (exd dx ((f, y) :: fs))) s' → Q () s') : wpAny (model X.prog X.w) A (setAttr (.ref a) f u) Q E s := by
  obtain ⟨t1, ho⟩ := exo_at I.hok e
  obtain ⟨mA, hns, rel⟩ := exd_at I.hok ed
  have hw := within_of rel
  obtain ⟨hp, g, d, t, os⟩ := s
  obtain ⟨oD, _, _, hoD, _, _⟩ := hns.count hw
  refine PySem.W.set_plain I.kIn (ox := { cls := .ref C, dict := some dx, data := .fields #[.ref t1, .none, .none, .none, .bool false, .none] }) (od := some oD) ⟨ho, rfl, rfl, hoD⟩ T.sa ?_
  refine store_more T.lets I.kIn ho hns hw (by rw [List.length_map]; omega) hno fun h' tk' k hn => ?_
  have there : ∃ o, h'.get? dx = some o := by
    obtain ⟨o, _, _, e', _⟩ := hn
    exact ⟨o, e'⟩
  exact h _ (I.write (t' := tk') (x := dx) (e := dx) (o := exd dx ((f, y) :: fs)) (by rw [ed]; exact True.intro) (.inl rfl) k there (exd_ok hn (relO_put ry rel)))
end
/-- self.f = e, self an exception that is being made -/
def tXst (K : PySem.W.Frag) (f : Str) (to te : TE) : TS := fun D σ H => te σ H fun y H1 => to σ H1 fun x H2 => ∃ a C fI : Addr, x = .ref a ∧ XI K C fI ∧ PySem.W.findIn K (.ref C) f = some none ∧
  ((H2 a = some (exo a C none) ∧ ∀ dx, H2 dx = none → dx ≠ a → D.nx σ (upd (upd H2 dx (exd dx [(f, y)])) a (exo a C (some dx)))) ∨
    ∃ (dx : Addr) (fs : List (Str × V)), H2 a = some (exo a C (some dx)) ∧ H2 dx = some (exd dx fs) ∧ fs.length ≤ 900 ∧ D.nx σ (upd H2 dx (exd dx ((f, y) :: fs))))
theorem ps_xst {X : Cx} {o e : Expr} {to te : TE} {f : Str} {p' pos : Pos} (ho : PE X o to) (he : PE X e te) (hs : swapsWith e (some (.Attribute o f p')) pos.line X.env = pure false := by rfl) : PS X (.Assign [.Attribute o f p'] e pos) (tXst X.K f to te) := by
  refine ⟨fun pins s σ H D I h => ?_⟩
  refine plainObj_wpAny_Assign_Attribute (thn (he.run pins s σ H _ I h) fun v s1 ⟨y, H1, I1, r1, q1⟩ => thn (ho.run pins s1 σ H1 _ I1 q1) fun u s2 ⟨x, H2, I2, r2, a, C, fI, ex, T, hno, q⟩ => ?_) hs
  subst ex
  obtain rfl : u = Value.ref a := r2
  rcases q with ⟨ea, q⟩ | ⟨dx, fs, ea, ed, hl, q⟩
  · exact xst_first T I2 ea hno r1 fun dx s' n ne J => ⟨σ, _, J, q dx n ne⟩
  · exact xst_more T I2 ea ed hl hno r1 fun s' J => ⟨σ, _, J, q⟩
end Bc

namespace Bc
open PySem PySem.Spec PyProof.Rows L2

/-! ### the law's source of numbers: a dict at d, its cells in a list at c -/
def srcKV (c : Addr) (l m t : Int) : List (Key × V) := [(.inr "cells", .ref c), (.inr "left", .int l), (.inr "mixed", .int m), (.inr "turn", .int t)]
theorem src_cells (c : Addr) (l m t : Int) : valV (srcKV c l m t) (Sum.inr "cells" : Key) = some (.ref c) := by rfl
theorem src_left (c : Addr) (l m t : Int) : valV (srcKV c l m t) (Sum.inr "left" : Key) = some (.int l) := by rfl
theorem src_mixed (c : Addr) (l m t : Int) : valV (srcKV c l m t) (Sum.inr "mixed" : Key) = some (.int m) := by rfl
theorem src_turn (c : Addr) (l m t : Int) : valV (srcKV c l m t) (Sum.inr "turn" : Key) = some (.int t) := by rfl
theorem put_left (c : Addr) (l m t x : Int) : putK (srcKV c l m t) (Sum.inr "left" : Key) (.int x) = srcKV c x m t := by rfl
theorem put_mixed (c : Addr) (l m t x : Int) : putK (srcKV c l m t) (Sum.inr "mixed" : Key) (.int x) = srcKV c l x t := by rfl
theorem put_turn (c : Addr) (l m t x : Int) : putK (srcKV c l m t) (Sum.inr "turn" : Key) (.int x) = srcKV c l m x := by rfl
theorem src_new (c : Addr) (l m t : Int) : mergeK [] (srcKV c l m t) = srcKV c l m t := by rfl
/-- the source stands at d and c, with n cells left -/
def SrcN (H : Hp) (d c : Addr) (n : Nat) : Prop := d ≠ c ∧ ∃ (cells : List Int) (l m t : Int), H d = some (.dK (srcKV c l m t)) ∧ H c = some (.lst (cells.map V.int)) ∧ cells.length = n
def SrcAt (H : Hp) (d c : Addr) : Prop := ∃ n, n ≤ 100 ∧ SrcN H d c n
/-- all but the source is as it was -/
def Else (d c : Addr) (H H' : Hp) : Prop := ∀ b, b ≠ d → b ≠ c → H' b = H b
theorem Else.refl {d c : Addr} {H : Hp} : Else d c H H := fun _ _ _ => rfl
theorem Else.trans {d c : Addr} {H H1 H2 : Hp} (a : Else d c H H1) (b : Else d c H1 H2) : Else d c H H2 := fun x h1 h2 => (b x h1 h2).trans (a x h1 h2)
theorem Else.updD {d c : Addr} {H : Hp} {o : HO} : Else d c H (upd H d o) := fun x h1 _ => upd_ne h1
theorem Else.updC {d c : Addr} {H : Hp} {o : HO} : Else d c H (upd H c o) := fun x _ h2 => upd_ne h2
/-- the source's promises -/
def spSource (K : PySem.W.Frag) : Sp := fun vs H Q _ => ∃ (a : Addr) (ns : List Int), vs = [.ref a] ∧ SqL K H a (ns.map V.int) ∧ ns.length ≤ 100 ∧
  ∀ (d c : Addr) (H' : Hp), Same H H' → H d = none → H c = none → SrcAt H' d c → Q (.ref d) H'
def spPick : Sp := fun vs H Q _ => ∃ (d c : Addr) (many : Int), vs = [.ref d, .int many] ∧ SrcAt H d c ∧ 0 ≤ many ∧ many ≤ 1000000 ∧
  ∀ (r : Int) (H' : Hp), 0 ≤ r → r < max 1 many → SrcAt H' d c → Else d c H H' → Q (.int r) H'
/-- a while by its measure: what follows is shown once, for every state that the invariant holds of -/
theorem while_of {c : TT} {tb : TS} {D : Ends} {σ : L2.St} {H : Hp} (W : Nat → L2.St → Hp → Prop) (h0 : ∃ m, W m σ H) (fin : ∀ m σ H, W m σ H → D.nx σ H)
    (turn : ∀ m σ H, W m σ H → D.nx σ H → c σ H fun b H1 => if b = true then ∃ N : L2.St → Hp → Prop, (∀ σ' H', N σ' H' → ∃ m', m' < m ∧ W m' σ' H') ∧ tb { D with nx := N, ct := N, bk := D.nx } σ H1 else D.nx σ H1) : tWhile c tb D σ H :=
  ⟨W, h0, fun m σ H w => turn m σ H w (fin m σ H w)⟩
/-- .. where what follows leans on how the loop ended -/
theorem while_ex {c : TT} {tb : TS} {D : Ends} {σ : L2.St} {H : Hp} (W : Nat → L2.St → Hp → Prop) (Z : L2.St → Hp → Prop) (h0 : ∃ m, W m σ H) (fin : ∀ σ H, Z σ H → D.nx σ H)
    (turn : ∀ m σ H, W m σ H → (∀ σ H, Z σ H → D.nx σ H) → c σ H fun b H1 => if b = true then ∃ N : L2.St → Hp → Prop, (∀ σ' H', N σ' H' → ∃ m', m' < m ∧ W m' σ' H') ∧ tb { D with nx := N, ct := N, bk := D.nx } σ H1 else D.nx σ H1) : tWhile c tb D σ H :=
  ⟨W, h0, fun m σ H w => turn m σ H w fin⟩
theorem lc_yes {σ : L2.St} {H : Hp} {A B : Hp → Prop} (h : A H) : tYes σ H (fun b H3 => if b = true then A H3 else B H3) := by
  show (if true = true then A H else B H)
  rw [if_pos rfl]
  exact h
theorem pop_last {cells : List Int} {x : Int} (h : cells.getLast? = some x) : (cells.map V.int)[(cells.map V.int).length - 1]? = some (.int x) := by
  rw [List.length_map, List.getElem?_map, ← List.getLast?_eq_getElem?, h]
  rfl
theorem same_new {H : Hp} {p : Addr} {o : HO} (h : H p = none) : Same H (upd H p o) := fun b x e => by
  rw [upd_ne (ne_of_none e h)]
  exact e
end Bc

namespace Bc
open PySem PySem.Spec PyProof.Rows L2

/-! ### written data: a display whose value lies in new objects alone -/
def newOf (H H' : Hp) : Hp := fun b => if H b = none then H' b else none
theorem newOf_up {H H1 H2 : Hp} (s : Same H1 H2) : Same (newOf H H1) (newOf H H2) := fun b o e => by
  unfold newOf at e ⊢
  by_cases h : H b = none
  · rw [if_pos h] at e ⊢
    exact s b o e
  · rw [if_neg h] at e
    cases e
theorem newOf_down {H H1 H2 : Hp} (s : Same H H1) : Same (newOf H1 H2) (newOf H H2) := fun b o e => by
  unfold newOf at e ⊢
  by_cases h : H1 b = none
  · rw [if_pos h] at e
    rw [if_pos (s.free h)]
    exact e
  · rw [if_neg h] at e
    cases e
theorem newOf_upd {H H1 : Hp} {p : Addr} {o : HO} (s : Same H H1) (hp : H1 p = none) : newOf H (upd H1 p o) p = some o := by
  unfold newOf
  rw [if_pos (s.free hp), upd_same]
theorem newOf_all {H H1 : Hp} : Same (newOf H H1) H1 := fun b o e => by
  unfold newOf at e
  by_cases h : H b = none
  · rw [if_pos h] at e
    exact e
  · rw [if_neg h] at e
    cases e
def tD (K : PySem.W.Frag) (c : L2.St → Prop) (d : PyData) : TE := fun σ H Q => c σ ∧ ∀ v H', Same H H' → Dq K (newOf H H') v d → Q v H'
def tDs (K : PySem.W.Frag) (c : L2.St → Prop) (ds : List PyData) : TA := fun σ H Q => c σ ∧ ∀ vs H', Same H H' → DqAll K (newOf H H') vs ds → Q vs H'
abbrev cT : L2.St → Prop := fun _ => True
abbrev cAnd (c c' : L2.St → Prop) : L2.St → Prop := fun σ => c σ ∧ c' σ
theorem PE.imp {X : Cx} {e : Expr} {t t' : TE} (h : PE X e t) (f : ∀ σ H Q, t' σ H Q → t σ H Q) : PE X e t' := ⟨fun pins s σ H Q I q => h.run pins s σ H Q I (f σ H Q q)⟩
theorem PA.imp {X : Cx} {es : List Expr} {t t' : TA} (h : PA X es t) (f : ∀ σ H Q, t' σ H Q → t σ H Q) : PA X es t' := ⟨fun pos pins s σ H Q I q => h.run pos pins s σ H Q I (f σ H Q q)⟩
section
variable {X : Cx} {e : Expr} {es : List Expr} {c c' : L2.St → Prop} {d : PyData} {ds : List PyData} {pos : Pos}
theorem pd_of {v : V} {d : PyData} {e : Expr} (h : PE X e (tC v)) (f : ∀ H, Dq X.K H v d) : PE X e (tD X.K cT d) := PE.imp h fun σ H Q q => q.2 v H (Same.refl H) (f _)
theorem pd_int {i : Int} {j : Nat} : PE X (.Constant (.int i) j pos) (tD X.K cT (.int i)) := pd_of pe_int fun _ => .int i
theorem pd_str {x : Str} {j : Nat} : PE X (.Constant (.str x) j pos) (tD X.K cT (.str x)) := pd_of pe_str fun _ => .str x
theorem pd_non {j : Nat} : PE X (.Constant .none j pos) (tD X.K cT .none) := pd_of pe_non fun _ => .non
theorem pd_bl {b : Bool} {j : Nat} : PE X (.Constant (.bool b) j pos) (tD X.K cT (.bool b)) := pd_of pe_bl fun _ => .bl b
theorem pd_neg {i : Int} {j : Nat} {p : Pos} : PE X (.UnaryOp .USub (.Constant (.int i) j p) pos) (tD X.K cT (.int (-i))) := PE.imp (pe_un un_neg pe_int) fun σ H Q q => ⟨i, rfl, q.2 _ H (Same.refl H) (.int _)⟩
theorem pd_mul {x : Str} {n : Int} {j j' : Nat} {p p' : Pos} (hm : MulOk x n) : PE X (.BinOp (.Constant (.str x) j p) .Mult (.Constant (.int n) j' p') pos) (tD X.K cT (.str (Txt.mul x n))) :=
  PE.imp (pe_op op_mul_str pe_str pe_int) fun σ H Q q => ⟨x, n, rfl, rfl, hm, q.2 _ H (Same.refl H) (.str _)⟩
/-- a name that holds a number -/
theorem pd_var {i : Nat} {z : Int} {x : Str} (h : PE X (.Name x pos) (tVar i)) : PE X (.Name x pos) (tD X.K (fun σ => σ[i]? = some (some (.int z))) (.int z)) :=
  PE.imp h fun σ H Q q => ⟨_, q.1, q.2 _ H (Same.refl H) (.int z)⟩
theorem pds_nil : PA X [] (tDs X.K cT []) := PA.imp pa_nil fun σ H Q q => q.2 [] H (Same.refl H) .nil
theorem pds_cons (h : PE X e (tD X.K c d)) (hr : PA X es (tDs X.K c' ds)) (hs : starEach (e :: es) X.env = (false, eval e X.env) :: starEach es X.env := by rfl) : PA X (e :: es) (tDs X.K (cAnd c c') (d :: ds)) :=
  PA.imp (pa_cons h hr hs) fun σ H Q q => ⟨q.1.1, fun v H1 s1 d1 => ⟨q.1.2, fun vs H2 s2 d2 => q.2 (v :: vs) H2 (s1.trans s2) (.cons (Dq.same (newOf_up s2) d1) (DqAll.same (newOf_down s1) d2))⟩⟩
theorem pd_lst (h : PA X es (tDs X.K c ds)) (hz : ds.length ≤ sizeLine := by decide) : PE X (.List es pos) (tD X.K c (.list ds)) :=
  PE.imp (pe_lstB h) fun σ H Q q => ⟨q.1, fun vs H1 s1 d1 => ⟨by rw [d1.len]; exact hz, fun p hp np => q.2 _ _ (s1.trans (same_new hp)) (.lst (.inl (.inl (newOf_upd s1 hp))) (DqAll.same (newOf_up (same_new hp)) d1) np)⟩⟩
theorem pd_tup {x1} (h : PA X es (tDs X.K c ds)) (hz : ds.length ≤ sizeLine := by decide) : PE X (.Tuple es x1 pos) (tD X.K c (.tuple ds)) :=
  PE.imp (pe_tup h) fun σ H Q q => ⟨q.1, fun vs H1 s1 d1 => ⟨by rw [d1.len]; exact hz, fun p hp => q.2 _ _ (s1.trans (same_new hp)) (.tup (.inl (.inl (newOf_upd s1 hp))) (DqAll.same (newOf_up (same_new hp)) d1))⟩⟩
theorem pd_dict0 : PE X (.Dict [] [] pos) (tD X.K cT (.dict [])) :=
  PE.imp pe_dnewK fun σ H Q q => fun p hp => q.2 _ _ (same_new hp) (.dic (kvs := []) (ds := []) (newOf_upd (Same.refl H) hp) .nil)
theorem pd_dict1 {x : Str} {i : Int} {j j' : Nat} {p1 p2 : Pos} : PE X (.Dict [some (.Constant (.str x) j p1)] [.Constant (.int i) j' p2] pos) (tD X.K cT (.dict [(.str x, .int i)])) :=
  PE.imp (pe_disp (pps_cons pe_str pe_int pps_nil) rfl rfl (by simp) (by simp)) fun σ H Q q => fun p hp => ⟨upd_same, [(.inr x, .int i)], rfl, (by show 1 ≤ 15; decide), by
    rw [upd_upd]
    refine q.2 _ _ (same_new hp) ?_
    exact Dq.dic (kvs := [(.inr x, .int i)]) (ds := [.int i]) (newOf_upd (Same.refl H) hp) (.cons (.int i) .nil)⟩
end

/-! ### what lies apart from the source -/
def hid (d c : Addr) (H : Hp) : Hp := fun b => if b = d ∨ b = c then none else H b
theorem hid_all {d c : Addr} {H : Hp} : Same (hid d c H) H := fun b o e => by
  unfold hid at e
  by_cases h : b = d ∨ b = c
  · rw [if_pos h] at e
    cases e
  · rw [if_neg h] at e
    exact e
theorem hid_else {d c : Addr} {H H' : Hp} (e : Else d c H H') : hid d c H' = hid d c H := by
  funext b
  unfold hid
  by_cases h : b = d ∨ b = c
  · rw [if_pos h, if_pos h]
  · rw [if_neg h, if_neg h]
    exact e b (fun z => h (.inl z)) (fun z => h (.inr z))
theorem hid_up {d c : Addr} {H H' : Hp} (s : Same H H') : Same (hid d c H) (hid d c H') := fun b o e => by
  unfold hid at e ⊢
  by_cases h : b = d ∨ b = c
  · rw [if_pos h] at e
    cases e
  · rw [if_neg h] at e ⊢
    exact s b o e
theorem SrcAt.two {H : Hp} {d c : Addr} (x : SrcAt H d c) : H d ≠ none ∧ H c ≠ none := by
  obtain ⟨n, _, _, cells, l, m, t, h1, h2, _⟩ := x
  exact ⟨by rw [h1]; exact Option.some_ne_none _, by rw [h2]; exact Option.some_ne_none _⟩
theorem SrcAt.up {H H' : Hp} {d c : Addr} (x : SrcAt H d c) (s : Same H H') : SrcAt H' d c := by
  obtain ⟨n, hn, ne, cells, l, m, t, h1, h2, hl⟩ := x
  exact ⟨n, hn, ne, cells, l, m, t, s _ _ h1, s _ _ h2, hl⟩
theorem newOf_hid {d c : Addr} {H H' : Hp} (x : SrcAt H d c) : Same (newOf H H') (hid d c H') := fun b o e => by
  unfold newOf at e
  by_cases h : H b = none
  · rw [if_pos h] at e
    unfold hid
    rw [if_neg (fun z => by
      rcases z with z | z
      · rw [z] at h
        exact x.two.1 h
      · rw [z] at h
        exact x.two.2 h)]
    exact e
  · rw [if_neg h] at e
    cases e
/-- an item of written data, by a number that lies in it -/
theorem pick_of {K : PySem.W.Frag} {H : Hp} : ∀ {vs : List V} {ds : List PyData} (n : Nat), DqAll K H vs ds → n < ds.length → ∃ v d, vs[n]? = some v ∧ d ∈ ds ∧ Dq K H v d
  | _, _, _, .nil, h => absurd h (Nat.not_lt_zero _)
  | _, _, 0, .cons a _, _ => ⟨_, _, rfl, List.mem_cons_self .., a⟩
  | _, _, n + 1, .cons _ t, h => by
    obtain ⟨v, d, h1, h2, h3⟩ := pick_of n t (Nat.lt_of_succ_lt_succ h)
    exact ⟨v, d, h1, List.mem_cons_of_mem _ h2, h3⟩
end Bc

namespace Bc
open PySem PySem.Spec PyProof.Rows L2

/-! ### lexemes, in plain Lean: texts are lists of codes -/
abbrev sLetters : Str := "abcdefghijklmnopqrstuvwxyz"
abbrev sDigits : Str := "0123456789"
abbrev sSigns : Str := "(){},;"
abbrev sBlanks : Str := " \n"
def inS (z : Str) (c : Nat) : Bool := decide (c ∈ z.cps.toList)
def alnum (c : Nat) : Bool := inS (sLetters ++ sDigits) c
/-- the lexeme with which a text begins: its sort, its length -/
def tokS : List Nat → Option (Str × Nat)
  | [] => none
  | c :: t => if inS sSigns c = true then some ("sign", 1) else if inS sLetters c = true then (if ((c :: t).takeWhile alnum).length ≤ 12 then some ("word", ((c :: t).takeWhile alnum).length) else none)
    else if c = 48 then some ("number", 1) else if inS sDigits c = true then some ("number", ((c :: t).takeWhile (inS sDigits)).length) else none
theorem tokS_cons (c : Nat) (t : List Nat) : tokS (c :: t) = if inS sSigns c = true then some (("sign" : Str), 1) else if inS sLetters c = true then (if ((c :: t).takeWhile alnum).length ≤ 12 then some (("word" : Str), ((c :: t).takeWhile alnum).length) else none)
    else if c = 48 then some (("number" : Str), 1) else if inS sDigits c = true then some (("number" : Str), ((c :: t).takeWhile (inS sDigits)).length) else none := rfl
abbrev Tok := Str × List Nat × Nat
def lexS : Nat → List Nat → Nat → List Tok × Option Nat
  | 0, _, _ => ([], none)
  | _ + 1, [], _ => ([], none)
  | n + 1, c :: t, i => if inS sBlanks c = true then lexS n t (i + 1) else match tokS (c :: t) with
    | none => ([], some i)
    | some (k, m) => ((k, (c :: t).take m, i) :: (lexS n ((c :: t).drop m) (i + m)).1, (lexS n ((c :: t).drop m) (i + m)).2)
theorem let_alnum {c : Nat} (h : inS sLetters c = true) : alnum c = true := by
  unfold alnum inS at *
  rw [decide_eq_true_eq] at *
  rw [show (sLetters ++ sDigits).cps.toList = sLetters.cps.toList ++ sDigits.cps.toList by decide +kernel]
  exact List.mem_append_left _ h
theorem tok_pos {s : List Nat} {k : Str} {m : Nat} (h : tokS s = some (k, m)) : 1 ≤ m ∧ m ≤ s.length := by
  cases s with
  | nil => cases h
  | cons c t =>
    have tw : ∀ {p : Nat → Bool}, p c = true → 1 ≤ ((c :: t).takeWhile p).length ∧ ((c :: t).takeWhile p).length ≤ (c :: t).length := fun {p} hp => by
      refine ⟨?_, (List.takeWhile_sublist p).length_le⟩
      rw [List.takeWhile_cons, if_pos hp, List.length_cons]
      omega
    rw [tokS_cons] at h
    by_cases h1 : inS sSigns c = true
    · rw [if_pos h1] at h
      have e := (Prod.mk.inj (Option.some.inj h)).2
      rw [← e, List.length_cons]
      omega
    · rw [if_neg h1] at h
      by_cases h2 : inS sLetters c = true
      · rw [if_pos h2] at h
        by_cases h3 : ((c :: t).takeWhile alnum).length ≤ 12
        · rw [if_pos h3] at h
          have e := (Prod.mk.inj (Option.some.inj h)).2
          rw [← e]
          exact tw (let_alnum h2)
        · rw [if_neg h3] at h
          cases h
      · rw [if_neg h2] at h
        by_cases h3 : c = 48
        · rw [if_pos h3] at h
          have e := (Prod.mk.inj (Option.some.inj h)).2
          rw [← e, List.length_cons]
          omega
        · rw [if_neg h3] at h
          by_cases h4 : inS sDigits c = true
          · rw [if_pos h4] at h
            have e := (Prod.mk.inj (Option.some.inj h)).2
            rw [← e]
            exact tw h4
          · rw [if_neg h4] at h
            cases h
theorem lex_fuel : ∀ (n m : Nat) (s : List Nat) (i : Nat), s.length < n → s.length < m → lexS n s i = lexS m s i
  | 0, _, _, _, h, _ => absurd h (Nat.not_lt_zero _)
  | _ + 1, 0, _, _, _, h => absurd h (Nat.not_lt_zero _)
  | n + 1, m + 1, [], _, _, _ => rfl
  | n + 1, m + 1, c :: t, i, h1, h2 => by
    have l1 : t.length < n := Nat.lt_of_succ_lt_succ h1
    have l2 : t.length < m := Nat.lt_of_succ_lt_succ h2
    unfold lexS
    rw [lex_fuel n m t (i + 1) l1 l2]
    cases e : tokS (c :: t) with
    | none => rfl
    | some q =>
      obtain ⟨k, j⟩ := q
      have hp := tok_pos e
      have hd : ((c :: t).drop j).length ≤ t.length := by
        rw [List.length_drop, List.length_cons]
        omega
      dsimp only
      rw [lex_fuel n m ((c :: t).drop j) (i + j) (Nat.lt_of_le_of_lt hd l1) (Nat.lt_of_le_of_lt hd l2)]
/-- the lexemes of a text that begins at the place i, and the place where none begins -/
def Lx (s : List Nat) (i : Nat) : List Tok × Option Nat := lexS (s.length + 1) s i
theorem Lx_nil (i : Nat) : Lx [] i = ([], none) := rfl
theorem Lx_blank {c : Nat} {t : List Nat} {i : Nat} (h : inS sBlanks c = true) : Lx (c :: t) i = Lx t (i + 1) := by
  show lexS (t.length + 1 + 1) (c :: t) i = lexS (t.length + 1) t (i + 1)
  rw [lexS, if_pos h]
theorem Lx_bad {c : Nat} {t : List Nat} {i : Nat} (h : inS sBlanks c = false) (e : tokS (c :: t) = none) : Lx (c :: t) i = ([], some i) := by
  show lexS (t.length + 1 + 1) (c :: t) i = _
  rw [lexS, h, e]
  rfl
theorem Lx_tok {c : Nat} {t : List Nat} {i m : Nat} {k : Str} (h : inS sBlanks c = false) (e : tokS (c :: t) = some (k, m)) :
    Lx (c :: t) i = ((k, (c :: t).take m, i) :: (Lx ((c :: t).drop m) (i + m)).1, (Lx ((c :: t).drop m) (i + m)).2) := by
  have hp := tok_pos e
  have hf : lexS (t.length + 1) ((c :: t).drop m) (i + m) = Lx ((c :: t).drop m) (i + m) := by
    refine lex_fuel _ _ _ _ ?_ (Nat.lt_succ_self _)
    rw [List.length_drop, List.length_cons]
    omega
  show lexS (t.length + 1 + 1) (c :: t) i = _
  rw [lexS, h, e]
  simp only [Bool.false_eq_true, if_false]
  rw [hf]
theorem Lx_skip : ∀ (s : List Nat) (i : Nat), Lx s i = Lx (s.drop ((s.takeWhile (inS sBlanks)).length)) (i + (s.takeWhile (inS sBlanks)).length)
  | [], _ => rfl
  | c :: t, i => by
    by_cases h : inS sBlanks c = true
    · rw [Lx_blank h, List.takeWhile_cons, if_pos h, List.length_cons, List.drop_succ_cons, Lx_skip t (i + 1)]
      congr 1
      omega
    · rw [List.takeWhile_cons, if_neg h]
      rfl
/-! ### spaced lexemes -/
def codes (z : Str) : List Nat := z.cps.toList
/-- the lexemes that the law draws -/
def menuL : List Str := ["a", "x1", "abcdefghijkl", "root", "0", "7", "10", "305", "1000000000000000000000000000000", "(", ")", "{", "}", ",", ";"]
/-- whether a sign behind the lexeme goes on with it -/
def ext (w : Str) (h : Option Nat) : Bool := match h with
  | none => false
  | some c => match (codes w) with
    | [] => false
    | a :: _ => (inS sLetters a && alnum c) || (inS sDigits a && !(decide (a = 48)) && inS sDigits c)
def kindOf (w : Str) : Str := match (codes w) with
  | [] => "none"
  | a :: _ => if inS sSigns a = true then "sign" else if inS sLetters a = true then "word" else "number"
theorem tw_app {p : Nat → Bool} {w r : List Nat} (hw : w.all p = true) (hr : ∀ c, r.head? = some c → p c = false) : (w ++ r).takeWhile p = w := by
  rw [List.takeWhile_append_of_pos (fun a ha => List.all_eq_true.mp hw a ha)]
  cases r with
  | nil => simp
  | cons c t => rw [List.takeWhile_cons, hr c rfl, if_neg Bool.false_ne_true, List.append_nil]
/-- a lexeme of the menu is one of three kinds -/
def goodTok (w : Str) : Bool := match codes w with
  | [] => false
  | a :: t => if inS sSigns a = true then decide (t = []) else if inS sLetters a = true then (codes w).all alnum && decide ((codes w).length ≤ 12) else if a = 48 then decide (t = []) else inS sDigits a && (codes w).all (inS sDigits)
theorem menu_good : ∀ w ∈ menuL, goodTok w = true := fun w hw => List.all_eq_true.mp (show (menuL.all goodTok) = true by decide +kernel) w hw
theorem tok_menu {w : Str} {r : List Nat} (g : goodTok w = true) (he : ext w r.head? = false) : tokS (codes w ++ r) = some (kindOf w, (codes w).length) := by
  unfold goodTok at g
  unfold kindOf
  cases e : codes w with
  | nil =>
    rw [e] at g
    cases g
  | cons a t =>
    rw [e] at g
    dsimp only at g ⊢
    show tokS (a :: (t ++ r)) = _
    rw [tokS_cons]
    by_cases h1 : inS sSigns a = true
    · rw [if_pos h1] at g
      have ht : t = [] := of_decide_eq_true g
      rw [if_pos h1, if_pos h1, ht]
      rfl
    · rw [if_neg h1] at g
      rw [if_neg h1, if_neg h1]
      by_cases h2 : inS sLetters a = true
      · rw [if_pos h2] at g
        rw [if_pos h2, if_pos h2]
        rw [Bool.and_eq_true, decide_eq_true_eq] at g
        have tw : (a :: (t ++ r)).takeWhile alnum = a :: t := by
          refine tw_app (w := a :: t) (r := r) g.1 fun c hc => ?_
          unfold ext at he
          rw [hc, e] at he
          dsimp only at he
          rw [h2, Bool.true_and, Bool.or_eq_false_iff] at he
          exact he.1
        rw [tw, if_pos g.2]
      · rw [if_neg h2] at g
        rw [if_neg h2, if_neg h2]
        by_cases h3 : a = 48
        · rw [if_pos h3] at g
          have ht : t = [] := of_decide_eq_true g
          rw [if_pos h3, ht]
          rfl
        · rw [if_neg h3] at g
          rw [if_neg h3]
          rw [Bool.and_eq_true] at g
          rw [if_pos g.1]
          have tw : (a :: (t ++ r)).takeWhile (inS sDigits) = a :: t := by
            refine tw_app (w := a :: t) (r := r) g.2 fun c hc => ?_
            unfold ext at he
            rw [hc, e] at he
            dsimp only at he
            rw [Bool.or_eq_false_iff] at he
            have h5 := he.2
            rw [g.1, decide_eq_false h3] at h5
            simpa using h5
          rw [tw]
/-- what the law asks of two lexemes without a gap -/
def mayTouch (last one : Str) : Bool := !(Txt.isalnum (last ++ one)) || (decide (last = "0") || (Txt.isdigit last && !(match codes one with | [] => false | c :: _ => Txt.isdigit ⟨#[c]⟩)))
theorem touch_ext : ∀ w ∈ menuL, ∀ v ∈ menuL, mayTouch w v = true → ext w (codes v).head? = false := fun w hw v hv h => by
  have q := List.all_eq_true.mp (List.all_eq_true.mp (show (menuL.all fun w => menuL.all fun v => !(mayTouch w v) || !(ext w (codes v).head?)) = true by decide +kernel) w hw) v hv
  rw [h] at q
  simpa using q
theorem blank_ext : ∀ w ∈ menuL, ∀ c, inS sBlanks c = true → ext w (some c) = false := fun w hw c hc => by
  have hm : c ∈ sBlanks.cps.toList := of_decide_eq_true hc
  have q := List.all_eq_true.mp (List.all_eq_true.mp (show (menuL.all fun w => sBlanks.cps.toList.all fun c => !(ext w (some c))) = true by decide +kernel) w hw) c hm
  simpa using q
end Bc

namespace Bc
open PySem PySem.Spec PyProof.Rows L2
/-- gaps and lexemes in turn -/
def flatP : List (Str × Str) → List Nat
  | [] => []
  | (g, w) :: r => codes g ++ (codes w ++ flatP r)
def allBlank (z : Str) : Bool := (codes z).all (inS sBlanks)
/-- each gap is blank, and not empty where two lexemes may not touch -/
def Spaced : Str → List (Str × Str) → Prop
  | _, [] => True
  | last, (g, w) :: r => allBlank g = true ∧ (codes g = [] → mayTouch last w = true) ∧ Spaced w r
theorem Spaced.snoc : ∀ {last : Str} {ps : List (Str × Str)} {g w : Str}, Spaced last ps → allBlank g = true → (codes g = [] → mayTouch ((ps.map (·.2)).getLastD last) w = true) → Spaced last (ps ++ [(g, w)])
  | _, [], _, _, _, h1, h2 => ⟨h1, h2, trivial⟩
  | _, (g0, w0) :: r, _, _, ⟨a, b, c⟩, h1, h2 => ⟨a, b, Spaced.snoc c h1 (by
      intro e
      have q := h2 e
      cases r with
      | nil => exact q
      | cons p r' => exact q)⟩
theorem flatP_snoc : ∀ (ps : List (Str × Str)) (g w : Str), flatP (ps ++ [(g, w)]) = flatP ps ++ (codes g ++ codes w)
  | [], g, w => by simp [flatP]
  | (g0, w0) :: r, g, w => by
    show codes g0 ++ (codes w0 ++ flatP (r ++ [(g, w)])) = codes g0 ++ (codes w0 ++ flatP r) ++ (codes g ++ codes w)
    rw [flatP_snoc r g w]
    simp [List.append_assoc]
theorem Lx_gap : ∀ (b : List Nat) (s : List Nat) (i : Nat), b.all (inS sBlanks) = true → Lx (b ++ s) i = Lx s (i + b.length)
  | [], _, _, _ => rfl
  | c :: t, s, i, h => by
    rw [List.all_cons, Bool.and_eq_true] at h
    rw [List.cons_append, Lx_blank h.1, Lx_gap t s (i + 1) h.2, List.length_cons]
    congr 1
    omega
theorem good_ne {w : Str} (g : goodTok w = true) : codes w ≠ [] := fun e => by
  unfold goodTok at g
  rw [e] at g
  cases g
theorem menu_head : ∀ w ∈ menuL, ∀ c, (codes w).head? = some c → inS sBlanks c = false := fun w hw c hc => by
  have q := List.all_eq_true.mp (show (menuL.all fun w => match (codes w).head? with | none => true | some c => !(inS sBlanks c)) = true by decide +kernel) w hw
  rw [hc] at q
  simpa using q
theorem lex_spaced : ∀ (ps : List (Str × Str)) (last : Str) (tail : List Nat) (i : Nat), Spaced last ps → (∀ p ∈ ps, p.2 ∈ menuL) → tail.all (inS sBlanks) = true →
    (Lx (flatP ps ++ tail) i).2 = none ∧ (Lx (flatP ps ++ tail) i).1.map (·.2.1) = ps.map fun p => codes p.2
  | [], _, tail, i, _, _, ht => by
    have e := Lx_gap tail [] i ht
    rw [List.append_nil, Lx_nil] at e
    have e2 : Lx (flatP [] ++ tail) i = ([], none) := e
    rw [e2]
    exact ⟨rfl, rfl⟩
  | (g, w) :: r, last, tail, i, ⟨h1, h2, h3⟩, hm, ht => by
    have hw : w ∈ menuL := hm (g, w) (List.mem_cons_self ..)
    have hr : ∀ p ∈ r, p.2 ∈ menuL := fun p hp => hm p (List.mem_cons_of_mem _ hp)
    have gw := menu_good w hw
    obtain ⟨c, t, ec⟩ : ∃ c t, codes w = c :: t := by
      cases e : codes w with
      | nil => exact absurd e (good_ne gw)
      | cons c t => exact ⟨c, t, rfl⟩
    have hx : ext w (flatP r ++ tail).head? = false := by
      cases r with
      | nil =>
        show ext w ([] ++ tail).head? = false
        rw [List.nil_append]
        cases tail with
        | nil => rfl
        | cons b tl =>
          rw [List.all_cons, Bool.and_eq_true] at ht
          exact blank_ext w hw b ht.1
      | cons p r' =>
        obtain ⟨g', w'⟩ := p
        obtain ⟨k1, k2, k3⟩ := h3
        have hw' : w' ∈ menuL := hr (g', w') (List.mem_cons_self ..)
        show ext w (codes g' ++ (codes w' ++ flatP r') ++ tail).head? = false
        cases eg : codes g' with
        | nil =>
          rw [List.nil_append]
          have q := touch_ext w hw w' hw' (k2 eg)
          cases ew : codes w' with
          | nil => exact absurd ew (good_ne (menu_good w' hw'))
          | cons b tl =>
            rw [ew] at q
            exact q
        | cons b tl =>
          unfold allBlank at k1
          rw [eg, List.all_cons, Bool.and_eq_true] at k1
          exact blank_ext w hw b k1.1
    have tk := tok_menu (r := flatP r ++ tail) gw hx
    have hb : inS sBlanks c = false := menu_head w hw c (by rw [ec]; rfl)
    have step : Lx (flatP ((g, w) :: r) ++ tail) i = Lx (codes w ++ (flatP r ++ tail)) (i + (codes g).length) := by
      show Lx (codes g ++ (codes w ++ flatP r) ++ tail) i = _
      rw [List.append_assoc, List.append_assoc]
      exact Lx_gap (codes g) _ i h1
    have ih := lex_spaced r w tail (i + (codes g).length + (codes w).length) h3 hr ht
    have e2 : Lx (codes w ++ (flatP r ++ tail)) (i + (codes g).length) = ((kindOf w, codes w, i + (codes g).length) :: (Lx (flatP r ++ tail) (i + (codes g).length + (codes w).length)).1, (Lx (flatP r ++ tail) (i + (codes g).length + (codes w).length)).2) := by
      have tk' := tk
      rw [ec, List.cons_append] at tk'
      have q := Lx_tok (i := i + (codes g).length) hb tk'
      have e3 : (c :: (t ++ (flatP r ++ tail))) = codes w ++ (flatP r ++ tail) := by rw [ec]; rfl
      rw [e3, ← ec] at q
      rw [q, List.take_left, List.drop_left]
    rw [step, e2]
    exact ⟨ih.1, by rw [List.map_cons, List.map_cons, ih.2]⟩
end Bc

namespace Bc
open PySem PySem.Spec PyProof.Rows L2
theorem Dq.tup_inv {K : PySem.W.Frag} {H : Hp} {v : V} {ds : List PyData} (h : Dq K H v (.tuple ds)) : ∃ a xs, v = .ref a ∧ SqT K H a xs ∧ DqAll K H xs ds := by
  cases h with
  | tup h1 h2 => exact ⟨_, _, rfl, h1, h2⟩
theorem Dq.lst_inv {K : PySem.W.Frag} {H : Hp} {v : V} {ds : List PyData} (h : Dq K H v (.list ds)) : ∃ a xs, v = .ref a ∧ SqL K H a xs ∧ DqAll K H xs ds ∧ a ≠ sysModules := by
  cases h with
  | lst h1 h2 h3 => exact ⟨_, _, rfl, h1, h2, h3⟩
theorem Dq.str_inv {K : PySem.W.Frag} {H : Hp} {v : V} {x : Str} (h : Dq K H v (.str x)) : v = .str x := by
  cases h
  rfl
theorem Dq.int_inv {K : PySem.W.Frag} {H : Hp} {v : V} {x : Int} (h : Dq K H v (.int x)) : v = .int x := by
  cases h
  rfl
theorem DqAll.cons_inv {K : PySem.W.Frag} {H : Hp} {vs : List V} {d : PyData} {ds : List PyData} (h : DqAll K H vs (d :: ds)) : ∃ v vs', vs = v :: vs' ∧ Dq K H v d ∧ DqAll K H vs' ds := by
  cases h with
  | cons h1 h2 => exact ⟨_, _, rfl, h1, h2⟩
theorem DqAll.nil_inv {K : PySem.W.Frag} {H : Hp} {vs : List V} (h : DqAll K H vs []) : vs = [] := by
  cases h
  rfl
theorem DqAll.app {K : PySem.W.Frag} {H : Hp} : ∀ {vs ws : List V} {ds es : List PyData}, DqAll K H vs ds → DqAll K H ws es → DqAll K H (vs ++ ws) (ds ++ es)
  | _, _, _, _, .nil, h => h
  | _, _, _, _, .cons a b, h => .cons a (DqAll.app b h)
theorem DqAll.get {K : PySem.W.Frag} {H : Hp} : ∀ {vs : List V} {ds : List PyData} (i : Nat) {x : V}, DqAll K H vs ds → vs[i]? = some x → ∃ d, ds[i]? = some d ∧ Dq K H x d
  | _, _, _, _, .nil, h => by cases h
  | _, _, 0, x, .cons a b, h => ⟨_, rfl, by
      cases (Option.some.inj h)
      exact a⟩
  | _, _, i + 1, x, .cons a b, h => DqAll.get i b h
mutual
theorem Dq.dp {K : PySem.W.Frag} {H : Hp} : ∀ {v : V} {d : PyData}, Dq K H v d → d.canLay0 = true → Dp K H v d
  | _, _, .non, _ => .non
  | _, _, .bl b, _ => .bl b
  | _, _, .int i, _ => .int i
  | _, _, .str x, _ => .str x
  | _, _, .lst h t _, c => .lst h (DqAll.dp t c)
  | _, _, .tup h t, c => .tup h (DqAll.dp t c)
  | _, _, .dic _ _, c => by cases c
theorem DqAll.dp {K : PySem.W.Frag} {H : Hp} : ∀ {vs : List V} {ds : List PyData}, DqAll K H vs ds → PyData.canLayAll0 ds = true → DpAll K H vs ds
  | _, _, .nil, _ => .nil
  | _, _, .cons h t, c => by
    rw [PyData.canLayAll0, Bool.and_eq_true] at c
    exact .cons (Dq.dp h c.1) (DqAll.dp t c.2)
end
theorem Dq.dps {K : PySem.W.Frag} {H : Hp} {v : V} {d : PyData} (h : Dq K H v d) (c : SeqAt.shaped d = true) : Dp K H v d := Dq.dp h (SeqAt.canLay_of_shaped c)
/-! written data with names in it -/
def tF (K : PySem.W.Frag) (c : L2.St → Hp → Prop) (d : PyData) : TE := fun σ H Q => (∀ H', Same H H' → c σ H') ∧ ∀ v H', Same H H' → Dq K H' v d → Q v H'
def tFs (K : PySem.W.Frag) (c : L2.St → Hp → Prop) (ds : List PyData) : TA := fun σ H Q => (∀ H', Same H H' → c σ H') ∧ ∀ vs H', Same H H' → DqAll K H' vs ds → Q vs H'
section
variable {X : Cx} {e : Expr} {es : List Expr} {c c' : L2.St → Hp → Prop} {d : PyData} {ds : List PyData} {pos : Pos}
theorem pf_of {c0 : L2.St → Prop} (h : PE X e (tD X.K c0 d)) : PE X e (tF X.K (fun σ _ => c0 σ) d) := PE.imp h fun σ H Q q => ⟨q.1 H (Same.refl H), fun v H' s dq => q.2 v H' s (Dq.same newOf_all dq)⟩
theorem pf_var {i : Nat} {x : Str} (h : PE X (.Name x pos) (tVar i)) : PE X (.Name x pos) (tF X.K (fun σ H => ∃ v, σ[i]? = some (some v) ∧ Dq X.K H v d) d) :=
  PE.imp h fun σ H Q q => by
    obtain ⟨v, e, dq⟩ := q.1 H (Same.refl H)
    exact ⟨v, e, q.2 v H (Same.refl H) dq⟩
theorem pfs_nil : PA X [] (tFs X.K (fun _ _ => True) []) := PA.imp pa_nil fun σ H Q q => q.2 [] H (Same.refl H) .nil
theorem pfs_cons (h : PE X e (tF X.K c d)) (hr : PA X es (tFs X.K c' ds)) (hs : starEach (e :: es) X.env = (false, eval e X.env) :: starEach es X.env := by rfl) : PA X (e :: es) (tFs X.K (fun σ H => c σ H ∧ c' σ H) (d :: ds)) :=
  PA.imp (pa_cons h hr hs) fun σ H Q q => ⟨fun H' s => (q.1 H' s).1, fun v H1 s1 d1 => ⟨fun H' s => (q.1 H' (s1.trans s)).2, fun vs H2 s2 d2 => q.2 (v :: vs) H2 (s1.trans s2) (.cons (Dq.same s2 d1) d2)⟩⟩
theorem pf_lst (h : PA X es (tFs X.K c ds)) (hz : ds.length ≤ sizeLine := by decide) : PE X (.List es pos) (tF X.K c (.list ds)) :=
  PE.imp (pe_lstB h) fun σ H Q q => ⟨q.1, fun vs H1 s1 d1 => ⟨by rw [d1.len]; exact hz, fun p hp np => q.2 _ _ (s1.trans (same_new hp)) (.lst (.inl (.inl upd_same)) (DqAll.same (same_new hp) d1) np)⟩⟩
end
end Bc

namespace Bc
open PySem PySem.Spec PyProof.Rows L2
def topS (i : Nat) : Stmt := PySem.Challenge.pw_bushcoins_k12_whole_texts_of_books_and_b.main.body.getD i (.Pass ⟨0, 0, 0, 0⟩)
abbrev sListT : Stmt := topS 2
abbrev sRowsT : Stmt := topS 3
abbrev sBookT : Stmt := topS 4
abbrev sBagT : Stmt := topS 5
abbrev sIsWord : Stmt := topS 17
abbrev sWrongJ : Stmt := topS 20
abbrev sBagI : Stmt := inClass (topS 21) 0
abbrev sBagBook : Stmt := inClass (topS 21) 1
abbrev sBagJ : Stmt := inClass (topS 21) 2
abbrev sBagN : Stmt := inClass (topS 21) 3
abbrev sBagEq : Stmt := inClass (topS 21) 8
abbrev sWrongS : Stmt := topS 23
abbrev sBookI : Stmt := inClass (topS 24) 0
abbrev sBookS : Stmt := inClass (topS 24) 1
abbrev sBookW : Stmt := inClass (topS 24) 2
abbrev sBookEq : Stmt := inClass (topS 24) 7
abbrev sInit : Stmt := inClass (topS 30) 0
abbrev sOpen : Stmt := inClass (topS 30) 1
abbrev sTakes : Stmt := inClass (topS 30) 4
abbrev sDone : Stmt := inClass (topS 30) 5
abbrev sIsTold : Stmt := topS 31
abbrev sRun : Stmt := topS 35
abbrev sLexAt : Stmt := topS 36
abbrev sScan : Stmt := topS 37
abbrev sLexOf : Stmt := topS 39
abbrev sHead : Stmt := topS 40
abbrev sListOf : Stmt := topS 41
abbrev sReadBook : Stmt := topS 42
abbrev sReadBag : Stmt := topS 43
abbrev sSource : Stmt := topS 45
abbrev sPick : Stmt := topS 46
abbrev sOf : Stmt := topS 47
abbrev sMixed : Stmt := topS 48
abbrev sNames : Stmt := topS 49
abbrev sShapes : Stmt := topS 50
abbrev sDrawnS : Stmt := topS 51
abbrev sDrawnJ : Stmt := topS 52
abbrev sJoined : Stmt := topS 53
abbrev sSpaced : Stmt := topS 54
abbrev sListed : Stmt := topS 55
abbrev sBookLex : Stmt := topS 56
abbrev sBagLex : Stmt := topS 57
abbrev sLaw : Stmt := topS 58
end Bc

namespace Bc
open PySem PySem.Spec PyProof.Rows L2
theorem scSource : FnScope ["_law_script", "_law_mixed_here", "_law_cell"] ["_law_script"] (defScope sSource) := ⟨rfl, rfl, rfl, by decide +kernel, rfl, by decide +kernel, by decide +kernel⟩
theorem scPick : FnScope ["_law_source_here", "_law_many", "_law_left", "_law_mixed_here"] ["_law_source_here", "_law_many"] (defScope sPick) := ⟨rfl, rfl, rfl, by decide +kernel, rfl, by decide +kernel, by decide +kernel⟩
structure Blt (mg : Str → Option Value) : Prop where
  int : mg "int" = none
  abs : mg "abs" = none
  len : mg "len" = none
  max : mg "max" = none
section
variable {P : Program} {w : World} {K : PySem.W.Frag} {mg : Str → Option Value} {base : Heap}
theorem ok_source {f : Addr} {fd : FuncData} (F : Fun K "_law_source" "_law_source" sSource f fd) (T : Blt mg) : FnOk P w K mg base CX0 1 f fd ["_law_script"] (spSource K) := by
  refine F.ok scSource (fun vs H Q E h => ?_) (fun cdv A outer s H vs Q E hr h => ?_)
  · obtain ⟨a, ns, rfl, _⟩ := h
    rfl
  · obtain ⟨a, ns, rfl, hS, hlen, k⟩ := h
    refine ⟨_, pss_cons (ps_set (i := 1) scSource.nd rfl (.inl rfl) pe_int)
      (pss_cons (ps_for PassesOwn.never rfl (pi_list (pv 0)) (pg_name (i := 2) scSource.nd rfl (.inl rfl))
        (pss_one (ps_set (i := 1) scSource.nd rfl (.inl rfl) (pe_op op_mod (pe_callTy call_int1 (by rfl) T.int (by decide +kernel) (pa_cons (pe_op op_add (pe_op op_add (pe_op op_mul (pv 1) pe_int) (pe_op op_mul (pv 2) pe_int)) pe_int) pa_nil)) pe_int))))
      (pss_one (ps_ret (pe_disp (pps_cons pe_str (pe_revL (pe_lc (own := [("_law_cell", 2)]) (g := gName 2) (tt := tYes) (by rfl) scSource.nd (pi_list (pv 0))
            (blkOk_by (own := [("_law_cell", 2)]) (N := ["_law_script", "_law_mixed_here", "_law_cell"]) (sc := defScope sSource) (by decide +kernel)) (fun _ _ _ _ _ => pg_name (i := 2) scSource.nd rfl (.inl rfl)) (fun _ _ _ _ _ => pts_nil)
            (fun _ _ _ _ _ => pe_callB call_abs (by rfl) T.abs (by decide +kernel) (pa_cons (pv 2) pa_nil))))
          (pps_cons pe_str pe_int (pps_cons pe_str (pv 1) (pps_cons pe_str pe_int pps_nil)))) rfl rfl (by simp) (by simp))))), ?_⟩
    refine ⟨_, rfl, a, rfl, ⟨_, hS⟩, for_list (K := K) (a := a) (xs := ns.map V.int) (fun i σ H' => ∃ (m : Int) (v : Option V), σ = [some (.ref a), some (.int m), v] ∧ H' = H) ⟨11, none, rfl, rfl⟩ (fun i σ H' _ ⟨_, _, _, e⟩ => by rw [e]; exact hS) ?_ ?_⟩
    · rintro i y σ H' hi ⟨m, v, rfl, rfl⟩
      obtain ⟨z, rfl⟩ : ∃ z, y = V.int z := by
        obtain ⟨z, _, e⟩ := List.mem_map.mp (List.mem_of_getElem? hi)
        exact ⟨z, e.symm⟩
      refine ⟨_, rfl, _, _, rfl, rfl, .inr ⟨by decide, by decide⟩, _, rfl, _, _, rfl, rfl, .inr ⟨by decide, by decide⟩, _, _, rfl, rfl, _, _, rfl, rfl, .inl ⟨_, rfl, _, _, rfl, rfl, (by show (0 : Int) < 2147483629; decide), ?_⟩⟩
      exact ⟨_, _, rfl, rfl⟩
    · rintro σ H' ⟨m, v, rfl, rfl⟩
      intro d hd
      have s1 : Same H' (upd H' d (.dK [])) := same_new hd
      refine ⟨_, rfl, a, rfl, ⟨_, s1.seq hS⟩, fun D hD => lc_list (K := K) (a := a) (xs := ns.map V.int) (fun i H2 => Same (upd H' d (.dK [])) H2 ∧ H2 D = some (.lst (((ns.take i).map fun z => if z < 0 then -z else z).map V.int)))
        ⟨same_new hD, upd_same⟩ (fun i H2 _ h => (s1.trans h.1).seq hS) ?_ ?_⟩
      · rintro i y H2 hi ⟨s2, eD⟩
        obtain ⟨z, hz, rfl⟩ : ∃ z, ns[i]? = some z ∧ y = V.int z := by
          rw [List.getElem?_map] at hi
          cases e : ns[i]? with
          | none =>
            rw [e] at hi
            cases hi
          | some z =>
            rw [e] at hi
            exact ⟨z, rfl, (Option.some.inj hi).symm⟩
        have hil : i < ns.length := (List.getElem?_eq_some_iff.mp hz).1
        refine ⟨rfl, ?_⟩
        refine lc_yes ?_
        refine ⟨_, rfl, _, rfl, _, eD, ?_, fun b o e => ?_, ?_⟩
        · rw [List.length_map, List.length_map, List.length_take]
          exact small1000 (by omega)
        · rw [upd_ne (ne_of_none e hD)]
          exact s2 b o e
        · rw [upd_same, List.take_add_one, hz, List.map_append, List.map_append]
          rfl
      · rintro H2 ⟨s2, eD⟩
        refine ⟨D, _, rfl, .inl (.inl eD), fun p hp => ?_⟩
        have npD : p ≠ D := fun e => by
          rw [e, eD] at hp
          cases hp
        have ed : H2 d = some (.dK []) := s2 _ _ upd_same
        have npd : d ≠ p := fun e => by
          rw [← e, ed] at hp
          cases hp
        refine ⟨_, rfl, ?_, srcKV p 1 m 0, rfl, (by show 4 ≤ 15; decide), ?_⟩
        · rw [upd_ne npd]
          exact ed
        · rw [src_new]
          refine k d p _ (fun b o e => ?_) hd ((s1.trans s2).free hp) ⟨ns.length, hlen, npd, (ns.map fun z => if z < 0 then -z else z).reverse, 1, m, 0, upd_same, ?_, ?_⟩
          · have nb : b ≠ d := ne_of_none e hd
            rw [upd_ne nb]
            have e2 := s2 _ _ (s1 _ _ e)
            rw [upd_ne (ne_of_none e2 hp)]
            exact e2
          · rw [upd_ne npd.symm, upd_same, List.map_reverse, List.length_map, List.take_length]
          · rw [List.length_reverse, List.length_map]
theorem ok_pick {f : Addr} {fd : FuncData} (F : Fun K "_law_pick" "_law_pick" sPick f fd) (T : Blt mg) : FnOk P w K mg base CX0 1 f fd ["_law_source_here", "_law_many"] spPick := by
  refine F.ok scPick (fun vs H Q E h => ?_) (fun cdv A outer s H vs Q E hr h => ?_)
  · obtain ⟨d, c, many, rfl, _⟩ := h
    rfl
  · obtain ⟨d, c, many, rfl, ⟨n, hn, S⟩, hm0, hm1, k⟩ := h
    have hu := hu_of hr
    refine ⟨_, pss_cons (ps_while PassesOwn.never (PW.pt (pw_and (pt_cmpR op_gt (pv 1) pe_int (nomark _)) (pw_and (pt_cmpR op_lt (pe_dget hu (pv 0) pe_str (fun _ _ => rfl)) pe_int (nomark _))
          (pw_and1 (pt_cmpR op_gt (pe_callB call_len (by rfl) T.len (by decide +kernel) (pa_cons (pe_dget hu (pv 0) pe_str (fun _ _ => rfl)) pa_nil)) pe_int (nomark _))))))
        (pss_one (ps_dput hu (pv 0) pe_str (pe_bm0 PySem.F.plainAttrs_list PySem.F.slot_list_pop PySem.F.type_list_pop mt_pop (pe_dget hu (pv 0) pe_str (fun _ _ => rfl))) rfl)))
      (pss_cons (ps_set (i := 2) scPick.nd rfl (.inl rfl) (pe_dget hu (pv 0) pe_str (fun _ _ => rfl)))
      (pss_cons (ps_if (PW.pt (pw_or (pt_cmpR op_lt (pv 1) pe_int (nomark _)) (pw_or1 (pt_cmpR op_gt (pv 2) pe_int (nomark _)))))
        (pss_cons (ps_dput hu (pv 0) pe_str (pe_op op_fdiv (pv 2) (pe_callB (call_max2 rfl) (by rfl) T.max (by decide +kernel) (pa_cons pe_int (pa_cons (pv 1) pa_nil)))) rfl)
          (pss_one (ps_ret (pe_op op_mod (pe_callTy call_int1 (by rfl) T.int (by decide +kernel) (pa_cons (pv 2) pa_nil)) (pe_callB (call_max2 rfl) (by rfl) T.max (by decide +kernel) (pa_cons pe_int (pa_cons (pv 1) pa_nil)))))))
        pss_nil)
      (pss_cons (ps_dput hu (pv 0) pe_str (pe_op op_add (pe_dget hu (pv 0) pe_str (fun _ _ => rfl)) pe_int) rfl)
      (pss_cons (ps_set (i := 3) scPick.nd rfl (.inl rfl) (pe_op op_mod (pe_callTy call_int1 (by rfl) T.int (by decide +kernel) (pa_cons (pe_op op_add (pe_dget hu (pv 0) pe_str (fun _ _ => rfl)) (pe_op op_mul (pe_dget hu (pv 0) pe_str (fun _ _ => rfl)) pe_int)) pa_nil)) pe_int))
      (pss_cons (ps_set (i := 3) scPick.nd rfl (.inl rfl) (pe_op op_mod (pe_callTy call_int1 (by rfl) T.int (by decide +kernel) (pa_cons (pe_op op_add (pe_op op_mul (pv 3) (pv 3)) (pe_op op_mul (pe_dget hu (pv 0) pe_str (fun _ _ => rfl)) pe_int)) pa_nil)) pe_int))
      (pss_cons (ps_dput hu (pv 0) pe_str (pv 3) rfl)
      (pss_one (ps_ret (pe_op op_mod (pe_callTy call_int1 (by rfl) T.int (by decide +kernel) (pa_cons (pe_op op_fdiv (pv 3) pe_int) pa_nil)) (pv 1)))))))))), ?_⟩
    refine while_of (fun m σ H1 => σ = [some (.ref d), some (.int many), none, none] ∧ SrcN H1 d c m ∧ m ≤ 100 ∧ Else d c H H1) ⟨n, rfl, S, hn, Else.refl⟩ ?_ ?_
    · rintro m σ H1 ⟨rfl, ⟨ne, cells, l, mx, t, hd, hc, hl⟩, hm, hE⟩
      have small : ∀ c l m t, (srcKV c l m t).length < sizeLine := fun _ _ _ _ => small1000 (show 4 ≤ 1000 by decide)
      have again : ∀ l' mx' t', SrcAt (upd H1 d (.dK (srcKV c l' mx' t'))) d c := fun l' mx' t' => ⟨m, hm, ne, cells, l', mx', t', upd_same, by rw [upd_ne ne.symm]; exact hc, hl⟩
      have hmax : (if many > 1 then many else 1) = max 1 many := by omega
      -- left
      refine ⟨_, rfl, d, _, rfl, DGet.k (k := Sum.inr "left") hd, ?_⟩
      -- many < 2 or left > 1
      have early : (2 : Int) > many ∨ l > 1 → (sDPut (tVar 0) (tC (V.str "left")) (tOp (rI CDiv fun i j => V.int (i / j)) (tVar 2) (tCB (fun xs H Q => ∃ i j, xs = [V.int i, V.int j] ∧ Q (V.int (if j > i then j else i)) H) (tCons (tC (V.int 1)) (tCons (tVar 1) tNil)))))
          { nx := fun σ H => (tRet (tOp (rI (fun x j => 0 < j) fun i j => V.int (i % j)) (tCB (fun xs H Q => (∃ i, xs = [V.int i] ∧ Q (V.int i) H) ∨ ∃ k, xs = [V.bl k] ∧ Q (V.int (if k = true then 1 else 0)) H) (tCons (tVar 2) tNil))
              (tCB (fun xs H Q => ∃ i j, xs = [V.int i, V.int j] ∧ Q (V.int (if j > i then j else i)) H) (tCons (tC (V.int 1)) (tCons (tVar 1) tNil))))) { nx := fun _ H' => Q .non H', rt := Q } σ H, rt := Q }
          [some (.ref d), some (.int many), some (.int l), none] H1 := by
        intro _
        refine ⟨_, rfl, _, rfl, 1, many, rfl, _, _, rfl, rfl, ⟨by omega, by omega⟩, ?_⟩
        refine ⟨_, rfl, d, _, rfl, DPut.k (k := Sum.inr "left") hd (small _ _ _ _), ?_⟩
        rw [put_left]
        refine ⟨_, rfl, .inl ⟨_, rfl, _, rfl, 1, many, rfl, _, _, rfl, rfl, (by rw [hmax]; omega), ?_⟩⟩
        rw [hmax]
        exact k _ _ (Int.emod_nonneg _ (by omega)) (Int.emod_lt_of_pos _ (by omega)) (again _ _ _) (hE.trans Else.updD)
      refine ⟨_, rfl, _, _, rfl, rfl, _, rfl, ?_⟩
      refine ite2 (fun h => ?_) (fun h1 => ?_)
      · exact early (.inl (of_decide_eq_true h))
      · refine ⟨_, rfl, _, _, rfl, rfl, _, rfl, ?_⟩
        refine ite2 (fun h => ?_) (fun h2 => ?_)
        · exact early (.inr (of_decide_eq_true h))
        · have g1 : ¬ many < 2 := fun z => h1 (decide_eq_true z)
          -- turn
          refine ⟨_, rfl, d, _, rfl, DGet.k (k := Sum.inr "turn") hd, _, _, rfl, rfl, _, rfl, d, _, rfl, DPut.k (k := Sum.inr "turn") hd (small _ _ _ _), ?_⟩
          rw [put_turn]
          have hd2 : (upd H1 d (.dK (srcKV c l mx (t + 1)))) d = some (.dK (srcKV c l mx (t + 1))) := upd_same
          -- mixed
          refine ⟨_, rfl, d, _, rfl, DGet.k (k := Sum.inr "mixed") hd2, _, rfl, d, _, rfl, DGet.k (k := Sum.inr "turn") hd2, _, _, rfl, rfl, .inr ⟨by decide, by decide⟩, _, _, rfl, rfl, .inl ⟨_, rfl, _, _, rfl, rfl, (by show (0 : Int) < 998244353; decide), ?_⟩⟩
          -- mixed again
          refine ⟨_, rfl, _, rfl, _, _, rfl, rfl, .inl ⟨?_, ?_⟩, _, rfl, d, _, rfl, DGet.k (k := Sum.inr "turn") hd2, _, _, rfl, rfl, .inr ⟨by decide, by decide⟩, _, _, rfl, rfl, .inl ⟨_, rfl, _, _, rfl, rfl, (by show (0 : Int) < 2147483647; decide), ?_⟩⟩
          · omega
          · omega
          refine ⟨_, rfl, _, rfl, d, _, rfl, DPut.k (k := Sum.inr "mixed") hd2 (small _ _ _ _), ?_⟩
          rw [put_mixed, upd_upd]
          refine ⟨_, rfl, _, _, rfl, rfl, ⟨by decide, by decide⟩, .inl ⟨_, rfl, _, rfl, _, _, rfl, rfl, (by show (0 : Int) < many; omega), ?_⟩⟩
          exact k _ _ (Int.emod_nonneg _ (by omega)) (by have := Int.emod_lt_of_pos (((((mx + (t + 1) * 104729) % 998244353) * ((mx + (t + 1) * 104729) % 998244353) + (t + 1) * 17) % 2147483647) / 16) (show (0 : Int) < many by omega); omega) (again _ _ _) (hE.trans Else.updD)
    · rintro m σ H1 ⟨rfl, ⟨ne, cells, l, mx, t, hd, hc, hl⟩, hm, hE⟩ fin
      -- many > 1
      refine ⟨_, rfl, _, _, rfl, rfl, _, rfl, ?_⟩
      refine ite2 (fun _ => ?_) (fun _ => fin)
      -- left < 2
      refine ⟨_, rfl, d, _, rfl, DGet.k (k := Sum.inr "left") hd, _, _, rfl, rfl, _, rfl, ?_⟩
      refine ite2 (fun _ => ?_) (fun _ => fin)
      -- len(cells) > 0
      refine ⟨_, rfl, d, _, rfl, DGet.k (k := Sum.inr "cells") hd, _, cells.length, rfl, .inl ⟨_, .inl (.inl hc), (by rw [List.length_map])⟩, _, _, rfl, rfl, _, rfl, ?_⟩
      refine ite2 (fun hpos => ?_) (fun _ => fin)
      have hp : (0 : Int) < (cells.length : Int) := of_decide_eq_true hpos
      obtain ⟨x, hx⟩ : ∃ x, cells.getLast? = some x := by
        cases cells with
        | nil => exact absurd hp (by decide)
        | cons a r => exact ⟨_, List.getLast?_eq_some_getLast (by simp)⟩
      refine ⟨fun σ' H' => σ' = [some (.ref d), some (.int many), none, none] ∧ SrcN H' d c (m - 1) ∧ m - 1 ≤ 100 ∧ Else d c H H', fun σ' H' h => ⟨m - 1, by omega, h⟩, ?_⟩
      refine ⟨_, rfl, d, _, rfl, DGet.k (k := Sum.inr "cells") hd, .inl ⟨rfl, _, .inl (.inl hc)⟩, c, _, _, rfl, rfl, hc, pop_last hx, ?_⟩
      have hd3 : (upd H1 c (.lst (cells.map V.int).dropLast)) d = some (.dK (srcKV c l mx t)) := by
        rw [upd_ne ne]
        exact hd
      refine ⟨_, rfl, d, _, rfl, DPut.k (k := Sum.inr "left") hd3 (small1000 (show 4 ≤ 1000 by decide)), ?_⟩
      refine ⟨rfl, ⟨ne, cells.dropLast, x, mx, t, ?_, ?_, ?_⟩, by omega, (hE.trans Else.updC).trans Else.updD⟩
      · rw [upd_same, put_left]
      · rw [upd_ne ne.symm, upd_same, List.map_dropLast]
      · rw [List.length_dropLast, hl]
end
end Bc

namespace Bc
open PySem PySem.Spec PyProof.Rows L2
theorem scRun : FnScope ["text", "place", "letters"] ["text", "place", "letters"] (defScope sRun) := ⟨rfl, rfl, rfl, by decide +kernel, rfl, by decide +kernel, by decide +kernel⟩
theorem scLexAt : FnScope ["text", "place", "first", "end"] ["text", "place"] (defScope sLexAt) := ⟨rfl, rfl, rfl, by decide +kernel, rfl, by decide +kernel, by decide +kernel⟩
theorem scScan : FnScope ["text", "found", "place", "sort", "end"] ["text"] (defScope sScan) := ⟨rfl, rfl, rfl, by decide +kernel, rfl, by decide +kernel, by decide +kernel⟩
/-- the module's constants -/
structure Cts (mg : Str → Option Value) : Prop where
  le : ∃ t, mg "LETTERS" = some (.str sLetters t)
  di : ∃ t, mg "DIGITS" = some (.str sDigits t)
  si : ∃ t, mg "SIGNS" = some (.str sSigns t)
  bl : ∃ t, mg "BLANKS" = some (.str sBlanks t)
  lo : ∃ t, mg "LONGEST" = some (.int 12 t)
theorem pe_cstr {X : Cx} {x z : Str} {pos : Pos} (hg : Gl X x) (hm : ∃ t, X.mg x = some (.str z t)) (hd : (x == ("__debug__" : Str)) = false := by decide) : PE X (.Name x pos) (tC (.str z)) := by
  obtain ⟨t, hm⟩ := hm
  exact pe_glob (v := .str z) hg hm ⟨t, rfl⟩ hd
theorem pe_cint {X : Cx} {x : Str} {z : Int} {pos : Pos} (hg : Gl X x) (hm : ∃ t, X.mg x = some (.int z t)) (hd : (x == ("__debug__" : Str)) = false := by decide) : PE X (.Name x pos) (tC (.int z)) := by
  obtain ⟨t, hm⟩ := hm
  exact pe_glob (v := .int z) hg hm ⟨t, rfl⟩ hd
/-- how far a run goes -/
def runTo (z ls : Str) (p : Nat) : Nat := p + (((codes z).drop p).takeWhile (inS ls)).length
theorem drop_at {z : Str} {p : Nat} (h : p < z.length) : ∃ c, (codes z)[p]? = some c ∧ (codes z).drop p = c :: (codes z).drop (p + 1) := by
  have hl : p < (codes z).length := by
    show p < z.cps.toList.length
    rw [Array.length_toList]
    exact h
  exact ⟨(codes z)[p], List.getElem?_eq_getElem hl, List.drop_eq_getElem_cons hl⟩
theorem runTo_on {z ls : Str} {p c : Nat} (e : (codes z).drop p = c :: (codes z).drop (p + 1)) (h : inS ls c = true) : runTo z ls p = runTo z ls (p + 1) := by
  unfold runTo
  rw [e, List.takeWhile_cons, if_pos h, List.length_cons]
  omega
theorem runTo_off {z ls : Str} {p c : Nat} (e : (codes z).drop p = c :: (codes z).drop (p + 1)) (h : ¬ inS ls c = true) : runTo z ls p = p := by
  unfold runTo
  rw [e, List.takeWhile_cons, if_neg h]
  rfl
theorem runTo_end {z ls : Str} {p : Nat} (h : z.length ≤ p) : runTo z ls p = p := by
  unfold runTo
  rw [List.drop_eq_nil_of_le (by show z.cps.toList.length ≤ p; rw [Array.length_toList]; exact h)]
  rfl
theorem runTo_le {z ls : Str} {p : Nat} (h : p ≤ z.length) : runTo z ls p ≤ z.length := by
  have q := (List.takeWhile_sublist (inS ls) (l := (codes z).drop p)).length_le
  rw [List.length_drop] at q
  have e : (codes z).length = z.length := Array.length_toList
  unfold runTo
  omega
def spRun : Sp := fun vs H Q _ => ∃ (z ls : Str) (p : Nat), vs = [.str z, .int p, .str ls] ∧ p ≤ z.length ∧ z.length ≤ 20000 ∧ Q (.int (runTo z ls p : Nat)) H
theorem sz20 {n : Nat} (h : n ≤ 20000) : n ≤ sizeLine := Nat.le_trans h (by decide)
section
variable {P : Program} {w : World} {K : PySem.W.Frag} {mg : Str → Option Value} {base : Heap}
theorem ok_run {f : Addr} {fd : FuncData} (F : Fun K "run_end" "run_end" sRun f fd) (T : Blt mg) : FnOk P w K mg base CX0 1 f fd ["text", "place", "letters"] spRun := by
  refine F.ok scRun (fun vs H Q E h => ?_) (fun cdv A outer s H vs Q E hr h => ?_)
  · obtain ⟨z, ls, p, rfl, _⟩ := h
    rfl
  · obtain ⟨z, ls, p, rfl, hp, hz, k⟩ := h
    refine ⟨_, pss_cons (ps_while PassesOwn.never (PW.pt (pw_and (pt_cmpR op_lt (pv 1) (pe_callB call_len (by rfl) T.len (by decide +kernel) (pa_cons (pv 0) pa_nil)) (nomark _))
        (pw_and1 (pt_cmpR op_in_sign (pe_ix ix_str (pv 0) (pv 1) (fun _ _ => rfl)) (pv 2) (by rfl))))) (pss_one (ps_aug (i := 1) scRun.nd rfl (.inl rfl) pe_int ip_add)))
      (pss_one (ps_ret (pv 1))), ?_⟩
    refine while_ex (fun m σ H1 => H1 = H ∧ ∃ q : Nat, σ = [some (.str z), some (.int q), some (.str ls)] ∧ q ≤ z.length ∧ m = z.length - q ∧ runTo z ls q = runTo z ls p)
      (fun σ H1 => H1 = H ∧ σ = [some (.str z), some (.int (runTo z ls p : Nat)), some (.str ls)]) ⟨_, rfl, p, rfl, hp, rfl, rfl⟩ ?_ ?_
    · rintro σ H1 ⟨rfl, rfl⟩
      exact ⟨_, rfl, k⟩
    · rintro m σ H1 ⟨rfl, q, rfl, hq, hm, he⟩ fin
      refine ⟨_, rfl, _, rfl, .str z, z.length, rfl, ⟨sz20 hz, rfl⟩, _, _, rfl, rfl, _, rfl, ?_⟩
      refine ite2 (fun h1 => ?_) (fun h1 => fin _ _ ⟨rfl, ?_⟩)
      · have hq1 : q < z.length := by
          have := of_decide_eq_true h1
          omega
        obtain ⟨c, hc, hd⟩ := drop_at hq1
        refine ⟨_, rfl, _, rfl, z, _, c, rfl, rfl, sz20 hz, atI_nat hc, _, rfl, c, ls, rfl, rfl, _, rfl, ?_⟩
        refine ite2 (fun h2 => ?_) (fun h2 => fin _ _ ⟨rfl, ?_⟩)
        · refine ⟨fun σ' H' => H' = H1 ∧ ∃ q' : Nat, σ' = [some (.str z), some (.int q'), some (.str ls)] ∧ q' ≤ z.length ∧ m - 1 = z.length - q' ∧ runTo z ls q' = runTo z ls p, fun σ' H' h => ⟨m - 1, by omega, h⟩, ?_⟩
          exact ⟨_, rfl, _, _, rfl, rfl, rfl, q + 1, rfl, by omega, by omega, (runTo_on hd h2).symm.trans he⟩
        · rw [← he, runTo_off hd h2]
      · have hq1 : z.length ≤ q := by
          have : ¬ ((q : Int) < (z.length : Int)) := fun y => h1 (decide_eq_true y)
          omega
        rw [← he, runTo_end hq1]
/-- the lexeme at a place, as values -/
def tokV (z : Str) (i : Nat) : List V := match tokS ((codes z).drop i) with
  | none => [.non, .int i]
  | some (k, m) => [.str k, .int (i + m : Nat)]
def spLexAt (K : PySem.W.Frag) : Sp := fun vs H Q _ => ∃ (z : Str) (i : Nat), vs = [.str z, .int i] ∧ i < z.length ∧ z.length ≤ 20000 ∧ ∀ q, H q = none → Q (.ref q) (upd H q (.tup (tokV z i)))
theorem run_len {z ls : Str} {p : Nat} : runTo z ls p = p + (((codes z).drop p).takeWhile (inS ls)).length := rfl
theorem dec_zero {c : Nat} : decide (V.str ⟨#[c]⟩ = V.str "0") = decide (c = 48) := by
  refine decide_eq_decide.mpr ⟨fun h => ?_, fun h => by rw [h]; rfl⟩
  have e := V.str.inj h
  have e2 : ([c] : List Nat) = [48] := congrArg (fun z : Str => z.cps.toList) e
  exact (List.cons.inj e2).1
theorem ok_lexAt {f fR : Addr} {fd fdR : FuncData} (F : Fun K "lexeme_at" "lexeme_at" sLexAt f fd) (T : Cts mg) (GR : FnOk P w K mg base CX0 1 fR fdR ["text", "place", "letters"] spRun) (bR : Binds K fdR ["text", "place", "letters"] [])
    (gR : mg "run_end" = some (.ref fR)) (kR : PySem.W.keepIn K (.ref fR) = true) : FnOk P w K mg base CX0 2 f fd ["text", "place"] (spLexAt K) := by
  refine F.ok scLexAt (fun vs H Q E h => ?_) (fun cdv A outer s H vs Q E hr h => ?_)
  · obtain ⟨z, i, rfl, _⟩ := h
    rfl
  · obtain ⟨z, i, rfl, hi, hz, k⟩ := h
    obtain ⟨c, hc, hd⟩ := drop_at hi
    have two : 2 ≤ sizeLine := by decide
    have res : ∀ {vs : List V} {H1 : Hp}, H1 = H → vs = tokV z i → vs.length ≤ sizeLine ∧ ∀ p, H1 p = none → Q (.ref p) (upd H1 p (.tup vs)) := fun {vs H1} e1 e2 => by
      subst e1 e2
      refine ⟨?_, fun p hp => k p hp⟩
      unfold tokV
      split <;> exact two
    refine ⟨_, pss_cons (ps_set (i := 2) scLexAt.nd rfl (.inl rfl) (pe_ix ix_str (pv 0) (pv 1) (fun _ _ => rfl)))
      (pss_cons (ps_if (pt_cmpR op_in_sign (pv 2) (pe_cstr (by rfl) T.si) (by rfl)) (pss_one (ps_ret (pe_tup (pa_cons pe_str (pa_cons (pe_op op_add (pv 1) pe_int) pa_nil))))) pss_nil)
      (pss_cons (ps_if (pt_cmpR op_in_sign (pv 2) (pe_cstr (by rfl) T.le) (by rfl))
        (pss_cons (ps_set (i := 3) scLexAt.nd rfl (.inl rfl) (pe_call GR hr (by rfl) gR kR bR .nil pass0 (pa_cons (pv 0) (pa_cons (pv 1) (pa_cons (pe_op op_add_str (pe_cstr (by rfl) T.le) (pe_cstr (by rfl) T.di)) pa_nil)))))
        (pss_one (ps_ret (pe_ifExp (pt_cmpR op_le (pe_op op_sub (pv 3) (pv 1)) (pe_cint (by rfl) T.lo) (nomark _)) (pe_tup (pa_cons pe_str (pa_cons (pv 3) pa_nil))) (pe_tup (pa_cons pe_non (pa_cons (pv 1) pa_nil))))))) pss_nil)
      (pss_cons (ps_if (pt_cmpR op_eq (pv 2) pe_str (nomark _)) (pss_one (ps_ret (pe_tup (pa_cons pe_str (pa_cons (pe_op op_add (pv 1) pe_int) pa_nil))))) pss_nil)
      (pss_cons (ps_if (pt_cmpR op_in_sign (pv 2) (pe_cstr (by rfl) T.di) (by rfl)) (pss_one (ps_ret (pe_tup (pa_cons pe_str (pa_cons (pe_call GR hr (by rfl) gR kR bR .nil pass0 (pa_cons (pv 0) (pa_cons (pv 1) (pa_cons (pe_cstr (by rfl) T.di) pa_nil)))) pa_nil))))) pss_nil)
      (pss_one (ps_ret (pe_tup (pa_cons pe_non (pa_cons (pv 1) pa_nil))))))))), ?_⟩
    refine ⟨_, rfl, _, rfl, z, _, c, rfl, rfl, sz20 hz, atI_nat hc, ?_⟩
    have tk := tokS_cons c ((codes z).drop (i + 1))
    rw [← hd] at tk
    -- in SIGNS
    refine ⟨_, rfl, c, sSigns, rfl, rfl, _, rfl, ?_⟩
    refine ite2 (fun h1 => ?_) (fun h1 => ?_)
    · have h1' : inS sSigns c = true := h1
      rw [if_pos h1'] at tk
      refine ⟨_, rfl, _, _, rfl, rfl, res rfl ?_⟩
      unfold tokV
      rw [tk]
      rfl
    have h1' : ¬ inS sSigns c = true := h1
    rw [if_neg h1'] at tk
    -- in LETTERS
    refine ⟨_, rfl, c, sLetters, rfl, rfl, _, rfl, ?_⟩
    refine ite2 (fun h2 => ?_) (fun h2 => ?_)
    · have h2' : inS sLetters c = true := h2
      rw [if_pos h2'] at tk
      refine ⟨_, rfl, _, rfl, _, _, rfl, rfl, (by decide +kernel), z, sLetters ++ sDigits, i, rfl, by omega, hz, ?_⟩
      refine ⟨_, rfl, _, rfl, _, _, rfl, rfl, _, _, rfl, rfl, _, rfl, ?_⟩
      have hl : runTo z (sLetters ++ sDigits) i = i + (((codes z).drop i).takeWhile alnum).length := rfl
      refine ite2 (fun h3 => ?_) (fun h3 => ?_)
      · have h3' : (((codes z).drop i).takeWhile alnum).length ≤ 12 := by
          have := of_decide_eq_true h3
          omega
        rw [if_pos h3'] at tk
        refine ⟨_, rfl, res rfl ?_⟩
        unfold tokV
        rw [tk]
        rfl
      · have h3' : ¬ (((codes z).drop i).takeWhile alnum).length ≤ 12 := fun y => h3 (decide_eq_true (by omega))
        rw [if_neg h3'] at tk
        refine ⟨_, rfl, res rfl ?_⟩
        unfold tokV
        rw [tk]
    have h2' : ¬ inS sLetters c = true := h2
    rw [if_neg h2'] at tk
    -- == "0"
    refine ⟨_, rfl, rfl, _, rfl, ?_⟩
    rw [dec_zero]
    refine ite2 (fun h3 => ?_) (fun h3 => ?_)
    · rw [if_pos (of_decide_eq_true h3)] at tk
      refine ⟨_, rfl, _, _, rfl, rfl, res rfl ?_⟩
      unfold tokV
      rw [tk]
      rfl
    rw [if_neg (fun y => h3 (decide_eq_true y))] at tk
    -- in DIGITS
    refine ⟨_, rfl, c, sDigits, rfl, rfl, _, rfl, ?_⟩
    refine ite2 (fun h4 => ?_) (fun h4 => ?_)
    · have h4' : inS sDigits c = true := h4
      rw [if_pos h4'] at tk
      refine ⟨_, rfl, _, rfl, z, sDigits, i, rfl, by omega, hz, res rfl ?_⟩
      unfold tokV
      rw [tk]
      rfl
    have h4' : ¬ inS sDigits c = true := h4
    rw [if_neg h4'] at tk
    refine ⟨_, rfl, res rfl ?_⟩
    unfold tokV
    rw [tk]
end
end Bc

namespace Bc
open PySem PySem.Spec PyProof.Rows L2
theorem iteD {c A B : Prop} [Decidable c] (hc : c) (h : A) : if decide c = true then A else B := by
  rw [decide_eq_true hc]
  exact iteT h
/-- a lexeme as data -/
def tokD (t : Tok) : PyData := .tuple [.str t.1, .str ⟨t.2.1.toArray⟩, .int t.2.2]
def wrongV (z : Str) : V := match (Lx (codes z) 0).2 with
  | none => .non
  | some j => .int j
theorem DqAll.snoc {K : PySem.W.Frag} {H : Hp} : ∀ {vs : List V} {ds : List PyData} {v : V} {d : PyData}, DqAll K H vs ds → Dq K H v d → DqAll K H (vs ++ [v]) (ds ++ [d])
  | _, _, _, _, .nil, h => .cons h .nil
  | _, _, _, _, .cons a t, h => .cons a (DqAll.snoc t h)
theorem cut_tok {z : Str} {i m : Nat} (h : i + m ≤ z.length) : cutS z (some (i : Int)) (some ((i + m : Nat) : Int)) = ⟨(((codes z).drop i).take m).toArray⟩ := by
  unfold cutS
  rw [HT.sIx_nat, HT.sIx_nat, Nat.min_eq_left h, Nat.min_eq_left (show i ≤ z.length by omega), Nat.add_sub_cancel_left]
  rfl
def spScan (K : PySem.W.Frag) : Sp := fun vs H Q _ => ∃ z : Str, vs = [.str z] ∧ z.length ≤ 20000 ∧ ∀ (q l : Addr) (H' : Hp) (ws : List V), Same H H' → H l = none → l ≠ sysModules → SqT K H' q [.ref l, wrongV z] → H' l = some (.lst ws) →
  DqAll K (hid l l H') ws ((Lx (codes z) 0).1.map tokD) → Q (.ref q) H'
theorem hid1_same {f : Addr} {H H' : Hp} (h : ∀ b o, b ≠ f → H b = some o → H' b = some o) : Same (hid f f H) (hid f f H') := fun b o e => by
  unfold hid at e ⊢
  by_cases q : b = f ∨ b = f
  · rw [if_pos q] at e
    cases e
  · rw [if_neg q] at e ⊢
    exact h b o (fun z => q (.inl z)) e
theorem Same.over {H H1 : Hp} {f : Addr} {o : HO} (s : Same H H1) (n : H f = none) : Same H (upd H1 f o) := fun b u e => by
  rw [upd_ne (ne_of_none e n)]
  exact s b u e
section
variable {P : Program} {w : World} {K : PySem.W.Frag} {mg : Str → Option Value} {base : Heap}
theorem ok_scan {f fL : Addr} {fd fdL : FuncData} (F : Fun K "scan" "scan" sScan f fd) (B : Blt mg) (T : Cts mg) (GL : FnOk P w K mg base CX0 2 fL fdL ["text", "place"] (spLexAt K)) (bL : Binds K fdL ["text", "place"] [])
    (gL : mg "lexeme_at" = some (.ref fL)) (kL : PySem.W.keepIn K (.ref fL) = true) : FnOk P w K mg base CX0 3 f fd ["text"] (spScan K) := by
  refine F.ok scScan (fun vs H Q E h => ?_) (fun cdv A outer s H vs Q E hr h => ?_)
  · obtain ⟨z, rfl, _⟩ := h
    rfl
  · obtain ⟨z, rfl, hz, k⟩ := h
    refine ⟨_, pss_cons (ps_set (i := 1) scScan.nd rfl (.inl rfl) (pe_lstB pa_nil))
      (pss_cons (ps_set (i := 2) scScan.nd rfl (.inl rfl) pe_int)
      (pss_cons (ps_while PassesOwn.never (pt_cmpR op_lt (pv 2) (pe_callB call_len (by rfl) B.len (by decide +kernel) (pa_cons (pv 0) pa_nil)) (nomark _))
        (pss_one (ps_if (pt_cmpR op_in_sign (pe_ix ix_str (pv 0) (pv 2) (fun _ _ => rfl)) (pe_cstr (by rfl) T.bl) (by rfl)) (pss_one (ps_aug (i := 2) scScan.nd rfl (.inl rfl) pe_int ip_add))
          (pss_cons (ps_asg (pe_call GL hr (by rfl) gL kL bL .nil pass0 (pa_cons (pv 0) (pa_cons (pv 2) pa_nil))) (pg_tup rfl (pgs_cons (pg_name (i := 3) scScan.nd rfl (.inl rfl)) (pgs_cons (pg_name (i := 4) scScan.nd rfl (.inl rfl)) pgs_nil))))
          (pss_cons (ps_if (pt_cmpR op_isN (pv 3) pe_non (nomark _)) (pss_one (ps_ret (pe_tup (pa_cons (pv 1) (pa_cons (pv 2) pa_nil))))) pss_nil)
          (pss_cons (ps_expr (pe_bm PySem.F.plainAttrs_list PySem.F.slot_list_append PySem.F.type_list_append mt_append (pv 1) (pa_cons (pe_tup (pa_cons (pv 3) (pa_cons (pe_slice sl_str (pv 0) (po_some (pv 2)) (po_some (pv 4))) (pa_cons (pv 2) pa_nil)))) pa_nil)))
          (pss_one (ps_set (i := 2) scScan.nd rfl (.inl rfl) (pv 4)))))))))
      (pss_one (ps_ret (pe_tup (pa_cons (pv 1) (pa_cons pe_non pa_nil))))))), ?_⟩
    refine ⟨Nat.zero_le _, fun g hg gs => ?_⟩
    refine while_ex (fun m σ H1 => ∃ (i : Nat) (vs : List V) (done : List Tok) (v3 v4 : Option V), σ = [some (.str z), some (.ref g), some (.int i), v3, v4] ∧ i ≤ z.length ∧ m = z.length - i ∧ H1 g = some (.lst vs) ∧ DqAll K (hid g g H1) vs (done.map tokD) ∧ Same H H1 ∧ done.length ≤ i ∧
        done ++ (Lx ((codes z).drop i) i).1 = (Lx (codes z) 0).1 ∧ (Lx ((codes z).drop i) i).2 = (Lx (codes z) 0).2)
      (fun σ H1 => ∃ (v2 : V) (vs : List V) (v3 v4 : Option V), σ = [some (.str z), some (.ref g), some v2, v3, v4] ∧ H1 g = some (.lst vs) ∧ DqAll K (hid g g H1) vs ((Lx (codes z) 0).1.map tokD) ∧ Same H H1 ∧ (Lx (codes z) 0).2 = none)
      ⟨_, 0, [], [], none, none, rfl, Nat.zero_le _, rfl, upd_same, .nil, same_new hg, Nat.le_refl _, rfl, rfl⟩ ?_ ?_
    · rintro σ H1 ⟨v2, vs, v3, v4, rfl, eg, dq, sm, hw⟩
      refine ⟨_, rfl, (by show 2 ≤ sizeLine; decide), fun q hq => ?_⟩
      have nq : q ≠ g := fun e => by
        rw [e, eg] at hq
        cases hq
      refine k q g _ vs (sm.trans (same_new hq)) hg gs (.inl (.inl ?_)) (by rw [upd_ne nq.symm]; exact eg) (DqAll.same (hid_up (same_new hq)) dq)
      rw [upd_same]
      unfold wrongV
      rw [hw]
    · rintro m σ H1 ⟨i, vs, done, v3, v4, rfl, hi, hm, eg, dq, sm, hdl, e1, e2⟩ fin
      refine ⟨_, rfl, _, rfl, .str z, z.length, rfl, ⟨sz20 hz, rfl⟩, _, _, rfl, rfl, _, rfl, ?_⟩
      refine ite2 (fun h1 => ?_) (fun h1 => fin _ _ ?_)
      · have hi1 : i < z.length := by
          have := of_decide_eq_true h1
          omega
        obtain ⟨c, hc, hd⟩ := drop_at hi1
        refine ⟨fun σ' H' => ∃ m', m' < m ∧ ∃ (i : Nat) (vs : List V) (done : List Tok) (v3 v4 : Option V), σ' = [some (.str z), some (.ref g), some (.int i), v3, v4] ∧ i ≤ z.length ∧ m' = z.length - i ∧ H' g = some (.lst vs) ∧ DqAll K (hid g g H') vs (done.map tokD) ∧ Same H H' ∧ done.length ≤ i ∧
          done ++ (Lx ((codes z).drop i) i).1 = (Lx (codes z) 0).1 ∧ (Lx ((codes z).drop i) i).2 = (Lx (codes z) 0).2, fun σ' H' h => h, ?_⟩
        -- text[place] in BLANKS
        refine ⟨_, rfl, _, rfl, z, _, c, rfl, rfl, sz20 hz, atI_nat hc, c, sBlanks, rfl, rfl, _, rfl, ?_⟩
        refine ite2 (fun h2 => ?_) (fun h2 => ?_)
        · have h2' : inS sBlanks c = true := h2
          refine ⟨_, rfl, _, _, rfl, rfl, m - 1, by omega, i + 1, vs, done, v3, v4, rfl, by omega, by omega, eg, dq, sm, by omega, ?_, ?_⟩
          · rw [← e1, hd, Lx_blank h2']
          · rw [← e2, hd, Lx_blank h2']
        · have h2' : inS sBlanks c = false := by
            have q : ¬ inS sBlanks c = true := h2
            simpa using q
          refine ⟨_, rfl, _, rfl, z, i, rfl, hi1, hz, fun q hq => ?_⟩
          have nqg : q ≠ g := fun e => by
            rw [e, eg] at hq
            cases hq
          have sq : Same H1 (upd H1 q (.tup (tokV z i))) := same_new hq
          cases et : tokS ((codes z).drop i) with
          | none =>
            have ev : tokV z i = [.non, .int i] := by
              unfold tokV
              rw [et]
            rw [ev] at sq ⊢
            refine ⟨q, _, rfl, .inl (.inl upd_same), rfl, _, _, rfl, _, _, rfl, rfl, ?_⟩
            refine ⟨_, rfl, rfl, _, rfl, ?_⟩
            refine iteD rfl ?_
            have et' := et
            rw [hd] at et'
            have bad := Lx_bad (i := i) h2' et'
            rw [← hd] at bad
            rw [bad, List.append_nil] at e1
            rw [bad] at e2
            refine ⟨_, rfl, _, rfl, (by show 2 ≤ sizeLine; decide), fun p hp => ?_⟩
            have eg2 := sq _ _ eg
            have npg : p ≠ g := fun e => by
              rw [e, eg2] at hp
              cases hp
            refine k p g _ vs ((sm.trans sq).trans (same_new hp)) hg gs (.inl (.inl ?_)) (by rw [upd_ne npg.symm]; exact eg2) ?_
            · rw [upd_same]
              unfold wrongV
              rw [← e2]
            · rw [← e1]
              exact DqAll.same (hid_up (sq.trans (same_new hp))) dq
          | some km =>
            obtain ⟨kd, mm⟩ := km
            have ev : tokV z i = [.str kd, .int (i + mm : Nat)] := by
              unfold tokV
              rw [et]
            rw [ev] at sq ⊢
            have hpos := tok_pos et
            have hlen : i + mm ≤ z.length := by
              have e : (codes z).length = z.length := Array.length_toList
              have h3 := hpos.2
              rw [List.length_drop] at h3
              omega
            refine ⟨q, _, rfl, .inl (.inl upd_same), rfl, _, _, rfl, _, _, rfl, rfl, ?_⟩
            refine ⟨_, rfl, rfl, _, rfl, ?_⟩
            refine iteF ?_
            have et' := et
            rw [hd] at et'
            have good := Lx_tok (i := i) h2' et'
            rw [← hd] at good
            have eg2 := sq _ _ eg
            -- found.append((sort, text[place:end], place))
            refine ⟨_, rfl, .inl ⟨rfl, _, .inl (.inl eg2)⟩, _, rfl, _, rfl, _, rfl, _, rfl, _, rfl, _, rfl, z, rfl, sz20 hz, _, rfl, (by show 3 ≤ sizeLine; decide), fun t ht => ?_⟩
            have ngt : g ≠ t := ne_of_none eg2 ht
            refine ⟨g, _, _, rfl, rfl, (by rw [upd_ne ngt]; exact eg2), ?_, ?_⟩
            · rw [dq.len, List.length_map]
              exact Nat.lt_of_le_of_lt hdl (Nat.lt_of_lt_of_le hi1 (sz20 hz))
            · refine ⟨_, rfl, m - mm, by omega, i + mm, _, done ++ [(kd, ((codes z).drop i).take mm, i)], _, _, rfl, hlen, by omega, upd_same, ?_, Same.over ((sm.trans sq).trans (same_new ht)) hg, ?_, ?_, ?_⟩
              · rw [List.map_append]
                refine DqAll.snoc (DqAll.same (hid1_same fun b o nb e => ?_) dq) ?_
                · rw [upd_ne nb]
                  exact (sq.trans (same_new ht)) b o e
                · refine .tup (xs := [.str kd, .str (cutS z (some (i : Int)) (some ((i + mm : Nat) : Int))), .int i]) (.inl (.inl ?_)) (.cons (.str _) (.cons ?_ (.cons (.int _) .nil)))
                  · unfold hid
                    rw [if_neg (fun y => by rcases y with y | y <;> exact ngt y.symm), upd_ne ngt.symm, upd_same]
                  · rw [cut_tok hlen]
                    exact .str _
              · rw [List.length_append]
                show done.length + 1 ≤ i + mm
                omega
              · rw [← e1, good, List.append_assoc, List.drop_drop]
                rfl
              · rw [← e2, good, List.drop_drop]
      · have hi1 : z.length ≤ i := by
          have : ¬ ((i : Int) < (z.length : Int)) := fun y => h1 (decide_eq_true y)
          omega
        have nil : (codes z).drop i = [] := List.drop_eq_nil_of_le (by
          have e : (codes z).length = z.length := Array.length_toList
          omega)
        rw [nil, Lx_nil] at e1 e2
        rw [List.append_nil] at e1
        exact ⟨_, vs, v3, v4, rfl, eg, by rw [← e1]; exact dq, sm, e2.symm⟩
end
end Bc

namespace Bc
open PySem PySem.Spec PyProof.Rows L2
theorem if_known {c : Bool} {A B : Prop} (hc : c = true) (h : A) : if c = true then A else B := by
  rw [if_pos hc]
  exact h
theorem if_no {c : Bool} {A B : Prop} (hc : c = false) (h : B) : if c = true then A else B := by
  rw [hc, if_neg (by decide)]
  exact h
theorem scOf : FnScope ["_law_source_here", "_law_some"] ["_law_source_here", "_law_some"] (defScope sOf) := ⟨rfl, rfl, rfl, by decide +kernel, rfl, by decide +kernel, by decide +kernel⟩
def spOf (K : PySem.W.Frag) : Sp := fun vs H Q _ => ∃ (d c l : Addr) (xs : List V), vs = [.ref d, .ref l] ∧ SrcAt H d c ∧ SqL K (hid d c H) l xs ∧ 0 < xs.length ∧ xs.length ≤ 1000 ∧
  ∀ (v : V) (H' : Hp), v ∈ xs → SrcAt H' d c → Else d c H H' → Q v H'
section
variable {P : Program} {w : World} {K : PySem.W.Frag} {mg : Str → Option Value} {base : Heap}
theorem ok_of {f fP : Addr} {fd fdP : FuncData} (F : Fun K "_law_of" "_law_of" sOf f fd) (B : Blt mg) (GP : FnOk P w K mg base CX0 1 fP fdP ["_law_source_here", "_law_many"] spPick) (bP : Binds K fdP ["_law_source_here", "_law_many"] [])
    (gP : mg "_law_pick" = some (.ref fP)) (kP : PySem.W.keepIn K (.ref fP) = true) : FnOk P w K mg base CX0 2 f fd ["_law_source_here", "_law_some"] (spOf K) := by
  refine F.ok scOf (fun vs H Q E h => ?_) (fun cdv A outer s H vs Q E hr h => ?_)
  · obtain ⟨d, c, l, xs, rfl, _⟩ := h
    rfl
  · obtain ⟨d, c, l, xs, rfl, src, hl, h0, h1, k⟩ := h
    refine ⟨_, pss_one (ps_ret (pe_ix ix_list (pv 1) (pe_call GP hr (by rfl) gP kP bP .nil pass0 (pa_cons (pv 0) (pa_cons (pe_callB call_len (by rfl) B.len (by decide +kernel) (pa_cons (pv 1) pa_nil)) pa_nil))) (fun _ _ => rfl))), ?_⟩
    refine ⟨_, rfl, _, rfl, _, rfl, _, xs.length, rfl, .inl ⟨xs, hid_all.seq hl, rfl⟩, d, c, xs.length, rfl, src, by omega, by omega, fun r H' r0 r1 src' el => ?_⟩
    have hr2 : r.toNat < xs.length := by omega
    refine ⟨l, xs, r, xs[r.toNat], rfl, rfl, ?_, at_of (by omega) (List.getElem?_eq_getElem hr2), k _ H' (List.getElem_mem hr2) src' el⟩
    have e := hid_else el
    exact hid_all.seq (e ▸ hl)
end
theorem scSpaced : FnScope ["_law_source_here", "_law_signs", "_law_text", "_law_last", "_law_one", "_law_gaps"] ["_law_source_here", "_law_signs"] (defScope sSpaced) := ⟨rfl, rfl, rfl, by decide +kernel, rfl, by decide +kernel, by decide +kernel⟩
def okWord (w : Str) : Bool := decide (Txt.stripChars w "^" = w) && (!(codes w).isEmpty && decide (w.length ≤ 40))
def spSpaced (K : PySem.W.Frag) : Sp := fun vs H Q _ => ∃ (d c l : Addr) (ws : List Str), vs = [.ref d, .ref l] ∧ SrcAt H d c ∧ SqL K (hid d c H) l (ws.map V.str) ∧ ws.length ≤ 120 ∧ (∀ w ∈ ws, okWord w = true) ∧
  ∀ (z g0 tl : Str) (ps : List (Str × Str)) (H' : Hp), allBlank g0 = true → allBlank tl = true → codes z = codes g0 ++ (flatP ps ++ codes tl) → Spaced "(" ps → ps.map (·.2) = ws → z.length ≤ 6000 → SrcAt H' d c → Same (hid d c H) (hid d c H') → Q (.str z) H'
theorem codes_app (a b : Str) : codes (a ++ b) = codes a ++ codes b := Array.toList_append
theorem len_app (a b : Str) : (a ++ b).length = a.length + b.length := Array.size_append
theorem dec_str {a b : Str} : decide (V.str a = V.str b) = decide (a = b) := decide_eq_decide.mpr ⟨fun h => V.str.inj h, fun h => by rw [h]⟩
theorem hid_new {d c p : Addr} {H : Hp} {o : HO} (src : SrcAt H d c) (hp : H p = none) : p ≠ d ∧ p ≠ c ∧ hid d c (upd H p o) p = some o := by
  have n1 : p ≠ d := fun e => src.two.1 (e ▸ hp)
  have n2 : p ≠ c := fun e => src.two.2 (e ▸ hp)
  refine ⟨n1, n2, ?_⟩
  unfold hid
  rw [if_neg (fun y => by rcases y with y | y <;> contradiction), upd_same]
abbrev gaps3 : List Str := [" ", "\n", " \n  "]
abbrev gaps6 : List Str := [" ", "\n", " \n  ", "", "", ""]
theorem PT.imp {X : Cx} {e : Expr} {t t' : TT} (h : PT X e t) (f : ∀ σ H Q, t' σ H Q → t σ H Q) : PT X e t' := ⟨fun pins s σ H Q I q => h.run pins s σ H Q I (f σ H Q q)⟩
theorem PS.imp {X : Cx} {e : Stmt} {t t' : TS} (h : PS X e t) (f : ∀ D σ H, t' D σ H → t D σ H) : PS X e t' := ⟨fun pins s σ H D I q => h.run pins s σ H D I (f D σ H q)⟩
def tMay : TT := fun σ H Q => ∃ v0 v1 v2 last w v5, σ = [v0, v1, v2, some (.str last), some (.str w), v5] ∧ last.length ≤ 1000 ∧ w.length ≤ 1000 ∧ codes w ≠ [] ∧ Q (mayTouch last w) H
def tGaps : TS := fun D σ H => ∃ v0 v1 v2 last w p, σ = [v0, v1, v2, some (.str last), some (.str w), some (.ref p)] ∧ last.length ≤ 1000 ∧ w.length ≤ 1000 ∧ codes w ≠ [] ∧ H p = some (.lst (gaps3.map V.str)) ∧
  ∀ p' gs H', (mayTouch last w = true ∧ gs = gaps6) ∨ gs = gaps3 → Same H H' → H' p' = some (.lst (gs.map V.str)) → (p' = p ∨ H p' = none) → D.nx [v0, v1, v2, some (.str last), some (.str w), some (.ref p')] H'
section
variable {P : Program} {w : World} {K : PySem.W.Frag} {mg : Str → Option Value} {base : Heap}
theorem ok_spaced {f fO : Addr} {fd fdO : FuncData} (F : Fun K "_law_spaced" "_law_spaced" sSpaced f fd) (GO : FnOk P w K mg base CX0 2 fO fdO ["_law_source_here", "_law_some"] (spOf K)) (bO : Binds K fdO ["_law_source_here", "_law_some"] []) (gO : mg "_law_of" = some (.ref fO)) (kO : PySem.W.keepIn K (.ref fO) = true) :
    FnOk P w K mg base CX0 3 f fd ["_law_source_here", "_law_signs"] (spSpaced K) := by
  refine F.ok scSpaced (fun vs H Q E h => ?_) (fun cdv A outer s H vs Q E hr h => ?_)
  · obtain ⟨d, c, l, ws, rfl, _⟩ := h
    rfl
  · obtain ⟨d, c, l, ws, rfl, src, hl, hn, hw, k⟩ := h
    have three : ∀ {a b c : V}, [a, b, c].length ≤ sizeLine := fun {_ _ _} => (by show 3 ≤ sizeLine; decide)
    refine ⟨_, pss_cons (ps_par (i := 2) (j := 3) rfl scSpaced.nd rfl rfl (by decide) rfl rfl (pa_cons (pe_call GO hr (by rfl) gO kO bO .nil pass0 (pa_cons (pv 0) (pa_cons (pe_lst (pa_cons pe_str (pa_cons pe_str (pa_cons pe_str pa_nil)))) pa_nil))) (pa_cons pe_str pa_nil)) rfl)
      (pss_cons (ps_for PassesOwn.never rfl (pi_list (pv 1)) (pg_name (i := 4) scSpaced.nd rfl (.inl rfl))
        (pss_cons (ps_set (i := 4) scSpaced.nd rfl (.inl rfl) (pe_m1 PySem.F.slot_str_strip PySem.F.type_str_strip mt_stripChars (pv 4) pe_str))
        (pss_cons (ps_set (i := 5) scSpaced.nd rfl (.inl rfl) (pe_lst (pa_cons pe_str (pa_cons pe_str (pa_cons pe_str pa_nil)))))
        (pss_cons (PS.imp (t' := tGaps) (ps_if (PT.imp (t' := tMay) (PW.pt (pw_or (pt_not (pt_val (pe_m0 PySem.F.slot_str_isalnum PySem.F.type_str_isalnum mt_isalnum (pe_op op_add_str (pv 3) (pv 4))))) (pw_or (pt_cmpR op_eq (pv 3) pe_str (nomark _))
            (pw_or1 (PW.pt (pw_and (pt_val (pe_m0 PySem.F.slot_str_isdigit PySem.F.type_str_isdigit mt_isdigit (pv 3))) (pw_and1 (pt_not (pt_val (pe_m0 PySem.F.slot_str_isdigit PySem.F.type_str_isdigit mt_isdigit (pe_ix ix_str (pv 4) pe_int (fun _ _ => rfl)))))))))))) (fun σ H Q h => by
          obtain ⟨v0, v1, v2, last, w, v5, rfl, hl, hw, ne, q⟩ := h
          have small : 10000 ≤ sizeLine := by decide
          refine ⟨_, rfl, _, rfl, _, _, rfl, rfl, Nat.le_trans (show last.length + w.length ≤ 10000 by omega) small, ⟨_, rfl⟩, _, rfl, rfl, trivial, _, rfl, ?_⟩
          unfold mayTouch at q
          refine ite2 (fun h1 => ?_) (fun h1 => ?_)
          · rw [h1, Bool.true_or] at q
            exact q
          · rw [show (!(Txt.isalnum (last ++ w))) = false by simpa using h1, Bool.false_or] at q
            refine ⟨_, rfl, rfl, _, rfl, ?_⟩
            rw [dec_str]
            refine ite2 (fun h2 => ?_) (fun h2 => ?_)
            · rw [h2, Bool.true_or] at q
              exact q
            · rw [show decide (last = "0") = false by simpa using h2, Bool.false_or] at q
              refine ⟨_, rfl, ⟨_, rfl⟩, _, rfl, rfl, trivial, _, rfl, ?_⟩
              refine ite2 (fun h3 => ?_) (fun h3 => ?_)
              · rw [h3, Bool.true_and] at q
                obtain ⟨c, t, ec⟩ : ∃ c t, codes w = c :: t := by
                  cases e : codes w with
                  | nil => exact absurd e ne
                  | cons c t => exact ⟨c, t, rfl⟩
                rw [ec] at q
                exact ⟨_, rfl, w, 0, c, rfl, rfl, Nat.le_trans (show w.length ≤ 10000 by omega) small, atI_nat (j := 0) (show (codes w)[0]? = some c by rw [ec]; rfl), ⟨_, rfl⟩, _, rfl, rfl, trivial, _, rfl, q⟩
              · rw [show Txt.isdigit last = false by simpa using h3, Bool.false_and] at q
                exact q)) (pss_one (ps_set (i := 5) scSpaced.nd rfl (.inl rfl) (pe_op op_cat (pv 5) (pe_lst (pa_cons pe_str (pa_cons pe_str (pa_cons pe_str pa_nil))))))) pss_nil) (fun D σ H h => by
          obtain ⟨v0, v1, v2, last, w, p, rfl, hl, hw, ne, hp, q⟩ := h
          refine ⟨_, _, _, _, _, _, rfl, hl, hw, ne, ?_⟩
          refine ite2 (fun h1 => ?_) (fun h1 => ?_)
          · refine ⟨_, rfl, (by show 3 ≤ sizeLine; decide), fun p2 hp2 => ⟨p, p2, _, _, rfl, rfl, (by rw [upd_ne (ne_of_none hp hp2)]; exact hp), upd_same, (by decide), fun p3 hp3 => ?_⟩⟩
            exact q p3 gaps6 _ (.inl ⟨h1, rfl⟩) ((same_new hp2).trans (same_new hp3)) upd_same (.inr ((same_new hp2).free hp3))
          · exact q p gaps3 H (.inr rfl) (Same.refl _) hp (.inl rfl)))
        (pss_one (ps_par (i := 2) (j := 3) rfl scSpaced.nd rfl rfl (by decide) rfl rfl (pa_cons (pe_op op_add_str (pe_op op_add_str (pv 2) (pe_call GO hr (by rfl) gO kO bO .nil pass0 (pa_cons (pv 0) (pa_cons (pv 5) pa_nil)))) (pv 4)) (pa_cons (pv 4) pa_nil)) rfl))))))
      (pss_one (ps_ret (pe_op op_add_str (pv 2) (pe_call GO hr (by rfl) gO kO bO .nil pass0 (pa_cons (pv 0) (pa_cons (pe_lst (pa_cons pe_str (pa_cons pe_str (pa_cons pe_str pa_nil)))) pa_nil))))))), ?_⟩
    have noSrc : ∀ {H1 : Hp} {p : Addr} {xs : List V}, SrcAt H1 d c → p ≠ d → p ≠ c → H1 p = some (.lst xs) → SqL K (hid d c H1) p xs := fun {H1 p xs} s n1 n2 e => .inl (.inl (by
      unfold hid
      rw [if_neg (fun y => by rcases y with y | y <;> contradiction)]
      exact e))
    refine ⟨_, rfl, three, fun p hp => ⟨d, c, p, _, rfl, src.up (same_new hp), .inl (.inl (hid_new src hp).2.2), by decide, by decide, fun v H1 hv src1 el1 => ?_⟩⟩
    have hv' : v ∈ (["", " ", "\n\n"] : List Str).map V.str := hv
    obtain ⟨g0, mg0, rfl⟩ := List.mem_map.mp hv'
    obtain ⟨b0, l0⟩ : allBlank g0 = true ∧ g0.length ≤ 2 := by
      have q := List.all_eq_true.mp (show ((["", " ", "\n\n"] : List Str).all fun g => allBlank g && decide (g.length ≤ 2)) = true by decide +kernel) g0 mg0
      simpa using q
    have sH1 : Same (hid d c H) (hid d c H1) := by
      rw [hid_else el1]
      exact hid_up (same_new hp)
    refine ⟨_, _, rfl, ?_⟩
    refine ⟨_, rfl, l, rfl, ⟨_, hid_all.seq (sH1.seq hl)⟩, for_list (K := K) (a := l) (xs := ws.map V.str) (fun i σ H' => ∃ (ps : List (Str × Str)) (text last : Str) (v4 v5 : Option V), σ = [some (.ref d), some (.ref l), some (.str text), some (.str last), v4, v5] ∧
      codes text = codes g0 ++ flatP ps ∧ Spaced "(" ps ∧ ps.map (·.2) = ws.take i ∧ last = (ps.map fun p : Str × Str => p.2).getLastD ("(" : Str) ∧ text.length ≤ 2 + 45 * i ∧ last.length ≤ 40 ∧ SrcAt H' d c ∧ Same (hid d c H) (hid d c H'))
      ⟨[], g0, "(", none, none, rfl, (List.append_nil _).symm, trivial, rfl, rfl, l0, by decide, src1, sH1⟩ (fun i σ H' _ ⟨_, _, _, _, _, _, _, _, _, _, _, _, _, e⟩ => hid_all.seq (e.seq hl)) ?_ ?_⟩
    · rintro i y σ H2 hi ⟨ps, text, last, v4, v5, rfl, ht, hs, hps, hlast, hlen, hll, src2, s2⟩
      obtain ⟨w, hwi, rfl⟩ : ∃ w, ws[i]? = some w ∧ y = V.str w := by
        rw [List.getElem?_map] at hi
        cases e : ws[i]? with
        | none =>
          rw [e] at hi
          cases hi
        | some z =>
          rw [e] at hi
          exact ⟨z, rfl, (Option.some.inj hi).symm⟩
      have hil : i < ws.length := (List.getElem?_eq_some_iff.mp hwi).1
      have okw := hw w (List.mem_of_getElem? hwi)
      unfold okWord at okw
      simp only [Bool.and_eq_true, decide_eq_true_eq, Bool.not_eq_true'] at okw
      obtain ⟨e1, e2, e3⟩ := okw
      have ne : codes w ≠ [] := fun y => by
        rw [y] at e2
        cases e2
      refine ⟨_, rfl, ⟨_, rfl⟩, _, _, rfl, rfl, Nat.le_trans e3 (by decide), ?_⟩
      rw [e1]
      refine ⟨three, fun p hp => ?_⟩
      have src3 := src2.up (same_new (o := .lst (gaps3.map V.str)) hp)
      refine ⟨_, _, _, last, w, p, rfl, by omega, by omega, ne, upd_same, fun p' gs H3 hgs s3 ep hpp => ?_⟩
      have src4 := src3.up s3
      have np : p' ≠ d ∧ p' ≠ c := by
        rcases hpp with e | e
        · rw [e]
          exact ⟨(hid_new (o := .lst []) src2 hp).1, (hid_new (o := .lst []) src2 hp).2.1⟩
        · exact ⟨(hid_new (o := .lst []) src3 e).1, (hid_new (o := .lst []) src3 e).2.1⟩
      have gl : 0 < (gs.map V.str).length ∧ (gs.map V.str).length ≤ 1000 := by
        rcases hgs with ⟨_, e⟩ | e <;> rw [e] <;> decide
      refine ⟨_, rfl, _, rfl, _, rfl, d, c, p', _, rfl, src4, noSrc src4 np.1 np.2 ep, gl.1, gl.2, fun v H4 hv4 src5 el4 => ?_⟩
      obtain ⟨g, mg4, rfl⟩ := List.mem_map.mp hv4
      obtain ⟨bg, lg, tg⟩ : allBlank g = true ∧ g.length ≤ 4 ∧ (codes g = [] → mayTouch last w = true) := by
        rcases hgs with ⟨e, e'⟩ | e
        · rw [e'] at mg4
          have q := List.all_eq_true.mp (show (gaps6.all fun g => allBlank g && decide (g.length ≤ 4)) = true by decide +kernel) g mg4
          rw [Bool.and_eq_true, decide_eq_true_eq] at q
          exact ⟨q.1, q.2, fun _ => e⟩
        · rw [e] at mg4
          have q := List.all_eq_true.mp (show (gaps3.all fun g => allBlank g && (decide (g.length ≤ 4) && !((codes g).isEmpty))) = true by decide +kernel) g mg4
          rw [Bool.and_eq_true, Bool.and_eq_true, decide_eq_true_eq] at q
          exact ⟨q.1, q.2.1, fun y => by
            have q2 := q.2.2
            rw [y] at q2
            cases q2⟩
      have hi12 : i ≤ 120 := by omega
      have small : 10000 ≤ sizeLine := by decide
      refine ⟨_, _, rfl, rfl, Nat.le_trans (show text.length + g.length ≤ 10000 by omega) small, _, rfl, _, _, rfl, rfl, ?_, _, rfl, _, _, rfl, ?_⟩
      · rw [len_app]
        exact Nat.le_trans (show text.length + g.length + w.length ≤ 10000 by omega) small
      · refine ⟨ps ++ [(g, w)], _, w, _, _, rfl, ?_, hs.snoc bg (by rw [← hlast]; exact tg), ?_, ?_, ?_, e3, src5, ?_⟩
        · rw [codes_app, codes_app, ht, flatP_snoc]
          simp only [List.append_assoc]
        · rw [List.map_append, hps, List.take_add_one, hwi]
          rfl
        · rw [List.map_append]
          show w = (List.map (fun p : Str × Str => p.2) ps ++ [w]).getLastD _
          rw [List.getLastD_eq_getLast?, List.getLast?_concat]
          rfl
        · rw [len_app, len_app]
          omega
        · refine s2.trans ((hid_up ((same_new hp).trans s3)).trans ?_)
          rw [hid_else el4]
          exact Same.refl _
    · rintro σ H2 ⟨ps, text, last, v4, v5, rfl, ht, hs, hps, hlast, hlen, hll, src2, s2⟩
      rw [List.length_map] at hps hlen
      rw [List.take_length] at hps
      refine ⟨_, rfl, _, rfl, three, fun p hp => ⟨d, c, p, _, rfl, src2.up (same_new hp), .inl (.inl (hid_new src2 hp).2.2), by decide, by decide, fun v H3 hv src3 el3 => ?_⟩⟩
      have hv' : v ∈ (["", " ", "\n"] : List Str).map V.str := hv
      obtain ⟨tl, mtl, rfl⟩ := List.mem_map.mp hv'
      obtain ⟨bt, lt⟩ : allBlank tl = true ∧ tl.length ≤ 2 := by
        have q := List.all_eq_true.mp (show ((["", " ", "\n"] : List Str).all fun g => allBlank g && decide (g.length ≤ 2)) = true by decide +kernel) tl mtl
        simpa using q
      have small : 10000 ≤ sizeLine := by decide
      refine ⟨_, _, rfl, rfl, Nat.le_trans (show text.length + tl.length ≤ 10000 by omega) small, ?_⟩
      refine k _ g0 tl ps H3 b0 bt ?_ hs hps ?_ src3 ?_
      · rw [codes_app, ht, List.append_assoc]
      · rw [len_app]
        omega
      · rw [hid_else el3]
        exact s2.trans (hid_up (same_new hp))
end
end Bc

namespace Bc
open PySem PySem.Spec PyProof.Rows L2
/-! ### data in a tuple; a kept dict's get with a default -/
section
variable {X : Cx}
def rNotInDT (K : PySem.W.Frag) : R2 := fun x y H Q => ∃ d ds, Dp K H x d ∧ Dp K H y (.tuple ds) ∧ SeqAt.shaped d = true ∧ SeqAt.shaped (.tuple ds) = true ∧ Q (.bl (!ds.any fun z => PyData.eqv z d)) H
theorem op_notInDT (hu : X.A.units + 65 < cLine) : OpR X (compareOp .NotIn) (rNotInDT X.K) := by
  intro pins s σ H x y v u Q I rx ry h
  obtain ⟨d, ds, hd, he, sd, se, q⟩ := h
  obtain ⟨as, r1⟩ := Dp.reads I d x v hd rx
  obtain ⟨bs, r2⟩ := Dp.reads I (.tuple ds) y u he ry
  exact SeqAt.notIn_tuple_reads r2 r1 (SeqAt.canLay_of_shaped se) (SeqAt.canLay_of_shaped sd) (room_in_shaped sd hu) ⟨.bl _, H, I, rfl, q⟩
/-- a kept dict with texts as keys: what it has at one of them -/
def KAt (K : PySem.W.Frag) (w : World) (a : Addr) (z : Str) (o : Option V) : Prop :=
  ∃ es n r, K.lookup a = some ⟨.type "dict", none, .dict es n, #[]⟩ ∧ PySem.W.KeysLit w.params es.toList ∧ (a == sysModules) = false ∧ PySem.W.nsIn K a z = some r ∧ RelO o r
def tKGet2 (K : PySem.W.Frag) (w : World) (td ty tx : TE) : TE := fun σ H Q => td σ H fun x H1 => ∃ a es n, x = .ref a ∧ K.lookup a = some ⟨.type "dict", none, .dict es n, #[]⟩ ∧ ty σ H1 fun y H2 => ∃ z, y = .str z ∧ tx σ H2 fun d H3 => ∃ o, KAt K w a z o ∧ Q (o.getD d) H3
variable {o e f : Expr} {apos cpos : Pos} {td ty tx : TE}
theorem pe_kget2 (ho : PE X o td) (he : PE X e ty) (hf : PE X f tx) (m : M2 X o "get" apos e f cpos) : PE X (.Call (.Attribute o "get" apos) [e, f] [] cpos) (tKGet2 X.K X.w td ty tx) := by
  refine ⟨fun pins s σ H Q I h => ?_⟩
  refine wpAny_Call_method m.base m.few m.line PySem.F.plainAttrs_dict PySem.F.slot_dict_get PySem.F.type_dict_get (thn (ho.run pins s σ H _ I h) fun u s1 ⟨x, H1, I1, rx, a, es, n, ex, ha, q1⟩ => ?_)
  subst ex
  obtain rfl : u = Value.ref a := rx
  have hg := I1.kIn _ _ ha
  refine ⟨⟨_, hg, rfl⟩, (fun b eb => by cases eb; exact ⟨_, hg, rfl⟩), ?_⟩
  rw [m.trees]
  refine Calls.callWith_builtin rfl (Calls.evalArgs_plain (Calls.spliced_cons (thn (he.run pins s1 σ H1 _ I1 q1) fun iv s2 ⟨y, H2, I2, ry, z, ey, q2⟩ =>
    Calls.spliced_cons (thn (hf.run pins s2 σ H2 _ I2 q2) fun fv s3 ⟨d, H3, I3, rz, ov, ⟨es', n', r, hl, hk, low, e1, ro⟩, q3⟩ => Calls.spliced_nil ?_))))
  subst ey
  obtain ⟨t, rfl⟩ := (show ∃ t, iv = Value.str z t from ry)
  have hm := PySem.W.mapOf_K (prog := X.prog) (w := X.w) I3.kIn hl hk
  refine call_meetsIn PySem.F.slot_dict_get hm.typeIs PySem.F.entry_dict_get (PySem.F.args_dict_get_3 _ _ _) (meets_dict_get_default (strKind X.prog X.w) a (strKind_is X.prog X.w z t) low fv) ⟨_, hm, ?_⟩
  rw [PySem.W.find_K hl e1]
  refine ⟨_, H3, I3.tok _, ?_, q3⟩
  cases ov with
  | none =>
    cases r with
    | none => exact rz
    | some u => exact absurd ro (fun z => by cases z)
  | some v =>
    cases r with
    | none => exact absurd ro (fun z => by cases z)
    | some u => exact ro
end
theorem scIsTold : FnScope ["awaited", "sort", "lexeme"] ["awaited", "sort", "lexeme"] (defScope sIsTold) := ⟨rfl, rfl, rfl, by decide +kernel, rfl, by decide +kernel, by decide +kernel⟩
def toldB (a s l : Str) : Bool := if a = "NAME" then decide (s = "word") else if a = "NUMBER" then decide (s = "number") else decide (a = l)
def spIsTold : Sp := fun vs H Q _ => ∃ a s l : Str, vs = [.str a, .str s, .str l] ∧ Q (.bl (toldB a s l)) H
structure Nm (mg : Str → Option Value) : Prop where
  na : ∃ t, mg "NAME" = some (.str "NAME" t)
  nu : ∃ t, mg "NUMBER" = some (.str "NUMBER" t)
  rev : mg "reversed" = none
  rng : mg "range" = none
  lst : mg "list" = none
section
variable {P : Program} {w : World} {K : PySem.W.Frag} {mg : Str → Option Value} {base : Heap}
theorem ok_isTold {f : Addr} {fd : FuncData} (F : Fun K "is_told" "is_told" sIsTold f fd) (N : Nm mg) : FnOk P w K mg base CX0 1 f fd ["awaited", "sort", "lexeme"] spIsTold := by
  refine F.ok scIsTold (fun vs H Q E h => ?_) (fun cdv A outer s H vs Q E hr h => ?_)
  · obtain ⟨a, s, l, rfl, _⟩ := h
    rfl
  · obtain ⟨a, s', l, rfl, q⟩ := h
    refine ⟨_, pss_cons (ps_if (pt_cmpR op_eq (pv 0) (pe_cstr (by rfl) N.na) (nomark _)) (pss_one (ps_ret (pe_cmpR op_eq (pv 1) pe_str (nomark _)))) pss_nil)
      (pss_cons (ps_if (pt_cmpR op_eq (pv 0) (pe_cstr (by rfl) N.nu) (nomark _)) (pss_one (ps_ret (pe_cmpR op_eq (pv 1) pe_str (nomark _)))) pss_nil)
      (pss_one (ps_ret (pe_cmpR op_eq (pv 0) (pv 2) (nomark _))))), ?_⟩
    unfold toldB at q
    refine ⟨_, rfl, rfl, _, rfl, ?_⟩
    rw [show decide (V.str a = V.str "NAME") = decide (a = "NAME") from dec_str]
    refine ite2 (fun h1 => ?_) (fun h1 => ?_)
    · rw [if_pos (of_decide_eq_true h1)] at q
      refine ⟨_, rfl, rfl, ?_⟩
      rw [dec_str]
      exact q
    rw [if_neg (fun y => h1 (decide_eq_true y))] at q
    refine ⟨_, rfl, rfl, _, rfl, ?_⟩
    rw [show decide (V.str a = V.str "NUMBER") = decide (a = "NUMBER") from dec_str]
    refine ite2 (fun h2 => ?_) (fun h2 => ?_)
    · rw [if_pos (of_decide_eq_true h2)] at q
      refine ⟨_, rfl, rfl, ?_⟩
      rw [dec_str]
      exact q
    rw [if_neg (fun y => h2 (decide_eq_true y))] at q
    refine ⟨_, rfl, _, rfl, rfl, ?_⟩
    rw [dec_str]
    exact q
end
end Bc

set_option maxHeartbeats 1000000
namespace RT
open PySem PySem.Spec PyProof.Rows L2
theorem nolen_rt : typeLookup (.type "reversed") "__len__" = pure none := by rw [typeLookup_type, builtinLookup_eq_fast]; kernel_rfl
theorem slot_rt_hint : Slot "reversed" "__length_hint__" "reversed.__length_hint__" :=
  .of (owner := "reversed") (n := "__length_hint__") (by rw [typeLookup_type, builtinLookup_eq_fast]; kernel_rfl) (by decide +kernel) (by decide +kernel) (by decide +kernel)
    (by first | exact .inl (by decide +kernel) | exact .inr (by decide +kernel)) (by rw [isSubtype_type]; kernel_rfl)
theorem entry_rt_hint : entryFor table "reversed.__length_hint__" = some Builtin.«reversed.__length_hint__» := entryFor_of_tree (by kernel_rfl)
theorem args_rt_hint (a : Value) : argsOk "reversed.__length_hint__" ⟨[a], []⟩ := by
  unfold argsOk; rw [signature?_of (id := "reversed.__length_hint__") (n := ['_', '_', 't', 'n', 'i', 'h', '_', 'h', 't', 'g', 'n', 'e', 'l', '_', '_']) (o := ['d', 'e', 's', 'r', 'e', 'v', 'e', 'r']) (by kernel_rfl) owner_rt]; kernel_rfl
theorem isTup_at {h h' : Heap} {t : Addr} {items : Array Value} (x : IsTup h t items) (e : ∀ o, h.get? t = some o → h'.get? t = some o) : IsTup h' t items := let ⟨o, ho, r⟩ := x; ⟨o, e _ ho, r⟩
theorem walks_rt {prog : Program} {w : World} {A : Around} (hh : A.handled = none) (I t : Addr) (hne : t ≠ I) (items : Array Value) (hn : items.size ≤ sizeLine) :
    Walks prog w A I [I, t] [I] items.size (fun i v => items[items.size - 1 - i]? = some v) (fun i h => i ≤ items.size ∧ IsRt h I t ((items.size : Int) - 1 - (i : Int)) ∧ IsTup h t items) where
  sub := fun b hb => by simp at hb; simp [hb]
  frame := fun _ _ _ x hk => ⟨x.1, x.2.1.at fun o e => hk I (by simp) o e, isTup_at x.2.2 fun o e => hk t (by simp) o e⟩
  item := fun i s Q E hi x hQ => by
    have e : (items.size : Int) - 1 - (i : Int) = ((items.size - 1 - i : Nat) : Int) := by omega
    have hit := x.2.1
    rw [e] at hit
    have hx : items[items.size - 1 - i]? = some (items[items.size - 1 - i]'(by omega)) := Array.getElem?_eq_getElem (by omega)
    refine next_rt_item hit x.2.2 hx hn fun h' hit' hs' => ?_
    have e2 : ((items.size - 1 - i : Nat) : Int) - 1 = (items.size : Int) - 1 - ((i + 1 : Nat) : Int) := by omega
    rw [e2] at hit'
    exact hQ _ h' (s.toks + 1) hx ⟨hi, hit', isTup_at x.2.2 fun o eo => (hs'.2 t hne).trans eo⟩ fun b o hb eo => hs'.extBut b o (fun h => hb (by simp [h])) eo
  done := fun s Q E x hQ => by
    have e : (items.size : Int) - 1 - (items.size : Int) = -1 := by omega
    have hit := x.2.1
    rw [e] at hit
    exact next_rt_end hh hit fun h' hs' => hQ h' s.toks fun b o hb eo => hs' b o (fun h => hb (by simp [h])) eo
  self := fun i s Q E x h => iter_rt x.2.1 h
section
variable {prog : Program} {w : World} {A : Around} {E : Value → Shared → Prop} {s : Shared}
theorem hint_rt {it t : Addr} {items : Array Value} {Q : Value → Shared → Prop} (hit : IsRt s.heap it t ((items.size : Int) - 1)) (ht : IsTup s.heap t items) (hsz : items.size ≤ 2 ^ 62)
    (h : ∀ tk u, Q (.int items.size u) { s with toks := tk }) : wpAny (model prog w) A (call (.builtin "reversed.__length_hint__") [.ref it]) Q E s := by
  obtain ⟨o, ho, hc, hd⟩ := id hit
  refine wpAny_call_entry slot_rt_hint hit.typeIs entry_rt_hint ?_ (args_rt_hint _)
  unfold Builtin.«reversed.__length_hint__»
  refine wpAny_bind (wpAny_of_eq (a := Value.ref it) rfl ?_)
  try dsimp only
  refine wpAny_bind (wpAny_field ho hd (x := .ref t) rfl ?_)
  try dsimp only
  rw [if_neg (fun y => by cases y)]
  refine wpAny_bind (PyProof.Rows.len_tuple ht (by omega) ?_)
  refine wpAny_bind (wpAny_of_eq (a := some ((items.size : Nat) : Int)) rfl ?_)
  dsimp only
  refine wpAny_bind (wpAny_field (s := { s with toks := s.toks + 1 + 1 }) ho hd (x := rawInt ((items.size : Int) - 1)) rfl ?_)
  show wpAny _ _ (if ((items.size : Nat) : Int) < (items.size : Int) - 1 + 1 then _ else retInt ((items.size : Int) - 1 + 1)) _ _ _
  rw [if_neg (by omega), show (items.size : Int) - 1 + 1 = items.size by omega]
  unfold retInt
  refine wpAny_bind (wpAny_mkInt ?_)
  exact wpAny_pure ⟨_, rfl, h _ _⟩
/-- list.__init__ of a reversed tuple: the new list S takes the items from the end -/
theorem extend_rt {R : Result → Shared → Prop} {it t S : Addr} {items : Array Value} {c₀ : Nat} (hh : A.handled = none) (hit : IsRt s.heap it t ((items.size : Int) - 1)) (ht : IsTup s.heap t items) (hne : t ≠ it) (hn : items.size ≤ sizeLine) (hSi : S ≠ it) (hSt : S ≠ t)
    (hS : s.heap.get? S = some { cls := .type "list", data := .seq #[] c₀ })
    (hR : ∀ h' tk acc' c', (∀ b o, b ≠ S → b ≠ it → s.heap.get? b = some o → h'.get? b = some o) → h'.get? S = some { cls := .type "list", dict := none, data := .seq acc' c', slots := #[] } →
      ItemsOf (fun i v => items[items.size - 1 - i]? = some v) acc' items.size → R (.ok (.ret .none)) { s with heap := h', toks := tk }) :
    wpAny (model prog w) A.in1 (Builtin.List.listExtendWith (.ref S) (.ref it) .none)
      (fun fin s' => match fin with | .done f => R (.ok f) s' | .again c' => c'.quiet = true ∧ codeAny (model prog w) A c' R s') (fun e s' => R (.error e) s') s := by
  have hSf : S ∉ [it, t] := by simp only [List.mem_cons, List.not_mem_nil, or_false, not_or]; exact ⟨hSi, hSt⟩
  have W := (walks_rt (prog := prog) (w := w) (A := A.in1) hh it t hne items hn).toS
  have e0 : ((items.size : Nat) : Int) - 1 - ((0 : Nat) : Int) = (items.size : Int) - 1 := by omega
  have key : ∀ (h : Heap) (c₁ tk : Nat), (∀ b o, b ≠ S → s.heap.get? b = some o → h.get? b = some o) →
      h.get? S = some { cls := .type "list", data := .seq #[] c₁ } → codeAny (model prog w) A (.builtin "list.extend.loop" ⟨[.ref S, .ref it, .none], []⟩) R { s with heap := h, toks := tk } := by
    intro h c₁ tk hk hS₁
    refine codeAny_extend_loopS W hn S hSf .none items.size 0 _ #[] c₁ rfl (Nat.zero_le _) ⟨Nat.zero_le _, by rw [e0]; exact hit.at (hk it · (Ne.symm hSi)), isTup_at ht (hk t · (Ne.symm hSt))⟩ hS₁ (ItemsOf.nil _) fun s' acc' c' hm hS' hacc => ?_
    rw [Moved.eq_with hm]
    refine hR s'.heap s'.toks acc' c' (fun b o hb hb2 e => hm.heap b o (fun hmem => ?_) (hk b o hb e)) hS' hacc
    rcases List.mem_cons.mp hmem with e' | hmem
    · exact hb e'
    · exact hb2 (List.mem_singleton.mp hmem)
  unfold Builtin.List.listExtendWith
  refine wpAny_bind (wpAny_typeOf hit.typeIs ?_)
  have h1 : Builtin.List.listSameRef (.ref S) (.ref it) = false := by simp [Builtin.List.listSameRef, hSi]
  have h2 : (Value.type "reversed" == Value.type "list") = false := by decide
  have h3 : (Value.type "reversed" == Value.type "tuple") = false := by decide
  simp only [h1, h2, h3, Bool.or_false, Bool.false_eq_true, if_false]
  refine wpAny_bind (iter_rt hit ?_)
  refine wpAny_bind (wpAny_holding ?_)
  unfold Builtin.List.listLengthHint
  refine wpAny_bind (wpAny_specialOf hit.typeIs nolen_rt ?_)
  show wpAny _ A.in1 (specialOf (Value.ref it) (Str.ofString "__length_hint__") >>= _) _ _ _
  refine wpAny_bind (wpAny_specialOf hit.typeIs slot_rt_hint.lookup ?_)
  generalize hid : ("reversed.__length_hint__" : String) = id0
  wp_delta
  rw [show splitId id0 = some ("reversed", "__length_hint__") from by subst hid; decide +kernel]
  subst hid
  refine wpAny_bind (wpAny_isInstance (b := true) hit.typeIs (by rw [isSubtype_type]; kernel_rfl) ?_)
  rw [if_neg (by decide)]
  dsimp only
  rw [if_neg (by decide +kernel)]
  refine wpAny_bind (wpAny_rule ?_)
  refine wpAny_bind ?_
  rw [slot_rt_hint.bind]
  refine wpAny_pure ?_
  dsimp only
  have hz : items.size ≤ 2 ^ 62 := Nat.le_trans hn (by rw [sizeLine_eq]; decide)
  refine wpAny_bind (wpAny_attempt (hint_rt hit ht hz fun tk u => ?_))
  show wpAny _ _ (asInt? (Value.int ((items.size : Nat) : Int) u) >>= _) _ _ _
  refine wpAny_bind ?_
  show wpAny _ _ (pure (some ((items.size : Nat) : Int))) _ _ _
  refine wpAny_pure ?_
  dsimp only
  have fit : ¬ (!Builtin.List.listFitsIndex ((items.size : Nat) : Int)) = true := by
    rw [fitsIndex_both (by omega) (by omega)]
    decide
  have long : ¬ Builtin.List.listTooLong ((items.size : Nat) : Int).toNat = true := by
    rw [Int.toNat_natCast, notLongL hn]
    decide
  rw [if_neg fit, if_neg (show ¬ ((items.size : Nat) : Int) < 0 by omega), if_neg long]
  refine wpAny_pure ?_
  refine wpAny_ite_split (fun _ => ?_) (fun _ => wpAny_pure ⟨plainId_quiet F.plain_extend_loop _, key _ _ _ (fun b o _ e => e) hS⟩)
  refine wpAny_bind (wpAny_rule ?_)
  refine wpAny_bind ?_
  show wpAny _ _ (updateSeq S (·.push .none) >>= fun _ => updateSeq S (·.pop)) _ _ _
  refine wpAny_bind (wpAny_updateSeq hS rfl ?_)
  have hS₂ := Heap.get?_update_self (Obj.mapSeq (·.push Value.none)) hS rfl
  refine wpAny_updateSeq (hz := by seq_fits) hS₂ rfl ?_
  have hS₃ := Heap.get?_update_self (Obj.mapSeq (·.pop)) hS₂ rfl
  exact wpAny_pure ⟨plainId_quiet F.plain_extend_loop _, key _ _ _ (fun b o hb e => (Heap.get?_update_other _ _ (Ne.symm hb)).trans ((Heap.get?_update_other _ _ (Ne.symm hb)).trans e)) hS₃⟩
theorem call_list_rt {Q : Value → Shared → Prop} {it t : Addr} {items : Array Value} (hh : A.handled = none) (hit : IsRt s.heap it t ((items.size : Int) - 1)) (ht : IsTup s.heap t items) (hne : t ≠ it) (hn : items.size ≤ sizeLine)
    (hQ : ∀ h' tk acc' c', (∀ b o, b ≠ it → s.heap.get? b = some o → h'.get? b = some o) →
      h'.get? s.heap.objs.size = some { cls := .type "list", dict := none, data := .seq acc' c', slots := #[] } → ItemsOf (fun i v => items[items.size - 1 - i]? = some v) acc' items.size → Q (.ref s.heap.objs.size) { s with heap := h', toks := tk }) :
    wpAny (model prog w) A (call (.type "list") [.ref it]) Q E s := by
  refine callType_codes (Q₁ := fun obj s₁ => obj = .ref s.heap.objs.size ∧ s₁ = { s with heap := s.heap.push { cls := .type "list", data := .seq #[] } }) F.called_list (F.typeCall_list_1 _) F.entry_list_init
    (code_list_new _ ⟨rfl, rfl⟩) fun obj s₁ h₁ => ?_
  obtain ⟨rfl, rfl⟩ := h₁
  have hS : (s.heap.push { cls := .type "list", data := .seq #[] }).get? s.heap.objs.size = some { cls := .type "list", data := .seq #[] } := Heap.get?_push_size _ rfl
  have hSi : s.heap.objs.size ≠ it := by
    obtain ⟨o, ho, _⟩ := hit
    exact Nat.ne_of_gt (Heap.lt_size ho)
  have hSt : s.heap.objs.size ≠ t := by
    obtain ⟨o, ho, _⟩ := ht
    exact Nat.ne_of_gt (Heap.lt_size ho)
  refine ⟨⟨_, hS, rfl⟩, F.args_list_init_2 _ _, ?_⟩
  show wpAny _ A.in1.in1 (do let old ← Builtin.List.listItems (.ref s.heap.objs.size); Builtin.List.listUpdate (.ref s.heap.objs.size) (fun _ => #[]); letGo old.toList.reverse; Builtin.List.listExtendWith (.ref s.heap.objs.size) (.ref it) .none) _ _ _
  refine wpAny_bind ?_
  unfold Builtin.List.listItems
  refine wpAny_bind (wpAny_seqItems hS rfl (wpAny_pure ?_))
  show wpAny _ A.in1.in1 (updateSeq s.heap.objs.size (fun _ => #[]) >>= fun _ => letGo (#[] : Array Value).toList.reverse >>= fun _ => Builtin.List.listExtendWith (.ref s.heap.objs.size) (.ref it) .none) _ _ _
  refine wpAny_bind (wpAny_updateSeq hS rfl ?_)
  have hS₂ := Heap.get?_update_self (Obj.mapSeq (fun _ => (#[] : Array Value))) hS rfl
  refine wpAny_bind (wpAny_letGo ?_)
  have oth : ∀ b o, b ≠ s.heap.objs.size → s.heap.get? b = some o → ((s.heap.push { cls := .type "list", data := .seq #[] }).update s.heap.objs.size (Obj.mapSeq (fun _ => (#[] : Array Value)))).get? b = some o :=
    fun b o hb e => (Heap.get?_update_other _ _ (Ne.symm hb)).trans (Heap.get?_push_of_some _ e)
  refine extend_rt (A := A.in1) hh (hit.at fun o e => oth it o (Ne.symm hSi) e) (isTup_at ht fun o e => oth t o (Ne.symm hSt) e) hne hn hSi hSt hS₂ fun h' tk acc' c' hk hS' hacc => ?_
  exact ⟨rfl, hQ h' tk acc' c' (fun b o hb e => hk b o (Nat.ne_of_lt (Heap.lt_size e)) hb (oth b o (Nat.ne_of_lt (Heap.lt_size e)) e)) hS' hacc⟩
end
end RT
namespace Bc
open PySem PySem.Spec PyProof.Rows L2 RT
def tListRevT (K : PySem.W.Frag) (te : TE) : TE := fun σ H Q => te σ H fun v H1 => ∃ (a : Addr) (xs : List V), v = .ref a ∧ SqT K H1 a xs ∧ ∀ q, H1 q = none → Q (.ref q) (upd H1 q (.lst xs.reverse))
/-- list(reversed(e)), e a tuple -/
theorem pe_listRevT {X : Cx} {e : Expr} {te : TE} {p p2 pos pos2 : Pos} (hc : X.calm = true) (hg : Gl X "list") (hm : X.mg "list" = none) (hg2 : Gl X "reversed") (hm2 : X.mg "reversed" = none) (he : PE X e te)
    (hs : starEach [e] X.env = (false, eval e X.env) :: starEach [] X.env := by rfl)
    (hs2 : starEach [.Call (.Name "reversed" p2) [e] [] pos2] X.env = (false, eval (.Call (.Name "reversed" p2) [e] [] pos2) X.env) :: starEach [] X.env := by rfl) :
    PE X (.Call (.Name "list" p) [.Call (.Name "reversed" p2) [e] [] pos2] [] pos) (tListRevT X.K te) := by
  refine ⟨fun pins s σ H Q I h => ?_⟩
  refine Call_ (ld_blt I hg hm boot_list (PyProof.Rows.callWith_type1 (args_cons (Call_ (ld_blt I hg2 hm2 PyProof.Rows.boot_reversed (PyProof.Rows.callWith_type1 (args_cons (thn (he.run pins s σ H _ I h) fun u s1 ⟨v, H1, I1, r1, q1⟩ => args_nil ?_) hs) hs rfl))) hs2) hs2 rfl))
  obtain ⟨a, xs, ev, hq, q⟩ := q1
  subst ev
  obtain rfl : u = Value.ref a := r1
  obtain ⟨its, rv, p', hz⟩ := I1.tuple hq
  have hn := line63
  have hl := rv.length
  have hn2 : its.toArray.size ≤ sizeLine := by rw [List.size_toArray, ← hl]; exact hz
  refine call_reversed_tup p' (fun A E Q k => PyProof.Rows.len_tuple p' (by simp only [List.size_toArray] <;> omega) k) (args_nil ?_)
  have hne : a ≠ s1.heap.objs.size := by
    obtain ⟨o, ho, _⟩ := p'
    exact Nat.ne_of_lt (Heap.lt_size ho)
  refine call_list_rt (s := { s1 with heap := s1.heap.push (rtObj a ((its.toArray.size : Int) - 1)), toks := s1.toks + 1 + 1 }) (I1.ok.hd hc) ⟨_, Heap.get?_push_size _ rfl, rfl, rfl⟩ (isTup_at p' fun o e => Heap.get?_push_of_some _ e) hne hn2 fun h' tk acc c' hk e hi => ?_
  have sz : s1.heap.objs.size ≤ (s1.heap.push (rtObj a ((its.toArray.size : Int) - 1))).objs.size := by
    simp [Heap.push]
  refine ⟨.ref _, upd H1 _ (.lst xs.reverse), I1.laid (t' := tk) (fun b o eb => hk b o (Nat.ne_of_lt (Heap.lt_size eb)) (Heap.get?_push_of_some _ eb)) sz ⟨by rw [List.length_reverse]; exact hz, acc.toList, c', vals_rev rv hi, by rw [Array.toArray_toList]; exact e⟩, rfl, q _ (I1.hok.fresh sz)⟩
end Bc

namespace Bc
open PySem PySem.Spec PyProof.Rows L2
abbrev nOpen : List Str := ["self", "found", "k", "rules", "rule"]
abbrev nTakes : List Str := ["self", "sort", "lexeme", "k", "rule", "rules"]
theorem scInit : FnScope ["self", "form"] ["self", "form"] (defScope sInit) := ⟨rfl, rfl, rfl, by decide +kernel, rfl, by decide +kernel, by decide +kernel⟩
theorem scOpen : FnScope nOpen ["self"] (defScope sOpen) := ⟨rfl, rfl, rfl, by decide +kernel, rfl, by decide +kernel, by decide +kernel⟩
theorem scTakes : FnScope nTakes ["self", "sort", "lexeme"] (defScope sTakes) := ⟨rfl, rfl, rfl, by decide +kernel, rfl, by decide +kernel, by decide +kernel⟩
theorem scDone : FnScope ["self"] ["self"] (defScope sDone) := ⟨rfl, rfl, rfl, by decide +kernel, rfl, by decide +kernel, by decide +kernel⟩
/-- the ways to write what is awaited -/
def rulesOf (z : Str) : List (List Str) :=
  if z = "BOOK" then [["book", "{", "SHAPES"]] else if z = "SHAPES" then [["shape", "NAME", "NAME", "LIST", ";", "SHAPES"], ["}"]]
  else if z = "BAG" then [["bag", "{", "JOINTS"]] else if z = "JOINTS" then [["joint", "NAME", "NAME", ";", "JOINTS"], ["}"]]
  else if z = "LIST" then [["(", "FIRST NAME"]] else if z = "FIRST NAME" then [["NAME", "FURTHER NAMES"], [")"]] else if z = "FURTHER NAMES" then [[",", "NAME", "FURTHER NAMES"], [")"]] else [[z]]
abbrev forms : List Str := ["BOOK", "SHAPES", "BAG", "JOINTS", "LIST", "FIRST NAME", "FURTHER NAMES"]
abbrev signsW : List Str := ["{", ";", "NAME"]
abbrev tops : List Str := ["BOOK", "SHAPES", "BAG", "JOINTS", "LIST", "FIRST NAME", "FURTHER NAMES", "{", ";", "NAME"]
def dRule (l : List Str) : PyData := .tuple (l.map .str)
def RuleAt (K : PySem.W.Frag) (H : Hp) (r : Addr) (l : List Str) : Prop := SqT K H r (l.map V.str)
def RulesAt (K : PySem.W.Frag) (H : Hp) (t : Addr) (ls : List (List Str)) : Prop := ∃ rs : List Addr, SqT K H t (rs.map V.ref) ∧ rs.length = ls.length ∧ ∀ (i : Nat) (r : Addr) (l : List Str), rs[i]? = some r → ls[i]? = some l → RuleAt K H r l
structure Rul (K : PySem.W.Frag) (w : World) (mg : Str → Option Value) (aR aN : Addr) : Prop where
  gR : mg "RULES" = some (.ref aR)
  gN : mg "NOTHING" = some (.ref aN)
  no : ∀ H, SqT K H aN []
  dict : ∃ es n, K.lookup aR = some ⟨.type "dict", none, .dict es n, #[]⟩
  at_ : ∀ z ∈ forms, ∃ t, KAt K w aR z (some (.ref t)) ∧ ∀ H, RulesAt K H t (rulesOf z)
  els : ∀ z ∈ signsW, KAt K w aR z none
def RowsAt (K : PySem.W.Frag) (H : Hp) (g : Addr) (k : Int) (ls : List (List Str)) : Prop := ∃ ps : List Addr, H g = some (.lst (ps.map V.ref)) ∧ ps.length = ls.length ∧ ∀ i l, ls[i]? = some l → ∃ r, SqT K H (ps.getD i 0) [.int k, .ref r] ∧ RuleAt K H r l
def InsAt (H : Hp) (C a dx l : Addr) (A : List Str) : Prop := H a = some (.ins C dx [("_awaited", .ref l)]) ∧ H l = some (.lst (A.map V.str))
def spInit (C : Addr) : Sp := fun vs H Q _ => ∃ (a dx : Addr) (v : V), vs = [.ref a, v] ∧ H a = some (.ins C dx []) ∧ ∀ p, H p = none → Q .non (upd (upd H p (.lst [v])) a (.ins C dx [("_awaited", .ref p)]))
def spOpen (K : PySem.W.Frag) (C : Addr) : Sp := fun vs H Q _ => ∃ (a dx l : Addr) (B : List Str) (z : Str), vs = [.ref a] ∧ InsAt H C a dx l (B ++ [z]) ∧ z ∈ tops ∧ B.length ≤ 10 ∧
  ∀ g H', Same H H' → H g = none → RowsAt K H' g (B.length : Int) (rulesOf z) → Q (.ref g) H'
def spDone (C : Addr) : Sp := fun vs H Q _ => ∃ (a dx l : Addr) (A : List Str), vs = [.ref a] ∧ InsAt H C a dx l A ∧ A.length ≤ 10 ∧ Q (.bl (decide (A.length = 0))) H
theorem sqT_upd {K : PySem.W.Frag} {H : Hp} {g : Addr} {ys : List V} {o : HO} (e : H g = some (.lst ys)) {a : Addr} {xs : List V} (h : SqT K H a xs) : SqT K (upd H g o) a xs := by
  rcases h with (h | ⟨u, h⟩) | h
  · exact .inl (.inl (by rw [upd_ne (fun y => by rw [y, e] at h; cases h)]; exact h))
  · exact .inl (.inr ⟨u, by rw [upd_ne (fun y => by rw [y, e] at h; cases h)]; exact h⟩)
  · exact .inr h
theorem sqT_keep {K : PySem.W.Frag} {H H' : Hp} {g : Addr} {ys : List V} (e : H g = some (.lst ys)) (h : ∀ b o, b ≠ g → H b = some o → H' b = some o) {a : Addr} {xs : List V} (q : SqT K H a xs) : SqT K H' a xs := by
  rcases q with (q | ⟨u, q⟩) | q
  · exact .inl (.inl (h _ _ (fun y => by rw [y, e] at q; cases q) q))
  · exact .inl (.inr ⟨u, h _ _ (fun y => by rw [y, e] at q; cases q) q⟩)
  · exact .inr q
theorem tops_ok : (tops.all fun z => ((rulesOf z).all fun l => SeqAt.shaped (dRule l) && !(PyData.eqv (dRule l) (.tuple []))) && (SeqAt.shaped (.tuple ((rulesOf z).map dRule)) && (!(((rulesOf z).map dRule).any fun d => PyData.eqv d (.tuple [])) && decide ((rulesOf z).length ≤ 3)))) = true := by decide +kernel
theorem rule_dp {K : PySem.W.Frag} {H : Hp} : ∀ (l : List Str), DpAll K H (l.map V.str) (l.map PyData.str)
  | [] => .nil
  | x :: l => .cons (.str x) (rule_dp l)
theorem rules_dp {K : PySem.W.Frag} {H : Hp} : ∀ (rs : List Addr) (ls : List (List Str)), rs.length = ls.length → (∀ (i : Nat) (r : Addr) (l : List Str), rs[i]? = some r → ls[i]? = some l → RuleAt K H r l) → DpAll K H (rs.map V.ref) (ls.map dRule)
  | [], [], _, _ => .nil
  | r :: rs, l :: ls, h, k => .cons (.tup (k 0 r l rfl rfl) (rule_dp l)) (rules_dp rs ls (Nat.succ.inj h) fun i r l a b => k (i + 1) r l a b)
theorem hu65 {k : Nat} {A : Around} (r : Room k A) : A.units + 65 < cLine := by have := r.un; omega
section
variable {P : Program} {w : World} {K : PySem.W.Frag} {mg : Str → Option Value} {base : Heap} {C aR aN : Addr}
theorem ok_rInit {f : Addr} {fd : FuncData} (F : Fun K "__init__" "Reading.__init__" sInit f fd) (c : Cls K C) (na : NoAttr K C "_awaited") : FnOk P w K mg base CX0 1 f fd ["self", "form"] (spInit C) := by
  refine F.ok scInit (fun vs H Q E h => ?_) (fun cdv A outer s H vs Q E hr h => ?_)
  · obtain ⟨a, dx, v, rfl, _⟩ := h
    rfl
  · obtain ⟨a, dx, v, rfl, ha, k⟩ := h
    refine ⟨_, pss_one (ps_fld (pv 0) (pe_lst (pa_cons (pv 1) pa_nil)) rfl), ?_⟩
    refine ⟨_, rfl, (by show 1 ≤ sizeLine; decide), fun p hp => ⟨_, rfl, a, C, dx, [], rfl, ?_, c, na, by decide, ?_⟩⟩
    · rw [upd_ne (ne_of_none ha hp)]
      exact ha
    · exact k p hp
theorem ok_rDone {f : Addr} {fd : FuncData} (F : Fun K "is_complete" "Reading.is_complete" sDone f fd) (B : Blt mg) (c : Cls K C) (na : NoAttr K C "_awaited") : FnOk P w K mg base CX0 1 f fd ["self"] (spDone C) := by
  refine F.ok scDone (fun vs H Q E h => ?_) (fun cdv A outer s H vs Q E hr h => ?_)
  · obtain ⟨a, dx, l, A, rfl, _⟩ := h
    rfl
  · obtain ⟨a, dx, l, aw, rfl, ⟨ha, hl⟩, hz, k⟩ := h
    refine ⟨_, pss_one (ps_ret (pe_cmpR op_eq (pe_callB call_len (by rfl) B.len (by decide +kernel) (pa_cons (pe_fld (pv 0) rfl) pa_nil)) pe_int (nomark _))), ?_⟩
    refine ⟨_, rfl, a, C, dx, _, .ref l, rfl, ha, c, na, rfl, _, aw.length, rfl, .inl ⟨_, .inl (.inl hl), (by rw [List.length_map])⟩, rfl, ?_⟩
    rw [show decide (V.int (aw.length : Int) = V.int 0) = decide (aw.length = 0) from decide_eq_decide.mpr ⟨fun h => by have := V.int.inj h; omega, fun h => by rw [h]; rfl⟩]
    exact k
theorem ok_open {f : Addr} {fd : FuncData} (F : Fun K "_open_rules" "Reading._open_rules" sOpen f fd) (B : Blt mg) (N : Nm mg) (R : Rul K w mg aR aN) (c : Cls K C) (na : NoAttr K C "_awaited") : FnOk P w K mg base CX0 1 f fd ["self"] (spOpen K C) := by
  refine F.ok scOpen (fun vs H Q E h => ?_) (fun cdv A outer s H vs Q E hr h => ?_)
  · obtain ⟨a, dx, l, B, z, rfl, _⟩ := h
    rfl
  · obtain ⟨a, dx, l, bs, z, rfl, ⟨ha, hl⟩, hz, hb, k⟩ := h
    have hu := hr.units
    have hu5 := hu65 hr
    refine ⟨_, pss_cons (ps_set (i := 1) scOpen.nd rfl (.inl rfl) (pe_lst pa_nil))
      (pss_cons (ps_for PassesOwn.never rfl (pi_revR (by rfl) N.rev (prg_1 (by rfl) N.rng (pe_callB call_len (by rfl) B.len (by decide +kernel) (pa_cons (pe_fld (pv 0) rfl) pa_nil)))) (pg_name (i := 2) scOpen.nd rfl (.inl rfl))
        (pss_cons (ps_set (i := 3) scOpen.nd rfl (.inl rfl) (pe_kget2 (pe_glob (v := .ref aR) (by rfl) R.gR rfl) (pe_ix ix_list (pe_fld (pv 0) rfl) (pv 2) (fun _ _ => rfl)) (pe_tup (pa_cons (pe_tup (pa_cons (pe_ix ix_list (pe_fld (pv 0) rfl) (pv 2) (fun _ _ => rfl)) pa_nil)) pa_nil)) ⟨rfl, rfl, rfl, rfl⟩))
        (pss_cons (ps_for PassesOwn.never rfl (pi_tup (pv 3)) (pg_name (i := 4) scOpen.nd rfl (.inl rfl))
          (pss_one (ps_if (pt_cmpR (op_neD hu) (pv 4) (pe_glob (v := .ref aN) (by rfl) R.gN rfl) (nomark _)) (pss_one (ps_expr (pe_bm PySem.F.plainAttrs_list PySem.F.slot_list_append PySem.F.type_list_append mt_append (pv 1) (pa_cons (pe_tup (pa_cons (pv 2) (pa_cons (pv 4) pa_nil))) pa_nil)))) pss_nil)))
        (pss_one (ps_if (pt_cmpR (op_notInDT hu5) (pe_glob (v := .ref aN) (by rfl) R.gN rfl) (pv 3) (by rfl)) (pss_one (ps_ret (pv 1))) pss_nil)))))
      (pss_one (ps_ret (pv 1)))), ?_⟩
    have sm := List.all_eq_true.mp tops_ok z hz
    simp only [Bool.and_eq_true, decide_eq_true_eq] at sm
    obtain ⟨sm1, sm2, sm3, sm4⟩ := sm
    refine ⟨Nat.zero_le _, fun g hg => ?_⟩
    have ha1 : (upd H g (.lst [])) a = some (.ins C dx [("_awaited", .ref l)]) := by rw [upd_ne (ne_of_none ha hg)]; exact ha
    have hl1 : (upd H g (.lst [])) l = some (.lst ((bs ++ [z]).map V.str)) := by rw [upd_ne (ne_of_none hl hg)]; exact hl
    have len1 : (bs ++ [z]).length = bs.length + 1 := by simp
    refine ⟨_, rfl, a, C, dx, _, .ref l, rfl, ha1, c, na, rfl, _, (bs ++ [z]).length, rfl, .inl ⟨_, .inl (.inl hl1), (by rw [List.length_map])⟩, _, rfl, by decide, by decide, by omega, by omega, for_rangeC (fun i σ H' => i = 0 ∧ σ = [some (.ref a), some (.ref g), none, none, none] ∧ H' = upd H g (.lst [])) ⟨rfl, rfl, rfl⟩ ?_ ?_⟩
    rotate_left
    · rintro σ H' ⟨h0, _, _⟩
      omega
    rintro i σ H' hi ⟨rfl, rfl, rfl⟩
    have ek : (0 : Int) + ((((((bs ++ [z]).length : Nat) : Int) - 0).toNat : Nat) : Int) - 1 + ((0 : Nat) : Int) * (-1) = (bs.length : Int) := by omega
    rw [ek]
    have hat : atI ((bs ++ [z]).map V.str) (bs.length : Int) = some (.str z) := L2.at_of rfl (by rw [List.map_append, List.getElem?_append_right (by rw [List.length_map]; exact Nat.le_refl _), List.length_map, Nat.sub_self]; rfl)
    obtain ⟨es, n, hd⟩ := R.dict
    refine ⟨aR, es, n, rfl, hd, _, rfl, a, C, dx, _, .ref l, rfl, ha1, c, na, rfl, _, rfl, l, _, _, _, rfl, rfl, .inl (.inl hl1), hat, z, rfl, ?_⟩
    refine ⟨_, rfl, a, C, dx, _, .ref l, rfl, ha1, c, na, rfl, _, rfl, l, _, _, _, rfl, rfl, .inl (.inl hl1), hat, (by show 1 ≤ sizeLine; decide), fun p1 hp1 => ⟨(by show 1 ≤ sizeLine; decide), fun p2 hp2 => ?_⟩⟩
    have s3 : Same (upd H g (.lst [])) (upd (upd (upd H g (.lst [])) p1 (.tup [.str z])) p2 (.tup [.ref p1])) := (same_new hp1).trans (same_new hp2)
    obtain ⟨o, hk, t, et, rs, hrs, hlen, hall⟩ : ∃ o, KAt K w aR z o ∧ ∃ t, o.getD (.ref p2) = .ref t ∧ RulesAt K (upd (upd (upd H g (.lst [])) p1 (.tup [.str z])) p2 (.tup [.ref p1])) t (rulesOf z) := by
      by_cases hf : z ∈ forms
      · obtain ⟨t, h1, h2⟩ := R.at_ z hf
        exact ⟨_, h1, t, rfl, h2 _⟩
      · have hs : z ∈ signsW := by
          rcases List.mem_append.mp (show z ∈ forms ++ signsW from hz) with h | h
          · exact absurd h hf
          · exact h
        have er : rulesOf z = [[z]] := by
          exact of_decide_eq_true (List.all_eq_true.mp (show (signsW.all fun z => decide (rulesOf z = [[z]])) = true by decide +kernel) z hs)
        refine ⟨_, R.els z hs, p2, rfl, [p1], .inl (.inl upd_same), by rw [er]; rfl, ?_⟩
        rw [er]
        intro i r l h1 h2
        cases i with
        | succ i => cases h2
        | zero =>
          cases (Option.some.inj h1)
          cases (Option.some.inj h2)
          exact .inl (.inl ((same_new hp2) _ _ upd_same))
    refine ⟨o, hk, ?_⟩
    rw [et]
    have eg3 := s3 _ _ (upd_same (H := H) (a := g) (o := .lst []))
    generalize upd (upd (upd H g (.lst [])) p1 (.tup [.str z])) p2 (.tup [.ref p1]) = H3 at s3 hrs hall eg3 ⊢
    refine ⟨_, rfl, t, rfl, ⟨_, hrs⟩, for_tup (K := K) (a := t) (xs := rs.map V.ref) (fun i σ H' => ∃ v4 ps, σ = [some (.ref a), some (.ref g), some (.int bs.length), some (.ref t), v4] ∧ (∀ b o, b ≠ g → H3 b = some o → H' b = some o) ∧ H' g = some (.lst (ps.map V.ref)) ∧ ps.length = i ∧
      ∀ j l, j < i → (rulesOf z)[j]? = some l → ∃ r, SqT K H' (ps.getD j 0) [.int bs.length, .ref r] ∧ RuleAt K H' r l) ⟨none, [], rfl, fun _ _ _ e => e, eg3, rfl, fun j l h _ => absurd h (Nat.not_lt_zero _)⟩ (fun i σ H' _ ⟨v4, ps, _, h2, _⟩ => sqT_keep eg3 h2 hrs) ?_ ?_⟩
    · rintro i x σ H4 hi ⟨v4, ps, rfl, h2, h3, h4, h5⟩
      obtain ⟨r, hr1, rfl⟩ : ∃ r, rs[i]? = some r ∧ x = V.ref r := by
        rw [List.getElem?_map] at hi
        cases e : rs[i]? with
        | none =>
          rw [e] at hi
          cases hi
        | some r =>
          rw [e] at hi
          exact ⟨r, rfl, (Option.some.inj hi).symm⟩
      have hil : i < rs.length := (List.getElem?_eq_some_iff.mp hr1).1
      obtain ⟨lr, hlr⟩ : ∃ lr, (rulesOf z)[i]? = some lr := ⟨_, List.getElem?_eq_getElem (by omega)⟩
      have hrule := sqT_keep eg3 h2 (hall i r lr hr1 hlr)
      have sr := List.all_eq_true.mp sm1 lr (List.mem_of_getElem? hlr)
      simp only [Bool.and_eq_true] at sr
      refine ⟨_, rfl, dRule lr, .tuple [], .tup hrule (rule_dp lr), .tup (R.no _) .nil, sr.1, by decide +kernel, _, rfl, ?_⟩
      refine if_known sr.2 ?_
      refine ⟨_, rfl, .inl ⟨rfl, _, .inl (.inl h3)⟩, _, rfl, _, rfl, (by show 2 ≤ sizeLine; decide), fun q hq => ?_⟩
      have ngq : g ≠ q := ne_of_none h3 hq
      refine ⟨g, _, _, rfl, rfl, (by rw [upd_ne ngq]; exact h3), ?_, ?_⟩
      · rw [List.length_map, h4]
        exact small1000 (by omega)
      · have keep : ∀ {a : Addr} {xs : List V}, SqT K H4 a xs → SqT K (upd (upd H4 q (.tup [.int bs.length, .ref r])) g (.lst (ps.map V.ref ++ [.ref q]))) a xs := fun {a xs} h => sqT_upd (ys := ps.map V.ref) (by rw [upd_ne ngq]; exact h3) (Same.sqT (same_new hq) h)
        refine ⟨_, ps ++ [q], rfl, fun b o nb e => ?_, ?_, by rw [List.length_append, h4]; rfl, fun j l' hj hl' => ?_⟩
        · rw [upd_ne nb, upd_ne (ne_of_none (h2 b o nb e) hq)]
          exact h2 b o nb e
        · rw [upd_same, List.map_append]
          rfl
        · by_cases ej : j = i
          · subst ej
            rw [hlr] at hl'
            cases (Option.some.inj hl')
            refine ⟨r, ?_, keep hrule⟩
            rw [List.getD_eq_getElem?_getD, List.getElem?_append_right (by omega), h4, Nat.sub_self]
            exact .inl (.inl (by show upd (upd H4 q _) g _ q = _; rw [upd_ne (Ne.symm ngq)]; exact upd_same))
          · obtain ⟨r', q1, q2⟩ := h5 j l' (by omega) hl'
            refine ⟨r', ?_, keep q2⟩
            rw [List.getD_eq_getElem?_getD, List.getElem?_append_left (by omega), ← List.getD_eq_getElem?_getD]
            exact keep q1
    · rintro σ H4 ⟨v4, ps, rfl, h2, h3, h4, h5⟩
      rw [List.length_map] at h4 h5
      have hall4 : ∀ (i : Nat) (r : Addr) (l : List Str), rs[i]? = some r → (rulesOf z)[i]? = some l → RuleAt K H4 r l := fun i r l e1 e2 => sqT_keep eg3 h2 (hall i r l e1 e2)
      refine ⟨_, rfl, .tuple [], (rulesOf z).map dRule, .tup (R.no _) .nil, .tup (sqT_keep eg3 h2 hrs) (rules_dp rs _ hlen hall4), by decide +kernel, sm2, _, rfl, ?_⟩
      refine if_known sm3 ?_
      refine ⟨_, rfl, k g H4 (fun b o e => ?_) hg ⟨ps, h3, by omega, fun i l e => h5 i l ?_ e⟩⟩
      · have nb : b ≠ g := ne_of_none e hg
        exact h2 b o nb (s3 b o (by rw [upd_ne nb]; exact e))
      · have := (List.getElem?_eq_some_iff.mp e).1
        omega
end
end Bc

namespace Bc
open PySem PySem.Spec PyProof.Rows L2
def firstOf (z s x : Str) : Option (List Str) := (rulesOf z).find? fun r => toldB (r.headD "") s x
def spTakes (C : Addr) : Sp := fun vs H Q _ => ∃ (a dx l : Addr) (B : List Str) (z s x : Str) (l0 : List Str), vs = [.ref a, .str s, .str x] ∧ InsAt H C a dx l (B ++ [z]) ∧ z ∈ tops ∧ B.length ≤ 10 ∧ firstOf z s x = some l0 ∧
  ∀ l' H', (∀ b o, b ≠ a → H b = some o → H' b = some o) → H l' = none → InsAt H' C a dx l' (B ++ l0.tail.reverse) → Q (.bl true) H'
theorem tops_len : (tops.all fun z => (rulesOf z).all fun l => decide (1 ≤ l.length) && decide (l.length ≤ 9)) = true := by decide +kernel
theorem cut_to {B : List Str} {z : Str} : cutV ((B ++ [z]).map V.str) none (some (B.length : Int)) = B.map V.str := by
  unfold cutV
  rw [HT.sIx_none, HT.sIx_nat, List.drop_zero, List.length_map, List.length_append, Nat.min_eq_left (by simp), Nat.sub_zero, List.map_append, List.take_append_of_le_length (by rw [List.length_map]; exact Nat.le_refl _)]
  rw [← List.length_map (f := V.str), List.take_length]
theorem cut_tail {l : List Str} (h : 1 ≤ l.length) : cutV (l.map V.str) (some 1) none = l.tail.map V.str := by
  unfold cutV
  rw [show (some (1 : Int)) = some ((1 : Nat) : Int) from rfl, HT.sIx_none, HT.sIx_nat, List.length_map, Nat.min_eq_left h]
  rw [List.take_of_length_le (by rw [List.length_drop, List.length_map]; exact Nat.le_refl _)]
  cases l with
  | nil => cases h
  | cons a r => rfl
section
variable {P : Program} {w : World} {K : PySem.W.Frag} {mg : Str → Option Value} {base : Heap} {C : Addr}
theorem ok_takes {f fO fT : Addr} {fd fdO fdT : FuncData} (F : Fun K "takes" "Reading.takes" sTakes f fd) (N : Nm mg) (c : Cls K C) (na : NoAttr K C "_awaited")
    (mO : Meth K C "_open_rules" fO) (GO : FnOk P w K mg base CX0 1 fO fdO ["self"] (spOpen K C)) (bO : Binds K fdO ["self"] [])
    (GT : FnOk P w K mg base CX0 1 fT fdT ["awaited", "sort", "lexeme"] spIsTold) (bT : Binds K fdT ["awaited", "sort", "lexeme"] []) (gT : mg "is_told" = some (.ref fT)) (kT : PySem.W.keepIn K (.ref fT) = true) :
    FnOk P w K mg base CX0 2 f fd ["self", "sort", "lexeme"] (spTakes C) := by
  refine F.ok scTakes (fun vs H Q E h => ?_) (fun cdv A outer s H vs Q E hr h => ?_)
  · obtain ⟨a, dx, l, B, z, s, x, l0, rfl, _⟩ := h
    rfl
  · obtain ⟨a, dx, l, bs, z, so, x, l0, rfl, ⟨ha, hl⟩, hz, hb, hf, k⟩ := h
    have hu := hr.units
    refine ⟨_, pss_cons (ps_setLc (i := 5) (own := [("k", 3), ("rule", 4)]) rfl scTakes.nd rfl rfl rfl (pi_list (pe_meth0 (pv 0) c mO GO hr bO .nil pass0)) (blkOk_by (own := [("k", 3), ("rule", 4)]) (N := nTakes) (sc := defScope sTakes) (by decide +kernel))
          (fun _ _ _ _ _ => (show PG _ _ (gTup K 2 _) from pg_tup rfl (pgs_cons (pg_name (i := 3) scTakes.nd rfl (.inl rfl)) (pgs_cons (pg_name (i := 4) scTakes.nd rfl (.inl rfl)) pgs_nil))))
          (fun _ _ _ _ _ => pts_one (pt_val (pe_call GT hr (by rfl) gT kT bT .nil pass0 (pa_cons (pe_ix (show IxR _ (rIxT K) from ix_tup) (pv 4) pe_int (fun _ _ => rfl)) (pa_cons (pv 1) (pa_cons (pv 2) pa_nil))))))
          (fun _ _ _ _ _ => pe_tup (pa_cons (pv 3) (pa_cons (pv 4) pa_nil))))
      (pss_cons (ps_if (pt_not (pt_truth (pv 5) (fun _ => rfl))) (pss_one (ps_ret pe_bl)) pss_nil)
      (pss_cons (ps_asg (pe_ix ix_list (pv 5) pe_int (fun _ _ => rfl)) (pg_tup rfl (pgs_cons (pg_name (i := 3) scTakes.nd rfl (.inl rfl)) (pgs_cons (pg_name (i := 4) scTakes.nd rfl (.inl rfl)) pgs_nil))))
      (pss_cons (ps_fld (pv 0) (pe_op op_cat (pe_slice sl_list (pe_fld (pv 0) rfl) po_none (po_some (pv 3))) (pe_listRevT rfl (by rfl) N.lst (by rfl) N.rev (pe_slice sl_tup (pv 4) (po_some pe_int) po_none))) rfl)
      (pss_one (ps_ret pe_bl))))), ?_⟩
    have two : ∀ {a b : V}, [a, b].length ≤ sizeLine := fun {_ _} => (by show 2 ≤ sizeLine; decide)
    have sm := List.all_eq_true.mp tops_ok z hz
    simp only [Bool.and_eq_true, decide_eq_true_eq] at sm
    have sm4 := sm.2.2.2
    have lens := List.all_eq_true.mp tops_len z hz
    have len_of : ∀ {l : List Str}, l ∈ rulesOf z → 1 ≤ l.length ∧ l.length ≤ 9 := fun {l} h => by
      have q := List.all_eq_true.mp lens l h
      simpa using q
    refine ⟨_, rfl, a, dx, _, rfl, ha, rfl, a, dx, l, bs, z, rfl, ⟨ha, hl⟩, hz, hb, fun g H1 s1 hg rows => ?_⟩
    obtain ⟨ps, eg, hps, hrow⟩ := rows
    refine ⟨g, rfl, ⟨_, .inl (.inl eg)⟩, fun D hD => lc_list (K := K) (a := g) (xs := ps.map V.ref) (fun i H' => Same H1 H' ∧ ∃ qs : List Addr, H' D = some (.lst (qs.map V.ref)) ∧ qs.length ≤ i ∧ (((rulesOf z).take i).find? (fun r => toldB (r.headD "") so x) = none → qs = []) ∧
      ∀ lf, ((rulesOf z).take i).find? (fun r => toldB (r.headD "") so x) = some lf → ∃ q r rest, qs = q :: rest ∧ SqT K H' q [.int bs.length, .ref r] ∧ RuleAt K H' r lf)
      ⟨same_new hD, [], upd_same, Nat.le_refl _, fun _ => rfl, fun lf e => by rw [List.take_zero] at e; cases e⟩ (fun i H' _ h => h.1.seq (.inl (.inl eg))) ?_ ?_⟩
    · rintro i y H2 hi ⟨s2, qs, eD, hq, hno, hfnd⟩
      obtain ⟨p, hp1, rfl⟩ : ∃ p, ps[i]? = some p ∧ y = V.ref p := by
        rw [List.getElem?_map] at hi
        cases e : ps[i]? with
        | none =>
          rw [e] at hi
          cases hi
        | some r =>
          rw [e] at hi
          exact ⟨r, rfl, (Option.some.inj hi).symm⟩
      have hil : i < ps.length := (List.getElem?_eq_some_iff.mp hp1).1
      obtain ⟨lr, hlr⟩ : ∃ lr, (rulesOf z)[i]? = some lr := ⟨_, List.getElem?_eq_getElem (by omega)⟩
      obtain ⟨r, q1, q2⟩ := hrow i lr hlr
      rw [List.getD_eq_getElem?_getD, hp1] at q1
      have q1' : SqT K H2 p [.int bs.length, .ref r] := Same.sqT s2 q1
      have q2' : SqT K H2 r (lr.map V.str) := Same.sqT s2 q2
      obtain ⟨h1, h9⟩ := len_of (List.mem_of_getElem? hlr)
      obtain ⟨hd, tl, el⟩ : ∃ hd tl, lr = hd :: tl := by
        cases lr with
        | nil => cases h1
        | cons a b => exact ⟨a, b, rfl⟩
      subst el
      refine ⟨p, _, rfl, q1', rfl, _, _, rfl, _, _, rfl, rfl, rfl, ?_⟩
      refine ⟨_, rfl, r, _, _, .str hd, rfl, rfl, q2', L2.at_of (j := 0) rfl rfl, _, rfl, _, rfl, _, _, _, rfl, _, rfl, ?_⟩
      have ftake : ((rulesOf z).take (i + 1)).find? (fun r => toldB (r.headD "") so x) = (((rulesOf z).take i).find? (fun r => toldB (r.headD "") so x)).or (if toldB hd so x = true then some (hd :: tl) else none) := by
        rw [List.take_add_one, hlr, List.find?_append]
        congr 1
        show (List.find? _ [hd :: tl]) = _
        rw [List.find?_cons, List.headD_cons]
        cases toldB hd so x <;> rfl
      refine ite2 (fun ht => ?_) (fun ht => ?_)
      · refine ⟨_, rfl, _, rfl, two, fun q hq0 => ⟨_, (same_new hq0) _ _ eD, ?_, ?_, qs ++ [q], ?_, ?_, ?_, ?_⟩⟩
        · rw [List.length_map]
          exact small1000 (by omega)
        · exact Same.over (s2.trans (same_new hq0)) hD
        · rw [upd_same, List.map_append]
          rfl
        · rw [List.length_append]
          show qs.length + 1 ≤ i + 1
          omega
        · intro e
          rw [ftake, if_pos ht] at e
          cases ef : ((rulesOf z).take i).find? (fun r => toldB (r.headD "") so x) with
          | none =>
            rw [ef] at e
            cases e
          | some l1 =>
            rw [ef] at e
            cases e
        · intro lf e
          have keep : ∀ {a : Addr} {xs : List V}, SqT K H2 a xs → SqT K (upd (upd H2 q (.tup [.int bs.length, .ref r])) D (.lst (qs.map V.ref ++ [.ref q]))) a xs := fun {a xs} h => sqT_upd (ys := qs.map V.ref) ((same_new hq0) _ _ eD) (Same.sqT (same_new hq0) h)
          have nqD : q ≠ D := fun y => by rw [y, eD] at hq0; cases hq0
          cases ef : ((rulesOf z).take i).find? (fun r => toldB (r.headD "") so x) with
          | some l1 =>
            rw [ftake, ef] at e
            cases (Option.some.inj e)
            obtain ⟨q', r', rest, e1, e2, e3⟩ := hfnd _ ef
            exact ⟨q', r', rest ++ [q], by rw [e1]; rfl, keep e2, keep e3⟩
          | none =>
            rw [ftake, ef, if_pos ht] at e
            cases (Option.some.inj e)
            have e0 := hno ef
            subst e0
            exact ⟨q, r, [], rfl, .inl (.inl (by rw [upd_ne nqD]; exact upd_same)), keep q2'⟩
      · refine ⟨s2, qs, eD, by omega, fun e => ?_, fun lf e => ?_⟩
        · rw [ftake, if_neg ht, Option.or_none] at e
          exact hno e
        · rw [ftake, if_neg ht, Option.or_none] at e
          exact hfnd lf e
    · rintro H2 ⟨s2, qs, eD, hq, hno, hfnd⟩
      rw [List.length_map, hps, List.take_length] at hno hfnd
      obtain ⟨q, r, rest, rfl, q1, q2⟩ := hfnd l0 hf
      obtain ⟨h1, h9⟩ := len_of (List.mem_of_find?_eq_some hf)
      refine ⟨_, rfl, true, .inl ⟨_, .inl (.inl eD), rfl⟩, ?_⟩
      refine iteF ?_
      refine ⟨_, rfl, D, _, _, .ref q, rfl, rfl, .inl (.inl eD), L2.at_of (j := 0) rfl rfl, ?_⟩
      refine ⟨q, _, rfl, q1, rfl, _, _, rfl, _, _, rfl, rfl, ?_⟩
      -- the store
      have sA : Same H H2 := (s1.trans s2)
      have ha2 := sA _ _ ha
      have hl2 := sA _ _ hl
      refine ⟨_, rfl, a, C, dx, _, .ref l, rfl, ha2, c, na, rfl, _, rfl, _, rfl, l, _, rfl, .inl (.inl hl2), fun p hp => ?_⟩
      rw [cut_to]
      refine ⟨_, rfl, _, rfl, r, _, rfl, Same.sqT (same_new hp) q2, ?_, fun p2 hp2 => ?_⟩
      · rintro ⟨e0, _⟩
        rw [show (some (1 : Int)) = some ((1 : Nat) : Int) from rfl, HT.sIx_nat, List.length_map, Nat.min_eq_left h1] at e0
        cases e0
      rw [cut_tail h1]
      refine ⟨p2, _, rfl, .inl (.inl upd_same), fun p3 hp3 => ?_⟩
      have ep : (upd (upd (upd H2 p (.lst (bs.map V.str))) p2 (.tup (l0.tail.map V.str))) p3 (.lst (l0.tail.map V.str).reverse)) p = some (.lst (bs.map V.str)) := ((same_new hp2).trans (same_new hp3)) _ _ upd_same
      refine ⟨p, p3, _, _, rfl, rfl, ep, upd_same, ?_, fun p4 hp4 => ?_⟩
      · rw [List.length_map, List.length_reverse, List.length_map, List.length_tail]
        exact Nat.le_of_lt (small1000 (by omega))
      have s4 := (same_new (o := .lst (bs.map V.str)) hp).trans ((same_new (o := .tup (l0.tail.map V.str)) hp2).trans ((same_new (o := .lst (l0.tail.map V.str).reverse) hp3).trans (same_new (o := .lst (bs.map V.str ++ (l0.tail.map V.str).reverse)) hp4)))
      refine ⟨_, rfl, a, C, dx, _, rfl, s4 _ _ ha2, c, na, (by show 1 < 1000; decide), ?_⟩
      have nap : a ≠ p4 := ne_of_none (((same_new (o := .lst (bs.map V.str)) hp).trans ((same_new (o := .tup (l0.tail.map V.str)) hp2).trans (same_new (o := .lst (l0.tail.map V.str).reverse) hp3))) _ _ ha2) hp4
      refine k p4 _ (fun b o nb e => ?_) ?_ ⟨by rw [upd_same]; rfl, ?_⟩
      · rw [upd_ne nb]
        exact s4 _ _ (sA _ _ e)
      · exact (sA.trans ((same_new hp).trans ((same_new hp2).trans (same_new hp3)))).free hp4
      · rw [upd_ne nap.symm, upd_same, List.map_append, List.map_reverse]
end
end Bc

namespace Bc
open PySem PySem.Spec PyProof.Rows L2
abbrev nLexOf : List Str := ["form", "text", "found", "wrong", "reading", "sort", "lexeme", "place", "row"]
theorem scLexOf : FnScope nLexOf ["form", "text"] (defScope sLexOf) := ⟨rfl, rfl, rfl, by decide +kernel, rfl, by decide +kernel, by decide +kernel⟩
/-- a statement that is never come to -/
theorem ps_never {X : Cx} {st : Stmt} : PS X st (fun _ _ _ => False) := ⟨fun _ _ _ _ _ _ h => h.elim⟩
abbrev txtT (t : Tok) : Str := ⟨t.2.1.toArray⟩
inductive Goes : List Str → List Tok → List Str → Prop
  | nil (A : List Str) : Goes A [] A
  | cons {B : List Str} {z : Str} {t : Tok} {l0 : List Str} {ts : List Tok} {A : List Str} : z ∈ tops → B.length ≤ 10 → firstOf z t.1 (txtT t) = some l0 → Goes (B ++ l0.tail.reverse) ts A → Goes (B ++ [z]) (t :: ts) A
theorem Goes.inv {A1 A : List Str} {t : Tok} {ts : List Tok} (h : Goes A1 (t :: ts) A) : ∃ B z l0, A1 = B ++ [z] ∧ z ∈ tops ∧ B.length ≤ 10 ∧ firstOf z t.1 (txtT t) = some l0 ∧ Goes (B ++ l0.tail.reverse) ts A := by
  cases h with
  | cons h1 h2 h3 h4 => exact ⟨_, _, _, rfl, h1, h2, h3, h4⟩
theorem Goes.inv0 {A1 A : List Str} (h : Goes A1 [] A) : A1 = A := by
  cases h
  rfl
theorem sqT_ins {K : PySem.W.Frag} {H H' : Hp} {g C dx : Addr} {fs : List (Str × V)} (e : H g = some (.ins C dx fs)) (h : ∀ b o, b ≠ g → H b = some o → H' b = some o) {a : Addr} {xs : List V} (q : SqT K H a xs) : SqT K H' a xs := by
  rcases q with (q | ⟨u, q⟩) | q
  · exact .inl (.inl (h _ _ (fun y => by rw [y, e] at q; cases q) q))
  · exact .inl (.inr ⟨u, h _ _ (fun y => by rw [y, e] at q; cases q) q⟩)
  · exact .inr q
theorem tok_inv {K : PySem.W.Frag} {H : Hp} {v : V} {t : Tok} (h : Dq K H v (tokD t)) : ∃ u, v = .ref u ∧ SqT K H u [.str t.1, .str (txtT t), .int t.2.2] := by
  obtain ⟨a, xs, rfl, hq, hall⟩ := h.tup_inv
  obtain ⟨v1, _, rfl, h1, hall⟩ := hall.cons_inv
  obtain ⟨v2, _, rfl, h2, hall⟩ := hall.cons_inv
  obtain ⟨v3, _, rfl, h3, hall⟩ := hall.cons_inv
  cases hall.nil_inv
  cases h1.str_inv
  cases h2.str_inv
  cases h3.int_inv
  exact ⟨a, rfl, hq⟩
def spLexOf : Sp := fun vs H Q _ => ∃ fm z : Str, vs = [.str fm, .str z] ∧ z.length ≤ 20000 ∧ (Lx (codes z) 0).2 = none ∧ Goes [fm] (Lx (codes z) 0).1 [] ∧ (Lx (codes z) 0).1.length ≤ 20000 ∧
  ∀ g H', Same H H' → H g = none → H' g = some (.lst ((Lx (codes z) 0).1.map fun t => V.str (txtT t))) → Q (.ref g) H'
section
variable {P : Program} {w : World} {K : PySem.W.Frag} {mg : Str → Option Value} {base : Heap} {C : Addr}
theorem ok_lexOf {f fS fI fT fD : Addr} {fd fdS fdI fdT fdD : FuncData} (F : Fun K "lexemes_of" "lexemes_of" sLexOf f fd) (c : Cls K C) (M : Mk K C fI) (gC : mg "Reading" = some (.ref C))
    (GS : FnOk P w K mg base CX0 3 fS fdS ["text"] (spScan K)) (bS : Binds K fdS ["text"] []) (gS : mg "scan" = some (.ref fS)) (kS : PySem.W.keepIn K (.ref fS) = true)
    (GI : FnOk P w K mg base CX0 1 fI fdI ["self", "form"] (spInit C)) (bI : Binds K fdI ["self", "form"] [])
    (mT : Meth K C "takes" fT) (GT : FnOk P w K mg base CX0 2 fT fdT ["self", "sort", "lexeme"] (spTakes C)) (bT : Binds K fdT ["self", "sort", "lexeme"] [])
    (mD : Meth K C "is_complete" fD) (GD : FnOk P w K mg base CX0 1 fD fdD ["self"] (spDone C)) (bD : Binds K fdD ["self"] []) : FnOk P w K mg base CX0 4 f fd ["form", "text"] spLexOf := by
  refine F.ok scLexOf (fun vs H Q E h => ?_) (fun cdv A outer s H vs Q E hr h => ?_)
  · obtain ⟨fm, z, rfl, _⟩ := h
    rfl
  · obtain ⟨fm, z, rfl, hz, hw, hgo, hn, k⟩ := h
    have hr1 : Room 1 _ := hr.mono (by decide)
    have hr2 : Room 2 _ := hr.mono (by decide)
    have three : ∀ {a b c : V}, [a, b, c].length = 3 := fun {_ _ _} => rfl
    refine ⟨_, pss_cons (ps_asg (pe_call GS hr (by rfl) gS kS bS .nil pass0 (pa_cons (pv 1) pa_nil)) (pg_tup rfl (pgs_cons (pg_name (i := 2) scLexOf.nd rfl (.inl rfl)) (pgs_cons (pg_name (i := 3) scLexOf.nd rfl (.inl rfl)) pgs_nil))))
      (pss_cons (ps_set (i := 4) scLexOf.nd rfl (.inl rfl) (pe_make M GI hr2 (by rfl) gC bI .nil pass0 (pa_cons (pv 0) pa_nil)))
      (pss_cons (ps_for PassesOwn.never rfl (pi_list (pv 2)) (pg_tup rfl (pgs_cons (pg_name (i := 5) scLexOf.nd rfl (.inl rfl)) (pgs_cons (pg_name (i := 6) scLexOf.nd rfl (.inl rfl)) (pgs_cons (pg_name (i := 7) scLexOf.nd rfl (.inl rfl)) pgs_nil))))
        (pss_one (ps_if (pt_not (pt_val (pe_meth (pv 4) c mT GT hr2 bT .nil pass0 (pa_cons (pv 5) (pa_cons (pv 6) pa_nil))))) (pss_one ps_never) pss_nil)))
      (pss_cons (ps_if (pt_cmpR op_notN (pv 3) pe_non (nomark _)) (pss_one ps_never) pss_nil)
      (pss_cons (ps_if (pt_not (pt_val (pe_meth0 (pv 4) c mD GD hr1 bD .nil pass0))) (pss_one ps_never) pss_nil)
      (pss_one (ps_ret (pe_lc (own := [("row", 8)]) (g := gName 8) (tt := tYes) (by rfl) scLexOf.nd (pi_list (pv 2)) (blkOk_by (own := [("row", 8)]) (N := nLexOf) (sc := defScope sLexOf) (by decide +kernel)) (fun _ _ _ _ _ => pg_name (i := 8) scLexOf.nd rfl (.inl rfl)) (fun _ _ _ _ _ => pts_nil)
          (fun _ _ _ _ _ => pe_ix (show IxR _ (rIxT K) from ix_tup) (pv 8) pe_int (fun _ _ => rfl))))))))), ?_⟩
    refine ⟨_, rfl, z, rfl, hz, fun q fl H1 ws s1 nl _ hq el dq => ?_⟩
    have ew : wrongV z = .non := by
      unfold wrongV
      rw [hw]
    rw [ew] at hq
    refine ⟨q, _, rfl, hq, rfl, _, _, rfl, _, _, rfl, rfl, ?_⟩
    -- the reading
    refine ⟨_, rfl, fun a dx hx hdx ne => ⟨a, dx, _, rfl, upd_same, fun p hp => ⟨rfl, ?_⟩⟩⟩
    have nap : p ≠ a := fun e => by
      rw [e, upd_same] at hp
      cases hp
    have s2 : Same H1 (upd (upd (upd (upd H1 dx (.own a)) a (.ins C dx [])) p (.lst [.str fm])) a (.ins C dx [("_awaited", .ref p)])) := fun b o e => by
      have n1 : b ≠ a := ne_of_none e hx
      have n2 : b ≠ dx := ne_of_none e hdx
      have n3 : b ≠ p := fun y => by
        rw [y] at n1 n2 e
        rw [upd_ne n1, upd_ne n2, e] at hp
        cases hp
      rw [upd_ne n1, upd_ne n3, upd_ne n1, upd_ne n2]
      exact e
    have ia : InsAt (upd (upd (upd (upd H1 dx (.own a)) a (.ins C dx [])) p (.lst [.str fm])) a (.ins C dx [("_awaited", .ref p)])) C a dx p [fm] := ⟨upd_same, by rw [upd_ne nap, upd_same]; rfl⟩
    generalize upd (upd (upd (upd H1 dx (.own a)) a (.ins C dx [])) p (.lst [.str fm])) a (.ins C dx [("_awaited", .ref p)]) = H2 at s2 ia ⊢
    have el2 := s2 _ _ el
    have dq2 := DqAll.same (hid_all.trans s2) dq
    have nfa : fl ≠ a := ne_of_none el hx
    have Ha : H a = none := s1.free hx
    refine ⟨_, rfl, fl, rfl, ⟨_, .inl (.inl el2)⟩, for_list (K := K) (a := fl) (xs := ws) (fun i σ H' => ∃ v5 v6 v7 l A, σ = [some (.str fm), some (.str z), some (.ref fl), some .non, some (.ref a), v5, v6, v7, none] ∧ (∀ b o, b ≠ a → H2 b = some o → H' b = some o) ∧ InsAt H' C a dx l A ∧ Goes A ((Lx (codes z) 0).1.drop i) [])
      ⟨none, none, none, p, _, rfl, fun _ _ _ e => e, ia, hgo⟩ (fun i σ H' _ ⟨_, _, _, _, _, _, h2, _⟩ => .inl (.inl (h2 _ _ nfa el2))) ?_ ?_⟩
    · rintro i x σ H3 hi ⟨v5, v6, v7, l, A, rfl, h2, ha, hg⟩
      obtain ⟨d, hd, dqx⟩ := DqAll.get i dq2 hi
      obtain ⟨t, ht, rfl⟩ : ∃ t, (Lx (codes z) 0).1[i]? = some t ∧ d = tokD t := by
        rw [List.getElem?_map] at hd
        cases e : (Lx (codes z) 0).1[i]? with
        | none =>
          rw [e] at hd
          cases hd
        | some b =>
          rw [e] at hd
          exact ⟨b, rfl, (Option.some.inj hd).symm⟩
      obtain ⟨u, rfl, hu⟩ := tok_inv dqx
      obtain ⟨hlt, het⟩ := List.getElem?_eq_some_iff.mp ht
      rw [List.drop_eq_getElem_cons hlt, het] at hg
      obtain ⟨B, zz, l0, rfl, g1, g2, g3, g4⟩ := hg.inv
      refine ⟨u, _, rfl, sqT_ins ia.1 h2 hu, rfl, _, _, rfl, _, _, rfl, _, _, rfl, rfl, ?_⟩
      refine ⟨_, rfl, a, dx, _, rfl, ha.1, rfl, _, rfl, _, rfl, a, dx, l, B, zz, t.1, txtT t, l0, rfl, ha, g1, g2, g3, fun l' H4 h4 n4 ia4 => ⟨_, rfl, ?_⟩⟩
      refine if_no rfl ?_
      exact ⟨_, _, _, l', _, rfl, fun b o nb e => h4 b o nb (h2 b o nb e), ia4, g4⟩
    · rintro σ H3 ⟨v5, v6, v7, l, A, rfl, h2, ha, hg⟩
      have hlen : ws.length = (Lx (codes z) 0).1.length := by rw [dq2.len, List.length_map]
      rw [hlen, List.drop_length] at hg
      cases hg.inv0
      refine ⟨_, rfl, rfl, _, rfl, ?_⟩
      refine iteNS rfl ?_
      refine ⟨_, rfl, a, dx, _, rfl, ha.1, rfl, a, dx, l, [], rfl, ha, Nat.zero_le _, _, rfl, ?_⟩
      refine if_no rfl ?_
      have sA : Same H H3 := fun b o e => h2 b o (ne_of_none e Ha) (s2 _ _ (s1 _ _ e))
      have el3 := h2 _ _ nfa el2
      refine ⟨_, rfl, fl, rfl, ⟨_, .inl (.inl el3)⟩, fun D hD => lc_list (K := K) (a := fl) (xs := ws) (fun i H' => Same H3 H' ∧ H' D = some (.lst (((Lx (codes z) 0).1.take i).map fun t => V.str (txtT t))))
        ⟨same_new hD, upd_same⟩ (fun i H' _ h => h.1.seq (.inl (.inl el3))) ?_ ?_⟩
      · rintro i x H4 hi ⟨s4, eD⟩
        obtain ⟨d, hd, dqx⟩ := DqAll.get i dq2 hi
        obtain ⟨t, ht, rfl⟩ : ∃ t, (Lx (codes z) 0).1[i]? = some t ∧ d = tokD t := by
          rw [List.getElem?_map] at hd
          cases e : (Lx (codes z) 0).1[i]? with
          | none =>
            rw [e] at hd
            cases hd
          | some b =>
            rw [e] at hd
            exact ⟨b, rfl, (Option.some.inj hd).symm⟩
        obtain ⟨u, rfl, hu⟩ := tok_inv dqx
        have hu4 : SqT K H4 u _ := Same.sqT s4 (sqT_ins ia.1 h2 hu)
        refine ⟨rfl, ?_⟩
        refine lc_yes ?_
        refine ⟨_, rfl, u, _, _, .str (txtT t), rfl, rfl, hu4, L2.at_of (j := 1) rfl rfl, _, eD, ?_, Same.over s4 hD, ?_⟩
        · rw [List.length_map, List.length_take]
          refine Nat.lt_of_le_of_lt (Nat.min_le_left _ _) ?_
          have := (List.getElem?_eq_some_iff.mp hi).1
          exact Nat.lt_of_lt_of_le (show i < 20000 by omega) (by decide)
        · rw [upd_same, List.take_add_one, ht, List.map_append]
          rfl
      · rintro H4 ⟨s4, eD⟩
        rw [hlen, List.take_length] at eD
        exact k D H4 (sA.trans s4) (sA.free hD) eD
end
end Bc

namespace Bc
open PySem PySem.Spec PyProof.Rows L2
abbrev nHead : List Str := ["form", "text", "read", "start", "rows", "row", "lexeme"]
theorem scHead : FnScope nHead ["form", "text"] (defScope sHead) := ⟨rfl, rfl, rfl, by decide +kernel, rfl, by decide +kernel, by decide +kernel⟩
def bodyOf (ds : List (List Str)) : List Str := ds.flatMap fun d => d ++ [(";" : Str)]
/-- a text that is read: its lexemes -/
structure LexOk (fm z : Str) (ws : List Str) : Prop where
  len : z.length ≤ 20000
  fine : (Lx (codes z) 0).2 = none
  goes : Goes [fm] (Lx (codes z) 0).1 []
  many : (Lx (codes z) 0).1.length ≤ 20000
  is : (Lx (codes z) 0).1.map txtT = ws
def stp (p : List (List Str) × List Str) (x : Str) : List (List Str) × List Str := if x = ";" then (p.1 ++ [p.2], []) else (p.1, p.2 ++ [x])
theorem fold_row : ∀ (d : List Str) (acc : List (List Str)) (cur : List Str), (∀ x ∈ d, x ≠ ";") → d.foldl stp (acc, cur) = (acc, cur ++ d)
  | [], acc, cur, _ => by rw [List.append_nil]; rfl
  | x :: d, acc, cur, h => by
    rw [List.foldl_cons, show stp (acc, cur) x = (acc, cur ++ [x]) from if_neg (h x (List.mem_cons_self ..)), fold_row d acc _ fun y hy => h y (List.mem_cons_of_mem _ hy), List.append_assoc]
    rfl
theorem fold_body : ∀ (ds : List (List Str)) (acc : List (List Str)), (∀ d ∈ ds, ∀ x ∈ d, x ≠ ";") → (bodyOf ds).foldl stp (acc, []) = (acc ++ ds, [])
  | [], acc, _ => by rw [List.append_nil]; rfl
  | d :: ds, acc, h => by
    show ((d ++ [(";" : Str)]) ++ bodyOf ds).foldl stp (acc, []) = _
    rw [List.foldl_append, List.foldl_append, fold_row d acc [] (h d (List.mem_cons_self ..)), List.nil_append]
    show (bodyOf ds).foldl stp (acc ++ [d], []) = _
    rw [fold_body ds _ fun e he => h e (List.mem_cons_of_mem _ he), List.append_assoc]
    rfl
def spHead (K : PySem.W.Frag) : Sp := fun vs H Q _ => ∃ (fm hw z : Str) (ds : List (List Str)), vs = [.str fm, .str z] ∧ hw ≠ "{" ∧ LexOk fm z (hw :: "{" :: (bodyOf ds ++ [("}" : Str)])) ∧ (∀ d ∈ ds, ∀ x ∈ d, x ≠ ";") ∧
  ∀ (q h g : Addr) (rs : List Addr) (H' : Hp), Same H H' → SqT K H' q [.ref h, .ref g] → H' g = some (.lst (rs.map V.ref)) → rs.length = ds.length → (∀ (i : Nat) (r : Addr) (d : List Str), rs[i]? = some r → ds[i]? = some d → H' r = some (.lst (d.map V.str))) → Q (.ref q) H'
section
variable {P : Program} {w : World} {K : PySem.W.Frag} {mg : Str → Option Value} {base : Heap} {C : Addr}
theorem ok_head {f fL : Addr} {fd fdL : FuncData} (F : Fun K "head_and_rows" "head_and_rows" sHead f fd) (GL : FnOk P w K mg base CX0 4 fL fdL ["form", "text"] spLexOf) (bL : Binds K fdL ["form", "text"] []) (gL : mg "lexemes_of" = some (.ref fL)) (kL : PySem.W.keepIn K (.ref fL) = true) :
    FnOk P w K mg base CX0 5 f fd ["form", "text"] (spHead K) := by
  refine F.ok scHead (fun vs H Q E h => ?_) (fun cdv A outer s H vs Q E hr h => ?_)
  · obtain ⟨fm, hw, z, ds, rfl, _⟩ := h
    rfl
  · obtain ⟨fm, hw, z, ds, rfl, hwn, lx, hds, k⟩ := h
    refine ⟨_, pss_cons (ps_set (i := 2) scHead.nd rfl (.inl rfl) (pe_call GL hr (by rfl) gL kL bL .nil pass0 (pa_cons (pv 0) (pa_cons (pv 1) pa_nil))))
      (pss_cons (ps_set (i := 3) scHead.nd rfl (.inl rfl) (pe_bm PySem.F.plainAttrs_list PySem.F.slot_list_index PySem.F.type_list_index mt_index (pv 2) (pa_cons pe_str pa_nil)))
      (pss_cons (ps_set (i := 4) scHead.nd rfl (.inl rfl) (pe_lst pa_nil))
      (pss_cons (ps_set (i := 5) scHead.nd rfl (.inl rfl) (pe_lst pa_nil))
      (pss_cons (ps_for PassesOwn.never rfl (pi_list (pe_slice sl_list (pv 2) (po_some (pe_op op_add (pv 3) pe_int)) (po_some (pe_un un_neg pe_int)))) (pg_name (i := 6) scHead.nd rfl (.inl rfl))
        (pss_one (ps_if (pt_cmpR op_eq (pv 6) pe_str (nomark _))
          (pss_cons (ps_expr (pe_bm PySem.F.plainAttrs_list PySem.F.slot_list_append PySem.F.type_list_append mt_append (pv 4) (pa_cons (pv 5) pa_nil))) (pss_one (ps_set (i := 5) scHead.nd rfl (.inl rfl) (pe_lst pa_nil))))
          (pss_one (ps_expr (pe_bm PySem.F.plainAttrs_list PySem.F.slot_list_append PySem.F.type_list_append mt_append (pv 5) (pa_cons (pv 6) pa_nil)))))))
      (pss_one (ps_ret (pe_tup (pa_cons (pe_slice sl_list (pv 2) po_none (po_some (pv 3))) (pa_cons (pv 4) pa_nil))))))))), ?_⟩
    have TL : (Lx (codes z) 0).1.map (fun t => V.str (txtT t)) = (hw :: "{" :: (bodyOf ds ++ [("}" : Str)])).map V.str := by
      rw [← lx.is, List.map_map]
      rfl
    have NL : (Lx (codes z) 0).1.length = (bodyOf ds).length + 3 := by
      have e := congrArg List.length lx.is
      rw [List.length_map] at e
      rw [e]
      simp
    have many := lx.many
    refine ⟨_, rfl, _, rfl, fm, z, rfl, lx.len, lx.fine, lx.goes, lx.many, fun r H1 s1 hr0 er => ?_⟩
    rw [TL] at er
    -- the brace
    refine ⟨_, rfl, .inl ⟨rfl, _, .inl (.inl er)⟩, r, _, .str "{", 1, .str "{", rfl, rfl, .inl (.inl er), rfl, ?_, rfl, by decide +kernel, ?_, ?_⟩
    · rw [List.all_eq_true]
      intro v hv
      obtain ⟨x, _, rfl⟩ := List.mem_map.mp hv
      rfl
    · intro m z' hm hz'
      have e0 : m = 0 := by omega
      rw [e0] at hz'
      cases (Option.some.inj hz')
      exact decide_eq_false fun y => hwn y
    refine ⟨Nat.zero_le _, fun g hg => ⟨Nat.zero_le _, fun c0 hc0 => ?_⟩⟩
    have er2 := ((same_new (o := .lst []) hg).trans (same_new (o := .lst []) hc0)) _ _ er
    refine ⟨_, rfl, _, rfl, _, _, rfl, rfl, _, rfl, 1, rfl, _, rfl, r, _, rfl, .inl (.inl er2), fun L hL => ?_⟩
    have cutB : cutV ((hw :: "{" :: (bodyOf ds ++ [("}" : Str)])).map V.str) (some (((1 : Nat) : Int) + 1)) (some (-1)) = (bodyOf ds).map V.str := by
      have e1 : ∀ n, 3 ≤ n → HT.sIx n 0 (some (((1 : Nat) : Int) + 1)) = 2 := fun n h => by
        rw [show ((1 : Nat) : Int) + 1 = ((2 : Nat) : Int) from rfl, HT.sIx_nat]
        omega
      have e2 : ∀ n : Nat, HT.sIx n n (some (-1)) = n - 1 := fun n => by
        unfold HT.sIx
        simp only []
        rw [if_pos (by decide)]
        omega
      unfold cutV
      have hn : (((hw :: "{" :: (bodyOf ds ++ [("}" : Str)])).map V.str)).length = (bodyOf ds).length + 3 := by simp
      rw [hn, e1 _ (by omega), e2 _]
      show (((bodyOf ds ++ [("}" : Str)])).map V.str).take _ = _
      rw [List.map_append, List.take_append_of_le_length (by rw [List.length_map]; omega), List.take_of_length_le (by rw [List.length_map]; omega)]
    rw [cutB]
    have sB : Same H1 (upd (upd (upd H1 g (.lst [])) c0 (.lst [])) L (.lst ((bodyOf ds).map V.str))) := (same_new hg).trans ((same_new hc0).trans (same_new hL))
    have ngc : g ≠ c0 := fun e => by
      rw [← e, upd_same] at hc0
      cases hc0
    have eg : (upd (upd (upd H1 g (.lst [])) c0 (.lst [])) L (.lst ((bodyOf ds).map V.str))) g = some (.lst []) := ((same_new hc0).trans (same_new hL)) _ _ upd_same
    have ec : (upd (upd (upd H1 g (.lst [])) c0 (.lst [])) L (.lst ((bodyOf ds).map V.str))) c0 = some (.lst []) := (same_new hL) _ _ upd_same
    have eL : (upd (upd (upd H1 g (.lst [])) c0 (.lst [])) L (.lst ((bodyOf ds).map V.str))) L = some (.lst ((bodyOf ds).map V.str)) := upd_same
    have nLg : L ≠ g := fun e => by
      have q := (same_new (o := .lst []) hc0) _ _ (upd_same (H := H1) (a := g) (o := .lst []))
      rw [e] at hL
      rw [hL] at q
      cases q
    have nLc : L ≠ c0 := fun e => by
      rw [e, upd_same] at hL
      cases hL
    generalize upd (upd (upd H1 g (.lst [])) c0 (.lst [])) L (.lst ((bodyOf ds).map V.str)) = H2 at sB eg ec eL ⊢
    refine ⟨L, rfl, ⟨_, .inl (.inl eL)⟩, for_list (K := K) (a := L) (xs := (bodyOf ds).map V.str) (fun i σ H' => ∃ v6 c rs, σ = [some (.str fm), some (.str z), some (.ref r), some (.int ((1 : Nat) : Int)), some (.ref g), some (.ref c), v6] ∧ (∀ b o, b ≠ g → b ≠ c0 → H2 b = some o → H' b = some o) ∧
      H' g = some (.lst (rs.map V.ref)) ∧ H' c = some (.lst ((((bodyOf ds).take i).foldl stp ([], [])).2.map V.str)) ∧ c ≠ g ∧ c ∉ rs ∧ (c = c0 ∨ H2 c = none) ∧ rs.length = (((bodyOf ds).take i).foldl stp ([], [])).1.length ∧ rs.length ≤ i ∧ (((bodyOf ds).take i).foldl stp ([], [])).2.length ≤ i ∧
      ∀ (j : Nat) (r' : Addr) (d : List Str), rs[j]? = some r' → (((bodyOf ds).take i).foldl stp ([], [])).1[j]? = some d → r' ≠ g ∧ H' r' = some (.lst (d.map V.str)))
      ⟨none, c0, [], rfl, fun _ _ _ _ e => e, eg, ec, Ne.symm ngc, (by simp), .inl rfl, rfl, Nat.le_refl _, Nat.le_refl _, fun j r' d h _ => (by simp at h)⟩ (fun i σ H' _ ⟨_, _, _, _, h, _⟩ => .inl (.inl (h L _ nLg nLc eL))) ?_ ?_⟩
    · rintro i x σ H3 hi ⟨v6, c, rs, rfl, h1, h2, h3, h4, h5, h6, h7, h8, h9, h10⟩
      obtain ⟨y, hy, rfl⟩ : ∃ y, (bodyOf ds)[i]? = some y ∧ x = V.str y := by
        rw [List.getElem?_map] at hi
        cases e : (bodyOf ds)[i]? with
        | none =>
          rw [e] at hi
          cases hi
        | some b =>
          rw [e] at hi
          exact ⟨b, rfl, (Option.some.inj hi).symm⟩
      have hil : i < (bodyOf ds).length := (List.getElem?_eq_some_iff.mp hy).1
      have small : i < sizeLine := Nat.lt_of_lt_of_le (show i < 20000 by omega) (by decide)
      have ft : ((bodyOf ds).take (i + 1)).foldl stp ([], []) = stp (((bodyOf ds).take i).foldl stp ([], [])) y := by
        rw [List.take_add_one, hy, List.foldl_append]
        rfl
      rw [ft]
      generalize ((bodyOf ds).take i).foldl stp ([], []) = p at h3 h7 h9 h10 ⊢
      refine ⟨_, rfl, rfl, _, rfl, ?_⟩
      rw [dec_str]
      refine ite2 (fun hs => ?_) (fun hs => ?_)
      · have hs' : stp p y = (p.1 ++ [p.2], []) := if_pos (of_decide_eq_true hs)
        rw [hs']
        refine ⟨_, rfl, .inl ⟨rfl, _, .inl (.inl h2)⟩, _, rfl, g, _, _, rfl, rfl, h2, ?_, ?_⟩
        · rw [List.length_map]
          omega
        refine ⟨Nat.zero_le _, fun c' hc' => ?_⟩
        have ng' : c' ≠ g := fun e => by
          rw [e, upd_same] at hc'
          cases hc'
        have hc3 : H3 c' = none := by
          rw [upd_ne ng'] at hc'
          exact hc'
        have ncc : c' ≠ c := fun e => by
          rw [e, h3] at hc3
          cases hc3
        refine ⟨_, c', rs ++ [c], rfl, fun b o n1 n2 e => ?_, ?_, upd_same, ng', ?_, ?_, ?_, ?_, Nat.zero_le _, fun j r' d e1 e2 => ?_⟩
        · have q := h1 b o n1 n2 e
          rw [upd_ne (ne_of_none q hc3), upd_ne n1]
          exact q
        · rw [upd_ne (Ne.symm ng'), upd_same, List.map_append]
          rfl
        · intro hm
          rcases List.mem_append.mp hm with hm | hm
          · obtain ⟨j, hj⟩ := List.getElem?_of_mem hm
            have hj1 := (List.getElem?_eq_some_iff.mp hj).1
            obtain ⟨_, q⟩ := h10 j c' _ hj (List.getElem?_eq_getElem (by omega))
            rw [q] at hc3
            cases hc3
          · exact ncc (List.mem_singleton.mp hm)
        · by_cases hcc : c' = c0
          · exact .inl hcc
          · refine .inr ?_
            cases e : H2 c' with
            | none => rfl
            | some o =>
              have q := h1 c' o ng' hcc e
              rw [q] at hc3
              cases hc3
        · rw [List.length_append, List.length_append, h7]
          rfl
        · rw [List.length_append]
          show rs.length + 1 ≤ i + 1
          omega
        · by_cases hj : j < rs.length
          · rw [List.getElem?_append_left hj] at e1
            rw [List.getElem?_append_left (by omega)] at e2
            obtain ⟨q1, q2⟩ := h10 j r' d e1 e2
            refine ⟨q1, ?_⟩
            rw [upd_ne (ne_of_none q2 hc3), upd_ne q1]
            exact q2
          · have hj2 : j = rs.length := by
              have := (List.getElem?_eq_some_iff.mp e1).1
              rw [List.length_append] at this
              have h1l : ([c] : List Addr).length = 1 := rfl
              omega
            rw [List.getElem?_append_right (by omega), hj2, Nat.sub_self] at e1
            rw [List.getElem?_append_right (by omega), hj2, h7, Nat.sub_self] at e2
            cases (Option.some.inj e1)
            cases (Option.some.inj e2)
            refine ⟨h4, ?_⟩
            rw [upd_ne (ne_of_none h3 hc3), upd_ne h4]
            exact h3
      · have hs' : stp p y = (p.1, p.2 ++ [y]) := if_neg (fun e => hs (decide_eq_true e))
        rw [hs']
        refine ⟨_, rfl, .inl ⟨rfl, _, .inl (.inl h3)⟩, _, rfl, c, _, _, rfl, rfl, h3, ?_, ?_⟩
        · rw [List.length_map]
          omega
        refine ⟨_, c, rs, rfl, fun b o n1 n2 e => ?_, ?_, ?_, h4, h5, h6, h7, by omega, ?_, fun j r' d e1 e2 => ?_⟩
        · have nbc : b ≠ c := fun eb => by
            rcases h6 with q | q
            · exact n2 (eb.trans q)
            · rw [eb, q] at e
              cases e
          rw [upd_ne nbc]
          exact h1 b o n1 n2 e
        · rw [upd_ne (Ne.symm h4)]
          exact h2
        · rw [upd_same, List.map_append]
          rfl
        · rw [List.length_append]
          show p.2.length + 1 ≤ i + 1
          omega
        · obtain ⟨q1, q2⟩ := h10 j r' d e1 e2
          refine ⟨q1, ?_⟩
          rw [upd_ne (fun e => h5 (by rw [← e]; exact List.mem_of_getElem? e1))]
          exact q2
    · rintro σ H3 ⟨v6, c, rs, rfl, h1, h2, h3, h4, h5, h6, h7, h8, h9, h10⟩
      rw [List.length_map, List.take_length, fold_body ds [] hds, List.nil_append] at h7 h10
      have nrg : r ≠ g := ne_of_none er hg
      have nrc : r ≠ c0 := ne_of_none ((same_new (o := .lst []) hg) _ _ er) hc0
      have sC : Same H H3 := fun b o e => by
        have e1 := s1 _ _ e
        exact h1 b o (ne_of_none e1 hg) (ne_of_none ((same_new (o := .lst []) hg) _ _ e1) hc0) (sB _ _ e1)
      have er3 := h1 r _ nrg nrc (sB _ _ er)
      refine ⟨_, rfl, _, rfl, _, rfl, r, _, rfl, .inl (.inl er3), fun h hh => ?_⟩
      refine ⟨_, rfl, (by show 2 ≤ sizeLine; decide), fun q hq => ?_⟩
      refine k q h g rs _ (sC.trans ((same_new hh).trans (same_new hq))) (.inl (.inl upd_same)) (((same_new hh).trans (same_new hq)) _ _ h2) h7 fun i r' d e1 e2 => ((same_new hh).trans (same_new hq)) _ _ (h10 i r' d e1 e2).2
end
end Bc

namespace Bc
open PySem PySem.Spec PyProof.Rows L2
/-! ### list(d.values()) -/
def tListVals (te : TE) : TE := fun σ H Q => te σ H fun x H1 => ∃ (d : Addr) (kvs : List (Key × V)), x = .ref d ∧ H1 d = some (.dK kvs) ∧ ∀ p, H1 p = none → Q (.ref p) (upd H1 p (.lst (kvs.map (·.2))))
section
variable {X : Cx} {e : Expr} {te : TE} {p apos cpos pos : Pos}
theorem pe_listVals (hc : X.calm = true) (he : PE X e te) (hg : Gl X "list") (hm : X.mg "list" = none) (hv : bootBuiltins "list" = some (.type "list")) (hbase : attributeBase e "values" X.env (eval e X.env) = eval e X.env := by rfl) (hline : (apos.endLine == cpos.line) = true := by rfl)
    (hs : starEach [.Call (.Attribute e "values" apos) [] [] cpos] X.env = (false, eval (.Call (.Attribute e "values" apos) [] [] cpos) X.env) :: starEach [] X.env := by rfl) :
    PE X (.Call (.Name "list" p) [.Call (.Attribute e "values" apos) [] [] cpos] [] pos) (tListVals te) := by
  constructor
  intro pins s σ H Q I hq
  refine wpAny_Call_Name_kw (ld_blt I hg hm hv (PyProof.Rows.callWith_type1 ?_ hs rfl))
  rw [hs]
  refine Calls.spliced_cons (wpAny_Call_method (T := "dict") (id := "dict.values") hbase rfl hline F.plainAttrs_dict F.slot_dict_values F.type_dict_values (thn (he.run pins s σ H _ I hq) ?_))
  rintro u s1 ⟨x, H1, I1, rx, d, kvs, rfl, hd, q⟩
  obtain rfl : u = Value.ref d := rx
  obtain ⟨hz, hs0, vs, kv, hdo⟩ := I1.hok d _ hd
  obtain ⟨ep, hat⟩ := hdo.dictAt
  have lk : kvs.length = vs.length := Paired.length kv
  have I2 : Inv X pins σ H1 { s1 with heap := s1.heap.push { cls := .type "dict_values", data := .fields #[.ref d] } } := I1.kept (t' := s1.toks) fun b ob q => Heap.get?_push_of_some _ q
  refine ⟨hdo.typeIs, hdo.mapOf.noDict, ?_⟩
  refine method_meetsIn F.slot_dict_values F.entry_dict_values rfl (PySem.evalArgs_none ⟨rfl, hdo.typeIs, F.args_dict_values_1 _, _, meets_dict_values (mixKind X.prog X.w) d hs0, ⟨vs, hdo⟩, ?_⟩)
  refine Calls.spliced_nil (PySem.W.kdl_call (PySem.W.kdl_values (knd := mixKind X.prog X.w) (kvs := vs) (ep := ep)) (I1.ok.hd hc) ⟨⟨_, Heap.get?_push_size _ rfl, rfl, rfl⟩, hat.push _⟩ (by omega) ?_)
  intro h' tk acc c hk hS hacc
  have ea : acc.toList = vs.map (·.2) := by
    refine PySem.W.kdl_vals_eq acc.toList (by rw [Array.length_toList]; exact hacc.1) fun j v e => ?_
    exact hacc.2 j v (by rw [← Array.getElem?_toList]; exact e)
  refine ⟨.ref _, _, I2.laid (t' := tk) (a := _) (o := .lst (kvs.map (·.2))) hk (Nat.le_refl _) ⟨by rw [List.length_map]; exact hz, acc.toList, c, ?_, ?_⟩, rfl, q _ (I2.hok.fresh (Nat.le_refl _))⟩
  · rw [ea]
    exact kv_vals kv
  · rw [Array.toArray_toList]
    exact hS
end
end Bc

namespace Bc
open PySem PySem.Spec PyProof.Rows L2
/-! ### a != b by the text's own == -/
section
open PySem.W PySem.Calls
variable {prog : Program} {w : World} {A : Around} {E : Value → Shared → Prop} {s : Shared} {K : Frag} {x C L f : Addr} {h₀ : Heap} {m : Str → Option Value} {ox : Obj} {od : Option Obj} {name : Str} {b tb : Value}
theorem bound_blt {M : Model} {T id : String} {args : List Value} {Q : Option Value → Shared → Prop} (X : K.In s.heap) (I : InstAt s.heap x ox C od) (hs : findIn K (.ref C) name = some (some (.builtin id))) (S : Slot T name id)
    (h : wpAny M A (call (.builtin id) (.ref x :: args)) (fun v s' => Q (some v) s') E s) : wpAny M A (callSpecialIfBound? (.ref x) name args) Q E s := by
  simp only [callSpecialIfBound?, bindSpecialIfBound?]
  refine wpAny_holding (wpAny_bind (wpAny_bind ?_))
  refine wpAny_bind (I.type.here ((looks_findIn X hs).here ?_))
  simp only [S.bind]
  have fin : wpAny M A (call (.builtin id) ([.ref x] ++ args) >>= fun v => pure (some v)) Q E s := wpAny_bind (wpAny_mono h (fun v s' q => wpAny_pure q) fun _ _ q => q)
  refine wpAny_bind (wpAny_askSetting (wpAny_ite ?_))
  split
  · exact wpAny_bind (wpAny_pure (wpAny_pure fin))
  · exact wpAny_tryCatch (wpAny_bind (wpAny_pure (wpAny_pure fin)))
theorem cmpNe_K {Q : Value → Shared → Prop} (hu : A.units + 1 < cLine) (X : K.In s.heap) (I : InstAt s.heap x ox C od) (hb : Looks (model prog w) s.heap (typeOf b) tb) (htb : tb = .ref C)
    (hne : findIn K (.ref C) "__ne__" = some (some (.builtin "object.__ne__"))) (hob : subIn K (.ref C) (.type "object") = some true) (hs : findIn K (.ref C) "__eq__" = some (some (.ref f))) (hf : isFn K (.ref f) = true)
    (h : wpAny (model prog w) A.in1 (call (.ref f) [.ref x, b]) (fun v s' => ∃ r, v = .bool r ∧ Q (.bool (!r)) s') E s) : wpAny (model prog w) A (richCompare .NotEq (.ref x) b) Q E s := by
  subst htb
  have inn : ∀ {Q : Fin → Shared → Prop}, wpAny (model prog w) A.in1 (call (.ref f) [.ref x, b]) (fun v s' => ∃ r, v = .bool r ∧ Q (.done (.ret (.bool (!r)))) s') E s → wpAny (model prog w) A.in1 (Builtin.«object.__ne__» ⟨[.ref x, b], []⟩) Q E s := by
    intro Q h
    unfold Builtin.«object.__ne__»
    refine wpAny_bind (wpAny_of_eq (a := ((Value.ref x : Value), [b])) (by first | rfl | (simp only [slotArgs]; rfl)) ?_)
    dsimp only
    refine wpAny_bind (wpAny_cRoomFor (show A.in1.units < cLine from hu) ?_)
    refine wpAny_bind (ifBound_K X I hs hf (wpAny_mono h (fun v s' q => ?_) fun _ _ q => q))
    obtain ⟨r, rfl, q⟩ := q
    dsimp only
    exact wpAny_bind (wpAny_truthy_bool (wpAny_pure q))
  have one : wpAny (model prog w) A (tryCompare (.ref x) "__ne__" b) (fun r s' => ∃ v, r = some v ∧ Q v s') E s := by
    unfold tryCompare
    have isB : Looks (model prog w) s.heap (isInstance (.ref x) (.type "object")) true := I.type.andThen (looks_subIn X hob)
    refine wpAny_bind (bound_blt X I hne PySem.F.cmp_object.ne (wpAny_call (codeAny_call_builtin PySem.F.cmp_object.ne.plain PySem.F.cmpEntry_ne ?_)))
    refine @check_slot (model prog w) _ _ s "object.__ne__" "object" "__ne__" (.ref x) [b] [] _ (by decide +kernel) (by decide +kernel) isB (PySem.F.cmpArgs_ne _ _) ?_
    refine inn (wpAny_mono h (fun v s' q => ?_) fun _ _ q => q)
    obtain ⟨r, rfl, q⟩ := q
    exact ⟨r, rfl, wpAny_pure ⟨_, rfl, q⟩⟩
  unfold richCompare
  simp only [oneThing_ref]
  refine wpAny_holding (wpAny_bind (wpAny_cRoomFor (by omega) ?_))
  refine wpAny_bind (I.type.here (wpAny_bind (hb.here ?_)))
  rw [show (Value.ref C != Value.ref C) = false from by simp]
  rw [if_neg Bool.false_ne_true]
  refine wpAny_bind (wpAny_pure ?_)
  simp only [Bool.false_eq_true, if_false]
  refine wpAny_bind (wpAny_mono one (fun r s' z => ?_) fun _ _ e => e)
  obtain ⟨v, rfl, hq⟩ := z
  exact wpAny_pure hq
end
/-- a != b where == says True -/
def rNeG (D : Eqv) : R2 := fun x y H Q => D x y H ∧ ∀ H', Ext H H' → Q (.bl false) H'
theorem op_neG {X : Cx} {n : Nat} {C f : Addr} {fd : FuncData} {ps : List Str} {R : Addr → Addr → Hp → Prop} (F : FnOk X.prog X.w X.K X.mg X.base CX0 n f fd ps (spEq R)) (hne : PySem.W.findIn X.K (.ref C) "__ne__" = some (some (.builtin "object.__ne__"))) (hob : PySem.W.subIn X.K (.ref C) (.type "object") = some true)
    (hs : PySem.W.findIn X.K (.ref C) "__eq__" = some (some (.ref f))) (hf : PySem.W.isFn X.K (.ref f) = true) (hb : Binds X.K fd ps []) (hr : Room (n + 1) X.A) : OpR X (compareOp .NotEq) (rNeG (DIns C R)) := by
  intro pins s σ H x y v u Q I rx ry hq
  obtain ⟨⟨a, b, dx, dy, fs, gs, rfl, rfl, ha, hb', hR⟩, q⟩ := hq
  cases rx
  cases ry
  obtain ⟨mA, J, _⟩ := ins_get I.hok ha
  obtain ⟨mB, J', _⟩ := ins_get I.hok hb'
  obtain ⟨od, J, _⟩ := J.look
  obtain ⟨od', J', _⟩ := J'.look
  show wpAny (model X.prog X.w) X.A (richCompare .NotEq (.ref a) (.ref b)) (EP X pins σ Q) X.xe s
  have hr1 : Room n X.A.in1 := hr.in1
  refine cmpNe_K hr.in1.units0 I.kIn J J'.type rfl hne hob hs hf ?_
  have hsp : spEq R [.ref a, .ref b] H (fun v H' => v = .bl true ∧ Ext H H') E0 := ⟨a, b, rfl, hR, fun H' e => ⟨rfl, e⟩⟩
  have e := I.env0
  have e0 : Env0 X.prog X.w X.K X.mg X.base X.A.in1 X.stack s H := ⟨e.frames, e.mod, e.bs, e.bsz, e.funs, e.frf, e.hok, e.bare⟩
  have hl := F.len _ _ _ _ hsp
  have r2 : Vals [V.ref a, V.ref b] [Value.ref a, Value.ref b] := .cons rfl (.cons rfl .nil)
  refine wpAny_call (codeAny_mono (F.run X.A.in1 X.stack s H ⟨[.ref a, .ref b], []⟩ [.ref a, .ref b] [.ref a, .ref b] _ E0 hr1 e0 (by
    have := hb s [.ref a, .ref b] I.kIn (by simpa using hl)
    simpa using this) r2 hsp) fun r s' hq => ?_)
  cases r with
  | error e => exact hq.elim
  | ok fl =>
    cases fl with
    | ret w =>
      obtain ⟨z, H', I', rz, ez, ex⟩ := I.after hq
      subst ez
      cases rz
      exact ⟨true, rfl, .bl false, H', I', rfl, q H' ex⟩
    | next => exact False.elim hq
    | brk => exact False.elim hq
    | cont => exact False.elim hq
end Bc

namespace Bc
open PySem PySem.Spec PyProof.Rows L2
/-! ### for k, x in enumerate(a tuple) -/
theorem meets_enum1 {v : Value} {o : Obj} {Hh : Heap → Prop} (B : Begins v o Hh) :
    Meets (Builtin.«enumerate.__new__» ⟨[.type "enumerate", v], []⟩) (fun _ R s => Hh s.heap ∧
      R (.ok (.ret (.ref (s.heap.push o).objs.size))) { s with heap := (s.heap.push o).push { cls := .type "enumerate", data := .fields #[.none, .bool false, .ref s.heap.objs.size, rawInt 0, .none, .none] } }) := by
  refine .of_wp fun prog w A R s q => ?_
  obtain ⟨hp, g, d, tk, os⟩ := s
  obtain ⟨h1, q⟩ := q
  have hsub := sub_enumerate
  have q1 : ∀ {A' : Around} {E : Value → Shared → Prop} {Q : Value → Shared → Prop}, Q (.ref hp.objs.size) ⟨hp.push o, g, d, tk, os⟩ → wpAny (model prog w) A' (pyIter v) Q E ⟨hp, g, d, tk, os⟩ :=
    fun {A' E Q} z => B.iter prog w A' E ⟨hp, g, d, tk, os⟩ Q h1 z
  wp_walk using q1
  refine wpAny_stack_any fun st => wpAny_pure ?_
  split
  · rename_i c _ _ _ _ _
    cases (c == Value.type "enumerate") <;> (wp_walk using q1; exact ⟨_, rfl, q⟩)
  · wp_walk using q1
    exact ⟨_, rfl, q⟩
def Itet (K : PySem.W.Frag) (a : Addr) : It :=
  ⟨fun i H => ∃ (xs : List V) (x : V), SqT K H a xs ∧ xs[i]? = some x,
    fun i H v H' => ∃ T x, v = .ref T ∧ H T = none ∧ H' = upd H T (.tup [.int (i : Nat), x]) ∧ ∀ xs, SqT K H a xs → xs[i]? = some x,
    fun i H => ∃ xs : List V, SqT K H a xs ∧ xs.length ≤ i⟩
theorem tup_inj {X : Cx} {pins : List (Addr × Obj)} {σ : L2.St} {H : Hp} {s : Shared} {a : Addr} {xs ys : List V} (I : Inv X pins σ H s) (h1 : SqT X.K H a xs) (h2 : SqT X.K H a ys) : xs = ys := by
  first | exact I.tuple_inj h1 h2 | exact I.tup_inj h1 h2
theorem enum_end_tup {prog : Program} {w : World} {A : Around} {E : Value → Shared → Prop} {s : Shared} {e it t : Addr} {i : Nat} {items : Array Value} {k : Int} {old : Value} {Q : Option Value → Shared → Prop} (hh : A.in1.handled = none) (he : IsEnum s.heap e it k old)
    (hit : s.heap.IsTupleIter it t i) (ht : s.heap.IsTuple t items) (hx : items[i]? = none) (hQ : ∀ h', Heap.ExtBut it s.heap h' → Q none { s with heap := h' }) : wpAny (model prog w) A (pyNext (.ref e)) Q E s := by
  have hT : s.TypeIs (.ref e) "enumerate" := ⟨_, he, rfl⟩
  have core : ∀ {R : Value → Shared → Prop} {E' : Value → Shared → Prop}, (∀ h' x, Heap.ExtBut it s.heap h' → (∃ o, h'.get? x = some o ∧ o.cls = .type "StopIteration") → E' (.ref x) { s with heap := h' }) → wpAny (model prog w) A.in1 (Builtin.«enumerate.__next__» ⟨[.ref e], []⟩) (fun _ _ => False) E' s := by
    intro R E' h
    show wpAny _ _ (field (.ref e) 2 >>= _) _ _ _
    refine wpAny_bind (wpAny_field he rfl (x := .ref it) rfl ?_)
    exact wpAny_bind (wpAny_nextOf_tuple_end hh hit ht hx h)
  unfold pyNext
  refine wpAny_bind (wpAny_attempt (wpAny_callSpecial?_slot (name := Str.ofString "__next__") hT F.slot_enumerate_next
    (wpAny_call_entry F.slot_enumerate_next hT F.entry_enumerate_next (wpAny_mono (core (R := fun _ _ => True) fun h' x he' hx' => ?_) (fun _ _ z => z.elim) fun _ _ z => z) (F.args_enumerate_next_1 _))))
  obtain ⟨o, ho, hc⟩ := hx'
  refine wpAny_bind (wpAny_isInstance (T := "StopIteration") (b := true) ⟨o, ho, hc⟩ isSubtype_stop ?_)
  exact wpAny_pure (hQ _ he')
theorem turn_enumT {P : Program} {w : World} {K : PySem.W.Frag} {elts : List Expr} {kk : Nat} {tpos : Pos} (a e it : Addr) :
    Turn P w K (.Tuple elts kk tpos) (Itet K a) [e, it] e (fun i h => (∃ old, IsEnum h e it ((i : Nat) : Int) old) ∧ h.IsTupleIter it a i ∧ e ≠ it) where
  mem := by simp
  obj := fun i h st b hb => by
    obtain ⟨⟨old, he⟩, ⟨o, ho, hc, hd⟩, _⟩ := st
    rcases (show b = e ∨ b = it by simpa using hb) with z | z
    · rw [z]
      exact ⟨_, he, fun v q => nomatch q⟩
    · rw [z]
      exact ⟨o, ho, fun v q => by rw [hd] at q; cases q⟩
  keep := fun i h h' st k => by
    obtain ⟨⟨old, he⟩, hi, hne⟩ := st
    exact ⟨⟨old, k e (by simp) _ he⟩, hi.at fun o q => k it (by simp) o q, hne⟩
  item := by
    intro X hP hw hK hc i pins s σ H E I hf st hg
    subst hP hw hK
    obtain ⟨⟨old, he⟩, hit, hne⟩ := st
    obtain ⟨xs, x, hq, hx⟩ := hg
    obtain ⟨its, rv, p, hz⟩ := I.tuple hq
    obtain ⟨u, hu, ru⟩ := rv.get hx
    have hel : e < s.heap.objs.size := Heap.lt_size he
    have hil : it < s.heap.objs.size := by
      obtain ⟨_, q, _⟩ := hit
      exact Heap.lt_size q
    have pt : s.heap.IsTuple a its.toArray := p
    have nea : e ≠ a := fun z => by
      obtain ⟨o, ho, hcl, _⟩ := pt
      rw [← z] at ho
      have he' := he
      unfold IsEnum at he'
      rw [he'] at ho
      cases ho
      exact absurd (Value.type.inj hcl) (by decide)
    have nia : a ≠ it := fun z => by
      obtain ⟨o, ho, hcl, _⟩ := pt
      obtain ⟨o2, ho2, hcl2, _⟩ := hit
      rw [z, ho2] at ho
      cases ho
      rw [hcl2] at hcl
      exact absurd (Value.type.inj hcl) (by decide)
    have hil2 : i < its.toArray.size := by
      have := (List.getElem?_eq_some_iff.mp hu).1
      simpa using this
    refine wpAny_pyNext_enum_itemD (Draws.tuple (show X.A.in1.handled = none from I.ok.hd hc) it a nia its.toArray) he ⟨hit, pt⟩ hil2 hne (by simp [nea, hne]) fun x' h' tk hx' ho st' hT hsz hk => ?_
    have ex : x' = u := by
      rw [show its.toArray[i]? = some u by simpa using hu] at hx'
      exact (Option.some.inj hx').symm
    subst ex
    refine ⟨_, rfl, wpAny_letOwnedTupleGo_enum (s := { s with heap := h', toks := tk + 1 }) ho fun h'' he' sb => ?_⟩
    have hT2 : h''.get? s.heap.objs.size = some { cls := .type "tuple", data := .seq #[.int i tk, x'] } := (sb.2 _ (Nat.ne_of_gt hel)).trans hT
    have new : ObjOk X.prog X.w (upd H s.heap.objs.size (.tup [.int (i : Nat), x])) h'' s.heap.objs.size (.tup [.int (i : Nat), x]) :=
      ⟨by show 2 ≤ sizeLine; decide, [.int i tk, x'], .cons ⟨_, rfl⟩ (.cons ru .nil), ⟨_, hT2, rfl, _, rfl⟩⟩
    have I1 : Inv X pins σ (upd H s.heap.objs.size (.tup [.int (i : Nat), x])) { s with heap := h'', toks := tk + 1 } :=
      I.turnedNew (ch := [e, it]) (fun b ob hb q => (sb.2 b (fun z => hb (by simp [z]))).trans (hk b ob (fun z => hb (by simp [z])) (fun z => hb (by simp [z])) q)) hf (Nat.le_refl _) new
    refine ⟨.ref s.heap.objs.size, _, I1, rfl, ⟨_, x, rfl, I.hok.fresh (Nat.le_refl _), rfl, fun ys hy => by rw [tup_inj I hy hq]; exact hx⟩, ⟨⟨x', ?_⟩, st'.1.at fun o q => (sb.2 it (Ne.symm hne)).trans q, hne⟩, fun b hb => ?_⟩
    · rw [show ((i + 1 : Nat) : Int) = (i : Int) + 1 by omega]
      exact he'
    · have hb' : b < s.heap.objs.size := by
        rcases (show b = e ∨ b = it by simpa using hb) with z | z
        · rw [z]
          exact hel
        · rw [z]
          exact hil
      rw [upd_ne (Nat.ne_of_lt hb')]
      exact (hf b hb).1
  done := by
    intro X hP hw hK hc i pins s σ H E I hf st hg
    subst hP hw hK
    obtain ⟨⟨old, he⟩, hit, hne⟩ := st
    obtain ⟨xs, hq, hx⟩ := hg
    obtain ⟨its, rv, p, hz⟩ := I.tuple hq
    obtain ⟨f0, f1, f2, f3, f4, f5⟩ := hf it (by simp)
    have hl := rv.length
    have pt : s.heap.IsTuple a its.toArray := p
    have nia : a ≠ it := fun z => by
      obtain ⟨o, ho, hcl, _⟩ := pt
      obtain ⟨o2, ho2, hcl2, _⟩ := hit
      rw [z, ho2] at ho
      cases ho
      rw [hcl2] at hcl
      exact absurd (Value.type.inj hcl) (by decide)
    have hs : its.toArray.size ≤ i := by simp; omega
    have hh : X.A.in1.handled = none := I.ok.hd hc
    have hT : s.TypeIs (.ref e) "enumerate" := ⟨_, he, rfl⟩
    refine enum_end_tup hh he hit pt (Array.getElem?_eq_none hs) fun h' eb => ⟨rfl, I.turned (t' := s.toks) (fun b o hb q => eb b o hb q) f0 f1 f3 f4 f5⟩
  self := fun A i s Q E st h => by
    obtain ⟨⟨_, he⟩, _⟩ := st
    exact wpAny_pyIter_enum he h
def iEnumT (K : PySem.W.Frag) (ta : TA) : TI := fun σ H R => ta σ H fun vs H1 => ∃ a xs, vs = [.ref a] ∧ SqT K H1 a xs ∧ R (Itet K a) H1
theorem pi_enumT {X : Cx} {e : Expr} {ta : TA} {p pos tpos : Pos} {elts : List Expr} {kk : Nat} (hg : Gl X "enumerate") (hm : X.mg "enumerate" = none) (ha : PA X [e] ta) (hs : starEach [e] X.env = [(false, eval e X.env)] := by rfl) :
    PI X (.Tuple elts kk tpos) (.Call (.Name "enumerate" p) [e] [] pos) (iEnumT X.K ta) := by
  constructor
  intro pins s σ H R I h
  refine Call_ (ld_blt I hg hm boot_enumerate (PyProof.Rows.callWith_type1 (thn (ha.run pos pins s σ H _ I h) ?_) hs rfl))
  rintro us s1 ⟨vs, H1, I1, r1, a, xs, rfl, hq, q⟩
  obtain ⟨u, rfl, r⟩ : ∃ u, us = [u] ∧ RelV (.ref a) u := by
    cases r1 with
    | cons r rr =>
      cases rr
      exact ⟨_, rfl, r⟩
  cases r
  obtain ⟨its, rv, pt, hz⟩ := I1.tuple hq
  refine callType_new F.called_enumerate (by decide) (F.typeCall_enumerate_1 _) (F.newCall_enumerate_1 _) (fun obj => F.args_object_init_2 obj _) F.entry_enumerate_new (meets_enum1 (begins_tuple a its.toArray)) ⟨pt, ?_⟩
  have z1 : (s1.heap.push { cls := .type "tuple_iterator", data := .fields #[.ref a, .int 0 0] }).objs.size = s1.heap.objs.size + 1 := Heap.size_push ..
  show _ ∧ _
  rw [z1]
  have he : IsEnum ((s1.heap.push { cls := .type "tuple_iterator", data := .fields #[.ref a, .int 0 0] }).push { cls := .type "enumerate", data := .fields #[.none, .bool false, .ref s1.heap.objs.size, rawInt 0, .none, .none] }) (s1.heap.objs.size + 1) s1.heap.objs.size 0 .none := by
    have q := Heap.get?_push_size (s1.heap.push { cls := .type "tuple_iterator", data := .fields #[.ref a, .int 0 0] }) (o := { cls := .type "enumerate", data := .fields #[.none, .bool false, .ref s1.heap.objs.size, rawInt 0, .none, .none] }) rfl
    rw [z1] at q
    exact q
  refine ⟨⟨_, he, rfl⟩, wpAny_pyIter_enum he ?_⟩
  have I2 := I1.kept (t' := s1.toks) (h' := (s1.heap.push { cls := .type "tuple_iterator", data := .fields #[.ref a, .int 0 0] }).push { cls := .type "enumerate", data := .fields #[.none, .bool false, .ref s1.heap.objs.size, rawInt 0, .none, .none] }) fun b o x => Heap.get?_push_of_some _ (Heap.get?_push_of_some _ x)
  refine ⟨s1.heap.objs.size + 1, [s1.heap.objs.size + 1, s1.heap.objs.size], _, _, H1, rfl, I2, turn_enumT a (s1.heap.objs.size + 1) s1.heap.objs.size, ⟨⟨.none, he⟩, ⟨_, Heap.get?_push_of_some _ (Heap.get?_push_size _ rfl), rfl, rfl⟩, Nat.succ_ne_self _⟩, fun b hb => ?_, q⟩
  have hle : s1.heap.objs.size ≤ b := by
    rcases (show b = s1.heap.objs.size + 1 ∨ b = s1.heap.objs.size by simpa using hb) with z | z
    · rw [z]
      exact Nat.le_add_right _ _
    · rw [z]
      exact Nat.le_refl _
  exact I1.fpOk hle (I1.hok.fresh hle)
theorem walk_enumT {K : PySem.W.Frag} {a : Addr} {xs : List V} : Walk (Itet K a) xs.length (fun H => SqT K H a xs) (YPair (fun i => some (.int (i : Nat))) (fun i => xs[i]?)) := by
  refine ⟨fun i H hi q => ⟨xs, xs[i], q, by simp [hi]⟩, fun H q => ⟨xs, q, Nat.le_refl _⟩, fun i H v H' hi q y => ?_⟩
  obtain ⟨T, x, e1, e2, e3, e4⟩ := y
  exact ⟨T, _, x, e1, e2, e3, rfl, e4 xs q⟩
end Bc

namespace Bc
open PySem PySem.Spec PyProof.Rows L2
/-! ### words -/
def isW (z : Str) : Bool := match codes z with
  | [] => false
  | c :: t => inS sLetters c && (t.all alnum && decide (t.length ≤ 11))
theorem pe_bty {X : Cx} {x : Str} {T : String} {pos : Pos} (hg : Gl X x) (hm : X.mg x = none) (hv : bootBuiltins x = some (.type T)) (hn : x ≠ "__name__" := by decide) (hd : (x == ("__debug__" : Str)) = false := by decide) : PE X (.Name x pos) (tC (.ty T)) := pe_bltn (v := .ty T) hg hm hv rfl hn hd
abbrev nIsWord : List Str := ["value", "letter"]
theorem scIsWord : FnScope nIsWord ["value"] (defScope sIsWord) := ⟨rfl, rfl, rfl, by decide +kernel, rfl, by decide +kernel, by decide +kernel⟩
structure Wd (mg : Str → Option Value) : Prop where
  isi : mg "isinstance" = none
  str : mg "str" = none
  all : mg "all" = none
def spIsWord : Sp := fun vs H Q _ => ∃ z : Str, vs = [.str z] ∧ z.length ≤ 20000 ∧ ∀ H', Same H H' → Q (.bl (isW z)) H'
theorem alnum_or (c : Nat) : (inS sLetters c || inS sDigits c) = alnum c := by
  unfold alnum inS
  rw [show (sLetters ++ sDigits : Str).cps.toList = sLetters.cps.toList ++ sDigits.cps.toList from Array.toList_append]
  rw [show decide (c ∈ sLetters.cps.toList ++ sDigits.cps.toList) = decide (c ∈ sLetters.cps.toList ∨ c ∈ sDigits.cps.toList) from decide_eq_decide.mpr List.mem_append, Bool.decide_or]
section
variable {P : Program} {w : World} {K : PySem.W.Frag} {mg : Str → Option Value} {base : Heap}
theorem ok_isWord {f : Addr} {fd : FuncData} (F : Fun K "is_word" "is_word" sIsWord f fd) (B : Blt mg) (T : Cts mg) (W : Wd mg) : FnOk P w K mg base CX0 1 f fd ["value"] spIsWord := by
  refine F.ok scIsWord (fun vs H Q E h => ?_) (fun cdv A outer s H vs Q E hr h => ?_)
  · obtain ⟨z, rfl, _⟩ := h
    rfl
  · obtain ⟨z, rfl, hz, k⟩ := h
    refine ⟨_, pss_cons (ps_if (PW.pt (pw_or (pt_not (pt_val (pe_callB call_isi (by rfl) W.isi (by decide +kernel) (pa_cons (pv 0) (pa_cons (pe_bty (T := "str") (by rfl) W.str (by decide +kernel)) pa_nil)))))
          (pw_or (pt_cmpR op_lt (pe_callB call_len (by rfl) B.len (by decide +kernel) (pa_cons (pv 0) pa_nil)) pe_int (nomark _))
          (pw_or1 (pt_cmpR op_gt (pe_callB call_len (by rfl) B.len (by decide +kernel) (pa_cons (pv 0) pa_nil)) (pe_cint (by rfl) T.lo) (nomark _)))))) (pss_one (ps_ret pe_bl)) pss_nil)
      (pss_cons (ps_if (pt_cmpR op_notIn_sign (pe_ix ix_str (pv 0) pe_int (fun _ _ => rfl)) (pe_cstr (by rfl) T.le) (by rfl)) (pss_one (ps_ret pe_bl)) pss_nil)
      (pss_one (ps_ret (pe_callB (cr_all rfl) (by rfl) W.all (by decide +kernel) (pa_cons (pe_lc (own := [("letter", 1)]) (g := gName 1) (tt := tYes) (by rfl) scIsWord.nd (pi_str (pv 0)) (blkOk_by (own := [("letter", 1)]) (N := nIsWord) (sc := defScope sIsWord) (by decide +kernel)) (fun _ _ _ _ _ => pg_name (i := 1) scIsWord.nd rfl (.inl rfl)) (fun _ _ _ _ _ => pts_nil)
          (fun _ _ _ _ _ => pe_or (pe_cmpR op_in_sign (pv 1) (pe_cstr (by rfl) T.le) (by rfl)) (pe_one (pe_cmpR op_in_sign (pv 1) (pe_cstr (by rfl) T.di) (by rfl))))) pa_nil))))), ?_⟩
    have szl : z.length = (codes z).length := Array.length_toList.symm
    refine ⟨_, rfl, _, _, _, _, true, rfl, .ty "str", .base (.str z), kit_ty (by decide +kernel), true, rfl, ?_⟩
    refine if_no rfl ?_
    refine ⟨_, rfl, .str z, z.length, rfl, ⟨sz20 hz, rfl⟩, _, _, rfl, rfl, _, rfl, ?_⟩
    have k0 := k H (Same.refl H)
    refine ite2 (fun h1 => ?_) (fun h1 => ?_)
    · have h2 := of_decide_eq_true h1
      have e : isW z = false := by
        unfold isW
        have : (codes z).length = 0 := by omega
        rw [List.length_eq_zero_iff.mp this]
      rw [e] at k0
      exact k0
    have h1' : 1 ≤ z.length := by
      have : ¬ ((z.length : Int) < 1) := fun y => h1 (decide_eq_true y)
      omega
    refine ⟨_, rfl, .str z, z.length, rfl, ⟨sz20 hz, rfl⟩, _, _, rfl, rfl, _, rfl, ?_⟩
    obtain ⟨c, t, ec⟩ : ∃ c t, codes z = c :: t := by
      cases e : codes z with
      | nil =>
        rw [szl, e] at h1'
        cases h1'
      | cons c t => exact ⟨c, t, rfl⟩
    have lt : z.length = t.length + 1 := by rw [szl, ec]; rfl
    have eW : isW z = (inS sLetters c && (t.all alnum && decide (t.length ≤ 11))) := by
      unfold isW
      rw [ec]
    refine ite2 (fun h3 => ?_) (fun h3 => ?_)
    · have h4 := of_decide_eq_true h3
      rw [eW, decide_eq_false (by omega), Bool.and_false, Bool.and_false] at k0
      exact k0
    have h3' : t.length ≤ 11 := by
      have : ¬ ((z.length : Int) > 12) := fun y => h3 (decide_eq_true y)
      omega
    rw [eW, decide_eq_true h3', Bool.and_true] at k
    clear k0
    have e00 : (codes z)[0]? = some c := by rw [ec]; rfl
    have at0 : atI (codes z) (0 : Int) = some c := atI_nat (j := 0) e00
    refine ⟨_, rfl, z, _, c, rfl, rfl, sz20 hz, at0, c, sLetters, rfl, rfl, _, rfl, ?_⟩
    refine ite2 (fun h5 => ?_) (fun h5 => ?_)
    · have h6 : inS sLetters c = false := by
        have := h5
        simpa [inS] using this
      have q := k H (Same.refl H)
      rw [h6, Bool.false_and] at q
      exact q
    have h6 : inS sLetters c = true := by
      have := h5
      simpa [inS] using this
    rw [h6, Bool.true_and] at k
    refine ⟨_, rfl, z, rfl, fun D hD => lc_it walk_str (fun i H' => Same H H' ∧ H' D = some (.lst ((((codes z).take i).map alnum).map V.bl))) ⟨same_new hD, upd_same⟩ (fun _ _ _ _ => trivial) ?_ ?_⟩
    · rintro i x H1 H1' hi ⟨s1, eD⟩ ⟨rfl, d, hd, rfl⟩
      refine ⟨rfl, lc_yes ?_⟩
      have hd' : (codes z)[i]? = some d := by rw [← hd]; exact (Array.getElem?_toList ..)
      have st : ∀ b, b = alnum d → ∃ acc, H1' D = some (.lst acc) ∧ acc.length < sizeLine ∧ Same H (upd H1' D (.lst (acc ++ [.bl b]))) ∧ (upd H1' D (.lst (acc ++ [.bl b]))) D = some (.lst ((((codes z).take (i + 1)).map alnum).map V.bl)) := fun b hb => by
        refine ⟨_, eD, ?_, Same.over s1 hD, ?_⟩
        · rw [List.length_map, List.length_map, List.length_take]
          exact small1000 (by omega)
        · rw [upd_same, List.take_add_one, hd', hb, List.map_append, List.map_append]
          rfl
      refine ⟨_, rfl, d, sLetters, rfl, rfl, _, rfl, ?_⟩
      refine ite2 (fun h7 => st true ?_) (fun h7 => ?_)
      · rw [← alnum_or, show inS sLetters d = true from h7]
        rfl
      · refine ⟨_, rfl, d, sDigits, rfl, rfl, st _ ?_⟩
        rw [← alnum_or, show inS sLetters d = false by simpa [inS] using h7, Bool.false_or]
        rfl
    · rintro H1 ⟨s1, eD⟩
      refine ⟨D, ((codes z).take z.cps.size).map alnum, rfl, .inl (.inl eD), ?_⟩
      rw [show z.cps.size = (codes z).length from Array.length_toList.symm, List.take_length, ec]
      have ac : alnum c = true := let_alnum h6
      show Q (.bl (((c :: t).map alnum).all id)) H1
      rw [List.map_cons, List.all_cons, ac, List.all_map]
      exact k H1 s1
end
end Bc

namespace Bc
open PySem PySem.Spec PyProof.Rows L2
/-! ### what a word is good for -/
abbrev signL : List Str := ["(", ")", "{", "}", ",", ";"]
theorem in_all {z : Str} {c : Nat} {p : Nat → Bool} (h : inS z c = true) (a : z.cps.toList.all p = true) : p c = true := List.all_eq_true.mp a c (of_decide_eq_true h)
theorem isW_cons {z : Str} (h : isW z = true) : ∃ c t, codes z = c :: t ∧ inS sLetters c = true ∧ t.all alnum = true ∧ t.length ≤ 11 := by
  unfold isW at h
  cases e : codes z with
  | nil =>
    rw [e] at h
    cases h
  | cons c t =>
    rw [e] at h
    simp only [Bool.and_eq_true, decide_eq_true_eq] at h
    exact ⟨c, t, rfl, h.1, h.2.1, h.2.2⟩
theorem letter_not {c : Nat} (h : inS sLetters c = true) : inS sSigns c = false ∧ inS sDigits c = false ∧ inS sBlanks c = false ∧ alnum c = true ∧ c ≠ 48 := by
  have q := in_all h (p := fun c => !(inS sSigns c) && (!(inS sDigits c) && (!(inS sBlanks c) && (alnum c && !(decide (c = 48)))))) (by decide +kernel)
  simpa using q
theorem alnum_facts {c : Nat} (h : alnum c = true) : Unicode.isAlnum c = true ∧ c < 0x110000 ∧ c ≠ 94 := by
  have q := in_all h (p := fun c => Unicode.isAlnum c && (decide (c < 0x110000) && !(decide (c = 94)))) (by decide +kernel)
  simpa using q
theorem isW_all {z : Str} (h : isW z = true) : (codes z).all alnum = true := by
  obtain ⟨c, t, e, h1, h2, h3⟩ := isW_cons h
  rw [e, List.all_cons, (letter_not h1).2.2.2.1, h2]
  rfl
theorem isW_good {z : Str} (h : isW z = true) : goodTok z = true := by
  have ha := isW_all h
  obtain ⟨c, t, e, h1, h2, h3⟩ := isW_cons h
  unfold goodTok
  rw [e] at ha ⊢
  dsimp only
  rw [(letter_not h1).1, if_neg (by decide), if_pos h1, ha]
  exact decide_eq_true (by show t.length + 1 ≤ 12; omega)
theorem isW_kind {z : Str} (h : isW z = true) : kindOf z = "word" := by
  obtain ⟨c, t, e, h1, h2, h3⟩ := isW_cons h
  unfold kindOf
  rw [e]
  dsimp only
  rw [(letter_not h1).1, if_neg (by decide), if_pos h1]
theorem isW_strOk {z : Str} (h : isW z = true) : PyData.strOk z = true := by
  have ha := isW_all h
  unfold PyData.strOk
  rw [← Array.all_toList, List.all_eq_true]
  intro c hc
  exact decide_eq_true (alnum_facts (List.all_eq_true.mp ha c hc)).2.1
end Bc

namespace Bc
open PySem PySem.Spec PyProof.Rows L2
/-! ### books: a shape -/
abbrev Shp := Str × Str × List Str
def dShape (s : Shp) : PyData := .tuple [.str s.1, .str s.2.1, .tuple (s.2.2.map PyData.str)]
def okShapeB (s : Shp) : Bool := isW s.1 && (isW s.2.1 && (s.2.2.all isW && decide (s.2.2.length ≤ 100)))
structure OkShape (s : Shp) : Prop where
  w : isW s.1 = true
  st : isW s.2.1 = true
  br : ∀ b ∈ s.2.2, isW b = true
  ln : s.2.2.length ≤ 100
theorem okShape {s : Shp} (h : okShapeB s = true) : OkShape s := by
  unfold okShapeB at h
  simp only [Bool.and_eq_true, List.all_eq_true, decide_eq_true_eq] at h
  exact ⟨h.1, h.2.1, h.2.2.1, h.2.2.2⟩
theorem isW_len {z : Str} (h : isW z = true) : z.length ≤ 12 := by
  have szl : z.length = (codes z).length := Array.length_toList.symm
  unfold isW at h
  cases e : codes z with
  | nil =>
    rw [szl, e]
    decide
  | cons c t =>
    rw [e] at h
    simp only [Bool.and_eq_true, decide_eq_true_eq] at h
    rw [szl, e]
    show t.length + 1 ≤ 12
    omega
theorem dq_strs {K : PySem.W.Frag} {H : Hp} : ∀ {vs : List V} {bs : List Str}, DqAll K H vs (bs.map PyData.str) → vs = bs.map V.str
  | vs, [], h => h.nil_inv
  | vs, b :: bs, h => by
    obtain ⟨v, vs', rfl, h1, h2⟩ := DqAll.cons_inv h
    rw [h1.str_inv, dq_strs h2]
    rfl
theorem strs_dq {K : PySem.W.Frag} {H : Hp} : ∀ (bs : List Str), DqAll K H (bs.map V.str) (bs.map PyData.str)
  | [] => .nil
  | b :: bs => .cons (.str b) (strs_dq bs)
theorem shape_inv {K : PySem.W.Frag} {H : Hp} {v : V} {s : Shp} (h : Dq K H v (dShape s)) : ∃ a b, v = .ref a ∧ SqT K H a [.str s.1, .str s.2.1, .ref b] ∧ SqT K H b (s.2.2.map V.str) := by
  obtain ⟨a, xs, rfl, hq, hall⟩ := h.tup_inv
  obtain ⟨v1, _, rfl, h1, hall⟩ := hall.cons_inv
  obtain ⟨v2, _, rfl, h2, hall⟩ := hall.cons_inv
  obtain ⟨v3, _, rfl, h3, hall⟩ := hall.cons_inv
  cases hall.nil_inv
  cases h1.str_inv
  cases h2.str_inv
  obtain ⟨b, ys, rfl, hb, hs⟩ := h3.tup_inv
  rw [dq_strs hs] at hb
  exact ⟨a, b, rfl, hq, hb⟩
theorem tyL {K : PySem.W.Frag} {H : Hp} {a : Addr} {xs : List V} (h : SqL K H a xs) : TyX K H (.ref a) (.type "list") := by
  rcases h with (h | ⟨u, h⟩) | ⟨o, its, n, hk, hc, _⟩
  · exact .base (.lst h)
  · exact .base (.frz h)
  · exact .kList hk hc
theorem tyT {K : PySem.W.Frag} {H : Hp} {a : Addr} {xs : List V} (h : SqT K H a xs) : TyX K H (.ref a) (.type "tuple") := by
  rcases h with (h | ⟨u, h⟩) | ⟨o, its, n, hk, hc, _⟩
  · exact .base (.tup h)
  · exact .fTuple h
  · exact .kTuple hk hc
theorem hu1 {k : Nat} {A : Around} (r : Room k A) : A.units + 1 < cLine := by have := r.un; omega
structure Wt (mg : Str → Option Value) : Prop where
  tup : mg "tuple" = none
  enu : mg "enumerate" = none
abbrev nWrongS : List Str := ["shape", "k", "earlier", "word", "stem", "branches", "j", "colour"]
theorem scWrongS : FnScope nWrongS ["shape", "k", "earlier"] (defScope sWrongS) := ⟨rfl, rfl, rfl, by decide +kernel, rfl, by decide +kernel, by decide +kernel⟩
def spWrongS (K : PySem.W.Frag) : Sp := fun vs H Q _ => ∃ (v : V) (k : Int) (d : Addr) (kvs : List (Key × V)) (s : Shp), vs = [v, .int k, .ref d] ∧ Dq K H v (dShape s) ∧ OkShape s ∧ H d = some (.dK kvs) ∧ valV kvs (Sum.inr s.1 : Key) = none ∧ ∀ H', Same H H' → Q .non H'
section
variable {P : Program} {w : World} {K : PySem.W.Frag} {mg : Str → Option Value} {base : Heap}
theorem ok_wrongS {f fW : Addr} {fd fdW : FuncData} (F : Fun K "wrong_in_shape" "wrong_in_shape" sWrongS f fd) (B : Blt mg) (W : Wd mg) (N : Nm mg) (T : Wt mg)
    (GW : FnOk P w K mg base CX0 1 fW fdW ["value"] spIsWord) (bW : Binds K fdW ["value"] []) (gW : mg "is_word" = some (.ref fW)) (kW : PySem.W.keepIn K (.ref fW) = true) : FnOk P w K mg base CX0 2 f fd ["shape", "k", "earlier"] (spWrongS K) := by
  refine F.ok scWrongS (fun vs H Q E h => ?_) (fun cdv A outer s H vs Q E hr h => ?_)
  · obtain ⟨v, k, d, kvs, s, rfl, _⟩ := h
    rfl
  · obtain ⟨v, k0, d, kvs, sh, rfl, hv, ok, hd, hno, k⟩ := h
    obtain ⟨a, b, rfl, ha, hb⟩ := shape_inv hv
    have hu := hu1 hr
    refine ⟨_, pss_cons (ps_if (PW.pt (pw_or (pt_not (pt_val (pe_callB call_isi (by rfl) W.isi (by decide +kernel) (pa_cons (pv 0) (pa_cons (pe_bty (T := "tuple") (by rfl) T.tup (by decide +kernel)) pa_nil)))))
          (pw_or1 (pt_cmpR op_ne (pe_callB call_len (by rfl) B.len (by decide +kernel) (pa_cons (pv 0) pa_nil)) pe_int (nomark _))))) (pss_one ps_never) pss_nil)
      (pss_cons (ps_asg (pv 0) (pg_tup rfl (pgs_cons (pg_name (i := 3) scWrongS.nd rfl (.inl rfl)) (pgs_cons (pg_name (i := 4) scWrongS.nd rfl (.inl rfl)) (pgs_cons (pg_name (i := 5) scWrongS.nd rfl (.inl rfl)) pgs_nil)))))
      (pss_cons (ps_if (PW.pt (pw_or (pt_not (pt_val (pe_call GW hr (by rfl) gW kW bW .nil pass0 (pa_cons (pv 3) pa_nil)))) (pw_or1 (pt_cmp (pc_din hu (pv 3) (pv 2)))))) (pss_one ps_never) pss_nil)
      (pss_cons (ps_if (pt_not (pt_val (pe_call GW hr (by rfl) gW kW bW .nil pass0 (pa_cons (pv 4) pa_nil)))) (pss_one ps_never) pss_nil)
      (pss_cons (ps_if (pt_not (pt_val (pe_callB call_isi (by rfl) W.isi (by decide +kernel) (pa_cons (pv 5) (pa_cons (pe_bty (T := "tuple") (by rfl) T.tup (by decide +kernel)) pa_nil))))) (pss_one ps_never) pss_nil)
      (pss_cons (ps_for PassesOwn.never rfl (pi_enumT (by rfl) T.enu (pa_cons (pv 5) pa_nil)) (pg_tup rfl (pgs_cons (pg_name (i := 6) scWrongS.nd rfl (.inl rfl)) (pgs_cons (pg_name (i := 7) scWrongS.nd rfl (.inl rfl)) pgs_nil)))
        (pss_one (ps_if (pt_not (pt_val (pe_call GW hr (by rfl) gW kW bW .nil pass0 (pa_cons (pv 7) pa_nil)))) (pss_one ps_never) pss_nil)))
      (pss_one (ps_ret pe_non))))))), ?_⟩
    have wl : ∀ {z : Str}, isW z = true → z.length ≤ 20000 := fun {z} h => Nat.le_trans (isW_len h) (by decide)
    refine ⟨_, rfl, _, _, _, _, true, rfl, .ty "tuple", tyT ha, kit_ty (by decide +kernel), true, rfl, ?_⟩
    refine if_no rfl ?_
    refine ⟨_, rfl, _, 3, rfl, .inr ⟨_, ha, rfl⟩, rfl, _, rfl, ?_⟩
    refine if_no (by decide +kernel) ?_
    refine ⟨_, rfl, a, _, rfl, ha, rfl, _, _, rfl, _, _, rfl, _, _, rfl, rfl, ?_⟩
    refine ⟨_, rfl, sh.1, rfl, wl ok.w, fun H1 s1 => ⟨_, rfl, ?_⟩⟩
    refine if_no (by rw [ok.w]; rfl) ?_
    refine ⟨_, rfl, _, rfl, d, none, rfl, ?_, _, rfl, ?_⟩
    · rw [← hno]
      exact DGet.k (k := Sum.inr sh.1) (s1 _ _ hd)
    refine if_no rfl ?_
    refine ⟨_, rfl, sh.2.1, rfl, wl ok.st, fun H2 s2 => ⟨_, rfl, ?_⟩⟩
    refine if_no (by rw [ok.st]; rfl) ?_
    have sb := s1.trans s2
    refine ⟨_, rfl, _, _, _, _, true, rfl, .ty "tuple", tyT (Same.sqT sb hb), kit_ty (by decide +kernel), true, rfl, ?_⟩
    refine if_no rfl ?_
    refine ⟨_, rfl, b, _, rfl, Same.sqT sb hb, for_it (walk_enumT (K := K) (a := b) (xs := sh.2.2.map V.str)) (fun i σ H' => (∃ v6 v7, σ = [some (.ref a), some (.int k0), some (.ref d), some (.str sh.1), some (.str sh.2.1), some (.ref b), v6, v7]) ∧ Same H H')
      ⟨⟨_, _, rfl⟩, sb⟩ (fun i σ H' _ h => Same.sqT h.2 hb) ?_ ?_⟩
    · rintro i x σ H3 H3' hi ⟨⟨v6, v7, rfl⟩, s3⟩ ⟨q, x1, y1, rfl, hq, rfl, e1, e2⟩
      cases (Option.some.inj e1)
      obtain ⟨c, hc, rfl⟩ : ∃ c, c ∈ sh.2.2 ∧ y1 = V.str c := by
        obtain ⟨c, hc, e⟩ := List.mem_map.mp (List.mem_of_getElem? e2)
        exact ⟨c, hc, e.symm⟩
      refine ⟨q, _, rfl, .inl (.inl upd_same), rfl, _, _, rfl, _, _, rfl, rfl, ?_⟩
      refine ⟨_, rfl, c, rfl, wl (ok.br c hc), fun H4 s4 => ⟨_, rfl, ?_⟩⟩
      refine if_no (by rw [ok.br c hc]; rfl) ?_
      exact ⟨⟨_, _, rfl⟩, (s3.trans (same_new hq)).trans s4⟩
    · rintro σ H3 ⟨⟨v6, v7, rfl⟩, s3⟩
      exact k H3 s3
end
end Bc

namespace Bc
open PySem PySem.Spec PyProof.Rows L2
/-! ### books -/
/-- what isinstance asks of an own class and its instances -/
structure IsC (K : PySem.W.Frag) (C : Addr) : Prop where
  cl : Cls K C
  a1 : PySem.W.findIn K (.ref C) "__class__" = some (some (.builtin "object.__class__"))
  a2 : PySem.W.specialIn K (.builtin "object.__class__") "__get__" = some (some (.builtin "getset_descriptor.__get__"))
  a3 : PySem.W.takesIn K (.builtin "object.__class__") = some true
  a4 : PySem.W.mroIn K C (.type "object") = some true
  a5 : PySem.W.kitOne K (.ref C) (.ref C) = some true
def bkv (ws : List Str) (xs : List V) : List (Key × V) := (ws.map fun s => (Sum.inr s : Key)).zip xs
def wordsS (shs : List Shp) : List Str := shs.map (·.1)
structure OkBook (shs : List Shp) : Prop where
  all : ∀ s ∈ shs, OkShape s
  nd : (wordsS shs).Nodup
  ln : shs.length ≤ 1000
def BookAt (K : PySem.W.Frag) (H : Hp) (C b : Addr) (shs : List Shp) : Prop := ∃ (dx d : Addr) (xs : List V), H b = some (.ins C dx [("_shapes", .ref d)]) ∧ H d = some (.dK (bkv (wordsS shs) xs)) ∧ DqAll K H xs (shs.map dShape)
theorem BookAt.same {K : PySem.W.Frag} {H H' : Hp} {C b : Addr} {shs : List Shp} (h : BookAt K H C b shs) (s : Same H H') : BookAt K H' C b shs := by
  obtain ⟨dx, d, xs, h1, h2, h3⟩ := h
  exact ⟨dx, d, xs, s _ _ h1, s _ _ h2, DqAll.same s h3⟩
theorem bkv_snd {ws : List Str} {xs : List V} (h : xs.length = ws.length) : (bkv ws xs).map (·.2) = xs := by
  unfold bkv
  exact zip_snd (by rw [List.length_map]; exact h.symm)
theorem bkv_fst {ws : List Str} {xs : List V} (h : xs.length = ws.length) : (bkv ws xs).map (·.1) = ws.map fun s => (Sum.inr s : Key) := by
  unfold bkv
  exact zip_fst (by rw [List.length_map]; exact h.symm)
theorem bkv_len {ws : List Str} {xs : List V} (h : xs.length = ws.length) : (bkv ws xs).length = ws.length := by
  rw [← List.length_map (f := (·.1)), bkv_fst h, List.length_map]
theorem bkv_keys {ws : List Str} {xs : List V} (h : xs.length = ws.length) : (bkv ws xs).map (fun kv => kV kv.1) = ws.map V.str := by
  rw [show (bkv ws xs).map (fun kv => kV kv.1) = ((bkv ws xs).map (·.1)).map kV by rw [List.map_map]; rfl, bkv_fst h, List.map_map]
  rfl
theorem bkv_snoc {ws : List Str} {xs : List V} (h : xs.length = ws.length) (w : Str) (x : V) : bkv (ws ++ [w]) (xs ++ [x]) = bkv ws xs ++ [((Sum.inr w : Key), x)] := by
  unfold bkv
  rw [List.map_append, List.zip_append (by rw [List.length_map]; exact h.symm)]
  rfl
theorem valV_out {k : Key} : ∀ {kvs : List (Key × V)}, k ∉ kvs.map (·.1) → valV kvs k = none
  | [], _ => rfl
  | p :: r, h => by
    rw [valV_neg (fun e => h (by rw [List.map_cons, e]; exact List.mem_cons_self ..))]
    exact valV_out fun m => h (by rw [List.map_cons]; exact List.mem_cons_of_mem _ m)
theorem bkv_out {ws : List Str} {xs : List V} {w : Str} (h : xs.length = ws.length) (n : w ∉ ws) : valV (bkv ws xs) (Sum.inr w : Key) = none := valV_out fun m => by
  rw [bkv_fst h] at m
  obtain ⟨s, hs, e⟩ := List.mem_map.mp m
  cases e
  exact n hs
abbrev nBookI : List Str := ["self", "shapes", "found", "k", "shape", "path"]
theorem scBookI : FnScope nBookI ["self", "shapes"] (defScope sBookI) := ⟨rfl, rfl, rfl, by decide +kernel, rfl, by decide +kernel, by decide +kernel⟩
theorem scBookS : FnScope ["self"] ["self"] (defScope sBookS) := ⟨rfl, rfl, rfl, by decide +kernel, rfl, by decide +kernel, by decide +kernel⟩
theorem scBookW : FnScope ["self"] ["self"] (defScope sBookW) := ⟨rfl, rfl, rfl, by decide +kernel, rfl, by decide +kernel, by decide +kernel⟩
theorem scBookEq : FnScope ["self", "other"] ["self", "other"] (defScope sBookEq) := ⟨rfl, rfl, rfl, by decide +kernel, rfl, by decide +kernel, by decide +kernel⟩
def spBookI (K : PySem.W.Frag) (C : Addr) : Sp := fun vs H Q _ => ∃ (a dx l : Addr) (xs : List V) (shs : List Shp), vs = [.ref a, .ref l] ∧ H a = some (.ins C dx []) ∧ SqL K H l xs ∧ DqAll K H xs (shs.map dShape) ∧ OkBook shs ∧
  ∀ p H', (∀ b o, b ≠ a → H b = some o → H' b = some o) → H p = none → H' a = some (.ins C dx [("_shapes", .ref p)]) → H' p = some (.dK (bkv (wordsS shs) xs)) → Q .non H'
def spBookS (K : PySem.W.Frag) (C : Addr) : Sp := fun vs H Q _ => ∃ (a : Addr) (shs : List Shp), vs = [.ref a] ∧ BookAt K H C a shs ∧ ∀ p xs H', Same H H' → H p = none → H' p = some (.lst xs) → DqAll K H' xs (shs.map dShape) → Q (.ref p) H'
def spBookW (K : PySem.W.Frag) (C : Addr) : Sp := fun vs H Q _ => ∃ (a : Addr) (shs : List Shp), vs = [.ref a] ∧ BookAt K H C a shs ∧ ∀ p H', Same H H' → H p = none → H' p = some (.lst ((wordsS shs).map V.str)) → Q (.ref p) H'
def rBookEq (K : PySem.W.Frag) (C : Addr) (a b : Addr) (H : Hp) : Prop := ∃ shs, OkBook shs ∧ BookAt K H C a shs ∧ BookAt K H C b shs
section
variable {P : Program} {w : World} {K : PySem.W.Frag} {mg : Str → Option Value} {base : Heap} {C : Addr}
theorem ok_bookI {f fW : Addr} {fd fdW : FuncData} (F : Fun K "__init__" "Book.__init__" sBookI f fd) (c : Cls K C) (na : NoAttr K C "_shapes") (W : Wd mg) (N : Nm mg) (T : Wt mg)
    (GW : FnOk P w K mg base CX0 2 fW fdW ["shape", "k", "earlier"] (spWrongS K)) (bW : Binds K fdW ["shape", "k", "earlier"] []) (gW : mg "wrong_in_shape" = some (.ref fW)) (kW : PySem.W.keepIn K (.ref fW) = true) : FnOk P w K mg base CX0 3 f fd ["self", "shapes"] (spBookI K C) := by
  refine F.ok scBookI (fun vs H Q E h => ?_) (fun cdv A outer s H vs Q E hr h => ?_)
  · obtain ⟨a, dx, l, xs, shs, rfl, _⟩ := h
    rfl
  · obtain ⟨a, dx, l, xs, shs, rfl, ha, hl, hx, ok, k⟩ := h
    have hu := hu1 hr
    refine ⟨_, pss_cons (ps_if (pt_not (pt_val (pe_callB call_isiT (by rfl) W.isi (by decide +kernel) (pa_cons (pv 1) (pa_cons (pe_tup (pa_cons (pe_bty (T := "list") (by rfl) N.lst (by decide +kernel)) (pa_cons (pe_bty (T := "tuple") (by rfl) T.tup (by decide +kernel)) pa_nil))) pa_nil))))) (pss_one ps_never) pss_nil)
      (pss_cons (ps_set (i := 2) scBookI.nd rfl (.inl rfl) pe_dnewK)
      (pss_cons (ps_for PassesOwn.never rfl (pi_enum (by rfl) T.enu (pa_cons (pv 1) pa_nil)) (pg_tup rfl (pgs_cons (pg_name (i := 3) scBookI.nd rfl (.inl rfl)) (pgs_cons (pg_name (i := 4) scBookI.nd rfl (.inl rfl)) pgs_nil)))
        (pss_cons (ps_set (i := 5) scBookI.nd rfl (.inl rfl) (pe_call GW hr (by rfl) gW kW bW .nil pass0 (pa_cons (pv 4) (pa_cons (pv 3) (pa_cons (pv 2) pa_nil)))))
        (pss_cons (ps_if (pt_cmpR op_notN (pv 5) pe_non (nomark _)) (pss_one ps_never) pss_nil)
        (pss_one (ps_dput hu (pv 2) (pe_ix (show IxR _ (rIxT K) from ix_tup) (pv 4) pe_int (fun _ _ => rfl)) (pv 4) rfl)))))
      (pss_one (ps_fld (pv 0) (pv 2) rfl)))), ?_⟩
    refine ⟨_, rfl, (by show 2 ≤ sizeLine; decide), fun tp htp => ⟨_, tp, _, _, _, true, rfl, upd_same, .cons (.ty "list") (.cons (.ty "tuple") .nil), tyL ((same_new htp).seq hl), kitAny_cons (b := true) (kit_ty (by decide +kernel)) (fun e => absurd e (by decide)) (fun _ => rfl), true, rfl, ?_⟩⟩
    refine if_no rfl ?_
    intro d hd
    have s1 := same_new (o := .tup [.ty "list", .ty "tuple"]) htp
    have hd0 : H d = none := s1.free hd
    have s2 : Same H (upd (upd H tp (.tup [.ty "list", .ty "tuple"])) d (.dK [])) := s1.trans (same_new hd)
    have ed : (upd (upd H tp (.tup [.ty "list", .ty "tuple"])) d (.dK [])) d = some (.dK (bkv ((wordsS shs).take 0) (xs.take 0))) := by
      rw [List.take_zero, List.take_zero]
      exact upd_same
    generalize upd (upd H tp (.tup [.ty "list", .ty "tuple"])) d (.dK []) = H2 at s2 ed ⊢
    have lx : xs.length = shs.length := by rw [hx.len, List.length_map]
    have lw : (wordsS shs).length = shs.length := List.length_map ..
    have tl : ∀ i, (xs.take i).length = ((wordsS shs).take i).length := fun i => by rw [List.length_take, List.length_take, lx, lw]
    refine ⟨_, rfl, l, xs, rfl, s2.seq hl, for_it (walk_enum (K := K) (a := l) (xs := xs)) (fun i σ H' => (∃ v3 v4 v5, σ = [some (.ref a), some (.ref l), some (.ref d), v3, v4, v5]) ∧ Same H H' ∧ H' d = some (.dK (bkv ((wordsS shs).take i) (xs.take i))))
      ⟨⟨_, _, _, rfl⟩, s2, ed⟩ (fun i σ H' _ h => h.2.1.seq hl) ?_ ?_⟩
    · rintro i x σ H3 H3' hi ⟨⟨v3, v4, v5, rfl⟩, s3, ed3⟩ ⟨q, x1, y1, rfl, hq, rfl, e1, e2⟩
      cases (Option.some.inj e1)
      have e2 : xs[i]? = some y1 := e2
      obtain ⟨sd, hsd, dqy⟩ := DqAll.get i hx e2
      obtain ⟨sh, hsh, rfl⟩ : ∃ sh, shs[i]? = some sh ∧ sd = dShape sh := by
        rw [List.getElem?_map] at hsd
        cases e : shs[i]? with
        | none =>
          rw [e] at hsd
          cases hsd
        | some b =>
          rw [e] at hsd
          exact ⟨b, rfl, (Option.some.inj hsd).symm⟩
      have s3q := s3.trans (same_new (o := .tup [.int (i : Nat), y1]) hq)
      have ed3q := (same_new (o := .tup [.int (i : Nat), y1]) hq) _ _ ed3
      have hwi : (wordsS shs)[i]? = some sh.1 := by
        unfold wordsS
        rw [List.getElem?_map, hsh]
        rfl
      have hout : sh.1 ∉ (wordsS shs).take i := fun m => by
        obtain ⟨j, hj⟩ := List.getElem?_of_mem m
        have hj1 : j < i := by
          have := (List.getElem?_eq_some_iff.mp hj).1
          rw [List.length_take] at this
          omega
        rw [List.getElem?_take_of_lt hj1] at hj
        have := nd_ix ok.nd hj hwi
        omega
      have hnone : valV (bkv ((wordsS shs).take i) (xs.take i)) (Sum.inr sh.1 : Key) = none := bkv_out (tl i) hout
      refine ⟨q, _, rfl, .inl (.inl upd_same), rfl, _, _, rfl, _, _, rfl, rfl, ?_⟩
      refine ⟨_, rfl, _, rfl, _, rfl, y1, _, d, _, sh, rfl, Dq.same s3q dqy, ok.all sh (List.mem_of_getElem? hsh), ed3q, hnone, fun H4 s4 => ?_⟩
      refine ⟨_, rfl, rfl, _, rfl, ?_⟩
      refine iteNS rfl ?_
      have s5 := s3q.trans s4
      obtain ⟨r, b, rfl, hr2, hb2⟩ := shape_inv (Dq.same s5 dqy)
      refine ⟨_, rfl, _, rfl, _, rfl, r, _, _, .str sh.1, rfl, rfl, hr2, L2.at_of (j := 0) rfl rfl, d, _, rfl, DPut.k (k := Sum.inr sh.1) (s4 _ _ ed3q) ?_, ⟨_, _, _, rfl⟩, Same.over s5 hd0, ?_⟩
      · have q1 := tl i
        rw [bkv_len q1, List.length_take, lw]
        exact small1000 (by have := ok.ln; omega)
      · rw [upd_same, putK_new _ hnone, List.take_add_one, List.take_add_one, hwi, e2]
        show _ = some (HO.dK (bkv ((wordsS shs).take i ++ [sh.1]) (xs.take i ++ [.ref r])))
        rw [bkv_snoc (tl i)]
    · rintro σ H3 ⟨⟨v3, v4, v5, rfl⟩, s3, ed3⟩
      rw [List.take_length, List.take_of_length_le (by rw [lw, lx]; exact Nat.le_refl _)] at ed3
      have nad : d ≠ a := fun e => by rw [e, ha] at hd0; cases hd0
      refine ⟨_, rfl, _, rfl, a, C, dx, [], rfl, s3 _ _ ha, c, na, by decide, ?_⟩
      refine k d _ (fun b o nb e => ?_) hd0 upd_same ?_
      · rw [upd_ne nb]
        exact s3 _ _ e
      · rw [upd_ne nad]
        exact ed3
theorem ok_bookS {f : Addr} {fd : FuncData} (F : Fun K "shapes" "Book.shapes" sBookS f fd) (c : Cls K C) (na : NoAttr K C "_shapes") (N : Nm mg) : FnOk P w K mg base CX0 1 f fd ["self"] (spBookS K C) := by
  refine F.ok scBookS (fun vs H Q E h => ?_) (fun cdv A outer s H vs Q E hr h => ?_)
  · obtain ⟨a, shs, rfl, _⟩ := h
    rfl
  · obtain ⟨a, shs, rfl, ⟨dx, d, xs, h1, h2, h3⟩, k⟩ := h
    refine ⟨_, pss_one (ps_ret (pe_listVals rfl (pe_fld (pv 0) rfl) (by rfl) N.lst (by decide +kernel))), ?_⟩
    refine ⟨_, rfl, a, C, dx, _, .ref d, rfl, h1, c, na, rfl, d, _, rfl, h2, fun p hp => ?_⟩
    rw [bkv_snd (by rw [h3.len]; unfold wordsS; rw [List.length_map, List.length_map])]
    exact k p xs _ (same_new hp) hp upd_same (DqAll.same (same_new hp) h3)
theorem ok_bookW {f : Addr} {fd : FuncData} (F : Fun K "words" "Book.words" sBookW f fd) (c : Cls K C) (na : NoAttr K C "_shapes") (N : Nm mg) : FnOk P w K mg base CX0 1 f fd ["self"] (spBookW K C) := by
  refine F.ok scBookW (fun vs H Q E h => ?_) (fun cdv A outer s H vs Q E hr h => ?_)
  · obtain ⟨a, shs, rfl, _⟩ := h
    rfl
  · obtain ⟨a, shs, rfl, ⟨dx, d, xs, h1, h2, h3⟩, k⟩ := h
    refine ⟨_, pss_one (ps_ret (pe_callTy (call_listD rfl) (by rfl) N.lst (by decide +kernel) (pa_cons (pe_fld (pv 0) rfl) pa_nil))), ?_⟩
    refine ⟨_, rfl, a, C, dx, _, .ref d, rfl, h1, c, na, rfl, d, _, rfl, .inl h2, fun p hp => ?_⟩
    rw [bkv_keys (by rw [h3.len]; unfold wordsS; rw [List.length_map, List.length_map])]
    exact k p _ (same_new hp) hp upd_same
theorem strs_lay : ∀ (bs : List Str), (∀ b ∈ bs, isW b = true) → PyData.canLayAll0 (bs.map PyData.str) = true
  | [], _ => rfl
  | b :: bs, h => by
    rw [List.map_cons, PyData.canLayAll0, strs_lay bs fun x hx => h x (List.mem_cons_of_mem _ hx), Bool.and_true, PyData.canLay0]
    exact isW_strOk (h b (List.mem_cons_self ..))
theorem strs_depth : ∀ (bs : List Str), PyData.depthAll (bs.map PyData.str) = 0
  | [] => by simp [PyData.depthAll]
  | b :: bs => by
    simp only [List.map_cons, PyData.depthAll, strs_depth bs, PyData.depth]
    rfl
theorem shapes_lay : ∀ (shs : List Shp), (∀ s ∈ shs, OkShape s) → PyData.canLayAll0 (shs.map dShape) = true
  | [], _ => rfl
  | s :: shs, h => by
    have hs := h s (List.mem_cons_self ..)
    rw [List.map_cons, PyData.canLayAll0, shapes_lay shs fun x hx => h x (List.mem_cons_of_mem _ hx), Bool.and_true]
    unfold dShape
    simp only [PyData.canLay0, PyData.canLayAll0, isW_strOk hs.w, isW_strOk hs.st, strs_lay s.2.2 hs.br, Bool.and_self]
theorem shapes_depth : ∀ (shs : List Shp), PyData.depthAll (shs.map dShape) ≤ 2
  | [] => by simp [PyData.depthAll]
  | s :: shs => by
    have q := shapes_depth shs
    have e : PyData.depth (dShape s) ≤ 2 := by
      simp only [dShape, PyData.depth, PyData.depthAll, strs_depth]
      omega
    simp only [List.map_cons, PyData.depthAll]
    omega
theorem shapes_shaped {shs : List Shp} (h : ∀ s ∈ shs, OkShape s) : SeqAt.shaped (.list (shs.map dShape)) = true := by
  unfold SeqAt.shaped
  have a := shapes_lay shs h
  have b := shapes_depth shs
  rw [PyData.canLay0, a, Bool.true_and]
  refine decide_eq_true ?_
  rw [PyData.depth]
  omega
theorem ok_bookEq {f fS : Addr} {fd fdS : FuncData} (F : Fun K "__eq__" "Book.__eq__" sBookEq f fd) (c : Cls K C) (ic : IsC K C) (W : Wd mg) (gC : mg "Book" = some (.ref C)) (mS : Meth K C "shapes" fS)
    (GS : FnOk P w K mg base CX0 1 fS fdS ["self"] (spBookS K C)) (bS : Binds K fdS ["self"] []) : FnOk P w K mg base CX0 2 f fd ["self", "other"] (spEq (rBookEq K C)) := by
  refine F.ok scBookEq (fun vs H Q E h => ?_) (fun cdv A outer s H vs Q E hr h => ?_)
  · obtain ⟨a, b, rfl, _⟩ := h
    rfl
  · obtain ⟨a, b, rfl, ⟨shs, ok, ha, hb⟩, k⟩ := h
    have hu := hr.units
    have ha0 := ha
    have hb0 := hb
    obtain ⟨dx, d, xs, h1, h2, h3⟩ := ha0
    obtain ⟨dy, d', ys, g1, g2, g3⟩ := hb0
    refine ⟨_, pss_one (ps_ret (pe_and (pe_callB call_isi (by rfl) W.isi (by decide +kernel) (pa_cons (pv 1) (pa_cons (pe_glob (v := .ref C) (by rfl) gC rfl) pa_nil)))
      (pe_one (pe_cmpR (op_eqD hu) (pe_meth0 (pv 0) c mS GS hr bS .nil pass0) (pe_meth0 (pv 1) c mS GS hr bS .nil pass0) (nomark _))))), ?_⟩
    refine ⟨_, rfl, _, _, _, _, true, rfl, .own C, .base (.ins g1 ic.cl ic.a1 ic.a2 ic.a3 ic.a4), ic.a5, true, rfl, ?_⟩
    refine if_known rfl ?_
    refine ⟨_, rfl, a, dx, _, rfl, h1, rfl, a, shs, rfl, ha, fun p xs2 H1 s1 np ep dp => ?_⟩
    refine ⟨_, rfl, b, dy, _, rfl, s1 _ _ g1, rfl, b, shs, rfl, hb.same s1, fun q ys2 H2 s2 nq eq dq => ?_⟩
    have shp := shapes_shaped ok.all
    have lay := SeqAt.canLay_of_shaped shp
    refine ⟨.list (shs.map dShape), .list (shs.map dShape), .lst (.inl (.inl (s2 _ _ ep))) (DqAll.dp (DqAll.same s2 dp) lay), .lst (.inl (.inl eq)) (DqAll.dp dq lay), shp, shp, ?_⟩
    rw [SeqAt.eqv_refl _ lay]
    exact k _ (s1.trans s2)
end
end Bc

namespace Bc
open PySem PySem.Spec PyProof.Rows L2
/-! ### name = {k: v for ..} -/
section
variable {X : Cx}
theorem ps_setDc {i : Nat} {y : Str} {py : Pos} {kx vx tg iter : Expr} {ifs : List Expr} {scope : Scope} {own : List (Str × Nat)} {pos spos : Pos} {wi : TI} {g : TG} {tt : TT} {tk tv : TE} (hc : X.calm = true) (hN : X.N.Nodup) (hy : X.N[i]? = some y) (hyl : X.env.scope.names.lookup y = some .local)
    (hsw : swapsWith (.DictComp kx vx [⟨tg, iter, ifs, 0⟩] scope pos) (some (.Name y py)) spos.line X.env = pure true) (hi : PI X tg iter wi) (ok : BlkOk X.N X.env.scope scope own)
    (hg : ∀ (s : Shared) (H : Hp) (C : Addr) (cl : List (Str × Addr)) (fp : List Addr), PG (X.blk s H scope (compEnvC scope cl C X.env) fp) tg g) (ht : ∀ (s : Shared) (H : Hp) (C : Addr) (cl : List (Str × Addr)) (fp : List Addr), PTs (X.blk s H scope (compEnvC scope cl C X.env) fp) ifs tt)
    (hk : ∀ (s : Shared) (H : Hp) (C : Addr) (cl : List (Str × Addr)) (fp : List Addr), PE (X.blk s H scope (compEnvC scope cl C X.env) fp) kx tk) (he : ∀ (s : Shared) (H : Hp) (C : Addr) (cl : List (Str × Addr)) (fp : List Addr), PE (X.blk s H scope (compEnvC scope cl C X.env) fp) vx tv)
    (hs : ∀ x, foldedSetIterable iter X.env x = pure x := by intro _; rfl) : PS X (.Assign [.Name y py] (.DictComp kx vx [⟨tg, iter, ifs, 0⟩] scope pos) spos) (tAsg (tDc wi g tt tk tv (own.map (·.2))) (gName i)) := by
  constructor
  intro pins s σ H D I h
  rw [exec_Assign_Name_used _ _ _ _ hsw]
  have h : tDc wi g tt tk tv (own.map (·.2)) σ H (fun x H1 => gName i x σ H1 D.nx) := h
  have stored : ∀ (L C : Addr) (s' : Shared) (m : Str → Option Value) (H' : Hp), Inv X pins σ H' s' → gName i (.ref L) σ H' D.nx → s'.heap.Ns C m → FpOk X pins H' C → compPost (model X.prog X.w) X.A X.xe (some (assign (.Name y py) X.env)) (fun _ s' => SP X pins D .next s') (.ref L) C (.ok .next) s' := by
    intro L C s' m H' I' q hn f
    obtain ⟨f0, f1, f2, f3, f4, f5⟩ := f
    show wpAny _ _ (assign (.Name y py) X.env (.ref L)) _ _ _
    refine wpAny_assign_Name (store_ok2 (v := V.ref L) I' hN hy (.inl hyl) rfl (fun s2 I2 z => ?_) (.inr hyl))
    obtain ⟨a, sb, ha⟩ := z
    have haC : C ≠ a := ha.elim (fun z => by rw [z]; exact f1) (fun z e => f4 y a z e.symm)
    exact ⟨m, hn.sameBut sb haC, fun h3 sb3 => ⟨_, H', I2.turned (t' := s2.toks) (fun b o hb e => (sb3.2 b hb).trans e) f0 f1 f3 f4 f5, q⟩⟩
  refine wpAny_bind (wpAny_standAt (wpAny_bind ?_))
  show wpAny _ X.A (do let _ ← comprehension (.DictComp kx vx [⟨tg, iter, ifs, 0⟩] scope pos) scope X.env (firstIterPos [⟨tg, iter, ifs, 0⟩] pos) newDict false (eval iter X.env) (some (assign (.Name y py) X.env))) _ _ s
  refine wpAny_bind (thn (dc_core (Qf := fun _ s' => SP X pins D .next s') hc hN I hi ok hg ht hk he hs h stored) fun _ s' hq => wpAny_pure (wpAny_pure hq))
theorem sw_dict {kx vx : Expr} {gs : List Comprehension} {scope : Scope} {pos py : Pos} {y : Str} {l : Nat} {env : Env} (hk : env.scope.kind = .function) (hy : env.scope.names.lookup y = some .local) (hl : (py.line == pos.line) = true)
    (ha : (scope.names.any fun (n, k) => n == y && (k == .local || k == .cell)) = false) : swapsWith (.DictComp kx vx gs scope pos) (some (.Name y py)) l env = pure true := by
  have ky : env.kindOf y = some .local := hy
  have hb : env.blockKind = .function := by
    unfold Env.blockKind
    rw [hk]
    rfl
  unfold swapsWith
  simp only [hb, ky, ha, Expr.pos, hl]
  rfl
end
end Bc

namespace Bc
open PySem PySem.Spec PyProof.Rows L2
/-! ### bags -/
abbrev Jnt := Str × Str
def dJoint (j : Jnt) : PyData := .tuple [.str j.1, .str j.2]
def namesJ (js : List Jnt) : List Str := js.map (·.1)
structure OkBag (ws : List Str) (js : List Jnt) : Prop where
  name : ∀ j ∈ js, isW j.1 = true ∧ j.1 ≠ "root"
  word : ∀ j ∈ js, isW j.2 = true ∧ j.2 ∈ ws
  nd : (namesJ js).Nodup
  ln : js.length ≤ 1000
def BagAt (K : PySem.W.Frag) (H : Hp) (CB CG g : Addr) (shs : List Shp) (js : List Jnt) : Prop := ∃ (dx b d : Addr), H g = some (.ins CG dx [("_book", .ref b), ("_words", .ref d)]) ∧ BookAt K H CB b shs ∧ H d = some (.dK (bkv (namesJ js) (js.map fun j => V.str j.2)))
theorem BagAt.same {K : PySem.W.Frag} {H H' : Hp} {CB CG g : Addr} {shs : List Shp} {js : List Jnt} (h : BagAt K H CB CG g shs js) (s : Same H H') : BagAt K H' CB CG g shs js := by
  obtain ⟨dx, b, d, h1, h2, h3⟩ := h
  exact ⟨dx, b, d, s _ _ h1, h2.same s, s _ _ h3⟩
theorem joint_inv {K : PySem.W.Frag} {H : Hp} {v : V} {j : Jnt} (h : Dq K H v (dJoint j)) : ∃ a, v = .ref a ∧ SqT K H a [.str j.1, .str j.2] := by
  obtain ⟨a, xs, rfl, hq, hall⟩ := h.tup_inv
  obtain ⟨v1, _, rfl, h1, hall⟩ := hall.cons_inv
  obtain ⟨v2, _, rfl, h2, hall⟩ := hall.cons_inv
  cases hall.nil_inv
  cases h1.str_inv
  cases h2.str_inv
  exact ⟨a, rfl, hq⟩
abbrev nWrongJ : List Str := ["joint", "k", "words", "earlier", "name", "word"]
theorem scWrongJ : FnScope nWrongJ ["joint", "k", "words", "earlier"] (defScope sWrongJ) := ⟨rfl, rfl, rfl, by decide +kernel, rfl, by decide +kernel, by decide +kernel⟩
def spWrongJ (K : PySem.W.Frag) : Sp := fun vs H Q _ => ∃ (v : V) (k : Int) (e d : Addr) (evs kvs : List (Key × V)) (j : Jnt), vs = [v, .int k, .ref e, .ref d] ∧ Dq K H v (dJoint j) ∧ isW j.1 = true ∧ j.1 ≠ "root" ∧ isW j.2 = true ∧ H e = some (.dK evs) ∧ (valV evs (Sum.inr j.2 : Key)).isSome = true ∧ H d = some (.dK kvs) ∧ valV kvs (Sum.inr j.1 : Key) = none ∧ ∀ H', Same H H' → Q .non H'
section
variable {P : Program} {w : World} {K : PySem.W.Frag} {mg : Str → Option Value} {base : Heap}
theorem ok_wrongJ {f fW : Addr} {fd fdW : FuncData} (F : Fun K "wrong_in_joint" "wrong_in_joint" sWrongJ f fd) (B : Blt mg) (W : Wd mg) (T : Wt mg) (gR : ∃ t, mg "ROOT" = some (.str "root" t))
    (GW : FnOk P w K mg base CX0 1 fW fdW ["value"] spIsWord) (bW : Binds K fdW ["value"] []) (gW : mg "is_word" = some (.ref fW)) (kW : PySem.W.keepIn K (.ref fW) = true) : FnOk P w K mg base CX0 2 f fd ["joint", "k", "words", "earlier"] (spWrongJ K) := by
  refine F.ok scWrongJ (fun vs H Q E h => ?_) (fun cdv A outer s H vs Q E hr h => ?_)
  · obtain ⟨v, k, e, d, evs, kvs, j, rfl, _⟩ := h
    rfl
  · obtain ⟨v, k0, e, d, evs, kvs, j, rfl, hv, h1, h2, h3, he, hin, hd, hno, k⟩ := h
    obtain ⟨a, rfl, ha⟩ := joint_inv hv
    have hu := hu1 hr
    refine ⟨_, pss_cons (ps_if (PW.pt (pw_or (pt_not (pt_val (pe_callB call_isi (by rfl) W.isi (by decide +kernel) (pa_cons (pv 0) (pa_cons (pe_bty (T := "tuple") (by rfl) T.tup (by decide +kernel)) pa_nil)))))
          (pw_or1 (pt_cmpR op_ne (pe_callB call_len (by rfl) B.len (by decide +kernel) (pa_cons (pv 0) pa_nil)) pe_int (nomark _))))) (pss_one ps_never) pss_nil)
      (pss_cons (ps_asg (pv 0) (pg_tup rfl (pgs_cons (pg_name (i := 4) scWrongJ.nd rfl (.inl rfl)) (pgs_cons (pg_name (i := 5) scWrongJ.nd rfl (.inl rfl)) pgs_nil))))
      (pss_cons (ps_if (PW.pt (pw_or (pt_not (pt_val (pe_call GW hr (by rfl) gW kW bW .nil pass0 (pa_cons (pv 4) pa_nil)))) (pw_or (pt_cmpR op_eq (pv 4) (pe_cstr (by rfl) gR) (nomark _)) (pw_or1 (pt_cmp (pc_din hu (pv 4) (pv 3))))))) (pss_one ps_never) pss_nil)
      (pss_cons (ps_if (PW.pt (pw_or (pt_not (pt_val (pe_call GW hr (by rfl) gW kW bW .nil pass0 (pa_cons (pv 5) pa_nil)))) (pw_or1 (pt_cmp (pc_dnotin hu (pv 5) (pv 2)))))) (pss_one ps_never) pss_nil)
      (pss_one (ps_ret pe_non))))), ?_⟩
    have wl : ∀ {z : Str}, isW z = true → z.length ≤ 20000 := fun {z} h => Nat.le_trans (isW_len h) (by decide)
    refine ⟨_, rfl, _, _, _, _, true, rfl, .ty "tuple", tyT ha, kit_ty (by decide +kernel), true, rfl, ?_⟩
    refine if_no rfl ?_
    refine ⟨_, rfl, _, 2, rfl, .inr ⟨_, ha, rfl⟩, rfl, _, rfl, ?_⟩
    refine if_no (by decide +kernel) ?_
    refine ⟨_, rfl, a, _, rfl, ha, rfl, _, _, rfl, _, _, rfl, rfl, ?_⟩
    refine ⟨_, rfl, j.1, rfl, wl h1, fun H1 s1 => ⟨_, rfl, ?_⟩⟩
    refine if_no (by rw [h1]; rfl) ?_
    refine ⟨_, rfl, rfl, _, rfl, ?_⟩
    rw [show decide (V.str j.1 = V.str "root") = decide (j.1 = "root") from dec_str]
    refine if_no (decide_eq_false h2) ?_
    refine ⟨_, rfl, _, rfl, d, none, rfl, ?_, _, rfl, ?_⟩
    · rw [← hno]
      exact DGet.k (k := Sum.inr j.1) (s1 _ _ hd)
    refine if_no rfl ?_
    refine ⟨_, rfl, j.2, rfl, wl h3, fun H2 s2 => ⟨_, rfl, ?_⟩⟩
    refine if_no (by rw [h3]; rfl) ?_
    refine ⟨_, rfl, _, rfl, e, _, rfl, DGet.k (k := Sum.inr j.2) (s2 _ _ (s1 _ _ he)), _, rfl, ?_⟩
    refine if_no (by rw [hin]; rfl) ?_
    exact k H2 (s1.trans s2)
end
end Bc

namespace Bc
open PySem PySem.Spec PyProof.Rows L2
/-- a dict comprehension over a walk -/
theorem dc_it {J : It} {n : Nat} {G : Hp → Prop} {Y : Nat → Hp → V → Hp → Prop} (w : Walk J n G Y) {g : TG} {tt : TT} {tk tv : TE} {vs : List Nat} {σ : L2.St} {H1 : Hp} {D : Addr} {Qd : Hp → Prop} (Pv : Nat → Hp → Prop) (h0 : Pv 0 (upd H1 D (.dK []))) (hG : ∀ i H, i ≤ n → Pv i H → G H)
    (hs : ∀ i x H H', i < n → Pv i H → Y i H x H' → g x (wipe σ vs) H' fun σ2 H2 => wipe σ2 vs = wipe σ vs ∧ tt σ2 H2 fun b H3 =>
      if b = true then tk σ2 H3 fun y H4 => tv σ2 H4 fun z H5 => ∃ kvs k, y = kV k ∧ H5 D = some (.dK kvs) ∧ kvs.length < sizeLine ∧ Pv (i + 1) (upd H5 D (.dK (putK kvs k z))) else Pv (i + 1) H3) (hd : ∀ H, Pv n H → Qd H) :
    ∃ W : Nat → Nat → Hp → Prop, (∃ m, W 0 m (upd H1 D (.dK []))) ∧ ∀ i m H, W i m H →
      (J.stop i H ∧ Qd H) ∨ (J.go i H ∧ ∃ Nx : Hp → Prop, (∀ H', Nx H' → ∃ m', m' < m ∧ W (i + 1) m' H') ∧ ∀ x H', J.yld i H x H' → g x (wipe σ vs) H' fun σ2 H2 => wipe σ2 vs = wipe σ vs ∧ tt σ2 H2 fun b H3 =>
        if b = true then tk σ2 H3 fun y H4 => tv σ2 H4 fun z H5 => ∃ kvs k, y = kV k ∧ H5 D = some (.dK kvs) ∧ kvs.length < sizeLine ∧ Nx (upd H5 D (.dK (putK kvs k z))) else Nx H3) := by
  refine ⟨fun i m H => m = n - i ∧ i ≤ n ∧ Pv i H, ⟨n, by simp, Nat.zero_le _, h0⟩, fun i m H q => ?_⟩
  obtain ⟨rfl, hi, p⟩ := q
  rcases Nat.lt_or_ge i n with hlt | hge
  · exact .inr ⟨w.goes i H hlt (hG i H hi p), Pv (i + 1), fun H' p' => ⟨n - (i + 1), by omega, rfl, hlt, p'⟩, fun x H' y => hs i x H H' hlt p (w.yields i H x H' hlt (hG i H hi p) y)⟩
  · have e : i = n := by omega
    subst e
    exact .inl ⟨w.stops H (hG i H hi p), hd H p⟩
theorem putK_le (c : List (Key × V)) (k : Key) (x : V) : (putK c k x).length ≤ c.length + 1 := by
  unfold putK
  split
  · rw [List.length_map]
    omega
  · rw [List.length_append]
    exact Nat.le_refl _
abbrev nBagI : List Str := ["self", "book", "joints", "words", "found", "k", "joint", "path", "word"]
theorem scBagI : FnScope nBagI ["self", "book", "joints"] (defScope sBagI) := ⟨rfl, rfl, rfl, by decide +kernel, rfl, by decide +kernel, by decide +kernel⟩
theorem scBagJ : FnScope ["self"] ["self"] (defScope sBagJ) := ⟨rfl, rfl, rfl, by decide +kernel, rfl, by decide +kernel, by decide +kernel⟩
theorem scBagEq : FnScope ["self", "other"] ["self", "other"] (defScope sBagEq) := ⟨rfl, rfl, rfl, by decide +kernel, rfl, by decide +kernel, by decide +kernel⟩
def spBagI (K : PySem.W.Frag) (CB CG : Addr) : Sp := fun vs H Q _ => ∃ (a dx b l : Addr) (xs : List V) (shs : List Shp) (js : List Jnt), vs = [.ref a, .ref b, .ref l] ∧ H a = some (.ins CG dx []) ∧ BookAt K H CB b shs ∧ shs.length ≤ 1000 ∧ SqL K H l xs ∧ DqAll K H xs (js.map dJoint) ∧ OkBag (wordsS shs) js ∧
  ∀ p H', (∀ q o, q ≠ a → H q = some o → H' q = some o) → H p = none → H' a = some (.ins CG dx [("_book", .ref b), ("_words", .ref p)]) → H' p = some (.dK (bkv (namesJ js) (js.map fun j => V.str j.2))) → Q .non H'
def spBagJ (K : PySem.W.Frag) (CB CG : Addr) : Sp := fun vs H Q _ => ∃ (g : Addr) (shs : List Shp) (js : List Jnt), vs = [.ref g] ∧ BagAt K H CB CG g shs js ∧ ∀ p xs H', Same H H' → H p = none → H' p = some (.lst xs) → DqAll K H' xs (js.map dJoint) → Q (.ref p) H'
def rBagEq (K : PySem.W.Frag) (CB CG : Addr) (a b : Addr) (H : Hp) : Prop := ∃ shs js, OkBook shs ∧ OkBag (wordsS shs) js ∧ BagAt K H CB CG a shs js ∧ BagAt K H CB CG b shs js
section
variable {P : Program} {w : World} {K : PySem.W.Frag} {mg : Str → Option Value} {base : Heap} {CB CG : Addr}
theorem ok_bagI {f fW fB : Addr} {fd fdW fdB : FuncData} (F : Fun K "__init__" "Bag.__init__" sBagI f fd) (cB : Cls K CB) (c : Cls K CG) (na : NoAttr K CG "_book") (nb : NoAttr K CG "_words") (W : Wd mg) (N : Nm mg) (T : Wt mg)
    (GW : FnOk P w K mg base CX0 2 fW fdW ["joint", "k", "words", "earlier"] (spWrongJ K)) (bW : Binds K fdW ["joint", "k", "words", "earlier"] []) (gW : mg "wrong_in_joint" = some (.ref fW)) (kW : PySem.W.keepIn K (.ref fW) = true)
    (mB : Meth K CB "words" fB) (GB : FnOk P w K mg base CX0 1 fB fdB ["self"] (spBookW K CB)) (bB : Binds K fdB ["self"] []) : FnOk P w K mg base CX0 3 f fd ["self", "book", "joints"] (spBagI K CB CG) := by
  refine F.ok scBagI (fun vs H Q E h => ?_) (fun cdv A outer s H vs Q E hr h => ?_)
  · obtain ⟨a, dx, b, l, xs, shs, js, rfl, _⟩ := h
    rfl
  · obtain ⟨a, dx, b, l, xs, shs, js, rfl, ha, hB, ln, hl, hx, ok, k⟩ := h
    have hu := hu1 hr
    have hr1 : Room 1 _ := hr.mono (by decide)
    refine ⟨_, pss_cons (ps_if (pt_not (pt_val (pe_callB call_isiT (by rfl) W.isi (by decide +kernel) (pa_cons (pv 2) (pa_cons (pe_tup (pa_cons (pe_bty (T := "list") (by rfl) N.lst (by decide +kernel)) (pa_cons (pe_bty (T := "tuple") (by rfl) T.tup (by decide +kernel)) pa_nil))) pa_nil))))) (pss_one ps_never) pss_nil)
      (pss_cons (ps_setDc (i := 3) (own := [("word", 8)]) (g := gName 8) (tt := tYes) rfl scBagI.nd rfl rfl (sw_dict rfl rfl rfl (by decide +kernel)) (pi_list (pe_meth0 (pv 1) cB mB GB hr1 bB .nil pass0)) (blkOk_by (own := [("word", 8)]) (N := nBagI) (sc := defScope sBagI) (by decide +kernel))
          (fun _ _ _ _ _ => pg_name (i := 8) scBagI.nd rfl (.inl rfl)) (fun _ _ _ _ _ => pts_nil) (fun _ _ _ _ _ => pv 8) (fun _ _ _ _ _ => pe_bl))
      (pss_cons (ps_set (i := 4) scBagI.nd rfl (.inl rfl) pe_dnewK)
      (pss_cons (ps_for PassesOwn.never rfl (pi_enum (by rfl) T.enu (pa_cons (pv 2) pa_nil)) (pg_tup rfl (pgs_cons (pg_name (i := 5) scBagI.nd rfl (.inl rfl)) (pgs_cons (pg_name (i := 6) scBagI.nd rfl (.inl rfl)) pgs_nil)))
        (pss_cons (ps_set (i := 7) scBagI.nd rfl (.inl rfl) (pe_call GW hr (by rfl) gW kW bW .nil pass0 (pa_cons (pv 6) (pa_cons (pv 5) (pa_cons (pv 3) (pa_cons (pv 4) pa_nil))))))
        (pss_cons (ps_if (pt_cmpR op_notN (pv 7) pe_non (nomark _)) (pss_one ps_never) pss_nil)
        (pss_one (ps_dput hu (pv 4) (pe_ix (show IxR _ (rIxT K) from ix_tup) (pv 6) pe_int (fun _ _ => rfl)) (pe_ix (show IxR _ (rIxT K) from ix_tup) (pv 6) pe_int (fun _ _ => rfl)) rfl)))))
      (pss_cons (ps_fld (pv 0) (pv 1) rfl)
      (pss_one (ps_fld (pv 0) (pv 4) rfl)))))), ?_⟩
    refine ⟨_, rfl, (by show 2 ≤ sizeLine; decide), fun tp htp => ⟨_, tp, _, _, _, true, rfl, upd_same, .cons (.ty "list") (.cons (.ty "tuple") .nil), tyL ((same_new htp).seq hl), kitAny_cons (b := true) (kit_ty (by decide +kernel)) (fun e => absurd e (by decide)) (fun _ => rfl), true, rfl, ?_⟩⟩
    refine if_no rfl ?_
    have s1 := same_new (o := .tup [.ty "list", .ty "tuple"]) htp
    have hB1 := hB.same s1
    have hB2 := hB1
    obtain ⟨dy, d0, ys, g1, _, _⟩ := hB2
    have lw : (wordsS shs).length = shs.length := List.length_map ..
    refine ⟨_, rfl, b, dy, _, rfl, g1, rfl, b, shs, rfl, hB1, fun p H2 s2 np ep => ?_⟩
    refine ⟨p, rfl, ⟨_, .inl (.inl ep)⟩, fun D hD => dc_it (walk_list (K := K) (a := p) (xs := (wordsS shs).map V.str)) (fun i H' => Same H2 H' ∧ ∃ kvs, H' D = some (.dK kvs) ∧ kvs.length ≤ i ∧ ∀ w ∈ (wordsS shs).take i, (valV kvs (Sum.inr w : Key)).isSome = true)
      ⟨same_new hD, [], upd_same, Nat.le_refl _, fun w m => by rw [List.take_zero] at m; cases m⟩ (fun i H' _ h => h.1.seq (.inl (.inl ep))) ?_ ?_⟩
    · rintro i x H3 H3' hi ⟨s3, kvs, eD, hk, hw⟩ ⟨rfl, hxi⟩
      obtain ⟨wd, hwd, rfl⟩ : ∃ r, (wordsS shs)[i]? = some r ∧ x = V.str r := by
        rw [List.getElem?_map] at hxi
        cases e : (wordsS shs)[i]? with
        | none =>
          rw [e] at hxi
          cases hxi
        | some r =>
          rw [e] at hxi
          exact ⟨r, rfl, (Option.some.inj hxi).symm⟩
      rw [List.length_map, lw] at hi
      refine ⟨rfl, lc_yes ?_⟩
      refine ⟨_, rfl, kvs, Sum.inr wd, rfl, eD, small1000 (by omega), Same.over s3 hD, _, upd_same, ?_, fun w hm => ?_⟩
      · have := putK_le kvs (Sum.inr wd : Key) (V.bl true)
        omega
      · rw [valV_put]
        by_cases e : (Sum.inr w : Key) = Sum.inr wd
        · rw [if_pos e]
          rfl
        · rw [if_neg e]
          rw [List.take_add_one, hwd] at hm
          rcases List.mem_append.mp hm with hm | hm
          · exact hw w hm
          · exact absurd (by rw [List.mem_singleton.mp hm]) e
    · rintro H3 ⟨s3, evs, eD, hk, hw⟩
      rw [List.length_map, List.take_length] at hw
      have sA := s1.trans (s2.trans s3)
      intro d hd
      have s4 : Same H (upd H3 d (.dK [])) := sA.trans (same_new hd)
      have hd0 : H d = none := sA.free hd
      have eD4 := (same_new (o := .dK []) hd) _ _ eD
      have nDd : D ≠ d := ne_of_none eD hd
      have hD0 : H D = none := s1.free (s2.free hD)
      have ed : (upd H3 d (.dK [])) d = some (.dK (bkv ((namesJ js).take 0) ((js.map fun j => V.str j.2).take 0))) := by
        rw [List.take_zero, List.take_zero]
        exact upd_same
      generalize upd H3 d (.dK []) = H4 at s4 eD4 ed ⊢
      have lx : xs.length = js.length := by rw [hx.len, List.length_map]
      have ljn : (namesJ js).length = js.length := List.length_map ..
      have ljw : (js.map fun j => V.str j.2).length = js.length := List.length_map ..
      have tl : ∀ i, ((js.map fun j => V.str j.2).take i).length = ((namesJ js).take i).length := fun i => by rw [List.length_take, List.length_take, ljn, ljw]
      refine ⟨_, rfl, l, xs, rfl, s4.seq hl, for_it (walk_enum (K := K) (a := l) (xs := xs)) (fun i σ H' => (∃ v5 v6 v7, σ = [some (.ref a), some (.ref b), some (.ref l), some (.ref D), some (.ref d), v5, v6, v7, none]) ∧ Same H H' ∧ H' D = some (.dK evs) ∧ H' d = some (.dK (bkv ((namesJ js).take i) ((js.map fun j => V.str j.2).take i))))
        ⟨⟨_, _, _, rfl⟩, s4, eD4, ed⟩ (fun i σ H' _ h => h.2.1.seq hl) ?_ ?_⟩
      · rintro i x σ H5 H5' hi ⟨⟨v5, v6, v7, rfl⟩, s5, eD5, ed5⟩ ⟨q, x1, y1, rfl, hq, rfl, e1, e2⟩
        cases (Option.some.inj e1)
        have e2 : xs[i]? = some y1 := e2
        obtain ⟨sd, hsd, dqy⟩ := DqAll.get i hx e2
        obtain ⟨j, hj, rfl⟩ : ∃ j, js[i]? = some j ∧ sd = dJoint j := by
          rw [List.getElem?_map] at hsd
          cases e : js[i]? with
          | none =>
            rw [e] at hsd
            cases hsd
          | some b =>
            rw [e] at hsd
            exact ⟨b, rfl, (Option.some.inj hsd).symm⟩
        have jm := List.mem_of_getElem? hj
        have sq := same_new (o := .tup [.int (i : Nat), y1]) hq
        have s5q := s5.trans sq
        have hni : (namesJ js)[i]? = some j.1 := by
          unfold namesJ
          rw [List.getElem?_map, hj]
          rfl
        have hwi : (js.map fun j => V.str j.2)[i]? = some (V.str j.2) := by
          rw [List.getElem?_map, hj]
          rfl
        have hout : j.1 ∉ (namesJ js).take i := fun m => by
          obtain ⟨m, hm⟩ := List.getElem?_of_mem m
          have hm1 : m < i := by
            have := (List.getElem?_eq_some_iff.mp hm).1
            rw [List.length_take] at this
            omega
          rw [List.getElem?_take_of_lt hm1] at hm
          have := nd_ix ok.nd hm hni
          omega
        have hnone : valV (bkv ((namesJ js).take i) ((js.map fun j => V.str j.2).take i)) (Sum.inr j.1 : Key) = none := bkv_out (tl i) hout
        refine ⟨q, _, rfl, .inl (.inl upd_same), rfl, _, _, rfl, _, _, rfl, rfl, ?_⟩
        refine ⟨_, rfl, _, rfl, _, rfl, _, rfl, y1, _, D, d, evs, _, j, rfl, Dq.same s5q dqy, (ok.name j jm).1, (ok.name j jm).2, (ok.word j jm).1, sq _ _ eD5, hw _ (ok.word j jm).2, sq _ _ ed5, hnone, fun H6 s6 => ?_⟩
        refine ⟨_, rfl, rfl, _, rfl, ?_⟩
        refine iteNS rfl ?_
        have s7 := s5q.trans s6
        obtain ⟨r, rfl, hr2⟩ := joint_inv (Dq.same s7 dqy)
        refine ⟨_, rfl, r, _, _, .str j.2, rfl, rfl, hr2, L2.at_of (j := 1) rfl rfl, ?_⟩
        refine ⟨_, rfl, _, rfl, r, _, _, .str j.1, rfl, rfl, hr2, L2.at_of (j := 0) rfl rfl, d, _, rfl, DPut.k (k := Sum.inr j.1) (s6 _ _ (sq _ _ ed5)) ?_, ⟨_, _, _, rfl⟩, Same.over s7 hd0, ?_, ?_⟩
        · have q1 := tl i
          rw [bkv_len q1, List.length_take, ljn]
          exact small1000 (by have := ok.ln; omega)
        · rw [upd_ne nDd]
          exact s6 _ _ (sq _ _ eD5)
        · rw [upd_same, putK_new _ hnone, List.take_add_one, List.take_add_one, hni, hwi]
          show _ = some (HO.dK (bkv ((namesJ js).take i ++ [j.1]) ((js.map fun j => V.str j.2).take i ++ [.str j.2])))
          rw [bkv_snoc (tl i)]
      · rintro σ H5 ⟨⟨v5, v6, v7, rfl⟩, s5, eD5, ed5⟩
        rw [List.take_of_length_le (by rw [ljn, lx]; exact Nat.le_refl _), List.take_of_length_le (by rw [ljw, lx]; exact Nat.le_refl _)] at ed5
        have nad : d ≠ a := fun e => by rw [e, ha] at hd0; cases hd0
        refine ⟨_, rfl, _, rfl, a, CG, dx, [], rfl, s5 _ _ ha, c, na, by decide, ?_⟩
        refine ⟨_, rfl, _, rfl, a, CG, dx, _, rfl, upd_same, c, nb, (by show 1 < 1000; decide), ?_⟩
        refine k d _ (fun q o nq e => ?_) hd0 upd_same ?_
        · rw [upd_ne nq, upd_ne nq]
          exact s5 _ _ e
        · rw [upd_ne nad, upd_ne nad]
          exact ed5
end
end Bc

namespace Bc
open PySem PySem.Spec PyProof.Rows L2
theorem items_dq {K : PySem.W.Frag} {H : Hp} : ∀ (js : List Jnt) (ts : List Addr), Paired (fun (t : Addr) (q : Key × V) => H t = some (.tup [kV q.1, q.2])) ts (bkv (namesJ js) (js.map fun j => V.str j.2)) → DqAll K H (ts.map V.ref) (js.map dJoint)
  | [], ts, h => by
    cases h
    exact .nil
  | j :: js, ts, h => by
    have h : Paired (fun (t : Addr) (q : Key × V) => H t = some (.tup [kV q.1, q.2])) ts (((Sum.inr j.1 : Key), V.str j.2) :: bkv (namesJ js) (js.map fun j => V.str j.2)) := h
    cases h with
    | cons h1 h2 => exact .cons (.tup (.inl (.inl h1)) (.cons (.str _) (.cons (.str _) .nil))) (items_dq js _ h2)
theorem joints_lay : ∀ (js : List Jnt), (∀ j ∈ js, isW j.1 = true ∧ isW j.2 = true) → PyData.canLayAll0 (js.map dJoint) = true
  | [], _ => rfl
  | j :: js, h => by
    have hs := h j (List.mem_cons_self ..)
    rw [List.map_cons, PyData.canLayAll0, joints_lay js fun x hx => h x (List.mem_cons_of_mem _ hx), Bool.and_true]
    unfold dJoint
    simp only [PyData.canLay0, PyData.canLayAll0, isW_strOk hs.1, isW_strOk hs.2, Bool.and_self]
theorem joints_depth : ∀ (js : List Jnt), PyData.depthAll (js.map dJoint) ≤ 1
  | [] => by simp [PyData.depthAll]
  | j :: js => by
    have q := joints_depth js
    have e : PyData.depth (dJoint j) ≤ 1 := by simp [dJoint, PyData.depth, PyData.depthAll]
    simp only [List.map_cons, PyData.depthAll]
    omega
theorem joints_shaped {js : List Jnt} (h : ∀ j ∈ js, isW j.1 = true ∧ isW j.2 = true) : SeqAt.shaped (.list (js.map dJoint)) = true := by
  unfold SeqAt.shaped
  have a := joints_lay js h
  have b := joints_depth js
  rw [PyData.canLay0, a, Bool.true_and]
  refine decide_eq_true ?_
  rw [PyData.depth]
  omega
section
variable {P : Program} {w : World} {K : PySem.W.Frag} {mg : Str → Option Value} {base : Heap} {CB CG : Addr}
theorem ok_bagJ {f : Addr} {fd : FuncData} (F : Fun K "joints" "Bag.joints" sBagJ f fd) (c : Cls K CG) (nb : NoAttr K CG "_words") (N : Nm mg) : FnOk P w K mg base CX0 1 f fd ["self"] (spBagJ K CB CG) := by
  refine F.ok scBagJ (fun vs H Q E h => ?_) (fun cdv A outer s H vs Q E hr h => ?_)
  · obtain ⟨a, shs, js, rfl, _⟩ := h
    rfl
  · obtain ⟨a, shs, js, rfl, ⟨dx, b, d, h1, h2, h3⟩, k⟩ := h
    refine ⟨_, pss_one (ps_ret (LiI.pe_listItems rfl (pe_fld (pv 0) rfl) (by rfl) N.lst (by decide +kernel))), ?_⟩
    refine ⟨_, rfl, a, CG, dx, _, .ref d, rfl, h1, c, nb, rfl, d, _, rfl, h3, fun H' p ts s1 np nts pnt ep pr => ?_⟩
    exact k p _ H' s1 np ep (items_dq js ts pr)
theorem ok_bagEq {f fJ fE : Addr} {fd fdJ fdE : FuncData} (F : Fun K "__eq__" "Bag.__eq__" sBagEq f fd) (c : Cls K CG) (na : NoAttr K CG "_book") (ic : IsC K CG) (W : Wd mg) (gC : mg "Bag" = some (.ref CG)) (mJ : Meth K CG "joints" fJ)
    (GJ : FnOk P w K mg base CX0 1 fJ fdJ ["self"] (spBagJ K CB CG)) (bJ : Binds K fdJ ["self"] [])
    (GE : FnOk P w K mg base CX0 2 fE fdE ["self", "other"] (spEq (rBookEq K CB))) (bE : Binds K fdE ["self", "other"] []) (hE : PySem.W.findIn K (.ref CB) "__eq__" = some (some (.ref fE))) (iE : PySem.W.isFn K (.ref fE) = true) : FnOk P w K mg base CX0 3 f fd ["self", "other"] (spEq (rBagEq K CB CG)) := by
  refine F.ok scBagEq (fun vs H Q E h => ?_) (fun cdv A outer s H vs Q E hr h => ?_)
  · obtain ⟨a, b, rfl, _⟩ := h
    rfl
  · obtain ⟨a, b, rfl, ⟨shs, js, okB, okJ, ha, hb⟩, k⟩ := h
    have hu := hr.units
    have hr1 : Room 1 _ := hr.mono (by decide)
    have ha0 := ha
    have hb0 := hb
    obtain ⟨dx, ba, d, h1, h2, h3⟩ := ha0
    obtain ⟨dy, bb, d', g1, g2, g3⟩ := hb0
    refine ⟨_, pss_one (ps_ret (pe_and (pe_callB call_isi (by rfl) W.isi (by decide +kernel) (pa_cons (pv 1) (pa_cons (pe_glob (v := .ref CG) (by rfl) gC rfl) pa_nil)))
      (pe_and (pe_cmpR (op_eqG (rcG_ins GE hE iE bE (E := E0) pass0) hr) (pe_fld (pv 0) rfl) (pe_fld (pv 1) rfl) (nomark _))
      (pe_one (pe_cmpR (op_eqD hu) (pe_meth0 (pv 0) c mJ GJ hr1 bJ .nil pass0) (pe_meth0 (pv 1) c mJ GJ hr1 bJ .nil pass0) (nomark _)))))), ?_⟩
    refine ⟨_, rfl, _, _, _, _, true, rfl, .own CG, .base (.ins g1 ic.cl ic.a1 ic.a2 ic.a3 ic.a4), ic.a5, true, rfl, ?_⟩
    refine if_known rfl ?_
    obtain ⟨bdx, bd, bxs, b1, b2, b3⟩ := id h2
    obtain ⟨cdx, cd, cxs, c1, c2, c3⟩ := id g2
    refine ⟨_, rfl, a, CG, dx, _, .ref ba, rfl, h1, c, na, rfl, _, rfl, b, CG, dy, _, .ref bb, rfl, g1, c, na, rfl, ⟨ba, bb, bdx, cdx, _, _, rfl, rfl, b1, c1, shs, okB, h2, g2⟩, fun H1 s1 => ⟨true, rfl, ?_⟩⟩
    refine if_known rfl ?_
    have s1 : Same H H1 := s1
    refine ⟨_, rfl, a, dx, _, rfl, s1 _ _ h1, rfl, a, shs, js, rfl, ha.same s1, fun p xs2 H2 s2 np ep dp => ?_⟩
    refine ⟨_, rfl, b, dy, _, rfl, s2 _ _ (s1 _ _ g1), rfl, b, shs, js, rfl, hb.same (s1.trans s2), fun q ys2 H3 s3 nq eq dq => ?_⟩
    have shp := joints_shaped (js := js) fun j hj => ⟨(okJ.name j hj).1, (okJ.word j hj).1⟩
    have lay := SeqAt.canLay_of_shaped shp
    refine ⟨.list (js.map dJoint), .list (js.map dJoint), .lst (.inl (.inl (s3 _ _ ep))) (DqAll.dp (DqAll.same s3 dp) lay), .lst (.inl (.inl eq)) (DqAll.dp dq lay), shp, shp, ?_⟩
    rw [SeqAt.eqv_refl _ lay]
    exact k _ (s1.trans (s2.trans s3))
end
end Bc

namespace Bc
open PySem PySem.Spec PyProof.Rows L2
abbrev nRowsT : List Str := ["head", "rows", "lines", "row"]
theorem scRowsT : FnScope nRowsT ["head", "rows"] (defScope sRowsT) := ⟨rfl, rfl, rfl, by decide +kernel, rfl, by decide +kernel, by decide +kernel⟩
def rowsT (h : Str) (rs : List Str) : Str := Txt.join "\n" ((h ++ " {") :: (rs.map (· ++ (";" : Str)) ++ [("}" : Str)])) ++ "\n"
theorem sum_le {xs : List Nat} {b : Nat} (h : ∀ x ∈ xs, x ≤ b) : xs.sum ≤ xs.length * b := by
  induction xs with
  | nil => simp
  | cons a r ih =>
    rw [List.sum_cons, List.length_cons, Nat.succ_mul, Nat.add_comm]
    exact Nat.add_le_add (ih fun x hx => h x (List.mem_cons_of_mem _ hx)) (h a (List.mem_cons_self ..))
theorem join_le {y : Str} {xs : List Str} {b : Nat} (h : ∀ x ∈ xs, x.length ≤ b) : (Txt.join y xs).length ≤ xs.length * b + xs.length * y.length := by
  rw [show Txt.join y xs = Str.join y xs from StrLaws.glued_eq_join y xs]
  refine Nat.le_trans (StrLaws.join_length_le y xs) (Nat.add_le_add_right ?_ _)
  have q := sum_le (xs := xs.map (·.length)) (b := b) fun n hn => by
    obtain ⟨x, hx, rfl⟩ := List.mem_map.mp hn
    exact h x hx
  rwa [List.length_map] at q
def spRowsT (K : PySem.W.Frag) : Sp := fun vs H Q _ => ∃ (h : Str) (l : Addr) (rs : List Str), vs = [.str h, .ref l] ∧ SqL K H l (rs.map V.str) ∧ h.length ≤ 100 ∧ rs.length ≤ 1000 ∧ (∀ r ∈ rs, r.length ≤ 500) ∧ ∀ H', Same H H' → Q (.str (rowsT h rs)) H'
section
variable {P : Program} {w : World} {K : PySem.W.Frag} {mg : Str → Option Value} {base : Heap}
theorem ok_rowsT {f : Addr} {fd : FuncData} (F : Fun K "rows_text" "rows_text" sRowsT f fd) : FnOk P w K mg base CX0 1 f fd ["head", "rows"] (spRowsT K) := by
  refine F.ok scRowsT (fun vs H Q E h => ?_) (fun cdv A outer s H vs Q E hr h => ?_)
  · obtain ⟨h, l, rs, rfl, _⟩ := h
    rfl
  · obtain ⟨h, l, rs, rfl, hl, hh, hm, hrs, k⟩ := h
    refine ⟨_, pss_cons (ps_set (i := 2) scRowsT.nd rfl (.inl rfl) (pe_lst (pa_cons (pe_op op_add_str (pv 0) pe_str) pa_nil)))
      (pss_cons (ps_for PassesOwn.never rfl (pi_list (pv 1)) (pg_name (i := 3) scRowsT.nd rfl (.inl rfl))
        (pss_one (ps_expr (pe_bm PySem.F.plainAttrs_list PySem.F.slot_list_append PySem.F.type_list_append mt_append (pv 2) (pa_cons (pe_op op_add_str (pv 3) pe_str) pa_nil)))))
      (pss_cons (ps_expr (pe_bm PySem.F.plainAttrs_list PySem.F.slot_list_append PySem.F.type_list_append mt_append (pv 2) (pa_cons pe_str pa_nil)))
      (pss_one (ps_ret (pe_op op_add_str (pe_m1 PySem.F.slot_str_join PySem.F.type_str_join mt_join pe_str (pv 2)) pe_str))))), ?_⟩
    have hh2 : ∀ {n : Nat}, n ≤ 1000000 → n ≤ sizeLine := fun {n} h => Nat.le_trans h (by decide)
    have e2 : (" {" : Str).length = 2 := by decide +kernel
    have e1 : (";" : Str).length = 1 := by decide +kernel
    have e3 : ("}" : Str).length = 1 := by decide +kernel
    have e4 : ("\n" : Str).length = 1 := by decide +kernel
    refine ⟨_, rfl, _, _, rfl, rfl, hh2 (by rw [e2]; omega), (by show 1 ≤ sizeLine; decide), fun g hg => ?_⟩
    refine ⟨_, rfl, l, rfl, ⟨_, (same_new hg).seq hl⟩, for_list (K := K) (a := l) (xs := rs.map V.str) (fun i σ H' => ∃ v3, σ = [some (.str h), some (.ref l), some (.ref g), v3] ∧ Same H H' ∧ H' g = some (.lst (((h ++ " {") :: (rs.take i).map (· ++ (";" : Str))).map V.str)))
      ⟨none, rfl, same_new hg, upd_same⟩ (fun i σ H' _ ⟨_, _, q, _⟩ => q.seq hl) ?_ ?_⟩
    · rintro i x σ H1 hi ⟨v3, rfl, s1, eg⟩
      obtain ⟨r, hr', rfl⟩ : ∃ r, rs[i]? = some r ∧ x = V.str r := by
        rw [List.getElem?_map] at hi
        cases e : rs[i]? with
        | none =>
          rw [e] at hi
          cases hi
        | some b =>
          rw [e] at hi
          exact ⟨b, rfl, (Option.some.inj hi).symm⟩
      have hil : i < rs.length := (List.getElem?_eq_some_iff.mp hr').1
      have hrl := hrs r (List.mem_of_getElem? hr')
      refine ⟨_, rfl, .inl ⟨rfl, _, .inl (.inl eg)⟩, _, rfl, _, _, rfl, rfl, hh2 (by rw [e1]; omega), g, _, _, rfl, rfl, eg, ?_, ?_⟩
      · rw [List.length_map, List.length_cons, List.length_map, List.length_take]
        exact Nat.lt_of_lt_of_le (show min i rs.length + 1 < 20000 by omega) (by decide)
      · refine ⟨_, rfl, Same.over s1 hg, ?_⟩
        rw [upd_same, List.take_add_one, hr', List.map_append, List.map_cons, List.map_cons, List.map_append]
        rfl
    · rintro σ H1 ⟨v3, rfl, s1, eg⟩
      rw [List.length_map, List.take_length] at eg
      refine ⟨_, rfl, .inl ⟨rfl, _, .inl (.inl eg)⟩, g, _, _, rfl, rfl, eg, ?_, ?_⟩
      · rw [List.length_map, List.length_cons, List.length_map]
        exact Nat.lt_of_lt_of_le (show rs.length + 1 < 20000 by omega) (by decide)
      have ew : ((h ++ " {") :: rs.map (· ++ (";" : Str))).map V.str ++ [.str "}"] = ((h ++ " {") :: (rs.map (· ++ (";" : Str)) ++ [("}" : Str)])).map V.str := by
        rw [List.map_cons, List.map_cons, List.map_append, List.cons_append]
        rfl
      rw [ew]
      have wl : ∀ x ∈ ((h ++ " {") :: (rs.map (· ++ (";" : Str)) ++ [("}" : Str)])), x.length ≤ 501 := fun x hx => by
        rcases List.mem_cons.mp hx with e | hx
        · rw [e, len_app, e2]
          omega
        · rcases List.mem_append.mp hx with hx | hx
          · obtain ⟨r, hr', rfl⟩ := List.mem_map.mp hx
            have := hrs r hr'
            show (r ++ (";" : Str)).length ≤ 501
            rw [len_app, e1]
            omega
          · rw [List.mem_singleton.mp hx, e3]
            omega
      have nl : ((h ++ " {") :: (rs.map (· ++ (";" : Str)) ++ [("}" : Str)])).length = rs.length + 2 := by simp
      refine ⟨⟨_, rfl⟩, _, rfl, _, g, _, rfl, rfl, .inl (.inl (.inl upd_same)), ?_, ?_⟩
      · have q := sum_le (xs := ((h ++ " {") :: (rs.map (· ++ (";" : Str)) ++ [("}" : Str)])).map (·.length)) (b := 501) fun n hn => by
          obtain ⟨x, hx, rfl⟩ := List.mem_map.mp hn
          exact wl x hx
        rw [List.length_map, nl] at q
        rw [nl, e4]
        omega
      · have q := join_le (y := "\n") wl
        rw [nl, e4] at q
        refine ⟨_, _, rfl, rfl, hh2 ?_, k _ (Same.over s1 hg)⟩
        rw [e4]
        omega
end
end Bc

namespace Bc
open PySem PySem.Spec PyProof.Rows L2
abbrev nJoined : List Str := ["_law_signs", "_law_text", "_law_last", "_law_one", "_law_gap"]
theorem scJoined : FnScope nJoined ["_law_signs"] (defScope sJoined) := ⟨rfl, rfl, rfl, by decide +kernel, rfl, by decide +kernel, by decide +kernel⟩
abbrev closes : List Str := [")", ",", ";", "^("]
abbrev opens3 : List Str := [";", "{", "}"]
def gapOf (last one : Str) : Str := if last = "(" then "" else if inV (.str one) (closes.map V.str) = true then "" else if inV (.str last) (opens3.map V.str) = true then "\n" else " "
def jStep (p : Str × Str) (one : Str) : Str × Str := (p.1 ++ gapOf p.2 one ++ one, one)
def joinedT (ws : List Str) : Str := (ws.foldl jStep ("", "(")).1 ++ "\n"
def tGap : TS := fun D σ H => ∃ v0 v1 last one, σ = [v0, v1, some (.str last), some (.str one), some (.str " ")] ∧ ∀ H', Same H H' → D.nx [v0, v1, some (.str last), some (.str one), some (.str (gapOf last one))] H'
theorem gapOf_len (a b : Str) : (gapOf a b).length ≤ 1 := by
  unfold gapOf
  split
  · decide +kernel
  · split
    · decide +kernel
    · split <;> decide +kernel
def spJoined (K : PySem.W.Frag) : Sp := fun vs H Q _ => ∃ (l : Addr) (ws : List Str), vs = [.ref l] ∧ SqL K H l (ws.map V.str) ∧ ws.length ≤ 5000 ∧ (∀ w ∈ ws, w.length ≤ 60 ∧ Txt.stripChars w "^" = w) ∧ ∀ H', Same H H' → Q (.str (joinedT ws)) H'
section
variable {P : Program} {w : World} {K : PySem.W.Frag} {mg : Str → Option Value} {base : Heap}
theorem ok_joined {f : Addr} {fd : FuncData} (F : Fun K "_law_joined" "_law_joined" sJoined f fd) : FnOk P w K mg base CX0 1 f fd ["_law_signs"] (spJoined K) := by
  refine F.ok scJoined (fun vs H Q E h => ?_) (fun cdv A outer s H vs Q E hr h => ?_)
  · obtain ⟨l, ws, rfl, _⟩ := h
    rfl
  · obtain ⟨l, ws, rfl, hl, hm, hw, k⟩ := h
    refine ⟨_, pss_cons (ps_asg (pe_tup (pa_cons pe_str (pa_cons pe_str pa_nil))) (pg_tup rfl (pgs_cons (pg_name (i := 1) scJoined.nd rfl (.inl rfl)) (pgs_cons (pg_name (i := 2) scJoined.nd rfl (.inl rfl)) pgs_nil))))
      (pss_cons (ps_for PassesOwn.never rfl (pi_list (pv 0)) (pg_name (i := 3) scJoined.nd rfl (.inl rfl))
        (pss_cons (ps_set (i := 4) scJoined.nd rfl (.inl rfl) pe_str)
        (pss_cons (PS.imp (t' := tGap) (ps_if (PW.pt (pw_or (pt_cmpR op_eq (pv 2) pe_str (nomark _)) (pw_or1 (pt_cmpR op_in_seq (pv 3) (pe_lst (pa_cons pe_str (pa_cons pe_str (pa_cons pe_str (pa_cons pe_str pa_nil))))) (by rfl)))))
            (pss_one (ps_set (i := 4) scJoined.nd rfl (.inl rfl) pe_str))
            (pss_one (ps_if (pt_cmpR op_in_seq (pv 2) (pe_lst (pa_cons pe_str (pa_cons pe_str (pa_cons pe_str pa_nil)))) (by rfl)) (pss_one (ps_set (i := 4) scJoined.nd rfl (.inl rfl) pe_str)) pss_nil))) (fun D σ H h => by
          obtain ⟨v0, v1, last, one, rfl, q⟩ := h
          refine ⟨_, rfl, rfl, _, rfl, ?_⟩
          rw [dec_str]
          refine ite2 (fun h1 => ?_) (fun h1 => ?_)
          · have q1 := q H (Same.refl H)
            rw [show gapOf last one = "" from if_pos (of_decide_eq_true h1)] at q1
            exact q1
          · have e1 : ¬ last = "(" := fun y => h1 (decide_eq_true y)
            refine ⟨_, rfl, (by show 4 ≤ sizeLine; decide), fun p hp => ⟨p, _, rfl, .inl (.inl (.inl upd_same)), rfl, rfl, _, rfl, ?_⟩⟩
            refine ite2 (fun h2 => ?_) (fun h2 => ?_)
            · have q1 := q _ (same_new (o := .lst (closes.map V.str)) hp)
              rw [show gapOf last one = "" by unfold gapOf; rw [if_neg e1]; exact if_pos h2] at q1
              exact q1
            · refine ⟨_, rfl, (by show 3 ≤ sizeLine; decide), fun p2 hp2 => ⟨p2, _, rfl, .inl (.inl (.inl upd_same)), rfl, rfl, _, rfl, ?_⟩⟩
              have s2 := (same_new (o := .lst (closes.map V.str)) hp).trans (same_new (o := .lst (opens3.map V.str)) hp2)
              refine ite2 (fun h3 => ?_) (fun h3 => ?_)
              · have q1 := q _ s2
                rw [show gapOf last one = "\n" by unfold gapOf; rw [if_neg e1, if_neg (show ¬ inV (.str one) (closes.map V.str) = true from h2)]; exact if_pos h3] at q1
                exact q1
              · have q1 := q _ s2
                rw [show gapOf last one = " " by unfold gapOf; rw [if_neg e1, if_neg (show ¬ inV (.str one) (closes.map V.str) = true from h2)]; exact if_neg h3] at q1
                exact q1))
        (pss_cons (ps_set (i := 2) scJoined.nd rfl (.inl rfl) (pe_m1 PySem.F.slot_str_strip PySem.F.type_str_strip mt_stripChars (pv 3) pe_str))
        (pss_one (ps_set (i := 1) scJoined.nd rfl (.inl rfl) (pe_op op_add_str (pe_op op_add_str (pv 1) (pv 4)) (pv 2))))))))
      (pss_one (ps_ret (pe_op op_add_str (pv 1) pe_str)))), ?_⟩
    have hh2 : ∀ {n : Nat}, n ≤ 1000000 → n ≤ sizeLine := fun {n} h => Nat.le_trans h (by decide)
    refine ⟨(by show 2 ≤ sizeLine; decide), fun q0 hq0 => ⟨q0, _, rfl, .inl (.inl upd_same), rfl, _, _, rfl, _, _, rfl, rfl, ?_⟩⟩
    refine ⟨_, rfl, l, rfl, ⟨_, (same_new hq0).seq hl⟩, for_list (K := K) (a := l) (xs := ws.map V.str) (fun i σ H' => ∃ v3 v4, σ = [some (.ref l), some (.str ((ws.take i).foldl jStep ("", "(")).1), some (.str ((ws.take i).foldl jStep ("", "(")).2), v3, v4] ∧ ((ws.take i).foldl jStep ("", "(")).1.length ≤ 61 * i ∧ Same H H')
      ⟨none, none, rfl, Nat.le_refl _, same_new hq0⟩ (fun i σ H' _ ⟨_, _, _, _, q⟩ => q.seq hl) ?_ ?_⟩
    · rintro i x σ H1 hi ⟨v3, v4, rfl, hlen, s1⟩
      obtain ⟨wd, hwi, rfl⟩ : ∃ r, ws[i]? = some r ∧ x = V.str r := by
        rw [List.getElem?_map] at hi
        cases e : ws[i]? with
        | none =>
          rw [e] at hi
          cases hi
        | some b =>
          rw [e] at hi
          exact ⟨b, rfl, (Option.some.inj hi).symm⟩
      have il : i < ws.length := (List.getElem?_eq_some_iff.mp hwi).1
      obtain ⟨w1, w2⟩ := hw wd (List.mem_of_getElem? hwi)
      have ft : (ws.take (i + 1)).foldl jStep ("", "(") = jStep ((ws.take i).foldl jStep ("", "(")) wd := by
        rw [List.take_add_one, hwi, List.foldl_append]
        rfl
      rw [ft]
      generalize (ws.take i).foldl jStep ("", "(") = p at hlen ⊢
      have gl := gapOf_len p.2 wd
      refine ⟨_, _, p.2, wd, rfl, fun H2 s2 => ?_⟩
      refine ⟨_, rfl, ⟨_, rfl⟩, _, _, rfl, rfl, hh2 (by omega), ?_⟩
      rw [w2]
      refine ⟨_, rfl, _, rfl, _, _, rfl, rfl, hh2 (by omega), _, rfl, _, _, rfl, rfl, hh2 (by rw [len_app]; omega), ?_⟩
      refine ⟨_, _, rfl, ?_, s1.trans s2⟩
      show (p.1 ++ gapOf p.2 wd ++ wd).length ≤ _
      rw [len_app, len_app]
      omega
    · rintro σ H1 ⟨v3, v4, rfl, hlen, s1⟩
      rw [List.length_map, List.take_length] at hlen
      refine ⟨_, rfl, _, _, rfl, rfl, hh2 ?_, ?_⟩
      · rw [List.length_map, List.take_length]
        have : ("\n" : Str).length = 1 := by decide +kernel
        rw [this]
        omega
      · rw [List.length_map, List.take_length]
        exact k H1 s1
end
end Bc

namespace Bc
open PySem PySem.Spec PyProof.Rows L2
/-! ### the printer of books and bags -/
abbrev nBookT : List Str := ["book", "rows", "word", "stem", "branches"]
abbrev nBagT : List Str := ["bag", "name", "word"]
theorem scListT : FnScope ["names"] ["names"] (defScope sListT) := ⟨rfl, rfl, rfl, by decide +kernel, rfl, by decide +kernel, by decide +kernel⟩
theorem scBookT : FnScope nBookT ["book"] (defScope sBookT) := ⟨rfl, rfl, rfl, by decide +kernel, rfl, by decide +kernel, by decide +kernel⟩
theorem scBagT : FnScope nBagT ["bag"] (defScope sBagT) := ⟨rfl, rfl, rfl, by decide +kernel, rfl, by decide +kernel, by decide +kernel⟩
def listT (bs : List Str) : Str := "(" ++ Txt.join ", " bs ++ ")"
def shapeT (s : Shp) : Str := Str.empty ++ "shape " ++ s.1 ++ " " ++ s.2.1 ++ " " ++ listT s.2.2
def jointT (j : Jnt) : Str := Str.empty ++ "joint " ++ j.1 ++ " " ++ j.2
def bookT (shs : List Shp) : Str := rowsT "book" (shs.map shapeT)
def bagT (js : List Jnt) : Str := rowsT "bag" (js.map jointT)
theorem listT_le {bs : List Str} (h : ∀ b ∈ bs, b.length ≤ 12) (n : bs.length ≤ 30) : (listT bs).length ≤ 450 := by
  unfold listT
  have q := join_le (y := ", ") h
  have e1 : (", " : Str).length = 2 := by decide +kernel
  have e2 : ("(" : Str).length = 1 := by decide +kernel
  have e3 : (")" : Str).length = 1 := by decide +kernel
  rw [e1] at q
  rw [len_app, len_app, e2, e3]
  omega
def spListT (K : PySem.W.Frag) : Sp := fun vs H Q _ => ∃ (a : Addr) (bs : List Str), vs = [.ref a] ∧ SqT K H a (bs.map V.str) ∧ (∀ b ∈ bs, b.length ≤ 12) ∧ bs.length ≤ 30 ∧ Q (.str (listT bs)) H
def spBookT (K : PySem.W.Frag) (C : Addr) : Sp := fun vs H Q _ => ∃ (a : Addr) (shs : List Shp), vs = [.ref a] ∧ BookAt K H C a shs ∧ OkBook shs ∧ (∀ s ∈ shs, s.2.2.length ≤ 30) ∧ ∀ H', Same H H' → Q (.str (bookT shs)) H'
def spBagT (K : PySem.W.Frag) (CB CG : Addr) : Sp := fun vs H Q _ => ∃ (a : Addr) (shs : List Shp) (js : List Jnt), vs = [.ref a] ∧ BagAt K H CB CG a shs js ∧ OkBag (wordsS shs) js ∧ ∀ H', Same H H' → Q (.str (bagT js)) H'
section
variable {P : Program} {w : World} {K : PySem.W.Frag} {mg : Str → Option Value} {base : Heap} {C CB CG : Addr}
theorem ok_listT {f : Addr} {fd : FuncData} (F : Fun K "list_text" "list_text" sListT f fd) : FnOk P w K mg base CX0 1 f fd ["names"] (spListT K) := by
  refine F.ok scListT (fun vs H Q E h => ?_) (fun cdv A outer s H vs Q E hr h => ?_)
  · obtain ⟨a, bs, rfl, _⟩ := h
    rfl
  · obtain ⟨a, bs, rfl, ha, hb, hn, k⟩ := h
    refine ⟨_, pss_one (ps_ret (pe_op op_add_str (pe_op op_add_str pe_str (pe_m1 PySem.F.slot_str_join PySem.F.type_str_join mt_join pe_str (pv 0))) pe_str)), ?_⟩
    have hh2 : ∀ {n : Nat}, n ≤ 1000000 → n ≤ sizeLine := fun {n} h => Nat.le_trans h (by decide)
    have q := join_le (y := ", ") hb
    have e1 : (", " : Str).length = 2 := by decide +kernel
    have e2 : ("(" : Str).length = 1 := by decide +kernel
    have e3 : (")" : Str).length = 1 := by decide +kernel
    rw [e1] at q
    have q2 := sum_le (xs := bs.map (·.length)) (b := 12) fun n hn => by
      obtain ⟨x, hx, rfl⟩ := List.mem_map.mp hn
      exact hb x hx
    rw [List.length_map] at q2
    refine ⟨⟨_, rfl⟩, _, rfl, _, a, _, rfl, rfl, .inr ha, by rw [e1]; omega, _, _, rfl, rfl, hh2 (by rw [e2]; omega), _, _, rfl, rfl, hh2 (by rw [len_app, e2, e3]; omega), k⟩
theorem ok_bookT {f fS fL fR : Addr} {fd fdS fdL fdR : FuncData} (F : Fun K "book_text" "book_text" sBookT f fd) (c : Cls K C)
    (mS : Meth K C "shapes" fS) (GS : FnOk P w K mg base CX0 1 fS fdS ["self"] (spBookS K C)) (bS : Binds K fdS ["self"] [])
    (GL : FnOk P w K mg base CX0 1 fL fdL ["names"] (spListT K)) (bL : Binds K fdL ["names"] []) (gL : mg "list_text" = some (.ref fL)) (kL : PySem.W.keepIn K (.ref fL) = true)
    (GR : FnOk P w K mg base CX0 1 fR fdR ["head", "rows"] (spRowsT K)) (bR : Binds K fdR ["head", "rows"] []) (gR : mg "rows_text" = some (.ref fR)) (kR : PySem.W.keepIn K (.ref fR) = true) : FnOk P w K mg base CX0 2 f fd ["book"] (spBookT K C) := by
  refine F.ok scBookT (fun vs H Q E h => ?_) (fun cdv A outer s H vs Q E hr h => ?_)
  · obtain ⟨a, shs, rfl, _⟩ := h
    rfl
  · obtain ⟨a, shs, rfl, ha, ok, sh30, k⟩ := h
    refine ⟨_, pss_cons (ps_setLc (i := 1) (own := [("word", 2), ("stem", 3), ("branches", 4)]) (tt := tYes) rfl scBookT.nd rfl rfl (sw_true rfl rfl rfl (by decide +kernel)) (pi_list (pe_meth0 (pv 0) c mS GS hr bS .nil pass0)) (blkOk_by (own := [("word", 2), ("stem", 3), ("branches", 4)]) (N := nBookT) (sc := defScope sBookT) (by decide +kernel))
          (fun _ _ _ _ _ => (show PG _ _ (gTup K 3 _) from pg_tup rfl (pgs_cons (pg_name (i := 2) scBookT.nd rfl (.inl rfl)) (pgs_cons (pg_name (i := 3) scBookT.nd rfl (.inl rfl)) (pgs_cons (pg_name (i := 4) scBookT.nd rfl (.inl rfl)) pgs_nil))))) (fun _ _ _ _ _ => pts_nil)
          (fun _ _ _ _ _ => pe_joined (.cons pe_str (.cons (pe_fmt (pv 2)) (.cons pe_str (.cons (pe_fmt (pv 3)) (.cons pe_str (.cons (pe_fmt (pe_call GL hr (by rfl) gL kL bL .nil pass0 (pa_cons (pv 4) pa_nil))) .nil))))))))
      (pss_one (ps_ret (pe_call GR hr (by rfl) gR kR bR .nil pass0 (pa_cons pe_str (pa_cons (pv 1) pa_nil))))), ?_⟩
    obtain ⟨dx, d, xs0, h1, h2, h3⟩ := id ha
    have hh2 : ∀ {n : Nat}, n ≤ 1000000 → n ≤ sizeLine := fun {n} h => Nat.le_trans h (by decide)
    refine ⟨_, rfl, a, dx, _, rfl, h1, rfl, a, shs, rfl, ha, fun p xs H1 s1 np ep dp => ?_⟩
    refine ⟨p, rfl, ⟨_, .inl (.inl ep)⟩, fun D hD => ?_⟩
    have lx : xs.length = shs.length := by rw [dp.len, List.length_map]
    refine lc_list (K := K) (a := p) (xs := xs) (g := gTup K 3 (gCons (gName 2) (gCons (gName 3) (gCons (gName 4) gNil)))) (tt := tYes) (te := fun σ H Q => tJs [tC (.str "shape "), tFmt (tVar 2), tC (.str " "), tFmt (tVar 3), tC (.str " "), tFmt (tCall (spListT K) [] E0 (tCons (tVar 4) tNil))] Str.empty σ H fun out H1 => Q (.str out) H1)
      (fun i H' => Same H1 H' ∧ H' D = some (.lst (((shs.take i).map shapeT).map V.str))) ⟨same_new hD, upd_same⟩ (fun i H' _ h => .inl (.inl (h.1 _ _ ep))) ?_ ?_
    · rintro i x H3 hx ⟨s3, eD⟩
      obtain ⟨sd, hsd, dqx⟩ := DqAll.get i dp hx
      obtain ⟨sh, hsh, rfl⟩ : ∃ sh, shs[i]? = some sh ∧ sd = dShape sh := by
        rw [List.getElem?_map] at hsd
        cases e : shs[i]? with
        | none =>
          rw [e] at hsd
          cases hsd
        | some b =>
          rw [e] at hsd
          exact ⟨b, rfl, (Option.some.inj hsd).symm⟩
      have sm := List.mem_of_getElem? hsh
      have o := ok.all sh sm
      obtain ⟨r, b, rfl, hr2, hb2⟩ := shape_inv (Dq.same s3 dqx)
      have il : i < shs.length := (List.getElem?_eq_some_iff.mp hsh).1
      have z0 : (Str.empty : Str).length = 0 := rfl
      have z1 : ("shape " : Str).length = 6 := by decide +kernel
      have z2 : (" " : Str).length = 1 := by decide +kernel
      have w1 := isW_len o.w
      have w2 := isW_len o.st
      have w3 := listT_le (bs := sh.2.2) (fun b hb => isW_len (o.br b hb)) (sh30 sh sm)
      refine ⟨r, _, rfl, hr2, rfl, _, _, rfl, _, _, rfl, _, _, rfl, rfl, rfl, ?_⟩
      refine lc_yes ?_
      refine ⟨"shape ", rfl, hh2 (by rw [len_app, z0, z1]; omega), ?_⟩
      refine ⟨_, rfl, .inl ⟨sh.1, rfl, hh2 (by omega), sh.1, rfl, hh2 (by rw [len_app, len_app, z0, z1]; omega), " ", rfl, hh2 (by rw [len_app, len_app, len_app, z0, z1, z2]; omega), ?_⟩⟩
      refine ⟨_, rfl, .inl ⟨sh.2.1, rfl, hh2 (by omega), sh.2.1, rfl, hh2 (by rw [len_app, len_app, len_app, len_app, z0, z1, z2]; omega), " ", rfl, hh2 (by rw [len_app, len_app, len_app, len_app, len_app, z0, z1, z2]; omega), ?_⟩⟩
      refine ⟨_, rfl, b, sh.2.2, rfl, hb2, fun b hb => isW_len (o.br b hb), sh30 sh sm, .inl ⟨listT sh.2.2, rfl, hh2 (by omega), listT sh.2.2, rfl, hh2 (by rw [len_app, len_app, len_app, len_app, len_app, len_app, z0, z1, z2]; omega), ?_⟩⟩
      refine ⟨_, eD, ?_, Same.over s3 hD, ?_⟩
      · rw [List.length_map, List.length_map, List.length_take]
        exact small1000 (by have := ok.ln; omega)
      · rw [upd_same, List.take_add_one, hsh, List.map_append, List.map_append]
        rfl
    · rintro H3 ⟨s3, eD⟩
      rw [lx, List.take_length] at eD
      refine ⟨_, rfl, "book", D, shs.map shapeT, rfl, .inl (.inl eD), by decide, by rw [List.length_map]; exact ok.ln, fun r hr => ?_, fun H4 s4 => k H4 (s1.trans (Same.trans (fun b o e => s3 _ _ e) s4))⟩
      obtain ⟨sh, hsh, rfl⟩ := List.mem_map.mp hr
      have o := ok.all sh hsh
      have w1 := isW_len o.w
      have w2 := isW_len o.st
      have w3 := listT_le (bs := sh.2.2) (fun b hb => isW_len (o.br b hb)) (sh30 sh hsh)
      unfold shapeT
      have z0 : (Str.empty : Str).length = 0 := rfl
      have z1 : ("shape " : Str).length = 6 := by decide +kernel
      have z2 : (" " : Str).length = 1 := by decide +kernel
      rw [len_app, len_app, len_app, len_app, len_app, len_app, z0, z1, z2]
      omega
theorem ok_bagT {f fJ fR : Addr} {fd fdJ fdR : FuncData} (F : Fun K "bag_text" "bag_text" sBagT f fd) (c : Cls K CG)
    (mJ : Meth K CG "joints" fJ) (GJ : FnOk P w K mg base CX0 1 fJ fdJ ["self"] (spBagJ K CB CG)) (bJ : Binds K fdJ ["self"] [])
    (GR : FnOk P w K mg base CX0 1 fR fdR ["head", "rows"] (spRowsT K)) (bR : Binds K fdR ["head", "rows"] []) (gR : mg "rows_text" = some (.ref fR)) (kR : PySem.W.keepIn K (.ref fR) = true) : FnOk P w K mg base CX0 2 f fd ["bag"] (spBagT K CB CG) := by
  refine F.ok scBagT (fun vs H Q E h => ?_) (fun cdv A outer s H vs Q E hr h => ?_)
  · obtain ⟨a, shs, js, rfl, _⟩ := h
    rfl
  · obtain ⟨a, shs, js, rfl, ha, ok, k⟩ := h
    refine ⟨_, pss_one (ps_ret (pe_call GR hr (by rfl) gR kR bR .nil pass0 (pa_cons pe_str (pa_cons
        (pe_lc (own := [("name", 1), ("word", 2)]) (tt := tYes) (by rfl) scBagT.nd (pi_list (pe_meth0 (pv 0) c mJ GJ hr bJ .nil pass0)) (blkOk_by (own := [("name", 1), ("word", 2)]) (N := nBagT) (sc := defScope sBagT) (by decide +kernel))
          (fun _ _ _ _ _ => (show PG _ _ (gTup K 2 _) from pg_tup rfl (pgs_cons (pg_name (i := 1) scBagT.nd rfl (.inl rfl)) (pgs_cons (pg_name (i := 2) scBagT.nd rfl (.inl rfl)) pgs_nil)))) (fun _ _ _ _ _ => pts_nil)
          (fun _ _ _ _ _ => pe_joined (.cons pe_str (.cons (pe_fmt (pv 1)) (.cons pe_str (.cons (pe_fmt (pv 2)) .nil)))))) pa_nil)))), ?_⟩
    obtain ⟨dx, b, d, h1, h2, h3⟩ := id ha
    have hh2 : ∀ {n : Nat}, n ≤ 1000000 → n ≤ sizeLine := fun {n} h => Nat.le_trans h (by decide)
    refine ⟨_, rfl, a, dx, _, rfl, h1, rfl, a, shs, js, rfl, ha, fun p xs H1 s1 np ep dp => ?_⟩
    refine ⟨p, rfl, ⟨_, .inl (.inl ep)⟩, fun D hD => ?_⟩
    have lx : xs.length = js.length := by rw [dp.len, List.length_map]
    refine lc_list (K := K) (a := p) (xs := xs) (g := gTup K 2 (gCons (gName 1) (gCons (gName 2) gNil))) (tt := tYes) (te := fun σ H Q => tJs [tC (.str "joint "), tFmt (tVar 1), tC (.str " "), tFmt (tVar 2)] Str.empty σ H fun out H1 => Q (.str out) H1)
      (fun i H' => Same H1 H' ∧ H' D = some (.lst (((js.take i).map jointT).map V.str))) ⟨same_new hD, upd_same⟩ (fun i H' _ h => .inl (.inl (h.1 _ _ ep))) ?_ ?_
    · rintro i x H3 hx ⟨s3, eD⟩
      obtain ⟨sd, hsd, dqx⟩ := DqAll.get i dp hx
      obtain ⟨j, hj, rfl⟩ : ∃ j, js[i]? = some j ∧ sd = dJoint j := by
        rw [List.getElem?_map] at hsd
        cases e : js[i]? with
        | none =>
          rw [e] at hsd
          cases hsd
        | some b =>
          rw [e] at hsd
          exact ⟨b, rfl, (Option.some.inj hsd).symm⟩
      have jm := List.mem_of_getElem? hj
      obtain ⟨r, rfl, hr2⟩ := joint_inv (Dq.same s3 dqx)
      have il : i < js.length := (List.getElem?_eq_some_iff.mp hj).1
      have z0 : (Str.empty : Str).length = 0 := rfl
      have z1 : ("joint " : Str).length = 6 := by decide +kernel
      have z2 : (" " : Str).length = 1 := by decide +kernel
      have w1 := isW_len (ok.name j jm).1
      have w2 := isW_len (ok.word j jm).1
      refine ⟨r, _, rfl, hr2, rfl, _, _, rfl, _, _, rfl, rfl, rfl, ?_⟩
      refine lc_yes ?_
      refine ⟨"joint ", rfl, hh2 (by rw [len_app, z0, z1]; omega), ?_⟩
      refine ⟨_, rfl, .inl ⟨j.1, rfl, hh2 (by omega), j.1, rfl, hh2 (by rw [len_app, len_app, z0, z1]; omega), " ", rfl, hh2 (by rw [len_app, len_app, len_app, z0, z1, z2]; omega), ?_⟩⟩
      refine ⟨_, rfl, .inl ⟨j.2, rfl, hh2 (by omega), j.2, rfl, hh2 (by rw [len_app, len_app, len_app, len_app, z0, z1, z2]; omega), ?_⟩⟩
      refine ⟨_, eD, ?_, Same.over s3 hD, ?_⟩
      · rw [List.length_map, List.length_map, List.length_take]
        exact small1000 (by have := ok.ln; omega)
      · rw [upd_same, List.take_add_one, hj, List.map_append, List.map_append]
        rfl
    · rintro H3 ⟨s3, eD⟩
      rw [lx, List.take_length] at eD
      refine ⟨"bag", D, js.map jointT, rfl, .inl (.inl eD), by decide, by rw [List.length_map]; exact ok.ln, fun r hr => ?_, fun H4 s4 => k H4 (s1.trans (Same.trans (fun b o e => s3 _ _ e) s4))⟩
      obtain ⟨j, hj, rfl⟩ := List.mem_map.mp hr
      have w1 := isW_len (ok.name j hj).1
      have w2 := isW_len (ok.word j hj).1
      unfold jointT
      have z0 : (Str.empty : Str).length = 0 := rfl
      have z1 : ("joint " : Str).length = 6 := by decide +kernel
      have z2 : (" " : Str).length = 1 := by decide +kernel
      rw [len_app, len_app, len_app, len_app, z0, z1, z2]
      omega
end
end Bc

namespace Bc
open PySem PySem.Spec PyProof.Rows L2
/-! ### the reader of books and bags -/
def comR (bs : List Str) : List Str := bs.flatMap fun b => [(",": Str), b]
def commas : List Str → List Str
  | [] => []
  | b :: r => b :: comR r
def listL (bs : List Str) : List Str := "(" :: (commas bs ++ [(")" : Str)])
def rowS (s : Shp) : List Str := "shape" :: s.1 :: s.2.1 :: listL s.2.2
def rowJ (j : Jnt) : List Str := ["joint", j.1, j.2]
def bookL (shs : List Shp) : List Str := "book" :: "{" :: (bodyOf (shs.map rowS) ++ [("}" : Str)])
def bagL (js : List Jnt) : List Str := "bag" :: "{" :: (bodyOf (js.map rowJ) ++ [("}" : Str)])
abbrev puncs : List Str := ["(", ",", ")"]
def kept (w : Str) : Bool := !(inV (.str w) (puncs.map V.str))
theorem inV_strs (w : Str) : ∀ (xs : List Str), inV (.str w) (xs.map V.str) = decide (w ∈ xs)
  | [] => rfl
  | x :: xs => by
    have ih := inV_strs w xs
    unfold inV at ih ⊢
    rw [List.map_cons, List.any_cons, ih]
    have e : eqV (V.str x) (V.str w) = decide (x = w) := by
      show (x == w) = decide (x = w)
      rfl
    rw [e]
    by_cases h : x = w
    · subst h
      simp
    · have h2 : ¬ w = x := fun q => h q.symm
      simp [h, h2]
theorem isW_ne {w x : Str} (h : isW w = true) (hx : isW x = false) : w ≠ x := fun e => by
  rw [e, hx] at h
  cases h
theorem kept_W {w : Str} (h : isW w = true) : kept w = true := by
  unfold kept
  rw [inV_strs, decide_eq_false ?_]
  · rfl
  · intro m
    have q := List.all_eq_true.mp (show (puncs.all fun x => !(isW x)) = true by decide +kernel) w m
    rw [h] at q
    cases q
theorem filter_com : ∀ (bs : List Str), (∀ b ∈ bs, isW b = true) → (comR bs).filter kept = bs
  | [], _ => rfl
  | b :: bs, h => by
    show ((",": Str) :: b :: comR bs).filter kept = _
    rw [List.filter_cons_of_neg (by decide +kernel), List.filter_cons_of_pos (kept_W (h b (List.mem_cons_self ..))), filter_com bs fun x hx => h x (List.mem_cons_of_mem _ hx)]
theorem filter_list {bs : List Str} (h : ∀ b ∈ bs, isW b = true) : (listL bs).filter kept = bs := by
  unfold listL
  rw [List.filter_cons_of_neg (by decide +kernel), List.filter_append, show ([(")" : Str)]).filter kept = [] by decide +kernel, List.append_nil]
  cases bs with
  | nil => rfl
  | cons b r =>
    show (b :: comR r).filter kept = _
    rw [List.filter_cons_of_pos (kept_W (h b (List.mem_cons_self ..))), filter_com r fun x hx => h x (List.mem_cons_of_mem _ hx)]
abbrev nListOf : List Str := ["read", "lexeme"]
theorem scListOf : FnScope nListOf ["read"] (defScope sListOf) := ⟨rfl, rfl, rfl, by decide +kernel, rfl, by decide +kernel, by decide +kernel⟩
abbrev nReadBook : List Str := ["text", "_", "rows", "row"]
theorem scReadBook : FnScope nReadBook ["text"] (defScope sReadBook) := ⟨rfl, rfl, rfl, by decide +kernel, rfl, by decide +kernel, by decide +kernel⟩
abbrev nReadBag : List Str := ["book", "text", "_", "rows", "row"]
theorem scReadBag : FnScope nReadBag ["book", "text"] (defScope sReadBag) := ⟨rfl, rfl, rfl, by decide +kernel, rfl, by decide +kernel, by decide +kernel⟩
def spListOf (K : PySem.W.Frag) : Sp := fun vs H Q _ => ∃ (l : Addr) (ws : List Str), vs = [.ref l] ∧ SqL K H l (ws.map V.str) ∧ ws.length ≤ 20000 ∧ ∀ p H', Same H H' → H p = none → H' p = some (.tup ((ws.filter kept).map V.str)) → Q (.ref p) H'
def spReadBook (K : PySem.W.Frag) (C : Addr) : Sp := fun vs H Q _ => ∃ (z : Str) (shs : List Shp), vs = [.str z] ∧ LexOk "BOOK" z (bookL shs) ∧ OkBook shs ∧ ∀ b H', Same H H' → H b = none → BookAt K H' C b shs → Q (.ref b) H'
def spReadBag (K : PySem.W.Frag) (CB CG : Addr) : Sp := fun vs H Q _ => ∃ (b : Addr) (z : Str) (shs : List Shp) (js : List Jnt), vs = [.ref b, .str z] ∧ BookAt K H CB b shs ∧ shs.length ≤ 1000 ∧ LexOk "BAG" z (bagL js) ∧ OkBag (wordsS shs) js ∧ ∀ g H', Same H H' → H g = none → BagAt K H' CB CG g shs js → Q (.ref g) H'
section
variable {P : Program} {w : World} {K : PySem.W.Frag} {mg : Str → Option Value} {base : Heap} {C CB CG : Addr}
theorem ok_listOf {f : Addr} {fd : FuncData} (F : Fun K "list_of" "list_of" sListOf f fd) (T : Wt mg) : FnOk P w K mg base CX0 1 f fd ["read"] (spListOf K) := by
  refine F.ok scListOf (fun vs H Q E h => ?_) (fun cdv A outer s H vs Q E hr h => ?_)
  · obtain ⟨l, ws, rfl, _⟩ := h
    rfl
  · obtain ⟨l, ws, rfl, hl, hn, k⟩ := h
    refine ⟨_, pss_one (ps_ret (pe_tupleOf (by rfl) T.tup (pe_lc (own := [("lexeme", 1)]) (g := gName 1) (by rfl) scListOf.nd (pi_list (pv 0)) (blkOk_by (own := [("lexeme", 1)]) (N := nListOf) (sc := defScope sListOf) (by decide +kernel)) (fun _ _ _ _ _ => pg_name (i := 1) scListOf.nd rfl (.inl rfl))
        (fun _ _ _ _ _ => pts_one (pt_cmpR (show OpR _ _ (rIn K true) from op_notIn_seq) (pv 1) (pe_tup (pa_cons pe_str (pa_cons pe_str (pa_cons pe_str pa_nil)))) (by rfl))) (fun _ _ _ _ _ => pv 1)))), ?_⟩
    refine ⟨_, rfl, l, rfl, ⟨_, hl⟩, fun D hD => lc_list (K := K) (a := l) (xs := ws.map V.str) (fun i H' => Same H H' ∧ H' D = some (.lst (((ws.take i).filter kept).map V.str))) ⟨same_new hD, upd_same⟩ (fun i H' _ h => h.1.seq hl) ?_ ?_⟩
    · rintro i x H1 hx ⟨s1, eD⟩
      obtain ⟨c, hc, rfl⟩ : ∃ r, ws[i]? = some r ∧ x = V.str r := by
        rw [List.getElem?_map] at hx
        cases e : ws[i]? with
        | none =>
          rw [e] at hx
          cases hx
        | some r =>
          rw [e] at hx
          exact ⟨r, rfl, (Option.some.inj hx).symm⟩
      have il : i < ws.length := (List.getElem?_eq_some_iff.mp hc).1
      refine ⟨rfl, ?_⟩
      refine ⟨_, rfl, (by show 3 ≤ sizeLine; decide), fun t ht => ⟨t, puncs.map V.str, rfl, .inr (.inl (.inl upd_same)), rfl, rfl, _, rfl, ?_⟩⟩
      have s2 := s1.trans (same_new (o := .tup (puncs.map V.str)) ht)
      have eD2 := (same_new (o := .tup (puncs.map V.str)) ht) _ _ eD
      have ft : ∀ b, kept c = b → (ws.take (i + 1)).filter kept = (ws.take i).filter kept ++ (if b = true then [c] else []) := fun b hb => by
        rw [List.take_add_one, hc, List.filter_append]
        show _ ++ [c].filter kept = _
        rw [List.filter_cons, hb]
        rfl
      refine ite2 (fun h1 => ?_) (fun h1 => ?_)
      · refine ⟨_, rfl, _, eD2, ?_, Same.over s2 hD, ?_⟩
        · rw [List.length_map]
          have q := List.length_filter_le kept (ws.take i)
          rw [List.length_take] at q
          exact Nat.lt_of_lt_of_le (show ((ws.take i).filter kept).length < 20001 by omega) (by decide)
        · rw [upd_same, ft true h1, List.map_append]
          rfl
      · refine ⟨s2, eD2.trans ?_⟩
        rw [ft false (by have : ¬ kept c = true := h1; simpa using this)]
        show _ = some (HO.lst (((ws.take i).filter kept ++ []).map V.str))
        rw [List.append_nil]
    · rintro H1 ⟨s1, eD⟩
      rw [List.length_map, List.take_length] at eD
      refine .inl ⟨D, _, rfl, .inl (.inl eD), fun q hq => k q _ (s1.trans (same_new hq)) (s1.free hq) upd_same⟩
end
end Bc

namespace Bc
open PySem PySem.Spec PyProof.Rows L2
theorem DqAll.snoc' {K : PySem.W.Frag} {H : Hp} {vs : List V} {ds : List PyData} {v : V} {d : PyData} (h : DqAll K H vs ds) (g : Dq K H v d) : DqAll K H (vs ++ [v]) (ds ++ [d]) := DqAll.app h (.cons g .nil)
theorem hid_get {d c D : Addr} {H : Hp} {o : HO} (h : hid d c H D = some o) : D ≠ d ∧ D ≠ c ∧ H D = some o := by
  unfold hid at h
  split at h
  · cases h
  · rename_i n
    exact ⟨fun e => n (.inl e), fun e => n (.inr e), h⟩
theorem hid_put {d c D : Addr} {H : Hp} {o : HO} (h1 : D ≠ d) (h2 : D ≠ c) (h : H D = some o) : hid d c H D = some o := by
  unfold hid
  rw [if_neg (fun y => y.elim h1 h2)]
  exact h
theorem isW_semi {w : Str} (h : isW w = true) : w ≠ ";" := isW_ne h (by decide +kernel)
theorem com_no : ∀ (bs : List Str), (∀ b ∈ bs, isW b = true) → ∀ x ∈ comR bs, x ≠ ";"
  | [], _, x, hx => by cases hx
  | b :: bs, h, x, hx => by
    have hx : x ∈ (",": Str) :: b :: comR bs := hx
    rcases List.mem_cons.mp hx with e | hx
    · rw [e]
      decide +kernel
    rcases List.mem_cons.mp hx with e | hx
    · rw [e]
      exact isW_semi (h b (List.mem_cons_self ..))
    · exact com_no bs (fun y hy => h y (List.mem_cons_of_mem _ hy)) x hx
theorem list_no {bs : List Str} (h : ∀ b ∈ bs, isW b = true) : ∀ x ∈ listL bs, x ≠ ";" := fun x hx => by
  unfold listL at hx
  rcases List.mem_cons.mp hx with e | hx
  · rw [e]
    decide +kernel
  rcases List.mem_append.mp hx with hx | hx
  · cases bs with
    | nil => cases hx
    | cons b r =>
      have hx : x ∈ b :: comR r := hx
      rcases List.mem_cons.mp hx with e | hx
      · rw [e]
        exact isW_semi (h b (List.mem_cons_self ..))
      · exact com_no r (fun y hy => h y (List.mem_cons_of_mem _ hy)) x hx
  · rw [List.mem_singleton.mp hx]
    decide +kernel
theorem rowS_no {s : Shp} (h : OkShape s) : ∀ x ∈ rowS s, x ≠ ";" := fun x hx => by
  have hx : x ∈ ("shape" : Str) :: s.1 :: s.2.1 :: listL s.2.2 := hx
  rcases List.mem_cons.mp hx with e | hx
  · rw [e]
    decide +kernel
  rcases List.mem_cons.mp hx with e | hx
  · rw [e]
    exact isW_semi h.w
  rcases List.mem_cons.mp hx with e | hx
  · rw [e]
    exact isW_semi h.st
  · exact list_no h.br x hx
theorem rowJ_no {j : Jnt} (h1 : isW j.1 = true) (h2 : isW j.2 = true) : ∀ x ∈ rowJ j, x ≠ ";" := fun x hx => by
  have hx : x ∈ [("joint" : Str), j.1, j.2] := hx
  rcases List.mem_cons.mp hx with e | hx
  · rw [e]
    decide +kernel
  rcases List.mem_cons.mp hx with e | hx
  · rw [e]
    exact isW_semi h1
  · rw [List.mem_singleton.mp hx]
    exact isW_semi h2
theorem comR_len : ∀ (bs : List Str), (comR bs).length = 2 * bs.length
  | [] => rfl
  | b :: bs => by
    show (comR bs).length + 2 = 2 * (bs.length + 1)
    rw [comR_len bs]
    omega
theorem listL_len (bs : List Str) : (listL bs).length ≤ 2 * bs.length + 2 := by
  unfold listL
  rw [List.length_cons, List.length_append]
  have e1 : ([(")" : Str)]).length = 1 := rfl
  rw [e1]
  cases bs with
  | nil =>
    show 0 + 1 + 1 ≤ _
    omega
  | cons b r =>
    show (comR r).length + 1 + 1 + 1 ≤ 2 * (r.length + 1) + 2
    rw [comR_len]
    omega
theorem cut3 {a b c : V} {r : List V} : cutV (a :: b :: c :: r) (some 3) none = r := by
  unfold cutV
  rw [show (some (3 : Int)) = some ((3 : Nat) : Int) from rfl, HT.sIx_none, HT.sIx_nat, List.length_cons, List.length_cons, List.length_cons, Nat.min_eq_left (by omega)]
  show r.take _ = r
  exact List.take_of_length_le (by omega)
section
variable {P : Program} {w : World} {K : PySem.W.Frag} {mg : Str → Option Value} {base : Heap} {C CB CG : Addr}
theorem ok_readBook {f fH fL fI : Addr} {fd fdH fdL fdI : FuncData} (F : Fun K "read_book" "read_book" sReadBook f fd) (c : Cls K C) (M : Mk K C fI) (gC : mg "Book" = some (.ref C))
    (GH : FnOk P w K mg base CX0 5 fH fdH ["form", "text"] (spHead K)) (bH : Binds K fdH ["form", "text"] []) (gH : mg "head_and_rows" = some (.ref fH)) (kH : PySem.W.keepIn K (.ref fH) = true)
    (GL : FnOk P w K mg base CX0 1 fL fdL ["read"] (spListOf K)) (bL : Binds K fdL ["read"] []) (gL : mg "list_of" = some (.ref fL)) (kL : PySem.W.keepIn K (.ref fL) = true)
    (GI : FnOk P w K mg base CX0 3 fI fdI ["self", "shapes"] (spBookI K C)) (bI : Binds K fdI ["self", "shapes"] []) : FnOk P w K mg base CX0 6 f fd ["text"] (spReadBook K C) := by
  refine F.ok scReadBook (fun vs H Q E h => ?_) (fun cdv A outer s H vs Q E hr h => ?_)
  · obtain ⟨z, shs, rfl, _⟩ := h
    rfl
  · obtain ⟨z, shs, rfl, lx, ok, k⟩ := h
    have hr1 : Room 1 _ := hr.mono (by decide)
    have hr4 : Room 4 _ := hr.mono (by decide)
    refine ⟨_, pss_cons (ps_asg (pe_call GH hr (by rfl) gH kH bH .nil pass0 (pa_cons pe_str (pa_cons (pv 0) pa_nil))) (pg_tup rfl (pgs_cons (pg_name (i := 1) scReadBook.nd rfl (.inl rfl)) (pgs_cons (pg_name (i := 2) scReadBook.nd rfl (.inl rfl)) pgs_nil))))
      (pss_one (ps_ret (pe_make M GI hr4 (by rfl) gC bI .nil pass0 (pa_cons
        (pe_lc (own := [("row", 3)]) (g := gName 3) (tt := tYes) (by rfl) scReadBook.nd (pi_list (pv 2)) (blkOk_by (own := [("row", 3)]) (N := nReadBook) (sc := defScope sReadBook) (by decide +kernel)) (fun _ _ _ _ _ => pg_name (i := 3) scReadBook.nd rfl (.inl rfl)) (fun _ _ _ _ _ => pts_nil)
          (fun _ _ _ _ _ => pe_tup (pa_cons (pe_ix (show IxR _ (rIxL K) from ix_list) (pv 3) pe_int (fun _ _ => rfl)) (pa_cons (pe_ix (show IxR _ (rIxL K) from ix_list) (pv 3) pe_int (fun _ _ => rfl)) (pa_cons (pe_call GL hr1 (by rfl) gL kL bL .nil pass0 (pa_cons (pe_slice (show SlR _ (rSlL K) from sl_list) (pv 3) (po_some pe_int) po_none) pa_nil)) pa_nil))))) pa_nil)))), ?_⟩
    refine ⟨_, rfl, "BOOK", "book", z, shs.map rowS, rfl, by decide +kernel, lx, fun d hd => ?_, fun q h g rs H1 s1 hq hg hlen hrow => ?_⟩
    · obtain ⟨sh, hs, rfl⟩ := List.mem_map.mp hd
      exact rowS_no (ok.all sh hs)
    rw [List.length_map] at hlen
    refine ⟨q, _, rfl, hq, rfl, _, _, rfl, _, _, rfl, rfl, ?_⟩
    refine ⟨_, rfl, g, rfl, ⟨_, .inl (.inl hg)⟩, fun D hD => lc_list (K := K) (a := g) (xs := rs.map V.ref) (fun i H' => Same H1 H' ∧ ∃ vs, H' D = some (.lst vs) ∧ DqAll K (hid D D H') vs ((shs.take i).map dShape)) ⟨same_new hD, [], upd_same, .nil⟩ (fun i H' _ h => .inl (.inl (h.1 _ _ hg))) ?_ ?_⟩
    · rintro i x H2 hx ⟨s2, vs, eD, dq⟩
      obtain ⟨r, hr0, rfl⟩ : ∃ r, rs[i]? = some r ∧ x = V.ref r := by
        rw [List.getElem?_map] at hx
        cases e : rs[i]? with
        | none =>
          rw [e] at hx
          cases hx
        | some r =>
          rw [e] at hx
          exact ⟨r, rfl, (Option.some.inj hx).symm⟩
      have il : i < rs.length := (List.getElem?_eq_some_iff.mp hr0).1
      obtain ⟨sh, hsh⟩ : ∃ sh, shs[i]? = some sh := ⟨_, List.getElem?_eq_getElem (by omega)⟩
      have o := ok.all sh (List.mem_of_getElem? hsh)
      have er := s2 _ _ (hrow i r (rowS sh) hr0 (by rw [List.getElem?_map, hsh]; rfl))
      refine ⟨rfl, lc_yes ?_⟩
      refine ⟨_, rfl, r, _, _, .str sh.1, rfl, rfl, .inl (.inl er), L2.at_of (j := 1) rfl rfl, ?_⟩
      refine ⟨_, rfl, r, _, _, .str sh.2.1, rfl, rfl, .inl (.inl er), L2.at_of (j := 2) rfl rfl, ?_⟩
      refine ⟨_, rfl, _, rfl, r, _, rfl, .inl (.inl er), fun p hp => ?_⟩
      rw [show cutV ((rowS sh).map V.str) (some 3) none = (listL sh.2.2).map V.str from cut3]
      refine ⟨p, listL sh.2.2, rfl, .inl (.inl upd_same), ?_, fun t H3 s3 nt et => ?_⟩
      · have := listL_len sh.2.2
        have := o.ln
        omega
      rw [filter_list o.br] at et
      refine ⟨(by show 3 ≤ sizeLine; decide), fun u hu => ?_⟩
      have sp := (same_new (o := .lst ((listL sh.2.2).map V.str)) hp).trans s3
      have su := same_new (o := .tup [.str sh.1, .str sh.2.1, .ref t]) hu
      have eD3 := sp _ _ eD
      have nuD : u ≠ D := fun e => by
        rw [e, eD3] at hu
        cases hu
      have ntD : t ≠ D := fun e => by
        have e2 := (same_new (o := .lst ((listL sh.2.2).map V.str)) hp) _ _ eD
        rw [e, e2] at nt
        cases nt
      refine ⟨vs, su _ _ eD3, ?_, Same.over (s2.trans (sp.trans su)) hD, _, upd_same, ?_⟩
      · rw [dq.len, List.length_map, List.length_take]
        exact small1000 (by have := ok.ln; omega)
      · rw [List.take_add_one, hsh, List.map_append]
        refine DqAll.snoc' (DqAll.same (hid1_same fun b o nb e => ?_) dq) ?_
        · rw [upd_ne nb]
          exact su _ _ (sp _ _ e)
        · refine .tup (xs := [.str sh.1, .str sh.2.1, .ref t]) (.inl (.inl ?_)) (.cons (.str _) (.cons (.str _) (.cons (.tup (xs := sh.2.2.map V.str) (.inl (.inl ?_)) (strs_dq _)) .nil)))
          · exact hid_put nuD nuD (by rw [upd_ne nuD]; exact upd_same)
          · exact hid_put ntD ntD (by rw [upd_ne ntD]; exact su _ _ et)
    · rintro H2 ⟨s2, vs, eD, dq⟩
      rw [List.length_map, hlen, List.take_length] at dq
      have dq2 : DqAll K H2 vs (shs.map dShape) := DqAll.same hid_all dq
      have sA := s1.trans s2
      have sN : ∀ {a dx : Addr}, H2 a = none → H2 dx = none → Same H2 (upd (upd H2 dx (.own a)) a (.ins C dx [])) := fun {a dx} hx hdx b o e => by
        rw [upd_ne (ne_of_none e hx), upd_ne (ne_of_none e hdx)]
        exact e
      refine fun a dx hx hdx ne => ⟨a, dx, D, vs, shs, rfl, upd_same, (sN hx hdx).seq (.inl (.inl eD)), DqAll.same (sN hx hdx) dq2, ok, fun p H3 h3 np ea ep => ⟨rfl, ?_⟩⟩
      have s3 : Same H2 H3 := fun b o e => h3 b o (ne_of_none e hx) (sN hx hdx b o e)
      exact k a H3 (sA.trans s3) (sA.free hx) ⟨dx, p, vs, ea, ep, DqAll.same s3 dq2⟩
theorem ok_readBag {f fH fI : Addr} {fd fdH fdI : FuncData} (F : Fun K "read_bag" "read_bag" sReadBag f fd) (M : Mk K CG fI) (gC : mg "Bag" = some (.ref CG))
    (GH : FnOk P w K mg base CX0 5 fH fdH ["form", "text"] (spHead K)) (bH : Binds K fdH ["form", "text"] []) (gH : mg "head_and_rows" = some (.ref fH)) (kH : PySem.W.keepIn K (.ref fH) = true)
    (GI : FnOk P w K mg base CX0 3 fI fdI ["self", "book", "joints"] (spBagI K CB CG)) (bI : Binds K fdI ["self", "book", "joints"] []) : FnOk P w K mg base CX0 6 f fd ["book", "text"] (spReadBag K CB CG) := by
  refine F.ok scReadBag (fun vs H Q E h => ?_) (fun cdv A outer s H vs Q E hr h => ?_)
  · obtain ⟨b, z, shs, js, rfl, _⟩ := h
    rfl
  · obtain ⟨b, z, shs, js, rfl, hB, ln, lx, ok, k⟩ := h
    have hr4 : Room 4 _ := hr.mono (by decide)
    refine ⟨_, pss_cons (ps_asg (pe_call GH hr (by rfl) gH kH bH .nil pass0 (pa_cons pe_str (pa_cons (pv 1) pa_nil))) (pg_tup rfl (pgs_cons (pg_name (i := 2) scReadBag.nd rfl (.inl rfl)) (pgs_cons (pg_name (i := 3) scReadBag.nd rfl (.inl rfl)) pgs_nil))))
      (pss_one (ps_ret (pe_make M GI hr4 (by rfl) gC bI .nil pass0 (pa_cons (pv 0) (pa_cons
        (pe_lc (own := [("row", 4)]) (g := gName 4) (tt := tYes) (by rfl) scReadBag.nd (pi_list (pv 3)) (blkOk_by (own := [("row", 4)]) (N := nReadBag) (sc := defScope sReadBag) (by decide +kernel)) (fun _ _ _ _ _ => pg_name (i := 4) scReadBag.nd rfl (.inl rfl)) (fun _ _ _ _ _ => pts_nil)
          (fun _ _ _ _ _ => pe_tup (pa_cons (pe_ix (show IxR _ (rIxL K) from ix_list) (pv 4) pe_int (fun _ _ => rfl)) (pa_cons (pe_ix (show IxR _ (rIxL K) from ix_list) (pv 4) pe_int (fun _ _ => rfl)) pa_nil)))) pa_nil))))), ?_⟩
    refine ⟨_, rfl, "BAG", "bag", z, js.map rowJ, rfl, by decide +kernel, lx, fun d hd => ?_, fun q h g rs H1 s1 hq hg hlen hrow => ?_⟩
    · obtain ⟨j, hj, rfl⟩ := List.mem_map.mp hd
      exact rowJ_no (ok.name j hj).1 (ok.word j hj).1
    rw [List.length_map] at hlen
    refine ⟨q, _, rfl, hq, rfl, _, _, rfl, _, _, rfl, rfl, ?_⟩
    refine ⟨_, rfl, _, rfl, g, rfl, ⟨_, .inl (.inl hg)⟩, fun D hD => lc_list (K := K) (a := g) (xs := rs.map V.ref) (fun i H' => Same H1 H' ∧ ∃ vs, H' D = some (.lst vs) ∧ DqAll K (hid D D H') vs ((js.take i).map dJoint)) ⟨same_new hD, [], upd_same, .nil⟩ (fun i H' _ h => .inl (.inl (h.1 _ _ hg))) ?_ ?_⟩
    · rintro i x H2 hx ⟨s2, vs, eD, dq⟩
      obtain ⟨r, hr0, rfl⟩ : ∃ r, rs[i]? = some r ∧ x = V.ref r := by
        rw [List.getElem?_map] at hx
        cases e : rs[i]? with
        | none =>
          rw [e] at hx
          cases hx
        | some r =>
          rw [e] at hx
          exact ⟨r, rfl, (Option.some.inj hx).symm⟩
      have il : i < rs.length := (List.getElem?_eq_some_iff.mp hr0).1
      obtain ⟨j, hj⟩ : ∃ j, js[i]? = some j := ⟨_, List.getElem?_eq_getElem (by omega)⟩
      have er := s2 _ _ (hrow i r (rowJ j) hr0 (by rw [List.getElem?_map, hj]; rfl))
      refine ⟨rfl, lc_yes ?_⟩
      refine ⟨_, rfl, r, _, _, .str j.1, rfl, rfl, .inl (.inl er), L2.at_of (j := 1) rfl rfl, ?_⟩
      refine ⟨_, rfl, r, _, _, .str j.2, rfl, rfl, .inl (.inl er), L2.at_of (j := 2) rfl rfl, ?_⟩
      refine ⟨(by show 2 ≤ sizeLine; decide), fun u hu => ?_⟩
      have su := same_new (o := .tup [.str j.1, .str j.2]) hu
      have nuD : u ≠ D := fun e => by
        rw [e, eD] at hu
        cases hu
      refine ⟨vs, su _ _ eD, ?_, Same.over (s2.trans su) hD, _, upd_same, ?_⟩
      · rw [dq.len, List.length_map, List.length_take]
        exact small1000 (by have := ok.ln; omega)
      · rw [List.take_add_one, hj, List.map_append]
        refine DqAll.snoc' (DqAll.same (hid1_same fun b o nb e => ?_) dq) ?_
        · rw [upd_ne nb]
          exact su _ _ e
        · exact .tup (xs := [.str j.1, .str j.2]) (.inl (.inl (hid_put nuD nuD (by rw [upd_ne nuD]; exact upd_same)))) (.cons (.str _) (.cons (.str _) .nil))
    · rintro H2 ⟨s2, vs, eD, dq⟩
      rw [List.length_map, hlen, List.take_length] at dq
      have dq2 : DqAll K H2 vs (js.map dJoint) := DqAll.same hid_all dq
      have sA := s1.trans s2
      have sN : ∀ {a dx : Addr}, H2 a = none → H2 dx = none → Same H2 (upd (upd H2 dx (.own a)) a (.ins CG dx [])) := fun {a dx} hx hdx b o e => by
        rw [upd_ne (ne_of_none e hx), upd_ne (ne_of_none e hdx)]
        exact e
      refine fun a dx hx hdx ne => ⟨a, dx, b, D, vs, shs, js, rfl, upd_same, (hB.same sA).same (sN hx hdx), ln, (sN hx hdx).seq (.inl (.inl eD)), DqAll.same (sN hx hdx) dq2, ok, fun p H3 h3 np ea ep => ⟨rfl, ?_⟩⟩
      have s3 : Same H2 H3 := fun b o e => h3 b o (ne_of_none e hx) (sN hx hdx b o e)
      exact k a H3 (sA.trans s3) (sA.free hx) ⟨dx, b, p, ea, (hB.same sA).same s3, ep⟩
end
end Bc

namespace Bc
open PySem PySem.Spec PyProof.Rows L2
/-! ### drawn names -/
theorem hid_upd {d c p : Addr} {H : Hp} {o : HO} (h1 : p ≠ d) (h2 : p ≠ c) : hid d c (upd H p o) = upd (hid d c H) p o := by
  funext b
  by_cases e : b = p
  · subst e
    rw [upd_same, hid_put h1 h2 upd_same]
  · rw [upd_ne e]
    unfold hid
    rw [upd_ne e]
theorem hid_none {d c p : Addr} {H : Hp} (h : H p = none) : hid d c H p = none := by
  unfold hid
  split
  · rfl
  · exact h
theorem srcAt_upd {H : Hp} {d c D : Addr} {o : HO} (s : SrcAt H d c) (h1 : D ≠ d) (h2 : D ≠ c) : SrcAt (upd H D o) d c := by
  obtain ⟨n, hn, ne, cells, l, m, t, e1, e2, e3⟩ := s
  exact ⟨n, hn, ne, cells, l, m, t, by rw [upd_ne h1.symm]; exact e1, by rw [upd_ne h2.symm]; exact e2, e3⟩
theorem src_ne {H : Hp} {d c p : Addr} (s : SrcAt H d c) (h : H p = none) : p ≠ d ∧ p ≠ c := ⟨fun e => s.two.1 (e ▸ h), fun e => s.two.2 (e ▸ h)⟩
abbrev tails5 : List Str := ["", "", "", "k", "kkkkkkkkk"]
def two (r : Nat) : Str := cutS (Str.ofString (toString (100 + (r : Int)))) (some 1) none
theorem two_src {r : Nat} (h : r < 100) : (Str.ofString (toString (100 + (r : Int)))).length ≤ 1000 := of_decide_eq_true (List.all_eq_true.mp (show ((List.range 100).all fun r => decide ((Str.ofString (toString (100 + (r : Int)))).length ≤ 1000)) = true by decide +kernel) r (List.mem_range.mpr h))
theorem two_codes {r : Nat} (h : r < 100) : codes (two r) = [48 + r / 10, 48 + r % 10] := of_decide_eq_true (List.all_eq_true.mp (show ((List.range 100).all fun r => decide (codes (two r) = [48 + r / 10, 48 + r % 10])) = true by decide +kernel) r (List.mem_range.mpr h))
def nameT (c r : Nat) (tl : Str) : Str := (⟨#[c]⟩ ++ two r) ++ tl
theorem nameT_codes {c r : Nat} {tl : Str} (h : r < 100) : codes (nameT c r tl) = c :: (48 + r / 10) :: (48 + r % 10) :: codes tl := by
  unfold nameT
  rw [codes_app, codes_app, two_codes h]
  rfl
def numAt (w : Str) : Nat := match codes w with
  | _ :: a :: b :: _ => (a - 48) * 10 + (b - 48)
  | _ => 0
def drawnName (w : Str) : Prop := isW w = true ∧ w ≠ "root"
theorem digit_alnum {x : Nat} (h : x < 10) : alnum (48 + x) = true := List.all_eq_true.mp (show ((List.range 10).all fun x => alnum (48 + x)) = true by decide +kernel) x (List.mem_range.mpr h)
theorem nameT_num {c r : Nat} {tl : Str} (h : r < 100) : numAt (nameT c r tl) = r := by
  unfold numAt
  rw [nameT_codes h]
  dsimp only
  omega
theorem nameT_ok {c r : Nat} {tl : Str} (hc : inS sLetters c = true) (h : r < 100) (ht : tl ∈ tails5) : drawnName (nameT c r tl) := by
  have e := nameT_codes (c := c) (tl := tl) h
  have q := List.all_eq_true.mp (show (tails5.all fun t => (codes t).all alnum && decide ((codes t).length ≤ 9)) = true by decide +kernel) tl ht
  simp only [Bool.and_eq_true, decide_eq_true_eq] at q
  refine ⟨?_, fun eq => ?_⟩
  · unfold isW
    rw [e]
    dsimp only
    rw [hc, List.all_cons, List.all_cons, digit_alnum (by omega), digit_alnum (by omega), q.1]
    exact decide_eq_true (by show (codes tl).length + 1 + 1 ≤ 11; omega)
  · rw [eq, show codes "root" = [114, 111, 111, 116] by decide +kernel] at e
    have e2 := (List.cons.inj (List.cons.inj e).2).1
    omega
structure GoodNames (ws : List Str) : Prop where
  all : ∀ w ∈ ws, drawnName w
  nd : ws.Nodup
theorem nums_nodup (s n : Nat) (h : n ≤ 12) : ((List.range n).map fun k => (s + 37 * k) % 100).Nodup := by
  unfold List.Nodup
  rw [List.pairwise_map]
  refine List.Pairwise.imp_of_mem ?_ List.pairwise_lt_range
  intro a b ha hb hab e
  have h1 := List.mem_range.mp ha
  have h2 := List.mem_range.mp hb
  omega
theorem good_names {ws : List Str} {s n : Nat} (h : n ≤ 12) (e : ws.map numAt = (List.range n).map fun k => (s + 37 * k) % 100) (a : ∀ w ∈ ws, drawnName w) : GoodNames ws := by
  refine ⟨a, ?_⟩
  have q : (ws.map numAt).Nodup := by
    rw [e]
    exact nums_nodup s n h
  unfold List.Nodup at q ⊢
  rw [List.pairwise_map] at q
  exact q.imp fun {a b} h e => h (by rw [e])
abbrev nNames : List Str := ["_law_source_here", "_law_many", "_law_shift", "_law_names_here", "_law_tails", "_law_k", "_law_letter"]
theorem scNames : FnScope nNames ["_law_source_here", "_law_many"] (defScope sNames) := ⟨rfl, rfl, rfl, by decide +kernel, rfl, by decide +kernel, by decide +kernel⟩
def spNames : Sp := fun vs H Q _ => ∃ (d c : Addr) (n : Nat), vs = [.ref d, .int n] ∧ SrcAt H d c ∧ n ≤ 12 ∧ ∀ (p : Addr) (ws : List Str) (H' : Hp), SrcAt H' d c → Same (hid d c H) (hid d c H') → H p = none → (hid d c H') p = some (.lst (ws.map V.str)) → GoodNames ws → ws.length = n → Q (.ref p) H'
section
variable {P : Program} {w : World} {K : PySem.W.Frag} {mg : Str → Option Value} {base : Heap}
theorem ok_names {f fP : Addr} {fd fdP : FuncData} (F : Fun K "_law_names" "_law_names" sNames f fd) (B : Blt mg) (W : Wd mg) (N : Nm mg)
    (GP : FnOk P w K mg base CX0 1 fP fdP ["_law_source_here", "_law_many"] spPick) (bP : Binds K fdP ["_law_source_here", "_law_many"] []) (gP : mg "_law_pick" = some (.ref fP)) (kP : PySem.W.keepIn K (.ref fP) = true) : FnOk P w K mg base CX0 2 f fd ["_law_source_here", "_law_many"] spNames := by
  refine F.ok scNames (fun vs H Q E h => ?_) (fun cdv A outer s H vs Q E hr h => ?_)
  · obtain ⟨d, c, n, rfl, _⟩ := h
    rfl
  · obtain ⟨d, c, n, rfl, src, hn, k⟩ := h
    refine ⟨_, pss_cons (ps_par3 (i := 2) (j := 3) (l := 4) rfl scNames.nd rfl rfl rfl (by decide) (by decide) (by decide) rfl rfl rfl (pa_cons (pe_call GP hr (by rfl) gP kP bP .nil pass0 (pa_cons (pv 0) (pa_cons pe_int pa_nil))) (pa_cons (pe_lst pa_nil) (pa_cons (pe_lst (pa_cons pe_str (pa_cons pe_str (pa_cons pe_str (pa_cons pe_str (pa_cons pe_str pa_nil)))))) pa_nil))) rfl)
      (pss_cons (ps_for PassesOwn.never rfl (pi_range1 (by rfl) N.rng (pa_cons (pv 1) pa_nil)) (pg_name (i := 5) scNames.nd rfl (.inl rfl))
        (pss_cons (ps_set (i := 6) scNames.nd rfl (.inl rfl) (pe_ix ix_str pe_str (pe_call GP hr (by rfl) gP kP bP .nil pass0 (pa_cons (pv 0) (pa_cons pe_int pa_nil))) (fun _ _ => rfl)))
        (pss_one (ps_expr (pe_bm PySem.F.plainAttrs_list PySem.F.slot_list_append PySem.F.type_list_append mt_append (pv 3) (pa_cons
          (pe_op op_add_str (pe_op op_add_str (pv 6) (pe_slice sl_str (pe_callTy call_str_int (by rfl) W.str (by decide +kernel) (pa_cons (pe_op op_add pe_int (pe_op op_mod (pe_callTy call_int1 (by rfl) B.int (by decide +kernel) (pa_cons (pe_op op_add (pv 2) (pe_op op_mul pe_int (pv 5))) pa_nil)) pe_int)) pa_nil)) (po_some pe_int) po_none))
            (pe_ix ix_list (pv 4) (pe_call GP hr (by rfl) gP kP bP .nil pass0 (pa_cons (pv 0) (pa_cons pe_int pa_nil))) (fun _ _ => rfl))) pa_nil))))))
      (pss_one (ps_ret (pv 3)))), ?_⟩
    have hh2 : ∀ {n : Nat}, n ≤ 1000000 → n ≤ sizeLine := fun {n} h => Nat.le_trans h (by decide)
    refine ⟨_, rfl, d, c, 100, rfl, src, by decide, by decide, fun r H1 r0 r1 src1 el => ⟨Nat.zero_le _, fun p hp => ⟨(by show 5 ≤ sizeLine; decide), fun t ht => ⟨_, _, _, rfl, ?_⟩⟩⟩⟩
    obtain ⟨s0, rfl⟩ : ∃ n : Nat, r = (n : Int) := ⟨r.toNat, by omega⟩
    obtain ⟨p1, p2⟩ := src_ne src1 hp
    have hpH : H p = none := by rw [← el p p1 p2]; exact hp
    have eN := (hid_new (o := .lst []) src1 hp).2.2
    have srcA := srcAt_upd (o := .lst []) src1 p1 p2
    obtain ⟨t1, t2, eT⟩ := hid_new (o := .lst (tails5.map V.str)) srcA ht
    have srcB := srcAt_upd (o := .lst (tails5.map V.str)) srcA t1 t2
    have sB : Same (hid d c H) (hid d c (upd (upd H1 p (.lst [])) t (.lst (tails5.map V.str)))) := by
      rw [← hid_else el]
      exact hid_up ((same_new hp).trans (same_new ht))
    have eN2 : (hid d c (upd (upd H1 p (.lst [])) t (.lst (tails5.map V.str)))) p = some (.lst []) := hid_up (same_new ht) _ _ eN
    have ntp : t ≠ p := fun e => by
      rw [e, upd_same] at ht
      cases ht
    refine ⟨_, rfl, (n : Int), rfl, by omega, by omega, for_range (lo := 0) (n := n) (fun i σ H' => (∃ v5 v6, σ = [some (.ref d), some (.int n), some (.int (s0 : Int)), some (.ref p), some (.ref t), v5, v6]) ∧ SrcAt H' d c ∧ Same (hid d c H) (hid d c H') ∧ ∃ ws : List Str, (hid d c H') p = some (.lst (ws.map V.str)) ∧ (hid d c H') t = some (.lst (tails5.map V.str)) ∧ (∀ w ∈ ws, drawnName w) ∧ ws.map numAt = ((List.range i).map fun k => (s0 + 37 * k) % 100) ∧ ws.length = i)
      ⟨⟨_, _, rfl⟩, srcB, sB, [], eN2, eT, (fun w h => by cases h), rfl, rfl⟩ ?_ ?_⟩
    · rintro i σ H2 hi ⟨⟨v5, v6, rfl⟩, src2, s2, ws, f1, f2, f3, f4, f5⟩
      refine ⟨_, rfl, d, c, 26, rfl, src2, by decide, by decide, fun x H3 x0 x1 src3 el3 => ?_⟩
      obtain ⟨xn, rfl⟩ : ∃ n : Nat, x = (n : Int) := ⟨x.toNat, by omega⟩
      obtain ⟨ch, hch⟩ : ∃ ch, (codes sLetters)[xn]? = some ch := by
        have : (codes sLetters).length = 26 := by decide +kernel
        have h26 : max (1 : Int) 26 = 26 := by decide
        exact ⟨_, List.getElem?_eq_getElem (by omega)⟩
      refine ⟨sLetters, _, ch, rfl, rfl, by decide, atI_nat hch, ?_⟩
      have e3 := hid_else el3
      rw [← e3] at f1 f2 s2
      have g1 := hid_get f1
      refine ⟨_, rfl, .inl ⟨rfl, _, .inl (.inl g1.2.2)⟩, ?_⟩
      refine ⟨_, rfl, _, rfl, _, rfl, _, _, rfl, rfl, .inl ⟨by decide, by decide⟩, _, _, rfl, rfl, .inl ⟨_, rfl, _, _, rfl, rfl, (by show (0 : Int) < 100; decide), _, _, rfl, rfl, ?_⟩⟩
      have er : ((s0 : Int) + 37 * (0 + (i : Int))) % 100 = (((s0 + 37 * i) % 100 : Nat) : Int) := by omega
      rw [er]
      have hR : (s0 + 37 * i) % 100 < 100 := Nat.mod_lt _ (by decide)
      have hRi : (List.range (i + 1)).map (fun k => (s0 + 37 * k) % 100) = ((List.range i).map fun k => (s0 + 37 * k) % 100) ++ [(s0 + 37 * i) % 100] := by
        rw [List.range_succ, List.map_append]
        rfl
      generalize (s0 + 37 * i) % 100 = R at hR hRi ⊢
      have lg : (100 + (R : Int)).natAbs.log2 < 1920 := Nat.lt_of_le_of_lt (Nat.log2_le_self _) (by omega)
      have l1 : (⟨#[ch]⟩ : Str).length = 1 := rfl
      have l2 : (two R).length = 2 := by
        rw [show (two R).length = (codes (two R)).length from Array.length_toList.symm, two_codes hR]
        rfl
      refine ⟨_, rfl, lg, _, rfl, _, rfl, hh2 (Nat.le_trans (two_src hR) (by decide)), _, _, rfl, rfl, hh2 (by show (⟨#[ch]⟩ : Str).length + (two R).length ≤ _; omega), ?_⟩
      refine ⟨_, rfl, _, rfl, d, c, 5, rfl, src3, by decide, by decide, fun y H4 y0 y1 src4 el4 => ?_⟩
      have e4 := hid_else el4
      have e4' := e4
      rw [← e4] at f1 f2 s2
      have g2 := hid_get f1
      have g3 := hid_get f2
      obtain ⟨yn, rfl⟩ : ∃ n : Nat, y = (n : Int) := ⟨y.toNat, by omega⟩
      have h5 : yn < 5 := by
        have : max (1 : Int) 5 = 5 := by decide
        omega
      obtain ⟨tl, htl⟩ : ∃ tl, tails5[yn]? = some tl := ⟨_, List.getElem?_eq_getElem h5⟩
      have tm := List.mem_of_getElem? htl
      have tlen : tl.length ≤ 9 := of_decide_eq_true (List.all_eq_true.mp (show (tails5.all fun t => decide (t.length ≤ 9)) = true by decide +kernel) tl tm)
      refine ⟨t, _, _, .str tl, rfl, rfl, .inl (.inl g3.2.2), atI_nat (by rw [List.getElem?_map, htl]; rfl), _, _, rfl, rfl, hh2 (by show ((⟨#[ch]⟩ ++ two R : Str)).length + tl.length ≤ _; rw [len_app]; omega), ?_⟩
      have hlet : inS sLetters ch = true := decide_eq_true (List.mem_of_getElem? hch)
      refine ⟨p, _, _, rfl, rfl, g2.2.2, ?_, ⟨_, _, rfl⟩, srcAt_upd src4 p1 p2, ?_, ws ++ [nameT ch R tl], ?_, ?_, ?_, ?_, ?_⟩
      · rw [List.length_map, f5]
        exact small1000 (by omega)
      · rw [hid_upd p1 p2]
        exact Same.over s2 (hid_none hpH)
      · rw [hid_upd p1 p2, upd_same, List.map_append]
        rfl
      · rw [hid_upd p1 p2, upd_ne ntp]
        exact f2
      · intro w hw
        rcases List.mem_append.mp hw with hw | hw
        · exact f3 w hw
        · rw [List.mem_singleton.mp hw]
          exact nameT_ok hlet hR tm
      · rw [List.map_append, f4, hRi, List.map_cons, List.map_nil, nameT_num hR]
      · rw [List.length_append, f5]
        rfl
    · rintro σ H2 ⟨⟨v5, v6, rfl⟩, src2, s2, ws, f1, f2, f3, f4, f5⟩
      exact ⟨_, rfl, k p ws H2 src2 s2 hpH f1 (good_names hn f4 f3) f5⟩
end
end Bc

namespace Bc
open PySem PySem.Spec PyProof.Rows L2
/-! ### things in a drawn order -/
theorem seqIx {n k : Nat} (h : k < n) : seqIndex? (k : Int) n = some k := by
  refine (ixN_seq ?_).1
  unfold ixN
  rw [if_pos (by omega), if_pos (by omega)]
  simp
theorem erase_perm : ∀ (l : List V) (i : Nat) (h : i < l.length), (l[i] :: l.eraseIdx i).Perm l
  | [], i, h => by cases h
  | a :: l, 0, h => .refl _
  | a :: l, i + 1, h => by
    have hi : i < l.length := Nat.lt_of_succ_lt_succ h
    have ih := erase_perm l i hi
    exact (List.Perm.swap a l[i] (l.eraseIdx i)).trans (ih.cons a)
def rLenK (K : PySem.W.Frag) : List V → Hp → VK → Prop := fun xs H Q => ∃ x n, xs = [x] ∧ LenV K x H n ∧ Q (.int n) H
abbrev nMixed : List Str := ["_law_source_here", "_law_things", "_law_rest", "_law_lap"]
theorem scMixed : FnScope nMixed ["_law_source_here", "_law_things"] (defScope sMixed) := ⟨rfl, rfl, rfl, by decide +kernel, rfl, by decide +kernel, by decide +kernel⟩
def spMixed (K : PySem.W.Frag) : Sp := fun vs H Q _ => ∃ (d c l : Addr) (xs : List V), vs = [.ref d, .ref l] ∧ SrcAt H d c ∧ SqL K (hid d c H) l xs ∧ xs.length ≤ 1000 ∧
  ∀ (p : Addr) (ys : List V) (H' : Hp), SrcAt H' d c → Same (hid d c H) (hid d c H') → H p = none → (hid d c H') p = some (.lst ys) → ys.Perm xs → Q (.ref p) H'
section
variable {P : Program} {w : World} {K : PySem.W.Frag} {mg : Str → Option Value} {base : Heap}
theorem ok_mixed {f fP : Addr} {fd fdP : FuncData} (F : Fun K "_law_mixed" "_law_mixed" sMixed f fd) (B : Blt mg) (N : Nm mg)
    (GP : FnOk P w K mg base CX0 1 fP fdP ["_law_source_here", "_law_many"] spPick) (bP : Binds K fdP ["_law_source_here", "_law_many"] []) (gP : mg "_law_pick" = some (.ref fP)) (kP : PySem.W.keepIn K (.ref fP) = true) : FnOk P w K mg base CX0 2 f fd ["_law_source_here", "_law_things"] (spMixed K) := by
  refine F.ok scMixed (fun vs H Q E h => ?_) (fun cdv A outer s H vs Q E hr h => ?_)
  · obtain ⟨d, c, l, xs, rfl, _⟩ := h
    rfl
  · obtain ⟨d, c, l, xs, rfl, src, hl, hn, k⟩ := h
    refine ⟨_, pss_cons (ps_set (i := 2) scMixed.nd rfl (.inr rfl) (pe_callTy call_list_of (by rfl) N.lst (by decide +kernel) (pa_cons (pv 1) pa_nil)))
      (pss_one (ps_ret (pe_lc (own := [("_law_lap", 3)]) (g := gName 3) (tt := tYes) (by rfl) scMixed.nd (pi_range1 (by rfl) N.rng (pa_cons (pe_callB call_len (by rfl) B.len (by decide +kernel) (pa_cons (pv 2) pa_nil)) pa_nil)) (blkOk_by (own := [("_law_lap", 3)]) (N := nMixed) (sc := defScope sMixed) (by decide +kernel))
          (fun _ _ _ _ _ => pg_name (i := 3) scMixed.nd rfl (.inl rfl)) (fun _ _ _ _ _ => pts_nil)
          (fun _ _ _ _ _ => show PE _ _ (tBM K "list" rPopAt _ _) from pe_bm PySem.F.plainAttrs_list PySem.F.slot_list_pop PySem.F.type_list_pop mt_popAt (pv 2) (pa_cons (pe_call GP hr (by rfl) gP kP bP .nil pass0 (pa_cons (pv 0) (pa_cons (pe_callB (show CallR _ (.builtin "len") (rLenK K) from call_len) (by rfl) B.len (by decide +kernel) (pa_cons (pv 2) pa_nil)) pa_nil))) pa_nil))))), ?_⟩
    refine ⟨_, rfl, l, xs, rfl, .inl (hid_all.seq hl), fun R hR => ?_⟩
    obtain ⟨r1, r2, eR⟩ := hid_new (o := .lst xs) src hR
    have srcA := srcAt_upd (o := .lst xs) src r1 r2
    have sA : Same (hid d c H) (hid d c (upd H R (.lst xs))) := hid_up (same_new hR)
    generalize upd H R (.lst xs) = H1 at eR srcA sA ⊢
    have gR := hid_get eR
    refine ⟨_, rfl, _, xs.length, rfl, .inl ⟨xs, .inl (.inl gR.2.2), rfl⟩, (xs.length : Int), rfl, by omega, by omega, fun D hD => ?_⟩
    obtain ⟨d1, d2, eD⟩ := hid_new (o := .lst []) srcA hD
    have nRD : R ≠ D := ne_of_none gR.2.2 hD
    have hDH : hid d c H D = none := sA.free (hid_none hD)
    refine lc_range (lo := 0) (n := xs.length) (fun i H' => SrcAt H' d c ∧ Same (hid d c H) (hid d c H') ∧ ∃ acc rs, (hid d c H') D = some (.lst acc) ∧ (hid d c H') R = some (.lst rs) ∧ (acc ++ rs).Perm xs ∧ acc.length = i ∧ rs.length + i = xs.length)
      ⟨srcAt_upd srcA d1 d2, sA.trans (hid_up (same_new hD)), [], xs, eD, hid_up (same_new hD) _ _ eR, .refl _, rfl, rfl⟩ ?_ ?_
    · rintro i H2 hi ⟨src2, s2, acc, rs, f1, f2, f3, f4, f5⟩
      have g2 := hid_get f2
      refine ⟨rfl, lc_yes ?_⟩
      refine ⟨_, rfl, .inl ⟨rfl, _, .inl (.inl g2.2.2)⟩, ?_⟩
      refine ⟨_, rfl, _, rfl, _, rs.length, rfl, .inl ⟨rs, .inl (.inl g2.2.2), rfl⟩, d, c, rs.length, rfl, src2, by omega, by omega, fun x H3 x0 x1 src3 el3 => ?_⟩
      obtain ⟨xn, rfl⟩ : ∃ n : Nat, x = (n : Int) := ⟨x.toNat, by omega⟩
      have hx : xn < rs.length := by omega
      have e3 := hid_else el3
      rw [← e3] at f1 f2 s2
      have g1 := hid_get f1
      have g2 := hid_get f2
      refine ⟨R, rs, _, xn, rs[xn], rfl, rfl, g2.2.2, by omega, by omega, seqIx hx, List.getElem?_eq_getElem hx, ?_⟩
      refine ⟨acc, by rw [upd_ne nRD.symm]; exact g1.2.2, small1000 (by omega), srcAt_upd (srcAt_upd src3 r1 r2) d1 d2, ?_, acc ++ [rs[xn]], rs.eraseIdx xn, ?_, ?_, ?_, ?_, ?_⟩
      · rw [hid_upd d1 d2, hid_upd r1 r2]
        exact Same.over (Same.over s2 (hid_none hR)) hDH
      · rw [hid_upd d1 d2, upd_same]
      · rw [hid_upd d1 d2, upd_ne nRD, hid_upd r1 r2, upd_same]
      · refine List.Perm.trans ?_ f3
        rw [List.append_assoc]
        exact List.Perm.append_left acc (erase_perm rs xn hx)
      · rw [List.length_append, f4]
        rfl
      · rw [List.length_eraseIdx_of_lt hx]
        omega
    · rintro H2 ⟨src2, s2, acc, rs, f1, f2, f3, f4, f5⟩
      have e0 : rs = [] := List.eq_nil_of_length_eq_zero (by omega)
      rw [e0, List.append_nil] at f3
      have hDn : H D = none := by
        have := hDH
        unfold hid at this
        rw [if_neg (fun y => y.elim d1 d2)] at this
        exact this
      exact k D acc H2 src2 s2 hDn f1 f3
end
end Bc

namespace Bc
open PySem PySem.Spec PyProof.Rows L2
/-! ### drawn shapes -/
/-- tuples stay -/
def TK (K : PySem.W.Frag) (G G' : Hp) : Prop := ∀ a xs, SqT K G a xs → SqT K G' a xs
theorem TK.of {K : PySem.W.Frag} {G G' : Hp} (s : Same G G') : TK K G G' := fun a xs h => Same.sqT s h
theorem TK.trans {K : PySem.W.Frag} {G G1 G2 : Hp} (a : TK K G G1) (b : TK K G1 G2) : TK K G G2 := fun x xs h => b x xs (a x xs h)
theorem TK.put {K : PySem.W.Frag} {G : Hp} {L : Addr} {ys : List V} {o : HO} (e : G L = some (.lst ys)) : TK K G (upd G L o) := fun a xs h => sqT_upd e h
theorem strs_keep {K : PySem.W.Frag} {G G' : Hp} {bs : List Str} {vs : List V} (h : DqAll K G vs (bs.map PyData.str)) : DqAll K G' vs (bs.map PyData.str) := by
  rw [dq_strs h]
  exact strs_dq bs
theorem shape_keep {K : PySem.W.Frag} {G G' : Hp} (t : TK K G G') {v : V} {s : Shp} (h : Dq K G v (dShape s)) : Dq K G' v (dShape s) := by
  obtain ⟨a, b, rfl, h1, h2⟩ := shape_inv h
  exact .tup (t _ _ h1) (.cons (.str _) (.cons (.str _) (.cons (.tup (t _ _ h2) (strs_dq _)) .nil)))
theorem shapes_keep {K : PySem.W.Frag} {G G' : Hp} (t : TK K G G') : ∀ {vs : List V} (ss : List Shp), DqAll K G vs (ss.map dShape) → DqAll K G' vs (ss.map dShape)
  | _, [], h => by
    cases h.nil_inv
    exact .nil
  | _, s :: ss, h => by
    rw [List.map_cons] at h ⊢
    obtain ⟨v, _, rfl, h1, h2⟩ := h.cons_inv
    exact .cons (shape_keep t h1) (shapes_keep t ss h2)
theorem dq_perm {α : Type} {K : PySem.W.Frag} {G : Hp} {f : α → PyData} {vs ys : List V} (p : vs.Perm ys) : ∀ {ss : List α}, DqAll K G vs (ss.map f) → ∃ ss' : List α, ss'.Perm ss ∧ DqAll K G ys (ss'.map f) := by
  induction p with
  | nil =>
    intro ss h
    cases ss with
    | nil => exact ⟨[], .refl _, .nil⟩
    | cons s ss => cases h
  | cons x _ ih =>
    intro ss h
    cases ss with
    | nil => cases h
    | cons s ss =>
      rw [List.map_cons] at h
      cases h with
      | cons h1 h2 =>
        obtain ⟨t, p, q⟩ := ih h2
        exact ⟨s :: t, p.cons s, .cons h1 q⟩
  | swap x y l =>
    intro ss h
    cases ss with
    | nil => cases h
    | cons s ss =>
      rw [List.map_cons] at h
      cases h with
      | cons h1 h2 =>
        cases ss with
        | nil => cases h2
        | cons r ss =>
          rw [List.map_cons] at h2
          cases h2 with
          | cons h3 h4 => exact ⟨r :: s :: ss, .swap s r ss, .cons h3 (.cons h1 h4)⟩
  | trans _ _ ih1 ih2 =>
    intro ss h
    obtain ⟨t, p, q⟩ := ih1 h
    obtain ⟨u, p2, q2⟩ := ih2 q
    exact ⟨u, p2.trans p, q2⟩
structure GoodShapes (ss : List Shp) : Prop where
  all : ∀ s ∈ ss, OkShape s ∧ s.2.2.length ≤ 4
  nd : (wordsS ss).Nodup
  ln : ss.length ≤ 7
theorem GoodShapes.perm {ss tt : List Shp} (g : GoodShapes ss) (p : tt.Perm ss) : GoodShapes tt :=
  ⟨fun s hs => g.all s (p.mem_iff.mp hs), ((p.map (fun s : Shp => s.1)).nodup_iff.mpr g.nd : (tt.map fun s : Shp => s.1).Nodup), by rw [p.length_eq]; exact g.ln⟩
theorem GoodShapes.book {ss : List Shp} (g : GoodShapes ss) : OkBook ss := ⟨fun s hs => (g.all s hs).1, g.nd, Nat.le_trans g.ln (by decide)⟩
/-- the shapes so far, and the words that are left -/
structure ShSt (ss : List Shp) (rest : List Str) : Prop where
  all : ∀ s ∈ ss, OkShape s ∧ s.2.2.length ≤ 4
  nd : (wordsS ss ++ rest).Nodup
  ok : ∀ w ∈ rest, isW w = true
  cnt : rest.length + ss.length = 12
theorem ShSt.more {ss : List Shp} {rest : List Str} {s : Shp} (h : ShSt ss (rest ++ [s.1])) (h1 : OkShape s) (h2 : s.2.2.length ≤ 4) : ShSt (ss ++ [s]) rest := by
  refine ⟨fun x hx => ?_, ?_, fun w hw => h.ok w (List.mem_append.mpr (.inl hw)), ?_⟩
  · rcases List.mem_append.mp hx with hx | hx
    · exact h.all x hx
    · rw [List.mem_singleton.mp hx]
      exact ⟨h1, h2⟩
  · have e : wordsS (ss ++ [s]) = wordsS ss ++ [s.1] := by
      unfold wordsS
      rw [List.map_append]
      rfl
    rw [e, List.append_assoc]
    refine (List.Perm.nodup_iff (List.Perm.append_left _ ?_)).mpr h.nd
    exact List.perm_append_comm
  · have := h.cnt
    rw [List.length_append] at this ⊢
    have e1 : ([s.1] : List Str).length = 1 := rfl
    have e2 : ([s] : List Shp).length = 1 := rfl
    omega
theorem ShSt.good {ss : List Shp} {rest : List Str} (h : ShSt ss rest) (n : ss.length ≤ 7) : GoodShapes ss := ⟨h.all, (List.nodup_append.mp h.nd).1, n⟩
theorem last_split {ws : List Str} (h : ws ≠ []) : ∃ rest w, ws = rest ++ [w] := ⟨ws.dropLast, ws.getLast h, (List.dropLast_concat_getLast h).symm⟩
theorem grow {K : PySem.W.Frag} {G : Hp} {D u : Addr} {vs : List V} {ss : List Shp} {s : Shp} (e : G D = some (.lst vs)) (dq : DqAll K G vs (ss.map dShape)) (du : Dq K G (.ref u) (dShape s)) : DqAll K (upd G D (.lst (vs ++ [.ref u]))) (vs ++ [.ref u]) ((ss ++ [s]).map dShape) := by
  rw [List.map_append]
  exact DqAll.snoc' (shapes_keep (TK.put e) ss dq) (shape_keep (TK.put e) du)
theorem ne_of_none' {H : Hp} {a b : Addr} {o : HO} (h : H a = some o) (n : H b = none) : b ≠ a := fun e => by
  rw [e, h] at n
  cases n
theorem last_of (rest : List Str) (w : Str) : ((rest ++ [w]).map V.str)[((rest ++ [w]).map V.str).length - 1]? = some (.str w) := by
  rw [List.map_append, List.length_append, List.getElem?_append_right (by simp)]
  simp
theorem drop_of (rest : List Str) (w : Str) : ((rest ++ [w]).map V.str).dropLast = rest.map V.str := by
  rw [List.map_append]
  exact List.dropLast_concat
abbrev nShapes : List Str := ["_law_source_here", "_law_most", "_law_colours", "_law_words", "_law_shapes_here", "_law_lap", "_law_branches", "_law_colour", "_law_turn"]
theorem scShapes : FnScope nShapes ["_law_source_here", "_law_most"] (defScope sShapes) := ⟨rfl, rfl, rfl, by decide +kernel, rfl, by decide +kernel, by decide +kernel⟩
def spShapes (K : PySem.W.Frag) : Sp := fun vs H Q _ => ∃ (d c : Addr), vs = [.ref d, .int 4] ∧ SrcAt H d c ∧
  ∀ (p : Addr) (xs : List V) (ss : List Shp) (H' : Hp), SrcAt H' d c → Same (hid d c H) (hid d c H') → H p = none → (hid d c H') p = some (.lst xs) → DqAll K (hid d c H') xs (ss.map dShape) → GoodShapes ss → Q (.ref p) H'
section
variable {P : Program} {w : World} {K : PySem.W.Frag} {mg : Str → Option Value} {base : Heap}
theorem ok_shapes {f fP fN fO fM : Addr} {fd fdP fdN fdO fdM : FuncData} (F : Fun K "_law_shapes" "_law_shapes" sShapes f fd) (N : Nm mg) (T : Wt mg)
    (GP : FnOk P w K mg base CX0 1 fP fdP ["_law_source_here", "_law_many"] spPick) (bP : Binds K fdP ["_law_source_here", "_law_many"] []) (gP : mg "_law_pick" = some (.ref fP)) (kP : PySem.W.keepIn K (.ref fP) = true)
    (GN : FnOk P w K mg base CX0 2 fN fdN ["_law_source_here", "_law_many"] spNames) (bN : Binds K fdN ["_law_source_here", "_law_many"] []) (gN : mg "_law_names" = some (.ref fN)) (kN : PySem.W.keepIn K (.ref fN) = true)
    (GO : FnOk P w K mg base CX0 2 fO fdO ["_law_source_here", "_law_some"] (spOf K)) (bO : Binds K fdO ["_law_source_here", "_law_some"] []) (gO : mg "_law_of" = some (.ref fO)) (kO : PySem.W.keepIn K (.ref fO) = true)
    (GM : FnOk P w K mg base CX0 2 fM fdM ["_law_source_here", "_law_things"] (spMixed K)) (bM : Binds K fdM ["_law_source_here", "_law_things"] []) (gM : mg "_law_mixed" = some (.ref fM)) (kM : PySem.W.keepIn K (.ref fM) = true) : FnOk P w K mg base CX0 3 f fd ["_law_source_here", "_law_most"] (spShapes K) := by
  refine F.ok scShapes (fun vs H Q E h => ?_) (fun cdv A outer s H vs Q E hr h => ?_)
  · obtain ⟨d, c, rfl, _⟩ := h
    rfl
  · obtain ⟨d, c, rfl, src, k⟩ := h
    have hr1 : Room 1 _ := hr.mono (by decide)
    refine ⟨_, pss_cons (ps_asg (pe_tup (pa_cons (pe_call GN hr (by rfl) gN kN bN .nil pass0 (pa_cons (pv 0) (pa_cons (pe_op op_add pe_int (pe_call GP hr1 (by rfl) gP kP bP .nil pass0 (pa_cons (pv 0) (pa_cons pe_int pa_nil)))) pa_nil))) (pa_cons (pe_call GN hr (by rfl) gN kN bN .nil pass0 (pa_cons (pv 0) (pa_cons pe_int pa_nil))) pa_nil)))
          (pg_tup rfl (pgs_cons (pg_name (i := 2) scShapes.nd rfl (.inr rfl)) (pgs_cons (pg_name (i := 3) scShapes.nd rfl (.inr rfl)) pgs_nil))))
      (pss_cons (ps_setLc (i := 4) (own := [("_law_colour", 7)]) (g := gName 7) (tt := tYes) rfl scShapes.nd rfl rfl (sw_true rfl rfl rfl (by decide +kernel)) (pi_list (pv 2)) (blkOk_by (own := [("_law_colour", 7)]) (N := nShapes) (sc := defScope sShapes) (by decide +kernel))
          (fun _ _ _ _ _ => pg_name (i := 7) scShapes.nd rfl (.inl rfl)) (fun _ _ _ _ _ => pts_nil)
          (fun _ _ _ _ _ => pe_tup (pa_cons (show PE _ _ (tBM0 K "list" rPop _) from pe_bm0 PySem.F.plainAttrs_list PySem.F.slot_list_pop PySem.F.type_list_pop mt_pop (pv 3)) (pa_cons (pv 7) (pa_cons (pe_tup pa_nil) pa_nil)))))
      (pss_cons (ps_for PassesOwn.never rfl (pi_range1 (by rfl) N.rng (pa_cons (pe_call GP hr1 (by rfl) gP kP bP .nil pass0 (pa_cons (pv 0) (pa_cons (pe_op op_add (pv 1) pe_int) pa_nil))) pa_nil)) (pg_name (i := 5) scShapes.nd rfl (.inl rfl))
        (pss_cons (ps_set (i := 6) scShapes.nd rfl (.inl rfl) (pe_tupleOf (by rfl) T.tup (pe_lc (own := [("_law_turn", 8)]) (g := gName 8) (tt := tYes) (by rfl) scShapes.nd (pi_range1 (by rfl) N.rng (pa_cons (pe_op op_add pe_int (pe_call GP hr1 (by rfl) gP kP bP .nil pass0 (pa_cons (pv 0) (pa_cons pe_int pa_nil)))) pa_nil)) (blkOk_by (own := [("_law_turn", 8)]) (N := nShapes) (sc := defScope sShapes) (by decide +kernel))
            (fun _ _ _ _ _ => pg_name (i := 8) scShapes.nd rfl (.inl rfl)) (fun _ _ _ _ _ => pts_nil)
            (fun _ _ _ _ _ => pe_call GO hr (by rfl) gO kO bO .nil pass0 (pa_cons (pv 0) (pa_cons (pv 2) pa_nil))))))
        (pss_one (ps_expr (pe_bm PySem.F.plainAttrs_list PySem.F.slot_list_append PySem.F.type_list_append mt_append (pv 4) (pa_cons (pe_tup (pa_cons (pe_bm0 PySem.F.plainAttrs_list PySem.F.slot_list_pop PySem.F.type_list_pop mt_pop (pv 3))
            (pa_cons (pe_call GO hr (by rfl) gO kO bO .nil pass0 (pa_cons (pv 0) (pa_cons (pv 2) pa_nil))) (pa_cons (pv 6) pa_nil)))) pa_nil))))))
      (pss_one (ps_ret (pe_call GM hr (by rfl) gM kM bM .nil pass0 (pa_cons (pv 0) (pa_cons (pv 4) pa_nil))))))), ?_⟩
    have hh : ∀ {n : Nat}, n ≤ 1000 → n < sizeLine := fun {n} h => small1000 h
    refine ⟨_, rfl, _, rfl, d, c, 3, rfl, src, by decide, by decide, fun r H1 r0 r1 src1 el1 => ?_⟩
    obtain ⟨rn, rfl⟩ : ∃ n : Nat, r = (n : Int) := ⟨r.toNat, by omega⟩
    have hrn : rn < 3 := by
      have : max (1 : Int) 3 = 3 := by decide
      omega
    refine ⟨_, _, rfl, rfl, ?_⟩
    refine ⟨d, c, 1 + rn, by rw [show ((1 + rn : Nat) : Int) = 1 + (rn : Int) by omega]; rfl, src1, by omega, fun Lc cols H2 src2 s2 nLc eLc gc lc => ?_⟩
    refine ⟨_, rfl, d, c, 12, rfl, src2, by decide, fun Lw wds H3 src3 s3 nLw eLw gw lw => ?_⟩
    refine ⟨(by show 2 ≤ sizeLine; decide), fun tp htp => ⟨tp, _, rfl, .inl (.inl upd_same), rfl, _, _, rfl, _, _, rfl, rfl, ?_⟩⟩
    have e1 := hid_else el1
    have nC0 : hid d c H Lc = none := by
      rw [← e1]
      exact hid_none nLc
    have sA : Same (hid d c H) (hid d c H2) := by
      rw [← e1]
      exact s2
    have nW0 : hid d c H Lw = none := sA.free (hid_none nLw)
    have nCW : Lc ≠ Lw := fun e => by
      have g := (hid_get eLc).2.2
      rw [e, nLw] at g
      cases g
    have sT := hid_up (d := d) (c := c) (same_new (o := .tup [.ref Lc, .ref Lw]) htp)
    have srcT : SrcAt (upd H3 tp (.tup [.ref Lc, .ref Lw])) d c := src3.up (same_new htp)
    have eLcT := sT _ _ (s3 _ _ eLc)
    have eLwT := sT _ _ eLw
    have s0T := sA.trans (s3.trans sT)
    generalize upd H3 tp (.tup [.ref Lc, .ref Lw]) = HT at srcT eLcT eLwT s0T ⊢
    have gLc := hid_get eLcT
    refine ⟨_, rfl, Lc, rfl, ⟨_, .inl (.inl gLc.2.2)⟩, fun D hD => lc_list (K := K) (a := Lc) (xs := cols.map V.str) (fun i H' => SrcAt H' d c ∧ Same (hid d c H) (hid d c H') ∧ (hid d c H') Lc = some (.lst (cols.map V.str)) ∧ ∃ rest ss vs, (hid d c H') Lw = some (.lst (rest.map V.str)) ∧ (hid d c H') D = some (.lst vs) ∧ DqAll K (hid d c H') vs (ss.map dShape) ∧ ShSt ss rest ∧ ss.length = i)
      ?_ (fun i H' _ h => .inl (.inl (hid_get h.2.2.1).2.2)) ?_ ?_⟩
    · obtain ⟨d1, d2, eD⟩ := hid_new (o := .lst []) srcT hD
      have sD := hid_up (d := d) (c := c) (same_new (o := .lst []) hD)
      refine ⟨srcT.up (same_new hD), s0T.trans sD, sD _ _ eLcT, wds, [], [], sD _ _ eLwT, eD, .nil, ⟨(fun s h => by cases h), gw.nd, fun w hw => (gw.all w hw).1, by rw [lw]; rfl⟩, rfl⟩
    · rintro i x H4 hx ⟨src4, s4, f1, rest, ss, vs, f2, f3, f4, f5, f6⟩
      obtain ⟨col, hcol, rfl⟩ : ∃ r, cols[i]? = some r ∧ x = V.str r := by
        rw [List.getElem?_map] at hx
        cases e : cols[i]? with
        | none =>
          rw [e] at hx
          cases hx
        | some r =>
          rw [e] at hx
          exact ⟨r, rfl, (Option.some.inj hx).symm⟩
      have il : i < cols.length := (List.getElem?_eq_some_iff.mp hcol).1
      have gD := hid_get f3
      have gW := hid_get f2
      have gC := hid_get f1
      have nDW : D ≠ Lw := fun e => by
        rw [e] at hD
        rw [(hid_get eLwT).2.2] at hD
        cases hD
      have nDC : D ≠ Lc := ne_of_none' gLc.2.2 hD
      have nD0 : hid d c H D = none := s0T.free (hid_none hD)
      obtain ⟨rest', w, rfl⟩ := last_split (ws := rest) (fun e => by
        have := f5.cnt
        rw [e, f6] at this
        have : ([] : List Str).length = 0 := rfl
        omega)
      refine ⟨rfl, lc_yes ?_⟩
      refine ⟨_, rfl, .inl ⟨rfl, _, .inl (.inl gW.2.2)⟩, Lw, _, .str w, rfl, rfl, gW.2.2, last_of rest' w, ?_⟩
      rw [drop_of rest' w]
      refine ⟨_, rfl, (by show 0 ≤ sizeLine; decide), fun t ht => ⟨(by show 3 ≤ sizeLine; decide), fun u hu => ?_⟩⟩
      have h1 := hid_upd (H := H4) (o := .lst (rest'.map V.str)) gW.1 gW.2.1
      have src5 := srcAt_upd (o := .lst (rest'.map V.str)) src4 gW.1 gW.2.1
      have tne := src_ne src5 ht
      have h2 := hid_upd (H := upd H4 Lw (.lst (rest'.map V.str))) (o := .tup []) tne.1 tne.2
      have src6 := srcAt_upd (o := .tup []) src5 tne.1 tne.2
      have une := src_ne src6 hu
      have h3 := hid_upd (H := upd (upd H4 Lw (.lst (rest'.map V.str))) t (.tup [])) (o := .tup [.str w, .str col, .ref t]) une.1 une.2
      have src7 := srcAt_upd (o := .tup [.str w, .str col, .ref t]) src6 une.1 une.2
      have gt := hid_none (d := d) (c := c) ht
      have gu := hid_none (d := d) (c := c) hu
      rw [h1] at gt h2
      rw [h2] at gu h3
      have kA : TK K (hid d c H4) (upd (hid d c H4) Lw (.lst (rest'.map V.str))) := TK.put f2
      have kB := kA.trans ((TK.of (same_new (o := .tup []) gt)).trans (TK.of (same_new (o := .tup [.str w, .str col, .ref t]) gu)))
      have nDt : D ≠ t := fun e => by
        rw [← e, upd_ne nDW, f3] at gt
        cases gt
      have nDu : D ≠ u := fun e => by
        rw [← e, upd_ne nDt, upd_ne nDW, f3] at gu
        cases gu
      have eD3 : hid d c (upd (upd (upd H4 Lw (.lst (rest'.map V.str))) t (.tup [])) u (.tup [.str w, .str col, .ref t])) D = some (.lst vs) := by
        rw [h3, upd_ne nDu, upd_ne nDt, upd_ne nDW]
        exact f3
      have eW3 : hid d c (upd (upd (upd H4 Lw (.lst (rest'.map V.str))) t (.tup [])) u (.tup [.str w, .str col, .ref t])) Lw = some (.lst (rest'.map V.str)) := by
        rw [h3]
        exact (same_new gu) _ _ ((same_new gt) _ _ upd_same)
      have eC3 : hid d c (upd (upd (upd H4 Lw (.lst (rest'.map V.str))) t (.tup [])) u (.tup [.str w, .str col, .ref t])) Lc = some (.lst (cols.map V.str)) := by
        rw [h3]
        exact (same_new gu) _ _ ((same_new gt) _ _ (by rw [upd_ne nCW]; exact f1))
      have sN : Same (hid d c H) (hid d c (upd (upd (upd H4 Lw (.lst (rest'.map V.str))) t (.tup [])) u (.tup [.str w, .str col, .ref t]))) := by
        rw [h3]
        exact (Same.over s4 nW0).trans ((same_new gt).trans (same_new gu))
      have dq3 : DqAll K (hid d c (upd (upd (upd H4 Lw (.lst (rest'.map V.str))) t (.tup [])) u (.tup [.str w, .str col, .ref t]))) vs (ss.map dShape) := by
        rw [h3]
        exact shapes_keep kB ss f4
      have du3 : Dq K (hid d c (upd (upd (upd H4 Lw (.lst (rest'.map V.str))) t (.tup [])) u (.tup [.str w, .str col, .ref t]))) (.ref u) (dShape (w, col, [])) := by
        rw [h3]
        exact .tup (xs := [.str w, .str col, .ref t]) (.inl (.inl upd_same)) (.cons (.str _) (.cons (.str _) (.cons (.tup (xs := []) (.inl (.inl ((same_new gu) _ _ upd_same))) .nil) .nil)))
      generalize upd (upd (upd H4 Lw (.lst (rest'.map V.str))) t (.tup [])) u (.tup [.str w, .str col, .ref t]) = H7 at src7 eD3 eW3 eC3 sN dq3 du3 ⊢
      have g3 := hid_get eD3
      have hW : isW w = true := f5.ok w (List.mem_append.mpr (.inr (List.mem_singleton.mpr rfl)))
      have hC : isW col = true := (gc.all col (List.mem_of_getElem? hcol)).1
      refine ⟨vs, g3.2.2, ?_, srcAt_upd src7 g3.1 g3.2.1, ?_, ?_, rest', ss ++ [(w, col, [])], vs ++ [.ref u], ?_, ?_, ?_, f5.more ⟨hW, hC, (fun b hb => by cases hb), (by show 0 ≤ 100; decide)⟩ (by show 0 ≤ 4; decide), by rw [List.length_append, f6]; rfl⟩
      · rw [f4.len, List.length_map, f6]
        exact hh (by omega)
      · rw [hid_upd g3.1 g3.2.1]
        exact Same.over sN nD0
      · rw [hid_upd g3.1 g3.2.1, upd_ne nDC.symm]
        exact eC3
      · rw [hid_upd g3.1 g3.2.1, upd_ne nDW.symm]
        exact eW3
      · rw [hid_upd g3.1 g3.2.1, upd_same]
      · rw [hid_upd g3.1 g3.2.1]
        exact grow eD3 dq3 du3
    · rintro H4 ⟨src4, s4, f1, rest, ss, vs, f2, f3, f4, f5, f6⟩
      rw [List.length_map, lc] at f6
      have nDW : D ≠ Lw := fun e => by
        rw [e] at hD
        rw [(hid_get eLwT).2.2] at hD
        cases hD
      have nDC : D ≠ Lc := ne_of_none' gLc.2.2 hD
      have nD0 : hid d c H D = none := s0T.free (hid_none hD)
      have cpos : 0 < cols.length := by omega
      refine ⟨_, rfl, _, rfl, _, _, rfl, rfl, ?_⟩
      refine ⟨d, c, 5, rfl, src4, by decide, by decide, fun r H5 r0 r1 src5 el5 => ?_⟩
      obtain ⟨m, rfl⟩ : ∃ n : Nat, r = (n : Int) := ⟨r.toNat, by omega⟩
      have hm : m < 5 := by
        have : max (1 : Int) 5 = 5 := by decide
        omega
      have e5 := hid_else el5
      rw [← e5] at s4 f1 f2 f3 f4
      refine ⟨(m : Int), rfl, by omega, by omega, for_range (lo := 0) (n := m) (fun i σ H' => (∃ v5 v6, σ = [some (.ref d), some (.int 4), some (.ref Lc), some (.ref Lw), some (.ref D), v5, v6, none, none]) ∧ SrcAt H' d c ∧ Same (hid d c H) (hid d c H') ∧ (hid d c H') Lc = some (.lst (cols.map V.str)) ∧
          ∃ rest ss vs, (hid d c H') Lw = some (.lst (rest.map V.str)) ∧ (hid d c H') D = some (.lst vs) ∧ DqAll K (hid d c H') vs (ss.map dShape) ∧ ShSt ss rest ∧ ss.length = 1 + rn + i)
        ⟨⟨_, _, rfl⟩, src5, s4, f1, rest, ss, vs, f2, f3, f4, f5, f6⟩ ?_ ?_⟩
      · clear f1 f2 f3 f4 f5 f6 s4 src4 src5 el5 e5 r0 r1
        rintro i σ H6 hi ⟨⟨v5, v6, rfl⟩, src6, s6, f1, rest, ss, vs, f2, f3, f4, f5, f6⟩
        -- the branches
        refine ⟨_, rfl, d, c, 3, rfl, src6, by decide, by decide, fun x H7 x0 x1 src7 el7 => ?_⟩
        obtain ⟨bn, rfl⟩ : ∃ n : Nat, x = (n : Int) := ⟨x.toNat, by omega⟩
        have hbn : bn < 3 := by
          have : max (1 : Int) 3 = 3 := by decide
          omega
        have e7 := hid_else el7
        rw [← e7] at s6 f1 f2 f3 f4
        refine ⟨_, _, rfl, rfl, ((1 + bn : Nat) : Int), by rw [show ((1 + bn : Nat) : Int) = 1 + (bn : Int) by omega], by omega, by omega, fun D2 hD2 => ?_⟩
        obtain ⟨b1, b2, eD2⟩ := hid_new (o := .lst []) src7 hD2
        have sD2 := hid_up (d := d) (c := c) (same_new (o := .lst []) hD2)
        have gD20 := hid_none (d := d) (c := c) hD2
        refine lc_range (lo := 0) (n := 1 + bn) (fun i H' => SrcAt H' d c ∧ Same (hid d c H7) (hid d c H') ∧ ∃ bs : List Str, (hid d c H') D2 = some (.lst (bs.map V.str)) ∧ bs.length = i ∧ ∀ b ∈ bs, b ∈ cols)
          ⟨src7.up (same_new hD2), sD2, [], eD2, rfl, (fun b h => by cases h)⟩ ?_ ?_
        · rintro j H8 hj ⟨src8, s8, bs, g1, g2, g3⟩
          refine ⟨rfl, lc_yes ?_⟩
          refine ⟨_, rfl, _, rfl, d, c, Lc, cols.map V.str, rfl, src8, .inl (.inl (s8 _ _ f1)), by rw [List.length_map]; exact cpos, by rw [List.length_map]; omega, fun v H9 hv src9 el9 => ?_⟩
          obtain ⟨b, hb, rfl⟩ := List.mem_map.mp hv
          have e9 := hid_else el9
          rw [← e9] at s8 g1
          have gg := hid_get g1
          refine ⟨_, gg.2.2, ?_, srcAt_upd src9 gg.1 gg.2.1, ?_, bs ++ [b], ?_, by rw [List.length_append, g2]; rfl, fun y hy => ?_⟩
          · rw [List.length_map, g2]
            exact hh (by omega)
          · rw [hid_upd gg.1 gg.2.1]
            exact Same.over s8 gD20
          · rw [hid_upd gg.1 gg.2.1, upd_same, List.map_append]
            rfl
          · rcases List.mem_append.mp hy with hy | hy
            · exact g3 y hy
            · rw [List.mem_singleton.mp hy]
              exact hb
        · rintro H8 ⟨src8, s8, bs, g1, g2, g3⟩
          have gg := hid_get g1
          refine .inl ⟨D2, _, rfl, .inl (.inl gg.2.2), fun q hq => ?_⟩
          obtain ⟨q1, q2, eq⟩ := hid_new (o := .tup (bs.map V.str)) src8 hq
          have sq := hid_up (d := d) (c := c) (same_new (o := .tup (bs.map V.str)) hq)
          have src9 := src8.up (same_new (o := .tup (bs.map V.str)) hq)
          have s9 := s8.trans sq
          have f1 := s9 _ _ f1
          have f2 := s9 _ _ f2
          have f3 := s9 _ _ f3
          have f4 := DqAll.same s9 f4
          have s6 := s6.trans s9
          generalize upd H8 q (.tup (bs.map V.str)) = H9 at src9 f1 f2 f3 f4 s6 eq ⊢
          clear sq s9 gg g1 s8 src8 hq eD2 sD2 gD20 hD2
          have gD := hid_get f3
          have gW := hid_get f2
          obtain ⟨rest', w, rfl⟩ := last_split (ws := rest) (fun e => by
            have := f5.cnt
            rw [e, f6] at this
            have : ([] : List Str).length = 0 := rfl
            omega)
          refine ⟨_, rfl, .inl ⟨rfl, _, .inl (.inl gD.2.2)⟩, ?_⟩
          refine ⟨_, rfl, .inl ⟨rfl, _, .inl (.inl gW.2.2)⟩, Lw, _, .str w, rfl, rfl, gW.2.2, last_of rest' w, ?_⟩
          rw [drop_of rest' w]
          have h1 := hid_upd (H := H9) (o := .lst (rest'.map V.str)) gW.1 gW.2.1
          have src10 := srcAt_upd (o := .lst (rest'.map V.str)) src9 gW.1 gW.2.1
          have kA : TK K (hid d c H9) (hid d c (upd H9 Lw (.lst (rest'.map V.str)))) := by
            rw [h1]
            exact TK.put f2
          have eW : hid d c (upd H9 Lw (.lst (rest'.map V.str))) Lw = some (.lst (rest'.map V.str)) := by
            rw [h1]
            exact upd_same
          have eC : hid d c (upd H9 Lw (.lst (rest'.map V.str))) Lc = some (.lst (cols.map V.str)) := by
            rw [h1, upd_ne nCW]
            exact f1
          have eD : hid d c (upd H9 Lw (.lst (rest'.map V.str))) D = some (.lst vs) := by
            rw [h1, upd_ne nDW]
            exact f3
          have s10 : Same (hid d c H) (hid d c (upd H9 Lw (.lst (rest'.map V.str)))) := by
            rw [h1]
            exact Same.over s6 nW0
          have dq := shapes_keep kA ss f4
          have tq := kA _ _ (.inl (.inl eq))
          generalize upd H9 Lw (.lst (rest'.map V.str)) = H10 at src10 eW eC eD s10 dq tq ⊢
          refine ⟨_, rfl, _, rfl, d, c, Lc, cols.map V.str, rfl, src10, .inl (.inl eC), by rw [List.length_map]; exact cpos, by rw [List.length_map]; omega, fun v H11 hv src11 el11 => ?_⟩
          obtain ⟨col, hcol, rfl⟩ := List.mem_map.mp hv
          have e11 := hid_else el11
          rw [← e11] at eW eC eD s10 dq tq
          refine ⟨_, rfl, (by show 3 ≤ sizeLine; decide), fun u hu => ?_⟩
          obtain ⟨u1, u2, eu⟩ := hid_new (o := .tup [.str w, .str col, .ref q]) src11 hu
          have su := hid_up (d := d) (c := c) (same_new (o := .tup [.str w, .str col, .ref q]) hu)
          have src12 := src11.up (same_new (o := .tup [.str w, .str col, .ref q]) hu)
          have eD := su _ _ eD
          have eW := su _ _ eW
          have eC := su _ _ eC
          have s12 := s10.trans su
          have dq := DqAll.same su dq
          have tq := Same.sqT su tq
          have du : Dq K (hid d c (upd H11 u (.tup [.str w, .str col, .ref q]))) (.ref u) (dShape (w, col, bs)) := .tup (xs := [.str w, .str col, .ref q]) (.inl (.inl eu)) (.cons (.str _) (.cons (.str _) (.cons (.tup tq (strs_dq _)) .nil)))
          generalize upd H11 u (.tup [.str w, .str col, .ref q]) = H12 at src12 eD eW eC s12 dq du ⊢
          have g3' := hid_get eD
          have hW : isW w = true := f5.ok w (List.mem_append.mpr (.inr (List.mem_singleton.mpr rfl)))
          have hC : isW col = true := (gc.all col hcol).1
          refine ⟨D, _, _, rfl, rfl, g3'.2.2, ?_, ⟨_, _, rfl⟩, srcAt_upd src12 g3'.1 g3'.2.1, ?_, ?_, rest', ss ++ [(w, col, bs)], vs ++ [.ref u], ?_, ?_, ?_, f5.more ⟨hW, hC, fun b hb => (gc.all b (g3 b hb)).1, (by show bs.length ≤ 100; omega)⟩ (by show bs.length ≤ 4; omega), by rw [List.length_append, f6]; rfl⟩
          · rw [f4.len, List.length_map, f6]
            exact hh (by omega)
          · rw [hid_upd g3'.1 g3'.2.1]
            exact Same.over s12 nD0
          · rw [hid_upd g3'.1 g3'.2.1, upd_ne nDC.symm]
            exact eC
          · rw [hid_upd g3'.1 g3'.2.1, upd_ne nDW.symm]
            exact eW
          · rw [hid_upd g3'.1 g3'.2.1, upd_same]
          · rw [hid_upd g3'.1 g3'.2.1]
            exact grow eD dq du
      · clear f1 f2 f3 f4 f5 f6 s4 src4 src5 el5 e5 r0 r1
        rintro σ H6 ⟨⟨v5, v6, rfl⟩, src6, s6, f1, rest, ss, vs, f2, f3, f4, f5, f6⟩
        refine ⟨_, rfl, _, rfl, d, c, D, vs, rfl, src6, .inl (.inl f3), by rw [f4.len, List.length_map]; omega, fun p ys H7 src7 s7 np ep pm => ?_⟩
        obtain ⟨tt, pt, dt⟩ := dq_perm pm.symm (DqAll.same s7 f4)
        have npH : H p = none := by
          have q := s6.free (hid_none (d := d) (c := c) np)
          have pn := hid_get ep
          unfold hid at q
          rw [if_neg (fun y => y.elim pn.1 pn.2.1)] at q
          exact q
        exact k p ys tt H7 src7 (s6.trans s7) npH ep dt ((f5.good (by omega)).perm pt)
end
end Bc

namespace Bc
open PySem PySem.Spec PyProof.Rows L2
abbrev poolW : List Str := ["root", "a", "b", "shape", "joint", "hang", "abcdefghijkl"]
abbrev poolV : List V := [.str "root", .str "a", .str "b", .str "shape", .str "joint", .str "hang", .str "abcdefghijkl"]
theorem perm_strs (K : PySem.W.Frag) {ys : List V} {l : List Str} (p : ys.Perm (l.map V.str)) : ∃ l' : List Str, l'.Perm l ∧ ys = l'.map V.str := by
  obtain ⟨l', h1, h2⟩ := dq_perm (K := K) (G := fun _ => none) (f := PyData.str) p.symm (ss := l) (strs_dq l)
  exact ⟨l', h1, dq_strs h2⟩
theorem cut_take {vs : List V} {k : Nat} (h : k ≤ vs.length) : cutV vs none (some (k : Int)) = vs.take k := by
  unfold cutV
  rw [HT.sIx_none, HT.sIx_nat, List.drop_zero, Nat.min_eq_left h, Nat.sub_zero]
abbrev nDrawnS : List Str := ["_law_source_here", "_law_pool", "_law_found", "_law_word", "_law_branches", "_law_lap"]
theorem scDrawnS : FnScope nDrawnS ["_law_source_here"] (defScope sDrawnS) := ⟨rfl, rfl, rfl, by decide +kernel, rfl, by decide +kernel, by decide +kernel⟩
def spDrawnS (K : PySem.W.Frag) : Sp := fun vs H Q _ => ∃ (d c : Addr), vs = [.ref d] ∧ SrcAt H d c ∧
  ∀ (p : Addr) (xs : List V) (ss : List Shp) (H' : Hp), SrcAt H' d c → Same (hid d c H) (hid d c H') → H p = none → (hid d c H') p = some (.lst xs) → DqAll K (hid d c H') xs (ss.map dShape) → GoodShapes ss → Q (.ref p) H'
section
variable {P : Program} {w : World} {K : PySem.W.Frag} {mg : Str → Option Value} {base : Heap}
theorem ok_drawnS {f fP fS fO fM : Addr} {fd fdP fdS fdO fdM : FuncData} (F : Fun K "_law_drawn_shapes" "_law_drawn_shapes" sDrawnS f fd) (N : Nm mg) (T : Wt mg)
    (GP : FnOk P w K mg base CX0 1 fP fdP ["_law_source_here", "_law_many"] spPick) (bP : Binds K fdP ["_law_source_here", "_law_many"] []) (gP : mg "_law_pick" = some (.ref fP)) (kP : PySem.W.keepIn K (.ref fP) = true)
    (GS : FnOk P w K mg base CX0 3 fS fdS ["_law_source_here", "_law_most"] (spShapes K)) (bS : Binds K fdS ["_law_source_here", "_law_most"] []) (gS : mg "_law_shapes" = some (.ref fS)) (kS : PySem.W.keepIn K (.ref fS) = true)
    (GO : FnOk P w K mg base CX0 2 fO fdO ["_law_source_here", "_law_some"] (spOf K)) (bO : Binds K fdO ["_law_source_here", "_law_some"] []) (gO : mg "_law_of" = some (.ref fO)) (kO : PySem.W.keepIn K (.ref fO) = true)
    (GM : FnOk P w K mg base CX0 2 fM fdM ["_law_source_here", "_law_things"] (spMixed K)) (bM : Binds K fdM ["_law_source_here", "_law_things"] []) (gM : mg "_law_mixed" = some (.ref fM)) (kM : PySem.W.keepIn K (.ref fM) = true) : FnOk P w K mg base CX0 4 f fd ["_law_source_here"] (spDrawnS K) := by
  refine F.ok scDrawnS (fun vs H Q E h => ?_) (fun cdv A outer s H vs Q E hr h => ?_)
  · obtain ⟨d, c, rfl, _⟩ := h
    rfl
  · obtain ⟨d, c, rfl, src, k⟩ := h
    have hr1 : Room 1 _ := hr.mono (by decide)
    have hr2 : Room 2 _ := hr.mono (by decide)
    refine ⟨_, pss_cons (ps_if (pt_cmpR op_gt (pe_call GP hr1 (by rfl) gP kP bP .nil pass0 (pa_cons (pv 0) (pa_cons pe_int pa_nil))) pe_int (nomark _)) (pss_one (ps_ret (pe_call GS hr (by rfl) gS kS bS .nil pass0 (pa_cons (pv 0) (pa_cons pe_int pa_nil))))) pss_nil)
      (pss_cons (ps_asg (pe_tup (pa_cons (pe_lst (pa_cons pe_str (pa_cons pe_str (pa_cons pe_str (pa_cons pe_str (pa_cons pe_str (pa_cons pe_str (pa_cons pe_str pa_nil)))))))) (pa_cons (pe_lst pa_nil) pa_nil)))
          (pg_tup rfl (pgs_cons (pg_name (i := 1) scDrawnS.nd rfl (.inr rfl)) (pgs_cons (pg_name (i := 2) scDrawnS.nd rfl (.inl rfl)) pgs_nil))))
      (pss_cons (ps_for PassesOwn.never rfl (pi_list (pe_slice sl_list (pe_call GM hr2 (by rfl) gM kM bM .nil pass0 (pa_cons (pv 0) (pa_cons (pv 1) pa_nil))) po_none (po_some (pe_call GP hr1 (by rfl) gP kP bP .nil pass0 (pa_cons (pv 0) (pa_cons pe_int pa_nil)))))) (pg_name (i := 3) scDrawnS.nd rfl (.inl rfl))
        (pss_cons (ps_set (i := 4) scDrawnS.nd rfl (.inl rfl) (pe_tupleOf (by rfl) T.tup (pe_lc (own := [("_law_lap", 5)]) (g := gName 5) (tt := tYes) (by rfl) scDrawnS.nd (pi_range1 (by rfl) N.rng (pa_cons (pe_call GP hr1 (by rfl) gP kP bP .nil pass0 (pa_cons (pv 0) (pa_cons pe_int pa_nil))) pa_nil)) (blkOk_by (own := [("_law_lap", 5)]) (N := nDrawnS) (sc := defScope sDrawnS) (by decide +kernel))
            (fun _ _ _ _ _ => pg_name (i := 5) scDrawnS.nd rfl (.inl rfl)) (fun _ _ _ _ _ => pts_nil)
            (fun _ _ _ _ _ => pe_call GO hr2 (by rfl) gO kO bO .nil pass0 (pa_cons (pv 0) (pa_cons (pv 1) pa_nil))))))
        (pss_one (ps_expr (pe_bm PySem.F.plainAttrs_list PySem.F.slot_list_append PySem.F.type_list_append mt_append (pv 2) (pa_cons (pe_tup (pa_cons (pv 3) (pa_cons (pe_call GO hr2 (by rfl) gO kO bO .nil pass0 (pa_cons (pv 0) (pa_cons (pv 1) pa_nil))) (pa_cons (pv 4) pa_nil)))) pa_nil))))))
      (pss_one (ps_ret (pv 2))))), ?_⟩
    have hh : ∀ {n : Nat}, n ≤ 1000 → n < sizeLine := fun {n} h => small1000 h
    refine ⟨_, rfl, d, c, 3, rfl, src, by decide, by decide, fun r H1 r0 r1 src1 el1 => ?_⟩
    refine ⟨_, _, rfl, rfl, _, rfl, ?_⟩
    have e1 := hid_else el1
    refine ite2 (fun h1 => ?_) (fun h1 => ?_)
    · refine ⟨_, rfl, d, c, rfl, src1, fun p xs ss H2 src2 s2 np ep dq g => ?_⟩
      rw [e1] at s2
      have pn := hid_get ep
      exact k p xs ss H2 src2 s2 (by rw [← el1 p pn.1 pn.2.1]; exact np) ep dq g
    refine ⟨(by show 7 ≤ sizeLine; decide), fun L hL => ⟨Nat.zero_le _, fun D hD => ⟨(by show 2 ≤ sizeLine; decide), fun tp htp => ⟨tp, _, rfl, .inl (.inl upd_same), rfl, _, _, rfl, _, _, rfl, rfl, ?_⟩⟩⟩⟩
    have sL := hid_up (d := d) (c := c) (same_new (o := .lst poolV) hL)
    obtain ⟨l1, l2, eL⟩ := hid_new (o := .lst poolV) src1 hL
    have srcL := src1.up (same_new (o := .lst poolV) hL)
    obtain ⟨d1, d2, eD⟩ := hid_new (o := .lst []) srcL hD
    have sD := hid_up (d := d) (c := c) (same_new (o := .lst []) hD)
    have sT := hid_up (d := d) (c := c) (same_new (o := .tup [.ref L, .ref D]) htp)
    have srcT := (srcL.up (same_new (o := .lst []) hD)).up (same_new (o := .tup [.ref L, .ref D]) htp)
    have eLT := sT _ _ (sD _ _ eL)
    have eDT := sT _ _ eD
    have nLD : L ≠ D := fun e => by
      rw [← e, upd_same] at hD
      cases hD
    have hD1 : hid d c H D = none := by
      rw [← e1]
      exact sL.free (hid_none hD)
    have s0 : Same (hid d c H) (hid d c (upd (upd (upd H1 L (.lst poolV)) D (.lst [])) tp (.tup [.ref L, .ref D]))) := by
      rw [← e1]
      exact sL.trans (sD.trans sT)
    have hDn : H D = none := by
      have q := hD1
      unfold hid at q
      rw [if_neg (fun y => y.elim d1 d2)] at q
      exact q
    generalize upd (upd (upd H1 L (.lst poolV)) D (.lst [])) tp (.tup [.ref L, .ref D]) = HT at srcT eLT eDT s0 ⊢
    refine ⟨_, rfl, _, rfl, d, c, L, poolW.map V.str, rfl, srcT, .inl (.inl eLT), by decide, fun M ys H2 src2 s2 nM eM pm => ?_⟩
    obtain ⟨ws, pw, rfl⟩ := perm_strs K pm
    refine ⟨_, rfl, d, c, 6, rfl, src2, by decide, by decide, fun r H3 r0 r1 src3 el3 => ?_⟩
    obtain ⟨rn, rfl⟩ : ∃ n : Nat, r = (n : Int) := ⟨r.toNat, by omega⟩
    have hrn : rn < 6 := by
      have : max (1 : Int) 6 = 6 := by decide
      omega
    have e3 := hid_else el3
    have lws : ws.length = 7 := pw.length_eq
    rw [← e3] at eM s2
    refine ⟨_, rfl, M, _, rfl, .inl (.inl (hid_get eM).2.2), fun S hS => ?_⟩
    rw [cut_take (by rw [List.length_map]; omega), ← List.map_take]
    obtain ⟨k1, k2, eS⟩ := hid_new (o := .lst ((ws.take rn).map V.str)) src3 hS
    have sS := hid_up (d := d) (c := c) (same_new (o := .lst ((ws.take rn).map V.str)) hS)
    have srcS := src3.up (same_new (o := .lst ((ws.take rn).map V.str)) hS)
    have s4 := s0.trans (s2.trans sS)
    have eL4 := sS _ _ (s2 _ _ eLT)
    have eD4 := sS _ _ (s2 _ _ eDT)
    generalize upd H3 S (.lst ((ws.take rn).map V.str)) = H4 at eS srcS s4 eL4 eD4 ⊢
    have wok : ∀ x ∈ ws, isW x = true := fun x hx => List.all_eq_true.mp (show (poolW.all isW) = true by decide +kernel) x (pw.mem_iff.mp hx)
    have pok : ∀ x ∈ poolW, isW x = true := fun x hx => List.all_eq_true.mp (show (poolW.all isW) = true by decide +kernel) x hx
    have wnd : ws.Nodup := pw.nodup_iff.mpr (by decide +kernel)
    have nSD : S ≠ D := fun e => by
      have g := (hid_get (s2 _ _ eDT)).2.2
      rw [← e, hS] at g
      cases g
    have gS0 := hid_get eS
    refine ⟨S, rfl, ⟨_, .inl (.inl gS0.2.2)⟩, for_list (K := K) (a := S) (xs := (ws.take rn).map V.str) (fun i σ H' => (∃ v3 v4, σ = [some (.ref d), some (.ref L), some (.ref D), v3, v4, none]) ∧ SrcAt H' d c ∧ Same (hid d c H) (hid d c H') ∧ (hid d c H') L = some (.lst (poolW.map V.str)) ∧ (hid d c H') S = some (.lst ((ws.take rn).map V.str)) ∧
        ∃ ss vs, (hid d c H') D = some (.lst vs) ∧ DqAll K (hid d c H') vs (ss.map dShape) ∧ (∀ s ∈ ss, OkShape s ∧ s.2.2.length ≤ 4) ∧ wordsS ss = (ws.take rn).take i)
      ⟨⟨_, _, rfl⟩, srcS, s4, eL4, eS, [], [], eD4, .nil, (fun s h => by cases h), by rw [List.take_zero]; rfl⟩ (fun i σ H' _ h => .inl (.inl (hid_get h.2.2.2.2.1).2.2)) ?_ ?_⟩
    · rintro i x σ H6 hx ⟨⟨v3, v4, rfl⟩, src6, s6, f1, f2, ss, vs, f3, f4, f5, f6⟩
      obtain ⟨wd, hwd, rfl⟩ : ∃ r, (ws.take rn)[i]? = some r ∧ x = V.str r := by
        rw [List.getElem?_map] at hx
        cases e : (ws.take rn)[i]? with
        | none =>
          rw [e] at hx
          cases hx
        | some r =>
          rw [e] at hx
          exact ⟨r, rfl, (Option.some.inj hx).symm⟩
      have il : i < (ws.take rn).length := (List.getElem?_eq_some_iff.mp hwd).1
      have il6 : i < 6 := by
        rw [List.length_take] at il
        omega
      have lss : ss.length = i := by
        have q := congrArg List.length f6
        rw [List.length_take, show (wordsS ss).length = ss.length from List.length_map ..] at q
        omega
      have hW : isW wd = true := wok wd (List.mem_of_mem_take (List.mem_of_getElem? hwd))
      -- the branches
      refine ⟨_, rfl, d, c, 5, rfl, src6, by decide, by decide, fun x H7 x0 x1 src7 el7 => ?_⟩
      obtain ⟨bn, rfl⟩ : ∃ n : Nat, x = (n : Int) := ⟨x.toNat, by omega⟩
      have hbn : bn < 5 := by
        have : max (1 : Int) 5 = 5 := by decide
        omega
      have e7 := hid_else el7
      rw [← e7] at s6 f1 f2 f3 f4
      refine ⟨(bn : Int), rfl, by omega, by omega, fun D2 hD2 => ?_⟩
      obtain ⟨b1, b2, eD2⟩ := hid_new (o := .lst []) src7 hD2
      have sD2 := hid_up (d := d) (c := c) (same_new (o := .lst []) hD2)
      have gD20 := hid_none (d := d) (c := c) hD2
      refine lc_range (lo := 0) (n := bn) (fun i H' => SrcAt H' d c ∧ Same (hid d c H7) (hid d c H') ∧ ∃ bs : List Str, (hid d c H') D2 = some (.lst (bs.map V.str)) ∧ bs.length = i ∧ ∀ b ∈ bs, b ∈ poolW)
        ⟨src7.up (same_new hD2), sD2, [], eD2, rfl, (fun b h => by cases h)⟩ ?_ ?_
      · rintro j H8 hj ⟨src8, s8, bs, g1, g2, g3⟩
        refine ⟨rfl, lc_yes ?_⟩
        refine ⟨_, rfl, _, rfl, d, c, L, poolW.map V.str, rfl, src8, .inl (.inl (s8 _ _ f1)), by decide, by decide, fun v H9 hv src9 el9 => ?_⟩
        obtain ⟨b, hb, rfl⟩ := List.mem_map.mp hv
        have e9 := hid_else el9
        rw [← e9] at s8 g1
        have gg := hid_get g1
        refine ⟨_, gg.2.2, ?_, srcAt_upd src9 gg.1 gg.2.1, ?_, bs ++ [b], ?_, by rw [List.length_append, g2]; rfl, fun y hy => ?_⟩
        · rw [List.length_map, g2]
          exact hh (by omega)
        · rw [hid_upd gg.1 gg.2.1]
          exact Same.over s8 gD20
        · rw [hid_upd gg.1 gg.2.1, upd_same, List.map_append]
          rfl
        · rcases List.mem_append.mp hy with hy | hy
          · exact g3 y hy
          · rw [List.mem_singleton.mp hy]
            exact hb
      · rintro H8 ⟨src8, s8, bs, g1, g2, g3⟩
        have gg := hid_get g1
        refine .inl ⟨D2, _, rfl, .inl (.inl gg.2.2), fun q hq => ?_⟩
        obtain ⟨q1, q2, eq⟩ := hid_new (o := .tup (bs.map V.str)) src8 hq
        have sq := hid_up (d := d) (c := c) (same_new (o := .tup (bs.map V.str)) hq)
        have src9 := src8.up (same_new (o := .tup (bs.map V.str)) hq)
        have s9 := s8.trans sq
        have f1 := s9 _ _ f1
        have f2 := s9 _ _ f2
        have f3 := s9 _ _ f3
        have f4 := DqAll.same s9 f4
        have s6 := s6.trans s9
        generalize upd H8 q (.tup (bs.map V.str)) = H9 at src9 f1 f2 f3 f4 s6 eq ⊢
        clear sq s9 gg g1 s8 src8 hq eD2 sD2 gD20 hD2
        have gD := hid_get f3
        refine ⟨_, rfl, .inl ⟨rfl, _, .inl (.inl gD.2.2)⟩, ?_⟩
        refine ⟨_, rfl, ?_⟩
        refine ⟨_, rfl, _, rfl, d, c, L, poolW.map V.str, rfl, src9, .inl (.inl f1), by decide, by decide, fun v H11 hv src11 el11 => ?_⟩
        obtain ⟨col, hcol, rfl⟩ := List.mem_map.mp hv
        have e11 := hid_else el11
        rw [← e11] at f1 f2 f3 f4 s6 eq
        refine ⟨_, rfl, (by show 3 ≤ sizeLine; decide), fun u hu => ?_⟩
        obtain ⟨u1, u2, eu⟩ := hid_new (o := .tup [.str wd, .str col, .ref q]) src11 hu
        have su := hid_up (d := d) (c := c) (same_new (o := .tup [.str wd, .str col, .ref q]) hu)
        have src12 := src11.up (same_new (o := .tup [.str wd, .str col, .ref q]) hu)
        have f1 := su _ _ f1
        have f2 := su _ _ f2
        have f3 := su _ _ f3
        have f4 := DqAll.same su f4
        have s6 := s6.trans su
        have eq := su _ _ eq
        have du : Dq K (hid d c (upd H11 u (.tup [.str wd, .str col, .ref q]))) (.ref u) (dShape (wd, col, bs)) := .tup (xs := [.str wd, .str col, .ref q]) (.inl (.inl eu)) (.cons (.str _) (.cons (.str _) (.cons (.tup (xs := bs.map V.str) (.inl (.inl eq)) (strs_dq _)) .nil)))
        generalize upd H11 u (.tup [.str wd, .str col, .ref q]) = H12 at src12 f1 f2 f3 f4 s6 du ⊢
        have g3' := hid_get f3
        have nLD : L ≠ D := fun e => by
          rw [e, f3] at f1
          have := hid_get eD4
          exact nLD e
        refine ⟨D, _, _, rfl, rfl, g3'.2.2, ?_, ⟨_, _, rfl⟩, srcAt_upd src12 g3'.1 g3'.2.1, ?_, ?_, ?_, ss ++ [(wd, col, bs)], vs ++ [.ref u], ?_, ?_, fun s hs => ?_, ?_⟩
        · rw [f4.len, List.length_map, lss]
          exact hh (by omega)
        · rw [hid_upd g3'.1 g3'.2.1]
          exact Same.over s6 hD1
        · rw [hid_upd g3'.1 g3'.2.1, upd_ne nLD]
          exact f1
        · rw [hid_upd g3'.1 g3'.2.1, upd_ne nSD]
          exact f2
        · rw [hid_upd g3'.1 g3'.2.1, upd_same]
        · rw [hid_upd g3'.1 g3'.2.1]
          exact grow f3 f4 du
        · rcases List.mem_append.mp hs with hs | hs
          · exact f5 s hs
          · rw [List.mem_singleton.mp hs]
            exact ⟨⟨hW, pok col hcol, fun b hb => pok b (g3 b hb), (by show bs.length ≤ 100; omega)⟩, (by show bs.length ≤ 4; omega)⟩
        · rw [show wordsS (ss ++ [(wd, col, bs)]) = wordsS ss ++ [wd] by unfold wordsS; rw [List.map_append]; rfl, f6, List.take_add_one, hwd]
          rfl
    · rintro σ H6 ⟨⟨v3, v4, rfl⟩, src6, s6, f1, f2, ss, vs, f3, f4, f5, f6⟩
      rw [List.length_map, List.take_length] at f6
      refine ⟨_, rfl, k D vs ss H6 src6 s6 hDn f3 f4 ⟨f5, ?_, ?_⟩⟩
      · rw [f6]
        exact wnd.sublist (List.take_sublist _ _)
      · have q := congrArg List.length f6
        rw [List.length_take, show (wordsS ss).length = ss.length from List.length_map ..] at q
        omega
end
end Bc

namespace Bc
open PySem PySem.Spec PyProof.Rows L2
abbrev nameW : List Str := ["a", "b", "shape", "joint", "hang", "bag", "j1", "abcdefghijkl"]
abbrev nameV : List V := [.str "a", .str "b", .str "shape", .str "joint", .str "hang", .str "bag", .str "j1", .str "abcdefghijkl"]
abbrev nDrawnJ : List Str := ["_law_source_here", "_law_shapes_here", "_law_names_here", "_law_found", "_law_lap"]
theorem scDrawnJ : FnScope nDrawnJ ["_law_source_here", "_law_shapes_here"] (defScope sDrawnJ) := ⟨rfl, rfl, rfl, by decide +kernel, rfl, by decide +kernel, by decide +kernel⟩
structure GoodJoints (ws : List Str) (js : List Jnt) : Prop where
  name : ∀ j ∈ js, isW j.1 = true ∧ j.1 ≠ "root"
  word : ∀ j ∈ js, isW j.2 = true ∧ j.2 ∈ ws
  nd : (namesJ js).Nodup
  ln : js.length ≤ 5
theorem GoodJoints.bag {ws : List Str} {js : List Jnt} (g : GoodJoints ws js) : OkBag ws js := ⟨g.name, g.word, g.nd, Nat.le_trans g.ln (by decide)⟩
/-- the joints so far, and the names that are left -/
structure JnSt (ws : List Str) (js : List Jnt) (rest : List Str) : Prop where
  name : ∀ j ∈ js, isW j.1 = true ∧ j.1 ≠ "root"
  word : ∀ j ∈ js, isW j.2 = true ∧ j.2 ∈ ws
  nd : (namesJ js ++ rest).Nodup
  ok : ∀ w ∈ rest, drawnName w
  cnt : rest.length + js.length = 8
theorem JnSt.more {ws : List Str} {js : List Jnt} {rest : List Str} {j : Jnt} (h : JnSt ws js (rest ++ [j.1])) (h1 : isW j.2 = true ∧ j.2 ∈ ws) : JnSt ws (js ++ [j]) rest := by
  have hj := h.ok j.1 (List.mem_append.mpr (.inr (List.mem_singleton.mpr rfl)))
  refine ⟨fun x hx => ?_, fun x hx => ?_, ?_, fun w hw => h.ok w (List.mem_append.mpr (.inl hw)), ?_⟩
  · rcases List.mem_append.mp hx with hx | hx
    · exact h.name x hx
    · rw [List.mem_singleton.mp hx]
      exact hj
  · rcases List.mem_append.mp hx with hx | hx
    · exact h.word x hx
    · rw [List.mem_singleton.mp hx]
      exact h1
  · have e : namesJ (js ++ [j]) = namesJ js ++ [j.1] := by
      unfold namesJ
      rw [List.map_append]
      rfl
    rw [e, List.append_assoc]
    refine (List.Perm.nodup_iff (List.Perm.append_left _ ?_)).mpr h.nd
    exact List.perm_append_comm
  · have := h.cnt
    rw [List.length_append] at this ⊢
    have e1 : ([j.1] : List Str).length = 1 := rfl
    have e2 : ([j] : List Jnt).length = 1 := rfl
    omega
theorem JnSt.good {ws : List Str} {js : List Jnt} {rest : List Str} (h : JnSt ws js rest) (n : js.length ≤ 5) : GoodJoints ws js := ⟨h.name, h.word, (List.nodup_append.mp h.nd).1, n⟩
def spDrawnJ (K : PySem.W.Frag) : Sp := fun vs H Q _ => ∃ (d c l : Addr) (xs : List V) (ss : List Shp), vs = [.ref d, .ref l] ∧ SrcAt H d c ∧ SqL K (hid d c H) l xs ∧ DqAll K (hid d c H) xs (ss.map dShape) ∧ GoodShapes ss ∧
  ∀ (p : Addr) (ys : List V) (js : List Jnt) (H' : Hp), SrcAt H' d c → Same (hid d c H) (hid d c H') → H p = none → (hid d c H') p = some (.lst ys) → DqAll K (hid d c H') ys (js.map dJoint) → GoodJoints (wordsS ss) js → Q (.ref p) H'
theorem joint_keep {K : PySem.W.Frag} {G G' : Hp} (t : TK K G G') {v : V} {j : Jnt} (h : Dq K G v (dJoint j)) : Dq K G' v (dJoint j) := by
  obtain ⟨a, rfl, h1⟩ := joint_inv h
  exact .tup (t _ _ h1) (.cons (.str _) (.cons (.str _) .nil))
theorem joints_keep {K : PySem.W.Frag} {G G' : Hp} (t : TK K G G') : ∀ {vs : List V} (js : List Jnt), DqAll K G vs (js.map dJoint) → DqAll K G' vs (js.map dJoint)
  | _, [], h => by
    cases h.nil_inv
    exact .nil
  | _, s :: ss, h => by
    rw [List.map_cons] at h ⊢
    obtain ⟨v, _, rfl, h1, h2⟩ := h.cons_inv
    exact .cons (joint_keep t h1) (joints_keep t ss h2)
theorem growJ {K : PySem.W.Frag} {G : Hp} {D u : Addr} {vs : List V} {js : List Jnt} {j : Jnt} (e : G D = some (.lst vs)) (dq : DqAll K G vs (js.map dJoint)) (du : Dq K G (.ref u) (dJoint j)) : DqAll K (upd G D (.lst (vs ++ [.ref u]))) (vs ++ [.ref u]) ((js ++ [j]).map dJoint) := by
  rw [List.map_append]
  exact DqAll.snoc' (joints_keep (TK.put e) js dq) (joint_keep (TK.put e) du)
def NmOk (rs : List Str) : Prop := (∀ w ∈ rs, drawnName w) ∧ rs.Nodup ∧ rs.length = 8
def tNames (d c : Addr) : TS := fun E σ H => ∃ (l N D : Addr) (v4 : Option V) (ns : List Str), σ = [some (.ref d), some (.ref l), some (.ref N), some (.ref D), v4] ∧ SrcAt H d c ∧ (hid d c H) D = some (.lst []) ∧ (hid d c H) N = some (.lst (ns.map V.str)) ∧ NmOk ns ∧ N ≠ D ∧
  ∀ (N' : Addr) (rs : List Str) (H' : Hp), NmOk rs → SrcAt H' d c → Same (hid d c H) (hid d c H') → (hid d c H') N' = some (.lst (rs.map V.str)) → N' ≠ D → (N' = N ∨ hid d c H N' = none) → E.nx [some (.ref d), some (.ref l), some (.ref N'), some (.ref D), v4] H'
theorem nameW_ok : NmOk nameW := ⟨fun w hw => by
  have q := List.all_eq_true.mp (show (nameW.all fun w => isW w && decide (w ≠ "root")) = true by decide +kernel) w hw
  simp only [Bool.and_eq_true, decide_eq_true_eq] at q
  exact q, by decide +kernel, rfl⟩
theorem NmOk.perm {ws rs : List Str} (h : NmOk rs) (p : ws.Perm rs) : NmOk ws := ⟨fun w hw => h.1 w (p.mem_iff.mp hw), p.nodup_iff.mpr h.2.1, by rw [p.length_eq]; exact h.2.2⟩
section
variable {P : Program} {w : World} {K : PySem.W.Frag} {mg : Str → Option Value} {base : Heap}
theorem ok_drawnJ {f fP fN fO fM : Addr} {fd fdP fdN fdO fdM : FuncData} (F : Fun K "_law_drawn_joints" "_law_drawn_joints" sDrawnJ f fd) (B : Blt mg) (N : Nm mg)
    (GP : FnOk P w K mg base CX0 1 fP fdP ["_law_source_here", "_law_many"] spPick) (bP : Binds K fdP ["_law_source_here", "_law_many"] []) (gP : mg "_law_pick" = some (.ref fP)) (kP : PySem.W.keepIn K (.ref fP) = true)
    (GN : FnOk P w K mg base CX0 2 fN fdN ["_law_source_here", "_law_many"] spNames) (bN : Binds K fdN ["_law_source_here", "_law_many"] []) (gN : mg "_law_names" = some (.ref fN)) (kN : PySem.W.keepIn K (.ref fN) = true)
    (GO : FnOk P w K mg base CX0 2 fO fdO ["_law_source_here", "_law_some"] (spOf K)) (bO : Binds K fdO ["_law_source_here", "_law_some"] []) (gO : mg "_law_of" = some (.ref fO)) (kO : PySem.W.keepIn K (.ref fO) = true)
    (GM : FnOk P w K mg base CX0 2 fM fdM ["_law_source_here", "_law_things"] (spMixed K)) (bM : Binds K fdM ["_law_source_here", "_law_things"] []) (gM : mg "_law_mixed" = some (.ref fM)) (kM : PySem.W.keepIn K (.ref fM) = true) : FnOk P w K mg base CX0 3 f fd ["_law_source_here", "_law_shapes_here"] (spDrawnJ K) := by
  refine F.ok scDrawnJ (fun vs H Q E h => ?_) (fun cdv A outer s H vs Q E hr h => ?_)
  · obtain ⟨d, c, l, xs, ss, rfl, _⟩ := h
    rfl
  · obtain ⟨d, c, l, xs, ss, rfl, src, hl, hx, gs, k⟩ := h
    have hr1 : Room 1 _ := hr.mono (by decide)
    refine ⟨_, pss_cons (ps_par (i := 2) (j := 3) rfl scDrawnJ.nd rfl rfl (by decide) rfl rfl (pa_cons (pe_call GN hr (by rfl) gN kN bN .nil pass0 (pa_cons (pv 0) (pa_cons pe_int pa_nil))) (pa_cons (pe_lst pa_nil) pa_nil)) rfl)
      (pss_cons (PS.imp (t' := tNames d c) (ps_if (pt_cmpR op_eq (pe_call GP hr1 (by rfl) gP kP bP .nil pass0 (pa_cons (pv 0) (pa_cons pe_int pa_nil))) pe_int (nomark _))
          (pss_one (ps_set (i := 2) scDrawnJ.nd rfl (.inl rfl) (pe_call GM hr (by rfl) gM kM bM .nil pass0 (pa_cons (pv 0) (pa_cons (pe_lst (pa_cons pe_str (pa_cons pe_str (pa_cons pe_str (pa_cons pe_str (pa_cons pe_str (pa_cons pe_str (pa_cons pe_str (pa_cons pe_str pa_nil))))))))) pa_nil))))) pss_nil) (fun E1 σ H0 h => by
            obtain ⟨l, Na, D, v4, ns, rfl, src, gD, gN, ok, ne, q⟩ := h
            refine ⟨_, rfl, d, c, 3, rfl, src, by decide, by decide, fun r H1 r0 r1 src1 el1 => ?_⟩
            have e1 := hid_else el1
            refine ⟨rfl, _, rfl, ?_⟩
            refine ite2 (fun _ => ?_) (fun _ => q Na ns H1 ok src1 (by rw [e1]; exact Same.refl _) (by rw [e1]; exact gN) ne (.inl rfl))
            refine ⟨_, rfl, (by show 8 ≤ sizeLine; decide), fun L hL => ?_⟩
            obtain ⟨l1, l2, eL⟩ := hid_new (o := .lst nameV) src1 hL
            have sL := hid_up (d := d) (c := c) (same_new (o := .lst nameV) hL)
            refine ⟨d, c, L, nameV, rfl, src1.up (same_new hL), .inl (.inl eL), by decide, fun M ys H2 src2 s2 nM eM pm => ?_⟩
            obtain ⟨ws, pw, rfl⟩ := perm_strs K (l := nameW) pm
            have s3 : Same (hid d c H0) (hid d c H2) := by
              rw [← e1]
              exact sL.trans s2
            have nM0 : hid d c H0 M = none := by
              rw [← e1]
              exact sL.free (hid_none nM)
            exact q M ws H2 (nameW_ok.perm pw) src2 s3 eM (fun e => by rw [e, gD] at nM0; cases nM0) (.inr nM0)))
      (pss_cons (ps_for PassesOwn.never rfl (pi_range1 (by rfl) N.rng (pa_cons (pe_op op_mul (pe_call GP hr1 (by rfl) gP kP bP .nil pass0 (pa_cons (pv 0) (pa_cons pe_int pa_nil))) (pe_callTy call_int1 (by rfl) B.int (by decide +kernel) (pa_cons (pe_cmpR op_gt (pe_callB call_len (by rfl) B.len (by decide +kernel) (pa_cons (pv 1) pa_nil)) pe_int (nomark _)) pa_nil))) pa_nil)) (pg_name (i := 4) scDrawnJ.nd rfl (.inl rfl))
        (pss_one (ps_expr (pe_bm PySem.F.plainAttrs_list PySem.F.slot_list_append PySem.F.type_list_append mt_append (pv 3) (pa_cons (pe_tup (pa_cons (pe_bm0 PySem.F.plainAttrs_list PySem.F.slot_list_pop PySem.F.type_list_pop mt_pop (pv 2))
            (pa_cons (pe_ix ix_tup (pe_call GO hr (by rfl) gO kO bO .nil pass0 (pa_cons (pv 0) (pa_cons (pv 1) pa_nil))) pe_int (fun _ _ => rfl)) pa_nil))) pa_nil)))))
      (pss_one (ps_ret (pv 3))))), ?_⟩
    have hh : ∀ {n : Nat}, n ≤ 1000 → n < sizeLine := fun {n} h => small1000 h
    refine ⟨_, rfl, d, c, 8, rfl, src, by decide, fun Na ws H1 src1 s1 nN eN gn ln => ?_⟩
    refine ⟨Nat.zero_le _, fun D hD => ⟨_, _, rfl, ?_⟩⟩
    obtain ⟨d1, d2, eD⟩ := hid_new (o := .lst []) src1 hD
    have sD := hid_up (d := d) (c := c) (same_new (o := .lst []) hD)
    have hD0 : hid d c H D = none := s1.free (hid_none hD)
    have srcD := src1.up (same_new (o := .lst []) hD)
    have s1D := s1.trans sD
    have nND : Na ≠ D := ne_of_none (hid_get eN).2.2 hD
    have eN1 := sD _ _ eN
    have hN0 : hid d c H Na = none := hid_none nN
    generalize upd H1 D (.lst []) = HD at eD srcD s1D eN1 ⊢
    refine ⟨l, Na, D, none, ws, rfl, srcD, eD, eN1, ⟨gn.all, gn.nd, ln⟩, nND, fun N' rs H2 okN src2 s2 eN2 nN2 alt => ?_⟩
    have s02 := s1D.trans s2
    have eD2 := s2 _ _ eD
    have hN'0 : hid d c H N' = none := by
      rcases alt with e | e
      · rw [e]
        exact hN0
      · exact s1D.free e
    have hl2 := s02.seq hl
    have dx2 := DqAll.same s02 hx
    have lx : xs.length = ss.length := by rw [hx.len, List.length_map]
    refine ⟨_, rfl, d, c, 6, rfl, src2, by decide, by decide, fun r H3 r0 r1 src3 el3 => ?_⟩
    obtain ⟨rn, rfl⟩ : ∃ n : Nat, r = (n : Int) := ⟨r.toNat, by omega⟩
    have hrn : rn < 6 := by
      have : max (1 : Int) 6 = 6 := by decide
      omega
    have e3 := hid_else el3
    rw [← e3] at s02 eN2 eD2 hl2 dx2
    refine ⟨_, rfl, _, xs.length, rfl, .inl ⟨xs, hid_all.seq hl2, rfl⟩, _, _, rfl, rfl, .inr ⟨_, rfl, _, _, rfl, rfl, .inl ⟨by omega, by omega⟩, ?_⟩⟩
    have emul : ∃ m : Nat, m ≤ 5 ∧ (0 < m → 0 < xs.length) ∧ (rn : Int) * (if decide ((0 : Int) < (xs.length : Int)) = true then 1 else 0) = (m : Int) := by
      by_cases hz : 0 < xs.length
      · exact ⟨rn, by omega, fun _ => hz, by rw [if_pos (decide_eq_true (by omega))]; omega⟩
      · exact ⟨0, by omega, fun h => absurd h (by decide), by rw [if_neg (fun h => hz (by have := of_decide_eq_true h; omega))]; omega⟩
    obtain ⟨m, m5, mpos, em⟩ := emul
    refine ⟨(m : Int), ?_, by omega, by omega, for_range (lo := 0) (n := m) (fun i σ H' => (∃ v4, σ = [some (.ref d), some (.ref l), some (.ref N'), some (.ref D), v4]) ∧ SrcAt H' d c ∧ Same (hid d c H) (hid d c H') ∧ ∃ rest js vs, (hid d c H') N' = some (.lst (rest.map V.str)) ∧ (hid d c H') D = some (.lst vs) ∧ DqAll K (hid d c H') vs (js.map dJoint) ∧ JnSt (wordsS ss) js rest ∧ js.length = i)
      ⟨⟨_, rfl⟩, src3, s02, rs, [], [], eN2, eD2, .nil, ⟨(fun j h => by cases h), (fun j h => by cases h), okN.2.1, okN.1, by rw [okN.2.2]; rfl⟩, rfl⟩ ?_ ?_⟩
    · rw [← em]
    · rintro i σ H4 hi ⟨⟨v4, rfl⟩, src4, s4, rest, js, vs, f1, f2, f3, f4, f5⟩
      have gD := hid_get f2
      have gN := hid_get f1
      obtain ⟨rest', w, rfl⟩ := last_split (ws := rest) (fun e => by
        have := f4.cnt
        rw [e, f5] at this
        have : ([] : List Str).length = 0 := rfl
        omega)
      refine ⟨_, rfl, .inl ⟨rfl, _, .inl (.inl gD.2.2)⟩, ?_⟩
      refine ⟨_, rfl, .inl ⟨rfl, _, .inl (.inl gN.2.2)⟩, N', _, .str w, rfl, rfl, gN.2.2, last_of rest' w, ?_⟩
      rw [drop_of rest' w]
      have h1 := hid_upd (H := H4) (o := .lst (rest'.map V.str)) gN.1 gN.2.1
      have src5 := srcAt_upd (o := .lst (rest'.map V.str)) src4 gN.1 gN.2.1
      have kA : TK K (hid d c H4) (hid d c (upd H4 N' (.lst (rest'.map V.str)))) := by
        rw [h1]
        exact TK.put f1
      have eW : hid d c (upd H4 N' (.lst (rest'.map V.str))) N' = some (.lst (rest'.map V.str)) := by
        rw [h1]
        exact upd_same
      have eD : hid d c (upd H4 N' (.lst (rest'.map V.str))) D = some (.lst vs) := by
        rw [h1, upd_ne nN2.symm]
        exact f2
      have s5 : Same (hid d c H) (hid d c (upd H4 N' (.lst (rest'.map V.str)))) := by
        rw [h1]
        exact Same.over s4 hN'0
      have dq := joints_keep kA js f3
      generalize upd H4 N' (.lst (rest'.map V.str)) = H5 at src5 eW eD s5 dq ⊢
      refine ⟨_, rfl, _, rfl, d, c, l, xs, rfl, src5, s5.seq hl, mpos (by omega), by rw [lx]; have := gs.ln; omega, fun v H6 hv src6 el6 => ?_⟩
      obtain ⟨iv, hiv⟩ := List.getElem?_of_mem hv
      obtain ⟨sd, hsd, dqv⟩ := DqAll.get iv hx hiv
      obtain ⟨sh, hsh, rfl⟩ : ∃ sh, ss[iv]? = some sh ∧ sd = dShape sh := by
        rw [List.getElem?_map] at hsd
        cases e : ss[iv]? with
        | none =>
          rw [e] at hsd
          cases hsd
        | some b =>
          rw [e] at hsd
          exact ⟨b, rfl, (Option.some.inj hsd).symm⟩
      have sm := List.mem_of_getElem? hsh
      have e6 := hid_else el6
      rw [← e6] at eW eD s5 dq
      obtain ⟨sa, sb, rfl, hsa, hsb⟩ := shape_inv (Dq.same (s5.trans hid_all) dqv)
      refine ⟨sa, _, _, .str sh.1, rfl, rfl, hsa, L2.at_of (j := 0) rfl rfl, (by show 2 ≤ sizeLine; decide), fun u hu => ?_⟩
      obtain ⟨u1, u2, eu⟩ := hid_new (o := .tup [.str w, .str sh.1]) src6 hu
      have su := hid_up (d := d) (c := c) (same_new (o := .tup [.str w, .str sh.1]) hu)
      have src7 := src6.up (same_new (o := .tup [.str w, .str sh.1]) hu)
      have eD := su _ _ eD
      have eW := su _ _ eW
      have s7 := s5.trans su
      have dq := DqAll.same su dq
      have du : Dq K (hid d c (upd H6 u (.tup [.str w, .str sh.1]))) (.ref u) (dJoint (w, sh.1)) := .tup (xs := [.str w, .str sh.1]) (.inl (.inl eu)) (.cons (.str _) (.cons (.str _) .nil))
      generalize upd H6 u (.tup [.str w, .str sh.1]) = H7 at src7 eD eW s7 dq du ⊢
      have g3 := hid_get eD
      refine ⟨D, _, _, rfl, rfl, g3.2.2, ?_, ⟨_, rfl⟩, srcAt_upd src7 g3.1 g3.2.1, ?_, rest', js ++ [(w, sh.1)], vs ++ [.ref u], ?_, ?_, ?_, f4.more ⟨(gs.all sh sm).1.w, List.mem_map.mpr ⟨sh, sm, rfl⟩⟩, by rw [List.length_append, f5]; rfl⟩
      · rw [f3.len, List.length_map, f5]
        exact hh (by omega)
      · rw [hid_upd g3.1 g3.2.1]
        exact Same.over s7 hD0
      · rw [hid_upd g3.1 g3.2.1, upd_ne nN2]
        exact eW
      · rw [hid_upd g3.1 g3.2.1, upd_same]
      · rw [hid_upd g3.1 g3.2.1]
        exact growJ eD dq du
    · rintro σ H4 ⟨⟨v4, rfl⟩, src4, s4, rest, js, vs, f1, f2, f3, f4, f5⟩
      have hDn : H D = none := by
        have q := hD0
        unfold hid at q
        rw [if_neg (fun y => y.elim d1 d2)] at q
        exact q
      exact ⟨_, rfl, k D vs js H4 src4 s4 hDn f2 f3 (f4.good (by omega))⟩
end
end Bc

namespace Bc
open PySem PySem.Spec PyProof.Rows L2
/-! ### the law's own lexemes of books and bags -/
abbrev nListed : List Str := ["_law_words", "_law_found", "_law_k"]
theorem scListed : FnScope nListed ["_law_words"] (defScope sListed) := ⟨rfl, rfl, rfl, by decide +kernel, rfl, by decide +kernel, by decide +kernel⟩
abbrev nBookLex : List Str := ["_law_shapes_here", "_law_found", "_law_word", "_law_stem", "_law_branches"]
theorem scBookLex : FnScope nBookLex ["_law_shapes_here"] (defScope sBookLex) := ⟨rfl, rfl, rfl, by decide +kernel, rfl, by decide +kernel, by decide +kernel⟩
abbrev nBagLex : List Str := ["_law_joints", "_law_found", "_law_name", "_law_word"]
theorem scBagLex : FnScope nBagLex ["_law_joints"] (defScope sBagLex) := ⟨rfl, rfl, rfl, by decide +kernel, rfl, by decide +kernel, by decide +kernel⟩
theorem comR_app : ∀ (l : List Str) (b : Str), comR (l ++ [b]) = comR l ++ [(",": Str), b]
  | [], _ => rfl
  | x :: l, b => by
    show (",": Str) :: x :: comR (l ++ [b]) = _
    rw [comR_app l b]
    rfl
theorem commas_app (l : List Str) (b : Str) : commas (l ++ [b]) = commas l ++ (if l = [] then [b] else [(",": Str), b]) := by
  cases l with
  | nil => rfl
  | cons x l =>
    show x :: comR (l ++ [b]) = (x :: comR l) ++ _
    rw [comR_app, if_neg (by simp)]
    rfl
theorem commas_len (l : List Str) : (commas l).length ≤ 2 * l.length := by
  cases l with
  | nil => exact Nat.le_refl _
  | cons x l =>
    show (comR l).length + 1 ≤ 2 * (l.length + 1)
    rw [comR_len]
    omega
def spListed (K : PySem.W.Frag) : Sp := fun vs H Q _ => ∃ (a : Addr) (bs : List Str), vs = [.ref a] ∧ SqT K H a (bs.map V.str) ∧ bs.length ≤ 50 ∧ ∀ p H', Same H H' → H p = none → H' p = some (.lst ((listL bs).map V.str)) → Q (.ref p) H'
def spBookLex (K : PySem.W.Frag) : Sp := fun vs H Q _ => ∃ (l : Addr) (xs : List V) (ss : List Shp), vs = [.ref l] ∧ SqL K H l xs ∧ DqAll K H xs (ss.map dShape) ∧ GoodShapes ss ∧ ∀ p H', Same H H' → H p = none → H' p = some (.lst ((bookL ss).map V.str)) → Q (.ref p) H'
def spBagLex (K : PySem.W.Frag) : Sp := fun vs H Q _ => ∃ (l : Addr) (xs : List V) (js : List Jnt), vs = [.ref l] ∧ SqL K H l xs ∧ DqAll K H xs (js.map dJoint) ∧ js.length ≤ 5 ∧ ∀ p H', Same H H' → H p = none → H' p = some (.lst ((bagL js).map V.str)) → Q (.ref p) H'
theorem bodyOf_app (a b : List (List Str)) : bodyOf (a ++ b) = bodyOf a ++ bodyOf b := by
  unfold bodyOf
  rw [List.flatMap_append]
theorem bodyOf_one (r : List Str) : bodyOf [r] = r ++ [(";" : Str)] := by
  show (r ++ [(";" : Str)]) ++ [] = _
  rw [List.append_nil]
theorem body_le {rs : List (List Str)} {b : Nat} (h : ∀ r ∈ rs, r.length ≤ b) : (bodyOf rs).length ≤ (b + 1) * rs.length := by
  induction rs with
  | nil => exact Nat.zero_le _
  | cons r rs ih =>
    show ((r ++ [(";" : Str)]) ++ bodyOf rs).length ≤ _
    have q := ih fun x hx => h x (List.mem_cons_of_mem _ hx)
    have q2 := h r (List.mem_cons_self ..)
    rw [List.length_append, List.length_append, show (r :: rs).length = rs.length + 1 from rfl, Nat.mul_add]
    have e1 : ([(";" : Str)]).length = 1 := rfl
    omega
section
variable {P : Program} {w : World} {K : PySem.W.Frag} {mg : Str → Option Value} {base : Heap}
theorem ok_listed {f : Addr} {fd : FuncData} (F : Fun K "_law_listed" "_law_listed" sListed f fd) (B : Blt mg) (N : Nm mg) : FnOk P w K mg base CX0 1 f fd ["_law_words"] (spListed K) := by
  refine F.ok scListed (fun vs H Q E h => ?_) (fun cdv A outer s H vs Q E hr h => ?_)
  · obtain ⟨a, bs, rfl, _⟩ := h
    rfl
  · obtain ⟨a, bs, rfl, ha, hn, k⟩ := h
    refine ⟨_, pss_cons (ps_set (i := 1) scListed.nd rfl (.inl rfl) (pe_lst (pa_cons pe_str pa_nil)))
      (pss_cons (ps_for PassesOwn.never rfl (pi_range1 (by rfl) N.rng (pa_cons (pe_callB call_len (by rfl) B.len (by decide +kernel) (pa_cons (pv 0) pa_nil)) pa_nil)) (pg_name (i := 2) scListed.nd rfl (.inl rfl))
        (pss_one (ps_set (i := 1) scListed.nd rfl (.inl rfl) (pe_op op_cat (pe_op op_cat (pv 1) (pe_op op_repB (pe_lstB (pa_cons pe_str pa_nil)) (pe_callTy call_int1 (by rfl) B.int (by decide +kernel) (pa_cons (pe_cmpR op_gt (pv 2) pe_int (nomark _)) pa_nil))))
          (pe_lst (pa_cons (pe_ix ix_tup (pv 0) (pv 2) (fun _ _ => rfl)) pa_nil))))))
      (pss_one (ps_ret (pe_op op_cat (pv 1) (pe_lst (pa_cons pe_str pa_nil)))))), ?_⟩
    have one : ∀ {a : V}, [a].length ≤ sizeLine := fun {_} => (by show 1 ≤ sizeLine; decide)
    have big : ∀ {n : Nat}, n ≤ 100000 → n ≤ sizeLine := fun {n} h => Nat.le_trans h (by decide)
    refine ⟨one, fun g hg => ?_⟩
    refine ⟨_, rfl, _, bs.length, rfl, .inr ⟨_, Same.sqT (same_new hg) ha, (by rw [List.length_map])⟩, (bs.length : Int), rfl, by omega, by omega, for_range (lo := 0) (n := bs.length) (fun i σ H' => ∃ v2 g, σ = [some (.ref a), some (.ref g), v2] ∧ Same H H' ∧ H g = none ∧ H' g = some (.lst ((("(" : Str) :: commas (bs.take i)).map V.str)))
      ⟨none, g, rfl, same_new hg, hg, upd_same⟩ ?_ ?_⟩
    · rintro i σ H1 hi ⟨v2, g, rfl, s1, ng, eg⟩
      obtain ⟨b, hb⟩ : ∃ b, bs[i]? = some b := ⟨_, List.getElem?_eq_getElem hi⟩
      have cl := commas_len (bs.take i)
      rw [List.length_take] at cl
      refine ⟨_, rfl, one, fun p1 hp1 ns1 => ?_⟩
      obtain ⟨kk, hk1, hk2, hk3⟩ : ∃ kk : Int, (if decide ((0 : Int) < 0 + (i : Int)) = true then (1 : Int) else 0) = kk ∧ (kk = 0 ∨ kk = 1) ∧ (List.replicate kk.toNat [V.str ","]).flatten = if bs.take i = [] then [] else [V.str ","] := by
        by_cases h0 : i = 0
        · subst h0
          exact ⟨0, rfl, .inl rfl, rfl⟩
        · refine ⟨1, by rw [if_pos (decide_eq_true (by omega))], .inr rfl, ?_⟩
          have : ¬ bs.take i = [] := fun e => by
            have q := congrArg List.length e
            rw [List.length_take] at q
            have : ([] : List Str).length = 0 := rfl
            omega
          rw [if_neg this]
          rfl
      refine ⟨_, rfl, _, _, rfl, rfl, .inr ⟨_, rfl, p1, kk, _, rfl, by rw [← hk1], upd_same, by omega, by omega, ?_, fun p2 hp2 ns2 => ?_⟩⟩
      · rcases hk2 with e | e <;> rw [e] <;> decide
      rw [hk3]
      have s2 := same_new (o := .lst [.str ","]) hp1
      have s3 := same_new (o := .lst (if bs.take i = [] then [] else [V.str ","])) hp2
      have ile : (if bs.take i = [] then [] else [V.str ","]).length ≤ 1 := by split <;> decide
      refine ⟨g, p2, _, _, rfl, rfl, s3 _ _ (s2 _ _ eg), upd_same, ?_, fun p3 hp3 => ?_⟩
      · rw [List.length_map, List.length_cons]
        exact big (by omega)
      have s4 := same_new (o := .lst ((("(" : Str) :: commas (bs.take i)).map V.str ++ if bs.take i = [] then [] else [V.str ","])) hp3
      refine ⟨_, rfl, _, rfl, a, _, _, .str b, rfl, rfl, Same.sqT (s1.trans (s2.trans (s3.trans s4))) ha, L2.at_of (j := i) (by omega) (by rw [List.getElem?_map, hb]; rfl), one, fun p4 hp4 => ?_⟩
      have s5 := same_new (o := .lst [.str b]) hp4
      refine ⟨p3, p4, _, _, rfl, rfl, s5 _ _ upd_same, upd_same, ?_, fun p5 hp5 => ?_⟩
      · rw [List.length_append, List.length_map, List.length_cons]
        exact big (by show _ + 1 ≤ _; omega)
      · have sA := s1.trans (s2.trans (s3.trans (s4.trans s5)))
        refine ⟨_, p5, rfl, sA.trans (same_new hp5), sA.free hp5, ?_⟩
        rw [upd_same, List.take_add_one, hb]
        show _ = some (HO.lst ((("(" : Str) :: commas (bs.take i ++ [b])).map V.str))
        rw [commas_app, List.map_cons, List.map_cons, List.map_append, List.cons_append, List.cons_append, List.append_assoc]
        congr 3
        split <;> rfl
    · rintro σ H1 ⟨v2, g, rfl, s1, ng, eg⟩
      rw [List.take_length] at eg
      have cl := commas_len bs
      refine ⟨_, rfl, one, fun p1 hp1 => ?_⟩
      have s2 := same_new (o := .lst [.str ")"]) hp1
      refine ⟨g, p1, _, _, rfl, rfl, s2 _ _ eg, upd_same, ?_, fun p2 hp2 => ?_⟩
      · rw [List.length_map, List.length_cons]
        exact big (by show _ + 1 + 1 ≤ _; omega)
      · refine k p2 _ (s1.trans (s2.trans (same_new hp2))) (s1.free (s2.free hp2)) ?_
        rw [upd_same]
        unfold listL
        rw [List.map_cons, List.map_cons, List.map_append]
        rfl
theorem ok_bookLex {f fL : Addr} {fd fdL : FuncData} (F : Fun K "_law_book_lexemes" "_law_book_lexemes" sBookLex f fd)
    (GL : FnOk P w K mg base CX0 1 fL fdL ["_law_words"] (spListed K)) (bL : Binds K fdL ["_law_words"] []) (gL : mg "_law_listed" = some (.ref fL)) (kL : PySem.W.keepIn K (.ref fL) = true) : FnOk P w K mg base CX0 2 f fd ["_law_shapes_here"] (spBookLex K) := by
  refine F.ok scBookLex (fun vs H Q E h => ?_) (fun cdv A outer s H vs Q E hr h => ?_)
  · obtain ⟨l, xs, ss, rfl, _⟩ := h
    rfl
  · obtain ⟨l, xs, ss, rfl, hl, hx, gs, k⟩ := h
    refine ⟨_, pss_cons (ps_set (i := 1) scBookLex.nd rfl (.inl rfl) (pe_lst (pa_cons pe_str (pa_cons pe_str pa_nil))))
      (pss_cons (ps_for PassesOwn.never rfl (pi_list (pv 0)) (pg_tup rfl (pgs_cons (pg_name (i := 2) scBookLex.nd rfl (.inl rfl)) (pgs_cons (pg_name (i := 3) scBookLex.nd rfl (.inl rfl)) (pgs_cons (pg_name (i := 4) scBookLex.nd rfl (.inl rfl)) pgs_nil))))
        (pss_one (ps_set (i := 1) scBookLex.nd rfl (.inl rfl) (pe_op op_cat (pe_op op_cat (pe_op op_cat (pv 1) (pe_lst (pa_cons pe_str (pa_cons (pv 2) (pa_cons (pv 3) pa_nil))))) (pe_call GL hr (by rfl) gL kL bL .nil pass0 (pa_cons (pv 4) pa_nil))) (pe_lst (pa_cons pe_str pa_nil))))))
      (pss_one (ps_ret (pe_op op_cat (pv 1) (pe_lst (pa_cons pe_str pa_nil)))))), ?_⟩
    have one : ∀ {a : V}, [a].length ≤ sizeLine := fun {_} => (by show 1 ≤ sizeLine; decide)
    have big : ∀ {n : Nat}, n ≤ 100000 → n ≤ sizeLine := fun {n} h => Nat.le_trans h (by decide)
    refine ⟨(by show 2 ≤ sizeLine; decide), fun g hg => ?_⟩
    refine ⟨_, rfl, l, rfl, ⟨_, (same_new hg).seq hl⟩, for_list (K := K) (a := l) (xs := xs) (fun i σ H' => ∃ v2 v3 v4 g, σ = [some (.ref l), some (.ref g), v2, v3, v4] ∧ Same H H' ∧ H g = none ∧ H' g = some (.lst ((("book" : Str) :: "{" :: bodyOf ((ss.take i).map rowS)).map V.str)))
      ⟨none, none, none, g, rfl, same_new hg, hg, upd_same⟩ (fun i σ H' _ ⟨_, _, _, _, _, q, _⟩ => q.seq hl) ?_ ?_⟩
    · rintro i x σ H1 hi ⟨v2, v3, v4, g, rfl, s1, ng, eg⟩
      obtain ⟨sd, hsd, dqx⟩ := DqAll.get i hx hi
      obtain ⟨sh, hsh, rfl⟩ : ∃ sh, ss[i]? = some sh ∧ sd = dShape sh := by
        rw [List.getElem?_map] at hsd
        cases e : ss[i]? with
        | none =>
          rw [e] at hsd
          cases hsd
        | some b =>
          rw [e] at hsd
          exact ⟨b, rfl, (Option.some.inj hsd).symm⟩
      obtain ⟨o, o4⟩ := gs.all sh (List.mem_of_getElem? hsh)
      have il : i < ss.length := (List.getElem?_eq_some_iff.mp hsh).1
      have ln := gs.ln
      obtain ⟨r, b, rfl, hr2, hb2⟩ := shape_inv (Dq.same s1 dqx)
      have bl : (bodyOf ((ss.take i).map rowS)).length ≤ 14 * 7 := by
        have q := body_le (rs := (ss.take i).map rowS) (b := 13) fun r hr => by
          obtain ⟨s, hs, rfl⟩ := List.mem_map.mp hr
          have l4 := (gs.all s (List.mem_of_mem_take hs)).2
          have ll := listL_len s.2.2
          show (listL s.2.2).length + 1 + 1 + 1 ≤ 13
          omega
        rw [List.length_map, List.length_take] at q
        omega
      have ll := listL_len sh.2.2
      generalize hB : bodyOf ((ss.take i).map rowS) = bd at eg bl
      refine ⟨r, _, rfl, hr2, rfl, _, _, rfl, _, _, rfl, _, _, rfl, rfl, ?_⟩
      refine ⟨_, rfl, _, rfl, _, rfl, (by show 3 ≤ sizeLine; decide), fun p1 hp1 => ?_⟩
      have s2 := same_new (o := .lst [.str "shape", .str sh.1, .str sh.2.1]) hp1
      refine ⟨g, p1, _, _, rfl, rfl, s2 _ _ eg, upd_same, ?_, fun p2 hp2 => ?_⟩
      · rw [List.length_map, List.length_cons, List.length_cons]
        exact big (by show _ + 3 ≤ _; omega)
      have s3 := same_new (o := .lst ((("book" : Str) :: "{" :: bd).map V.str ++ [.str "shape", .str sh.1, .str sh.2.1])) hp2
      refine ⟨_, rfl, b, sh.2.2, rfl, Same.sqT (s2.trans s3) hb2, by omega, fun p3 H3 s4 np3 e3 => ?_⟩
      refine ⟨p2, p3, _, _, rfl, rfl, s4 _ _ upd_same, e3, ?_, fun p4 hp4 => ?_⟩
      · rw [List.length_append, List.length_map, List.length_map, List.length_cons, List.length_cons]
        exact big (by show _ + 3 + _ ≤ _; omega)
      have s5 := same_new (o := .lst ((("book" : Str) :: "{" :: bd).map V.str ++ [.str "shape", .str sh.1, .str sh.2.1] ++ (listL sh.2.2).map V.str)) hp4
      refine ⟨one, fun p5 hp5 => ?_⟩
      have s6 := same_new (o := .lst [.str ";"]) hp5
      refine ⟨p4, p5, _, _, rfl, rfl, s6 _ _ upd_same, upd_same, ?_, fun p6 hp6 => ?_⟩
      · rw [List.length_append, List.length_append, List.length_map, List.length_map, List.length_cons, List.length_cons]
        exact big (by show _ + 3 + _ + 1 ≤ _; omega)
      · have sA := s1.trans (s2.trans (s3.trans (s4.trans (s5.trans s6))))
        refine ⟨_, _, _, p6, rfl, sA.trans (same_new hp6), sA.free hp6, ?_⟩
        rw [upd_same, List.take_add_one, hsh]
        show _ = some (HO.lst ((("book" : Str) :: "{" :: bodyOf (((ss.take i) ++ [sh]).map rowS)).map V.str))
        rw [List.map_append, bodyOf_app, hB, show [sh].map rowS = [rowS sh] from rfl, bodyOf_one]
        simp [rowS, List.map_append]
    · rintro σ H1 ⟨v2, v3, v4, g, rfl, s1, ng, eg⟩
      have lx : xs.length = ss.length := by rw [hx.len, List.length_map]
      rw [lx, List.take_length] at eg
      have ln := gs.ln
      have bl : (bodyOf (ss.map rowS)).length ≤ 14 * 7 := by
        have q := body_le (rs := ss.map rowS) (b := 13) fun r hr => by
          obtain ⟨s, hs, rfl⟩ := List.mem_map.mp hr
          have l4 := (gs.all s hs).2
          have ll := listL_len s.2.2
          show (listL s.2.2).length + 1 + 1 + 1 ≤ 13
          omega
        rw [List.length_map] at q
        omega
      refine ⟨_, rfl, one, fun p1 hp1 => ?_⟩
      have s2 := same_new (o := .lst [.str "}"]) hp1
      refine ⟨g, p1, _, _, rfl, rfl, s2 _ _ eg, upd_same, ?_, fun p2 hp2 => ?_⟩
      · rw [List.length_map, List.length_cons, List.length_cons]
        exact big (by show _ + 1 + 1 + 1 ≤ _; omega)
      · refine k p2 _ (s1.trans (s2.trans (same_new hp2))) (s1.free (s2.free hp2)) ?_
        rw [upd_same]
        unfold bookL
        simp [List.map_append]
theorem ok_bagLex {f : Addr} {fd : FuncData} (F : Fun K "_law_bag_lexemes" "_law_bag_lexemes" sBagLex f fd) : FnOk P w K mg base CX0 1 f fd ["_law_joints"] (spBagLex K) := by
  refine F.ok scBagLex (fun vs H Q E h => ?_) (fun cdv A outer s H vs Q E hr h => ?_)
  · obtain ⟨l, xs, js, rfl, _⟩ := h
    rfl
  · obtain ⟨l, xs, js, rfl, hl, hx, ln, k⟩ := h
    refine ⟨_, pss_cons (ps_set (i := 1) scBagLex.nd rfl (.inl rfl) (pe_lst (pa_cons pe_str (pa_cons pe_str pa_nil))))
      (pss_cons (ps_for PassesOwn.never rfl (pi_list (pv 0)) (pg_tup rfl (pgs_cons (pg_name (i := 2) scBagLex.nd rfl (.inl rfl)) (pgs_cons (pg_name (i := 3) scBagLex.nd rfl (.inl rfl)) pgs_nil)))
        (pss_one (ps_set (i := 1) scBagLex.nd rfl (.inl rfl) (pe_op op_cat (pv 1) (pe_lst (pa_cons pe_str (pa_cons (pv 2) (pa_cons (pv 3) (pa_cons pe_str pa_nil)))))))))
      (pss_one (ps_ret (pe_op op_cat (pv 1) (pe_lst (pa_cons pe_str pa_nil)))))), ?_⟩
    have one : ∀ {a : V}, [a].length ≤ sizeLine := fun {_} => (by show 1 ≤ sizeLine; decide)
    have big : ∀ {n : Nat}, n ≤ 100000 → n ≤ sizeLine := fun {n} h => Nat.le_trans h (by decide)
    have blA : ∀ (ls : List Jnt), ls.length ≤ 5 → (bodyOf (ls.map rowJ)).length ≤ 20 := fun ls hls => by
      have q := body_le (rs := ls.map rowJ) (b := 3) fun r hr => by
        obtain ⟨s, hs, rfl⟩ := List.mem_map.mp hr
        exact Nat.le_refl 3
      rw [List.length_map] at q
      omega
    refine ⟨(by show 2 ≤ sizeLine; decide), fun g hg => ?_⟩
    refine ⟨_, rfl, l, rfl, ⟨_, (same_new hg).seq hl⟩, for_list (K := K) (a := l) (xs := xs) (fun i σ H' => ∃ v2 v3 g, σ = [some (.ref l), some (.ref g), v2, v3] ∧ Same H H' ∧ H g = none ∧ H' g = some (.lst ((("bag" : Str) :: "{" :: bodyOf ((js.take i).map rowJ)).map V.str)))
      ⟨none, none, g, rfl, same_new hg, hg, upd_same⟩ (fun i σ H' _ ⟨_, _, _, _, q, _⟩ => q.seq hl) ?_ ?_⟩
    · rintro i x σ H1 hi ⟨v2, v3, g, rfl, s1, ng, eg⟩
      obtain ⟨sd, hsd, dqx⟩ := DqAll.get i hx hi
      obtain ⟨j, hj, rfl⟩ : ∃ j, js[i]? = some j ∧ sd = dJoint j := by
        rw [List.getElem?_map] at hsd
        cases e : js[i]? with
        | none =>
          rw [e] at hsd
          cases hsd
        | some b =>
          rw [e] at hsd
          exact ⟨b, rfl, (Option.some.inj hsd).symm⟩
      obtain ⟨r, rfl, hr2⟩ := joint_inv (Dq.same s1 dqx)
      have bl := blA (js.take i) (by rw [List.length_take]; omega)
      generalize hB : bodyOf ((js.take i).map rowJ) = bd at eg bl
      refine ⟨r, _, rfl, hr2, rfl, _, _, rfl, _, _, rfl, rfl, ?_⟩
      refine ⟨_, rfl, _, rfl, _, rfl, (by show 4 ≤ sizeLine; decide), fun p1 hp1 => ?_⟩
      have s2 := same_new (o := .lst [.str "joint", .str j.1, .str j.2, .str ";"]) hp1
      refine ⟨g, p1, _, _, rfl, rfl, s2 _ _ eg, upd_same, ?_, fun p2 hp2 => ?_⟩
      · rw [List.length_map, List.length_cons, List.length_cons]
        exact big (by show _ + 4 ≤ _; omega)
      · refine ⟨_, _, p2, rfl, s1.trans (s2.trans (same_new hp2)), s1.free (s2.free hp2), ?_⟩
        rw [upd_same, List.take_add_one, hj]
        show _ = some (HO.lst ((("bag" : Str) :: "{" :: bodyOf (((js.take i) ++ [j]).map rowJ)).map V.str))
        rw [List.map_append, bodyOf_app, hB, show [j].map rowJ = [rowJ j] from rfl, bodyOf_one]
        simp [rowJ, List.map_append]
    · rintro σ H1 ⟨v2, v3, g, rfl, s1, ng, eg⟩
      have lx : xs.length = js.length := by rw [hx.len, List.length_map]
      rw [lx, List.take_length] at eg
      have bl := blA js ln
      refine ⟨_, rfl, one, fun p1 hp1 => ?_⟩
      have s2 := same_new (o := .lst [.str "}"]) hp1
      refine ⟨g, p1, _, _, rfl, rfl, s2 _ _ eg, upd_same, ?_, fun p2 hp2 => ?_⟩
      · rw [List.length_map, List.length_cons, List.length_cons]
        exact big (by show _ + 1 + 1 + 1 ≤ _; omega)
      · refine k p2 _ (s1.trans (s2.trans (same_new hp2))) (s1.free (s2.free hp2)) ?_
        rw [upd_same]
        unfold bagL
        simp [List.map_append]
end
end Bc

namespace Bc
open PySem PySem.Spec PyProof.Rows L2
/-! ### spaced lexemes of any words -/
def startsWell (w : Str) : Bool := match codes w with | [] => true | c :: _ => !(inS sBlanks c)
theorem Lx_word {w : Str} {r : List Nat} {i : Nat} (g : goodTok w = true) (he : ext w r.head? = false) (hb : startsWell w = true) :
    Lx (codes w ++ r) i = ((kindOf w, codes w, i) :: (Lx r (i + (codes w).length)).1, (Lx r (i + (codes w).length)).2) := by
  have tk := tok_menu g he
  have q : (codes w ++ r).take (codes w).length = codes w := List.take_left
  have q2 : (codes w ++ r).drop (codes w).length = r := List.drop_left
  obtain ⟨c, t, ec⟩ : ∃ c t, codes w = c :: t := by
    cases e : codes w with
    | nil => exact absurd e (good_ne g)
    | cons c t => exact ⟨c, t, rfl⟩
  have hb' : inS sBlanks c = false := by
    unfold startsWell at hb
    rw [ec] at hb
    simpa using hb
  have e2 : codes w ++ r = c :: (t ++ r) := by rw [ec]; rfl
  rw [e2] at tk q q2 ⊢
  rw [Lx_tok hb' tk, q, q2]
theorem ext_blank (w : Str) {c : Nat} (hc : inS sBlanks c = true) : ext w (some c) = false := by
  have q : c ∈ sBlanks.cps.toList := of_decide_eq_true hc
  have all := List.all_eq_true.mp (show (sBlanks.cps.toList.all fun c => !(alnum c) && !(inS sDigits c)) = true by decide +kernel) c q
  simp only [Bool.and_eq_true, Bool.not_eq_true'] at all
  unfold ext
  dsimp only
  cases codes w with
  | nil => rfl
  | cons a t =>
    dsimp only
    rw [all.1, all.2]
    simp
def SpE : Str → List (Str × Str) → Prop
  | _, [] => True
  | last, (g, w) :: r => allBlank g = true ∧ (codes g = [] → ext last (codes w).head? = false) ∧ SpE w r
theorem lex_gen : ∀ (ps : List (Str × Str)) (last : Str) (tail : List Nat) (i : Nat), SpE last ps → (∀ p ∈ ps, goodTok p.2 = true ∧ startsWell p.2 = true) → tail.all (inS sBlanks) = true →
    (Lx (flatP ps ++ tail) i).2 = none ∧ (Lx (flatP ps ++ tail) i).1.map (fun t => (t.1, txtT t)) = ps.map fun p => (kindOf p.2, p.2)
  | [], _, tail, i, _, _, ht => by
    have e := Lx_gap tail [] i ht
    rw [List.append_nil, Lx_nil] at e
    have e2 : Lx (flatP [] ++ tail) i = ([], none) := e
    rw [e2]
    exact ⟨rfl, rfl⟩
  | (g, w) :: r, last, tail, i, ⟨h1, h2, h3⟩, hm, ht => by
    obtain ⟨gw, sw⟩ := hm (g, w) (List.mem_cons_self ..)
    have hr : ∀ p ∈ r, goodTok p.2 = true ∧ startsWell p.2 = true := fun p hp => hm p (List.mem_cons_of_mem _ hp)
    have hx : ext w (flatP r ++ tail).head? = false := by
      cases r with
      | nil =>
        show ext w ([] ++ tail).head? = false
        rw [List.nil_append]
        cases tail with
        | nil => rfl
        | cons b tl =>
          rw [List.all_cons, Bool.and_eq_true] at ht
          exact ext_blank w ht.1
      | cons p r' =>
        obtain ⟨g', w'⟩ := p
        obtain ⟨k1, k2, k3⟩ := h3
        show ext w (codes g' ++ (codes w' ++ flatP r') ++ tail).head? = false
        cases eg : codes g' with
        | nil =>
          have ne := good_ne (hr (g', w') (List.mem_cons_self ..)).1
          rw [List.nil_append, List.append_assoc]
          have q := k2 eg
          cases ew : codes w' with
          | nil => exact absurd ew ne
          | cons c t =>
            rw [ew] at q
            exact q
        | cons c t =>
          unfold allBlank at k1
          rw [eg, List.all_cons, Bool.and_eq_true] at k1
          exact ext_blank w k1.1
    have ih := fun j => lex_gen r w tail j h3 hr ht
    have e : flatP ((g, w) :: r) ++ tail = codes g ++ (codes w ++ (flatP r ++ tail)) := by
      show codes g ++ (codes w ++ flatP r) ++ tail = _
      simp only [List.append_assoc]
    rw [e, Lx_gap (codes g) _ i h1, Lx_word gw hx sw]
    obtain ⟨a, b⟩ := ih (i + (codes g).length + (codes w).length)
    refine ⟨a, ?_⟩
    rw [List.map_cons, List.map_cons, b]
    rfl
theorem lex_text {z g0 tl : Str} {ps : List (Str × Str)} (h0 : allBlank g0 = true) (h1 : allBlank tl = true) (e : codes z = codes g0 ++ (flatP ps ++ codes tl)) (hs : SpE "(" ps) (hg : ∀ p ∈ ps, goodTok p.2 = true ∧ startsWell p.2 = true) :
    (Lx (codes z) 0).2 = none ∧ (Lx (codes z) 0).1.map (fun t => (t.1, txtT t)) = ps.map fun p => (kindOf p.2, p.2) := by
  rw [e, Lx_gap (codes g0) _ 0 h0]
  exact lex_gen ps "(" (codes tl) _ hs hg h1
end Bc

namespace Bc
open PySem PySem.Spec PyProof.Rows L2
inductive GoesP : List Str → List (Str × Str) → List Str → Prop
  | nil (A : List Str) : GoesP A [] A
  | cons {B : List Str} {z : Str} {t : Str × Str} {l0 : List Str} {ts : List (Str × Str)} {A : List Str} : z ∈ tops → B.length ≤ 10 → firstOf z t.1 t.2 = some l0 → GoesP (B ++ l0.tail.reverse) ts A → GoesP (B ++ [z]) (t :: ts) A
theorem goes_of {toks : List Tok} : ∀ {A A' : List Str} {l : List (Str × Str)}, GoesP A l A' → toks.map (fun t => (t.1, txtT t)) = l → Goes A toks A' := by
  induction toks with
  | nil =>
    intro A A' l h e
    subst e
    cases h
    exact .nil _
  | cons t ts ih =>
    intro A A' l h e
    subst e
    cases h with
    | cons h1 h2 h3 h4 => exact .cons h1 h2 h3 (ih h4 rfl)
theorem GoesP.app {A B C : List Str} {l1 l2 : List (Str × Str)} (h : GoesP A l1 B) (g : GoesP B l2 C) : GoesP A (l1 ++ l2) C := by
  induction h with
  | nil => exact g
  | cons h1 h2 h3 _ ih => exact .cons h1 h2 h3 (ih g)
theorem GoesP.one {B : List Str} {z s x : Str} {l0 : List Str} (h1 : z ∈ tops) (h2 : B.length ≤ 10) (h3 : firstOf z s x = some l0) : GoesP (B ++ [z]) [(s, x)] (B ++ l0.tail.reverse) := .cons h1 h2 h3 (.nil _)
def pr (w : Str) : Str × Str := (kindOf w, w)
end Bc

namespace Bc
open PySem PySem.Spec PyProof.Rows L2
def jc : Str → List Str → List Nat
  | _, [] => []
  | last, w :: ws => codes (gapOf last w) ++ (codes w ++ jc w ws)
def gp : Str → List Str → List (Str × Str)
  | _, [] => []
  | last, w :: ws => (gapOf last w, w) :: gp w ws
theorem gp_flat : ∀ (ws : List Str) (last : Str), flatP (gp last ws) = jc last ws
  | [], _ => rfl
  | w :: ws, last => by
    show codes (gapOf last w) ++ (codes w ++ flatP (gp w ws)) = _
    rw [gp_flat ws w]
    rfl
theorem gp_snd : ∀ (ws : List Str) (last : Str), (gp last ws).map (·.2) = ws
  | [], _ => rfl
  | w :: ws, last => by
    show w :: (gp w ws).map (·.2) = _
    rw [gp_snd ws w]
theorem fold_jc : ∀ (ws : List Str) (t last : Str), codes (ws.foldl jStep (t, last)).1 = codes t ++ jc last ws
  | [], t, last => by
    show codes t = codes t ++ []
    rw [List.append_nil]
  | w :: ws, t, last => by
    show codes (ws.foldl jStep (t ++ gapOf last w ++ w, w)).1 = _
    rw [fold_jc ws, codes_app, codes_app]
    show _ = codes t ++ (codes (gapOf last w) ++ (codes w ++ jc w ws))
    simp only [List.append_assoc]
theorem joined_codes (ws : List Str) : codes (joinedT ws) = jc "(" ws ++ [10] := by
  unfold joinedT
  rw [codes_app, fold_jc]
  rfl
theorem gap_blank (a b : Str) : allBlank (gapOf a b) = true := by
  unfold gapOf
  split
  · rfl
  · split
    · rfl
    · split
      · decide +kernel
      · decide +kernel
theorem ext_open (h : Option Nat) : ext "(" h = false := by
  cases h with
  | none => rfl
  | some c =>
    unfold ext
    dsimp only
    rw [show codes "(" = [40] by decide +kernel]
    dsimp only
    rw [show inS sLetters 40 = false by decide +kernel, show inS sDigits 40 = false by decide +kernel]
    rfl
theorem in_closes {w : Str} (h : inV (.str w) (closes.map V.str) = true) : w ∈ closes := by
  unfold inV at h
  obtain ⟨y, hy, e⟩ := List.any_eq_true.mp h
  obtain ⟨x, hx, rfl⟩ := List.mem_map.mp hy
  have e2 : decide (V.str x = V.str w) = true := by
    first | exact e | simpa [eqV] using e
  rw [dec_str] at e2
  rw [← of_decide_eq_true e2]
  exact hx
theorem ext_close (a : Str) {w : Str} (h : w ∈ closes) : ext a (codes w).head? = false := by
  have all := List.all_eq_true.mp (show (closes.all fun w => match (codes w).head? with | none => true | some c => !(alnum c) && !(inS sDigits c)) = true by decide +kernel) w h
  cases e : (codes w).head? with
  | none => rfl
  | some c =>
    rw [e] at all
    simp only [Bool.and_eq_true, Bool.not_eq_true'] at all
    unfold ext
    dsimp only
    cases codes a with
    | nil => rfl
    | cons b t =>
      dsimp only
      rw [all.1, all.2]
      simp
theorem gp_spE : ∀ (ws : List Str) (last : Str), SpE last (gp last ws)
  | [], _ => trivial
  | w :: ws, last => by
    refine ⟨gap_blank _ _, fun e => ?_, gp_spE ws w⟩
    by_cases h1 : last = "("
    · rw [h1]
      exact ext_open _
    · by_cases h2 : inV (.str w) (closes.map V.str) = true
      · exact ext_close last (in_closes h2)
      · unfold gapOf at e
        rw [if_neg h1, if_neg h2] at e
        split at e
        · exact absurd e (by decide +kernel)
        · exact absurd e (by decide +kernel)
/-! the written text is the joined one -/
def plainW (w : Str) : Bool := !(decide (w = "(")) && (!(inV (.str w) (closes.map V.str)) && !(inV (.str w) (opens3.map V.str)))
theorem gap_plain {a b : Str} (ha : plainW a = true) (hb : plainW b = true) : gapOf a b = " " := by
  unfold plainW at ha hb
  simp only [Bool.and_eq_true, Bool.not_eq_true', decide_eq_false_iff_not] at ha hb
  unfold gapOf
  rw [if_neg ha.1, if_neg (by rw [hb.2.1]; decide), if_neg (by rw [ha.2.2]; decide)]
theorem gap_semi (a : Str) : gapOf a ";" = "" := by
  unfold gapOf
  split
  · rfl
  · rw [if_pos (by decide +kernel)]
theorem join_codes (sep : Str) : ∀ (xs : List Str) (x : Str), codes (Str.join sep (x :: xs)) = codes x ++ xs.flatMap fun y => codes sep ++ codes y
  | [], x => by
    show codes x = codes x ++ []
    rw [List.append_nil]
  | y :: xs, x => by
    show codes (x ++ sep ++ Str.join sep (y :: xs)) = _
    rw [codes_app, codes_app, join_codes sep xs y]
    simp [List.append_assoc]
theorem str_eq {a b : Str} (h : codes a = codes b) : a = b := by
  obtain ⟨x⟩ := a
  obtain ⟨y⟩ := b
  have e : x = y := Array.toList_inj.mp h
  rw [e]
end Bc

namespace Bc
open PySem PySem.Spec PyProof.Rows L2
/-! ### what the reading takes -/
theorem first_name (x : Str) : firstOf "NAME" "word" x = some (["NAME"] : List Str) := by
  unfold firstOf
  rw [show rulesOf "NAME" = ([["NAME"]] : List (List Str)) by decide +kernel, List.find?_cons]
  have e : toldB ((["NAME"] : List Str).headD "") "word" x = true := by
    unfold toldB
    rw [if_pos (by rfl)]
    rfl
  rw [e]
theorem first_first (x : Str) : firstOf "FIRST NAME" "word" x = some (["NAME", "FURTHER NAMES"] : List Str) := by
  unfold firstOf
  rw [show rulesOf "FIRST NAME" = ([["NAME", "FURTHER NAMES"], [")"]] : List (List Str)) by decide +kernel, List.find?_cons]
  have e : toldB ((["NAME", "FURTHER NAMES"] : List Str).headD "") "word" x = true := by
    unfold toldB
    rw [if_pos (by rfl)]
    rfl
  rw [e]
theorem pr_W {w : Str} (h : isW w = true) : pr w = (("word" : Str), w) := by
  unfold pr
  rw [isW_kind h]
theorem go_sign {B : List Str} {z x : Str} {l0 : List Str} (h1 : z ∈ tops) (h2 : B.length ≤ 10) (h3 : firstOf z (pr x).1 (pr x).2 = some l0) : GoesP (B ++ [z]) [pr x] (B ++ l0.tail.reverse) := GoesP.one h1 h2 h3
theorem go_name {B : List Str} {w : Str} (h : isW w = true) (hB : B.length ≤ 10) : GoesP (B ++ [("NAME" : Str)]) [pr w] B := by
  rw [pr_W h]
  have a := GoesP.one (B := B) (z := "NAME") (s := "word") (x := w) (by decide +kernel) hB (first_name w)
  rw [show (["NAME"] : List Str).tail.reverse = [] from rfl, List.append_nil] at a
  exact a
theorem go_further {B : List Str} (hB : B.length ≤ 8) : ∀ (bs : List Str), (∀ b ∈ bs, isW b = true) → GoesP (B ++ [("FURTHER NAMES" : Str)]) ((comR bs ++ [(")" : Str)]).map pr) B
  | [], _ => by
    have a := go_sign (B := B) (z := "FURTHER NAMES") (x := ")") (l0 := [")"]) (by decide +kernel) (by omega) (by decide +kernel)
    rw [show ([")"] : List Str).tail.reverse = [] from rfl, List.append_nil] at a
    exact a
  | b :: bs, h => by
    have a := go_sign (B := B) (z := "FURTHER NAMES") (x := ",") (l0 := [",", "NAME", "FURTHER NAMES"]) (by decide +kernel) (by omega) (by decide +kernel)
    have e : B ++ ([",", "NAME", "FURTHER NAMES"] : List Str).tail.reverse = (B ++ [("FURTHER NAMES" : Str)]) ++ [("NAME" : Str)] := by
      rw [List.append_assoc]
      rfl
    rw [e] at a
    have b1 := go_name (B := B ++ [("FURTHER NAMES" : Str)]) (h b (List.mem_cons_self ..)) (by rw [List.length_append]; show B.length + 1 ≤ 10; omega)
    have c := go_further hB bs fun x hx => h x (List.mem_cons_of_mem _ hx)
    exact a.app (b1.app c)
theorem go_list {B : List Str} (hB : B.length ≤ 8) {bs : List Str} (h : ∀ b ∈ bs, isW b = true) : GoesP (B ++ [("LIST" : Str)]) ((listL bs).map pr) B := by
  have a := go_sign (B := B) (z := "LIST") (x := "(") (l0 := ["(", "FIRST NAME"]) (by decide +kernel) (by omega) (by decide +kernel)
  cases bs with
  | nil =>
    have b := go_sign (B := B) (z := "FIRST NAME") (x := ")") (l0 := [")"]) (by decide +kernel) (by omega) (by decide +kernel)
    rw [show ([")"] : List Str).tail.reverse = [] from rfl, List.append_nil] at b
    exact a.app b
  | cons x r =>
    have hx := h x (List.mem_cons_self ..)
    have b := GoesP.one (B := B) (z := "FIRST NAME") (s := (pr x).1) (x := (pr x).2) (by decide +kernel) (by omega) (by rw [pr_W hx]; exact first_first x)
    have c := go_further hB r fun y hy => h y (List.mem_cons_of_mem _ hy)
    exact a.app (b.app c)
theorem go_shape {s : Shp} (o : OkShape s) : GoesP ["SHAPES"] ((rowS s ++ [(";" : Str)]).map pr) ["SHAPES"] := by
  have a := go_sign (B := []) (z := "SHAPES") (x := "shape") (l0 := ["shape", "NAME", "NAME", "LIST", ";", "SHAPES"]) (by decide +kernel) (by decide) (by decide +kernel)
  have b := go_name (B := ["SHAPES", ";", "LIST", "NAME"]) o.w (by decide)
  have c := go_name (B := ["SHAPES", ";", "LIST"]) o.st (by decide)
  have e := go_list (B := ["SHAPES", ";"]) (by decide) o.br
  have f := go_sign (B := ["SHAPES"]) (z := ";") (x := ";") (l0 := [";"]) (by decide +kernel) (by decide) (by decide +kernel)
  have q := a.app (b.app (c.app (e.app f)))
  rw [List.map_append]
  exact q
theorem go_shapes : ∀ (ss : List Shp), (∀ s ∈ ss, OkShape s) → GoesP ["SHAPES"] ((bodyOf (ss.map rowS)).map pr) ["SHAPES"]
  | [], _ => .nil _
  | s :: ss, h => by
    have c := (go_shape (h s (List.mem_cons_self ..))).app (go_shapes ss fun e he => h e (List.mem_cons_of_mem _ he))
    rw [← List.map_append] at c
    exact c
theorem go_book {ss : List Shp} (h : ∀ s ∈ ss, OkShape s) : GoesP ["BOOK"] ((bookL ss).map pr) [] := by
  have a := go_sign (B := []) (z := "BOOK") (x := "book") (l0 := ["book", "{", "SHAPES"]) (by decide +kernel) (by decide) (by decide +kernel)
  have b := go_sign (B := ["SHAPES"]) (z := "{") (x := "{") (l0 := ["{"]) (by decide +kernel) (by decide) (by decide +kernel)
  have c := go_sign (B := []) (z := "SHAPES") (x := "}") (l0 := ["}"]) (by decide +kernel) (by decide) (by decide +kernel)
  have q := a.app (b.app ((go_shapes ss h).app c))
  unfold bookL
  rw [List.map_cons, List.map_cons, List.map_append]
  exact q
theorem go_joint {j : Jnt} (h1 : isW j.1 = true) (h2 : isW j.2 = true) : GoesP ["JOINTS"] ((rowJ j ++ [(";" : Str)]).map pr) ["JOINTS"] := by
  have a := go_sign (B := []) (z := "JOINTS") (x := "joint") (l0 := ["joint", "NAME", "NAME", ";", "JOINTS"]) (by decide +kernel) (by decide) (by decide +kernel)
  have b := go_name (B := ["JOINTS", ";", "NAME"]) h1 (by decide)
  have c := go_name (B := ["JOINTS", ";"]) h2 (by decide)
  have f := go_sign (B := ["JOINTS"]) (z := ";") (x := ";") (l0 := [";"]) (by decide +kernel) (by decide) (by decide +kernel)
  exact a.app (b.app (c.app f))
theorem go_joints : ∀ (js : List Jnt), (∀ j ∈ js, isW j.1 = true ∧ isW j.2 = true) → GoesP ["JOINTS"] ((bodyOf (js.map rowJ)).map pr) ["JOINTS"]
  | [], _ => .nil _
  | j :: js, h => by
    have q := h j (List.mem_cons_self ..)
    have c := (go_joint q.1 q.2).app (go_joints js fun e he => h e (List.mem_cons_of_mem _ he))
    rw [← List.map_append] at c
    exact c
theorem go_bag {js : List Jnt} (h : ∀ j ∈ js, isW j.1 = true ∧ isW j.2 = true) : GoesP ["BAG"] ((bagL js).map pr) [] := by
  have a := go_sign (B := []) (z := "BAG") (x := "bag") (l0 := ["bag", "{", "JOINTS"]) (by decide +kernel) (by decide) (by decide +kernel)
  have b := go_sign (B := ["JOINTS"]) (z := "{") (x := "{") (l0 := ["{"]) (by decide +kernel) (by decide) (by decide +kernel)
  have c := go_sign (B := []) (z := "JOINTS") (x := "}") (l0 := ["}"]) (by decide +kernel) (by decide) (by decide +kernel)
  have q := a.app (b.app ((go_joints js h).app c))
  unfold bagL
  rw [List.map_cons, List.map_cons, List.map_append]
  exact q
end Bc

namespace Bc
open PySem PySem.Spec PyProof.Rows L2
/-! ### words and signs as lexemes -/
def tokB (w : Str) : Prop := isW w = true ∨ w ∈ signL
theorem sign_facts {w : Str} (h : w ∈ signL) : ∃ c, codes w = [c] ∧ goodTok w = true ∧ startsWell w = true ∧ inS sLetters c = false ∧ inS sDigits c = false ∧ alnum c = false ∧ c ≠ 94 := by
  have q := List.all_eq_true.mp (show (signL.all fun w => match codes w with | [c] => goodTok w && (startsWell w && (!(inS sLetters c) && (!(inS sDigits c) && (!(alnum c) && !(decide (c = 94)))))) | _ => false) = true by decide +kernel) w h
  match e : codes w, q with
  | [c], q =>
    simp only [Bool.and_eq_true, Bool.not_eq_true', decide_eq_false_iff_not] at q
    exact ⟨c, rfl, q.1, q.2.1, q.2.2.1, q.2.2.2.1, q.2.2.2.2.1, q.2.2.2.2.2⟩
theorem tok_good {w : Str} (h : tokB w) : goodTok w = true ∧ startsWell w = true := by
  rcases h with h | h
  · refine ⟨isW_good h, ?_⟩
    obtain ⟨c, t, e, h1, h2, h3⟩ := isW_cons h
    unfold startsWell
    rw [e]
    dsimp only
    rw [(letter_not h1).2.2.1]
    rfl
  · obtain ⟨c, _, a, b, _⟩ := sign_facts h
    exact ⟨a, b⟩
theorem tok_len {w : Str} (h : tokB w) : w.length ≤ 12 := by
  rcases h with h | h
  · exact isW_len h
  · exact of_decide_eq_true (List.all_eq_true.mp (show (signL.all fun w => decide (w.length ≤ 12)) = true by decide +kernel) w h)
theorem tok_94 {w : Str} (h : tokB w) : ∀ c ∈ codes w, c ≠ 94 := fun c hc => by
  rcases h with h | h
  · exact (alnum_facts (List.all_eq_true.mp (isW_all h) c hc)).2.2
  · obtain ⟨d, e, _, _, _, _, _, q⟩ := sign_facts h
    rw [e] at hc
    rw [List.mem_singleton.mp hc]
    exact q
theorem tw_none {p : Nat → Bool} {l : List Nat} (h : ∀ c ∈ l, p c = false) : l.takeWhile p = [] := by
  cases l with
  | nil => rfl
  | cons c t => rw [List.takeWhile_cons, h c (List.mem_cons_self ..), if_neg Bool.false_ne_true]
theorem strip_none {w : Str} (h : ∀ c ∈ codes w, c ≠ 94) : Txt.stripChars w "^" = w := by
  have g : ∀ c ∈ codes w, ("^" : Str).cps.contains c = false := fun c hc => by
    have q := h c hc
    rw [show ("^" : Str).cps = #[94] by decide +kernel]
    simpa using q
  unfold Txt.stripChars Txt.stripBy
  rw [if_pos ?_]
  unfold stripSame stripLo stripHi
  have e1 : w.cps.toList.takeWhile ("^" : Str).cps.contains = [] := tw_none g
  rw [if_pos rfl, if_pos rfl, e1]
  have e2 : ((w.cps.toList.drop ([] : List Nat).length).reverse.takeWhile ("^" : Str).cps.contains) = [] := tw_none fun c hc => g c (by
    have q : c ∈ w.cps.toList.drop 0 := List.mem_reverse.mp hc
    rw [List.drop_zero] at q
    exact q)
  rw [e2]
  simp
theorem tok_touch {a b : Str} (ha : tokB a) (hb : tokB b) (h : mayTouch a b = true) : ext a (codes b).head? = false := by
  rcases ha with ha | ha
  · obtain ⟨c, t, e, h1, h2, h3⟩ := isW_cons ha
    have ln := letter_not h1
    rcases hb with hb | hb
    · exfalso
      have aa := isW_all ha
      have ab := isW_all hb
      have al : Txt.isalnum (a ++ b) = true := by
        unfold Txt.isalnum
        rw [Bool.and_eq_true]
        refine ⟨decide_eq_true ?_, ?_⟩
        · rw [len_app, show a.length = (codes a).length from Array.length_toList.symm, e]
          show 0 < t.length + 1 + _
          omega
        · rw [← Array.all_toList, show (a ++ b : Str).cps.toList = codes a ++ codes b from codes_app a b, List.all_append, Bool.and_eq_true]
          exact ⟨List.all_eq_true.mpr fun x hx => (alnum_facts (List.all_eq_true.mp aa x hx)).1, List.all_eq_true.mpr fun x hx => (alnum_facts (List.all_eq_true.mp ab x hx)).1⟩
      have n0 : decide (a = "0") = false := decide_eq_false fun q => by
        rw [q, show codes "0" = [48] by decide +kernel] at e
        exact ln.2.2.2.2 (List.cons.inj e).1.symm
      have dg : Txt.isdigit a = false := by
        unfold Txt.isdigit
        rw [Bool.and_eq_false_iff]
        refine .inr ?_
        rw [← Array.all_toList, show a.cps.toList = codes a from rfl, e, List.all_cons]
        have q := in_all h1 (p := fun c => !(Unicode.isDigit c)) (by decide +kernel)
        rw [show Unicode.isDigit c = false by simpa using q]
        rfl
      unfold mayTouch at h
      rw [al, n0, dg] at h
      cases h
    · obtain ⟨d, e2, _, _, k1, k2, k3, _⟩ := sign_facts hb
      unfold ext
      rw [e2, e]
      dsimp only [List.head?_cons]
      rw [k3, ln.2.1]
      simp
  · obtain ⟨d, e2, _, _, k1, k2, k3, _⟩ := sign_facts ha
    unfold ext
    cases (codes b).head? with
    | none => rfl
    | some x =>
      rw [e2]
      dsimp only
      rw [k1, k2]
      simp
theorem spaced_SpE : ∀ (ps : List (Str × Str)) (last : Str), Spaced last ps → tokB last → (∀ p ∈ ps, tokB p.2) → SpE last ps
  | [], _, _, _, _ => trivial
  | (g, w) :: r, last, ⟨h1, h2, h3⟩, hl, hm => by
    have hw := hm (g, w) (List.mem_cons_self ..)
    exact ⟨h1, fun e => tok_touch hl hw (h2 e), spaced_SpE r w h3 hw fun p hp => hm p (List.mem_cons_of_mem _ hp)⟩
theorem lexOk_any {fm z g0 tl : Str} {ps : List (Str × Str)} {ws : List Str} (go : GoesP [fm] (ws.map pr) []) (tok : ∀ x ∈ ws, tokB x) (hm : ws.length ≤ 20000) (hz : z.length ≤ 20000) (h0 : allBlank g0 = true) (h1 : allBlank tl = true) (e : codes z = codes g0 ++ (flatP ps ++ codes tl)) (hs : SpE "(" ps) (hp : ps.map (·.2) = ws) : LexOk fm z ws := by
  have good : ∀ p ∈ ps, goodTok p.2 = true ∧ startsWell p.2 = true := fun p hp' => tok_good (tok p.2 (by
    rw [← hp]
    exact List.mem_map.mpr ⟨p, hp', rfl⟩))
  obtain ⟨a, b⟩ := lex_text h0 h1 e hs good
  have b2 : (Lx (codes z) 0).1.map (fun t => (t.1, txtT t)) = ws.map pr := by
    rw [b, ← hp, List.map_map]
    rfl
  have b3 : (Lx (codes z) 0).1.map txtT = ws := by
    have q := congrArg (List.map Prod.snd) b2
    rw [List.map_map, List.map_map] at q
    have q2 : ws.map (Prod.snd ∘ pr) = ws := by
      show ws.map (fun w => w) = _
      exact List.map_id' _
    rw [q2] at q
    exact q
  have nl : (Lx (codes z) 0).1.length = ws.length := by rw [← b3, List.length_map]
  exact ⟨hz, a, goes_of go b2, by omega, b3⟩
theorem joined_len : ∀ (ws : List Str) (last : Str), (∀ x ∈ ws, x.length ≤ 12) → (jc last ws).length ≤ 13 * ws.length
  | [], _, _ => Nat.le_refl _
  | w :: ws, last, h => by
    have q := joined_len ws w fun x hx => h x (List.mem_cons_of_mem _ hx)
    have g := gapOf_len last w
    have hw := h w (List.mem_cons_self ..)
    have c1 : (codes (gapOf last w)).length = (gapOf last w).length := Array.length_toList
    have c2 : (codes w).length = w.length := Array.length_toList
    show (codes (gapOf last w) ++ (codes w ++ jc w ws)).length ≤ _
    rw [List.length_append, List.length_append, List.length_cons, c1, c2]
    omega
theorem lexOk_joined {fm : Str} {ws : List Str} (go : GoesP [fm] (ws.map pr) []) (tok : ∀ x ∈ ws, tokB x) (hm : ws.length ≤ 1000) : LexOk fm (joinedT ws) ws := by
  refine lexOk_any (g0 := "") (tl := "\n") (ps := gp "(" ws) go tok (by omega) ?_ (by decide +kernel) (by decide +kernel) (by rw [joined_codes, gp_flat]; rfl) (gp_spE _ _) (gp_snd _ _)
  have e : (codes (joinedT ws)).length = (joinedT ws).length := Array.length_toList
  rw [← e, joined_codes, List.length_append]
  have q := joined_len ws "(" fun x hx => tok_len (tok x hx)
  show _ + 1 ≤ _
  omega
end Bc

namespace Bc
open PySem PySem.Spec PyProof.Rows L2
theorem plain_W {w : Str} (h : isW w = true) : plainW w = true := by
  unfold plainW
  rw [decide_eq_false (isW_ne h (by decide +kernel)), inV_strs, inV_strs]
  have q1 : w ∉ closes := fun m => by
    have q := List.all_eq_true.mp (show (closes.all fun x => !(isW x)) = true by decide +kernel) w m
    rw [h] at q
    cases q
  have q2 : w ∉ opens3 := fun m => by
    have q := List.all_eq_true.mp (show (opens3.all fun x => !(isW x)) = true by decide +kernel) w m
    rw [h] at q
    cases q
  rw [decide_eq_false q1, decide_eq_false q2]
  rfl
theorem gap_cl (a : Str) {c : Str} (h : c ∈ closes) : gapOf a c = "" := by
  unfold gapOf
  split
  · rfl
  · rw [if_pos (by rw [inV_strs]; exact decide_eq_true h)]
theorem gap_paren {a : Str} (h : isW a = true) : gapOf a "(" = " " := by
  have p := plain_W h
  unfold plainW at p
  simp only [Bool.and_eq_true, Bool.not_eq_true', decide_eq_false_iff_not] at p
  unfold gapOf
  rw [if_neg p.1, if_neg (by decide +kernel), if_neg (by rw [p.2.2]; decide)]
theorem gap_comma {x : Str} (h : isW x = true) : gapOf "," x = " " := by
  have p := plain_W h
  unfold plainW at p
  simp only [Bool.and_eq_true, Bool.not_eq_true', decide_eq_false_iff_not] at p
  unfold gapOf
  rw [if_neg (by decide +kernel), if_neg (by rw [p.2.1]; decide), if_neg (by decide +kernel)]
theorem jc_com : ∀ (r : List Str) (prev : Str) (rest : List Str), (∀ b ∈ r, isW b = true) → jc prev (comR r ++ ((")" : Str) :: rest)) = (r.flatMap fun y => codes ", " ++ codes y) ++ (41 :: jc ")" rest)
  | [], prev, rest, _ => by
    show codes (gapOf prev ")") ++ (codes ")" ++ jc ")" rest) = _
    rw [gap_cl prev (by decide)]
    rfl
  | b :: r, prev, rest, h => by
    show codes (gapOf prev ",") ++ (codes "," ++ (codes (gapOf "," b) ++ (codes b ++ jc b (comR r ++ ((")" : Str) :: rest))))) = _
    rw [gap_cl prev (by decide), gap_comma (h b (List.mem_cons_self ..)), jc_com r b rest fun x hx => h x (List.mem_cons_of_mem _ hx)]
    simp [show codes "" = [] from rfl, show codes "," = [44] from rfl, show codes " " = [32] from rfl, show codes ", " = [44, 32] from rfl, List.append_assoc]
theorem codes_list (bs : List Str) : codes (listT bs) = 40 :: ((match bs with | [] => [] | b :: r => codes b ++ r.flatMap fun y => codes ", " ++ codes y) ++ [41]) := by
  unfold listT
  rw [codes_app, codes_app, show Txt.join ", " bs = Str.join ", " bs from StrLaws.glued_eq_join _ _]
  cases bs with
  | nil => rfl
  | cons b r =>
    rw [join_codes]
    rfl
theorem jc_list {bs : List Str} (h : ∀ b ∈ bs, isW b = true) (rest : List Str) : codes "(" ++ jc "(" (commas bs ++ ((")" : Str) :: rest)) = codes (listT bs) ++ jc ")" rest := by
  rw [codes_list]
  cases bs with
  | nil =>
    show codes "(" ++ (codes (gapOf "(" ")") ++ (codes ")" ++ jc ")" rest)) = _
    rw [gap_cl "(" (by decide)]
    rfl
  | cons b r =>
    show codes "(" ++ (codes (gapOf "(" b) ++ (codes b ++ jc b (comR r ++ ((")" : Str) :: rest)))) = _
    rw [show gapOf "(" b = "" from if_pos rfl, jc_com r b rest fun x hx => h x (List.mem_cons_of_mem _ hx)]
    simp [show codes "(" = [40] from rfl, show codes "" = [] from rfl, List.append_assoc]
theorem jc_shape {s : Shp} (o : OkShape s) {last : Str} (hl : last = "{" ∨ last = ";") (rest : List Str) : jc last ((rowS s ++ [(";" : Str)]) ++ rest) = 10 :: (codes (shapeT s ++ ";") ++ jc ";" rest) := by
  have g : gapOf last "shape" = "\n" := by rcases hl with e | e <;> rw [e] <;> decide +kernel
  have e : (rowS s ++ [(";" : Str)]) ++ rest = ("shape" : Str) :: s.1 :: s.2.1 :: ("(" : Str) :: (commas s.2.2 ++ ((")" : Str) :: ((";" : Str) :: rest))) := by
    unfold rowS listL
    simp [List.append_assoc]
  rw [e]
  show codes (gapOf last "shape") ++ (codes "shape" ++ (codes (gapOf "shape" s.1) ++ (codes s.1 ++ (codes (gapOf s.1 s.2.1) ++ (codes s.2.1 ++ (codes (gapOf s.2.1 "(") ++ (codes "(" ++ jc "(" (commas s.2.2 ++ ((")" : Str) :: ((";" : Str) :: rest)))))))))) = _
  rw [jc_list o.br, g, gap_plain (by decide +kernel) (plain_W o.w), gap_plain (plain_W o.w) (plain_W o.st), gap_paren o.st]
  show _ ++ (_ ++ (_ ++ (_ ++ (_ ++ (_ ++ (_ ++ (_ ++ (codes (gapOf ")" ";") ++ (codes ";" ++ jc ";" rest))))))))) = _
  rw [gap_cl ")" (by decide)]
  unfold shapeT
  simp only [codes_app]
  simp [show codes "\n" = [10] from rfl, show codes " " = [32] from rfl, show codes "shape " = codes "shape" ++ [32] from rfl, show codes "" = [] from rfl, show codes Str.empty = [] from rfl, List.append_assoc]
theorem jc_joint {j : Jnt} (h1 : isW j.1 = true) (h2 : isW j.2 = true) {last : Str} (hl : last = "{" ∨ last = ";") (rest : List Str) : jc last ((rowJ j ++ [(";" : Str)]) ++ rest) = 10 :: (codes (jointT j ++ ";") ++ jc ";" rest) := by
  have g : gapOf last "joint" = "\n" := by rcases hl with e | e <;> rw [e] <;> decide +kernel
  show codes (gapOf last "joint") ++ (codes "joint" ++ (codes (gapOf "joint" j.1) ++ (codes j.1 ++ (codes (gapOf j.1 j.2) ++ (codes j.2 ++ (codes (gapOf j.2 ";") ++ (codes ";" ++ jc ";" rest))))))) = _
  rw [g, gap_plain (by decide +kernel) (plain_W h1), gap_plain (plain_W h1) (plain_W h2), gap_cl j.2 (by decide)]
  unfold jointT
  simp only [codes_app]
  simp [show codes "\n" = [10] from rfl, show codes " " = [32] from rfl, show codes "joint " = codes "joint" ++ [32] from rfl, show codes "" = [] from rfl, show codes Str.empty = [] from rfl, List.append_assoc]
theorem jc_rows {α : Type} {rw' : α → List Str} {tx : α → Str} {ok : α → Prop} (one : ∀ a, ok a → ∀ (last : Str), (last = "{" ∨ last = ";") → ∀ rest, jc last ((rw' a ++ [(";" : Str)]) ++ rest) = 10 :: (codes (tx a ++ ";") ++ jc ";" rest)) :
    ∀ (as : List α) (last : Str), (∀ a ∈ as, ok a) → (last = "{" ∨ last = ";") → jc last (bodyOf (as.map rw') ++ [("}" : Str)]) = (as.flatMap fun a => 10 :: codes (tx a ++ ";")) ++ (10 :: codes "}")
  | [], last, _, hl => by
    show codes (gapOf last "}") ++ (codes "}" ++ []) = _
    have g : gapOf last "}" = "\n" := by rcases hl with e | e <;> rw [e] <;> decide +kernel
    rw [g, List.append_nil]
    rfl
  | a :: as, last, h, hl => by
    show jc last (((rw' a ++ [(";" : Str)]) ++ bodyOf (as.map rw')) ++ [("}" : Str)]) = _
    rw [List.append_assoc, one a (h a (List.mem_cons_self ..)) last hl, jc_rows one as ";" (fun e he => h e (List.mem_cons_of_mem _ he)) (.inr rfl)]
    simp [List.append_assoc]
theorem rows_joined {α : Type} {rw' : α → List Str} {tx : α → Str} {ok : α → Prop} {hd : Str} (g1 : gapOf "(" hd = "") (g2 : gapOf hd "{" = " ") (one : ∀ a, ok a → ∀ (last : Str), (last = "{" ∨ last = ";") → ∀ rest, jc last ((rw' a ++ [(";" : Str)]) ++ rest) = 10 :: (codes (tx a ++ ";") ++ jc ";" rest))
    (as : List α) (h : ∀ a ∈ as, ok a) : rowsT hd (as.map tx) = joinedT (hd :: "{" :: (bodyOf (as.map rw') ++ [("}" : Str)])) := by
  refine str_eq ?_
  rw [joined_codes]
  unfold rowsT
  rw [codes_app, show Txt.join "\n" ((hd ++ " {" : Str) :: ((as.map tx).map (· ++ (";" : Str)) ++ [("}" : Str)])) = Str.join "\n" ((hd ++ " {" : Str) :: ((as.map tx).map (· ++ (";" : Str)) ++ [("}" : Str)])) from StrLaws.glued_eq_join _ _, join_codes]
  show _ = codes (gapOf "(" hd) ++ (codes hd ++ (codes (gapOf hd "{") ++ (codes "{" ++ jc "{" (bodyOf (as.map rw') ++ [("}" : Str)])))) ++ [10]
  rw [jc_rows one as "{" h (.inl rfl), g1, g2, codes_app]
  simp [List.append_assoc, List.flatMap_map, show codes "\n" = [10] from rfl, show codes " {" = [32, 123] from rfl, show codes " " = [32] from rfl, show codes "{" = [123] from rfl, show codes "" = [] from rfl]
theorem book_joined {ss : List Shp} (h : ∀ s ∈ ss, OkShape s) : bookT ss = joinedT (bookL ss) :=
  rows_joined (ok := OkShape) (by decide +kernel) (by decide +kernel) (fun s o last hl rest => jc_shape o hl rest) ss h
theorem bag_joined {js : List Jnt} (h : ∀ j ∈ js, isW j.1 = true ∧ isW j.2 = true) : bagT js = joinedT (bagL js) :=
  rows_joined (ok := fun j : Jnt => isW j.1 = true ∧ isW j.2 = true) (by decide +kernel) (by decide +kernel) (fun j o last hl rest => jc_joint o.1 o.2 hl rest) js h
/-! the lexemes are words and signs -/
theorem tokW {w : Str} (h : isW w = true) : tokB w := .inl h
theorem tokC {w : Str} (h : (isW w || decide (w ∈ signL)) = true) : tokB w := by
  rcases Bool.or_eq_true_iff.mp h with h | h
  · exact .inl h
  · exact .inr (of_decide_eq_true h)
theorem com_tok : ∀ (bs : List Str), (∀ b ∈ bs, isW b = true) → ∀ x ∈ comR bs, tokB x
  | [], _, x, hx => by cases hx
  | b :: bs, h, x, hx => by
    have hx : x ∈ (",": Str) :: b :: comR bs := hx
    rcases List.mem_cons.mp hx with e | hx
    · rw [e]
      exact tokC (by decide +kernel)
    rcases List.mem_cons.mp hx with e | hx
    · rw [e]
      exact tokW (h b (List.mem_cons_self ..))
    · exact com_tok bs (fun y hy => h y (List.mem_cons_of_mem _ hy)) x hx
theorem list_tok {bs : List Str} (h : ∀ b ∈ bs, isW b = true) : ∀ x ∈ listL bs, tokB x := fun x hx => by
  unfold listL at hx
  rcases List.mem_cons.mp hx with e | hx
  · rw [e]
    exact tokC (by decide +kernel)
  rcases List.mem_append.mp hx with hx | hx
  · cases bs with
    | nil => cases hx
    | cons b r =>
      have hx : x ∈ b :: comR r := hx
      rcases List.mem_cons.mp hx with e | hx
      · rw [e]
        exact tokW (h b (List.mem_cons_self ..))
      · exact com_tok r (fun y hy => h y (List.mem_cons_of_mem _ hy)) x hx
  · rw [List.mem_singleton.mp hx]
    exact tokC (by decide +kernel)
theorem rows_tok {rs : List (List Str)} {hd : Str} (h0 : tokB hd) (h : ∀ r ∈ rs, ∀ x ∈ r, tokB x) : ∀ x ∈ hd :: "{" :: (bodyOf rs ++ [("}" : Str)]), tokB x := fun x hx => by
  rcases List.mem_cons.mp hx with e | hx
  · rw [e]
    exact h0
  rcases List.mem_cons.mp hx with e | hx
  · rw [e]
    exact tokC (by decide +kernel)
  rcases List.mem_append.mp hx with hx | hx
  · unfold bodyOf at hx
    obtain ⟨r, hr, hx⟩ := List.mem_flatMap.mp hx
    rcases List.mem_append.mp hx with hx | hx
    · exact h r hr x hx
    · rw [List.mem_singleton.mp hx]
      exact tokC (by decide +kernel)
  · rw [List.mem_singleton.mp hx]
    exact tokC (by decide +kernel)
theorem book_tok {ss : List Shp} (h : ∀ s ∈ ss, OkShape s) : ∀ x ∈ bookL ss, tokB x := rows_tok (tokC (by decide +kernel)) fun r hr x hx => by
  obtain ⟨s, hs, rfl⟩ := List.mem_map.mp hr
  have o := h s hs
  have hx : x ∈ ("shape" : Str) :: s.1 :: s.2.1 :: listL s.2.2 := hx
  rcases List.mem_cons.mp hx with e | hx
  · rw [e]
    exact tokC (by decide +kernel)
  rcases List.mem_cons.mp hx with e | hx
  · rw [e]
    exact tokW o.w
  rcases List.mem_cons.mp hx with e | hx
  · rw [e]
    exact tokW o.st
  · exact list_tok o.br x hx
theorem bag_tok {js : List Jnt} (h : ∀ j ∈ js, isW j.1 = true ∧ isW j.2 = true) : ∀ x ∈ bagL js, tokB x := rows_tok (tokC (by decide +kernel)) fun r hr x hx => by
  obtain ⟨j, hj, rfl⟩ := List.mem_map.mp hr
  have hx : x ∈ [("joint" : Str), j.1, j.2] := hx
  rcases List.mem_cons.mp hx with e | hx
  · rw [e]
    exact tokC (by decide +kernel)
  rcases List.mem_cons.mp hx with e | hx
  · rw [e]
    exact tokW (h j hj).1
  · rw [List.mem_singleton.mp hx]
    exact tokW (h j hj).2
theorem book_len {ss : List Shp} (g : GoodShapes ss) : (bookL ss).length ≤ 101 := by
  have q := body_le (rs := ss.map rowS) (b := 13) fun r hr => by
    obtain ⟨s, hs, rfl⟩ := List.mem_map.mp hr
    have l4 := (g.all s hs).2
    have ll := listL_len s.2.2
    show (listL s.2.2).length + 1 + 1 + 1 ≤ 13
    omega
  rw [List.length_map] at q
  have ln := g.ln
  unfold bookL
  rw [List.length_cons, List.length_cons, List.length_append]
  have e1 : ([("}" : Str)]).length = 1 := rfl
  omega
theorem bag_len {js : List Jnt} (h : js.length ≤ 5) : (bagL js).length ≤ 23 := by
  have q := body_le (rs := js.map rowJ) (b := 3) fun r hr => by
    obtain ⟨s, hs, rfl⟩ := List.mem_map.mp hr
    exact Nat.le_refl 3
  rw [List.length_map] at q
  unfold bagL
  rw [List.length_cons, List.length_cons, List.length_append]
  have e1 : ([("}" : Str)]).length = 1 := rfl
  omega
end Bc

namespace Bc
open PySem PySem.Spec PyProof.Rows L2
/-! ### the law -/
abbrev nLaw : List Str := ["_law_script", "_law_source_here", "_law_turn", "_law_shapes_here", "_law_joints", "_law_book", "_law_bag", "_law_due", "_law_text", "_law_some", "_law_told"]
theorem scLaw : FnScope nLaw ["_law_script"] (defScope sLaw) := ⟨rfl, rfl, rfl, by decide +kernel, rfl, by decide +kernel, by decide +kernel⟩
def spLaw (K : PySem.W.Frag) : Sp := fun vs H Q _ => ∃ (a : Addr) (ns : List Int), vs = [.ref a] ∧ SqL K H a (ns.map V.int) ∧ ns.length ≤ 63 ∧ ∀ H', Q (.bl true) H'
structure Fns (P : Program) (w : World) (K : PySem.W.Frag) (mg : Str → Option Value) (base : Heap) (x : Str) (k : Nat) (ps : List Str) (sp : Sp) : Prop where
  ex : ∃ f fd, FnOk P w K mg base CX0 k f fd ps sp ∧ Binds K fd ps [] ∧ mg x = some (.ref f) ∧ PySem.W.keepIn K (.ref f) = true
structure Mts (P : Program) (w : World) (K : PySem.W.Frag) (mg : Str → Option Value) (base : Heap) (C : Addr) (x : Str) (k : Nat) (ps : List Str) (sp : Sp) : Prop where
  ex : ∃ f fd, FnOk P w K mg base CX0 k f fd ps sp ∧ Binds K fd ps [] ∧ Meth K C x f
structure OwnE (P : Program) (w : World) (K : PySem.W.Frag) (mg : Str → Option Value) (base : Heap) (C : Addr) (k : Nat) (R : Addr → Addr → Hp → Prop) : Prop where
  ex : ∃ f fd, FnOk P w K mg base CX0 k f fd ["self", "other"] (spEq R) ∧ Binds K fd ["self", "other"] [] ∧ PySem.W.findIn K (.ref C) "__eq__" = some (some (.ref f)) ∧ PySem.W.isFn K (.ref f) = true
  ne : PySem.W.findIn K (.ref C) "__ne__" = some (some (.builtin "object.__ne__"))
  ob : PySem.W.subIn K (.ref C) (.type "object") = some true
structure Mks (P : Program) (w : World) (K : PySem.W.Frag) (mg : Str → Option Value) (base : Heap) (C : Addr) (x : Str) (k : Nat) (ps : List Str) (sp : Sp) : Prop where
  ex : ∃ f fd, FnOk P w K mg base CX0 k f fd ps sp ∧ Binds K fd ps [] ∧ Mk K C f
  gl : mg x = some (.ref C)
theorem make_same {H : Hp} {a dx C : Addr} (hx : H a = none) (hdx : H dx = none) : Same H (upd (upd H dx (.own a)) a (.ins C dx [])) := fun b o e => by
  rw [upd_ne (ne_of_none e hx), upd_ne (ne_of_none e hdx)]
  exact e
theorem no_book : bookT [] = "book {\n}\n" := by decide +kernel
theorem no_bag : bagT [] = "bag {\n}\n" := by decide +kernel
theorem tok_okWord {w : Str} (h : tokB w) : okWord w = true := by
  unfold okWord
  rw [decide_eq_true (strip_none (tok_94 h)), decide_eq_true (Nat.le_trans (tok_len h) (by decide))]
  have q := good_ne (tok_good h).1
  cases e : codes w with
  | nil => exact absurd e q
  | cons a t => rfl
theorem tok_60 {ws : List Str} (h : ∀ x ∈ ws, tokB x) : ∀ x ∈ ws, x.length ≤ 60 ∧ Txt.stripChars x "^" = x := fun x hx => ⟨Nat.le_trans (tok_len (h x hx)) (by decide), strip_none (tok_94 (h x hx))⟩
section
variable {P : Program} {w : World} {K : PySem.W.Frag} {mg : Str → Option Value} {base : Heap} {CB CG : Addr}
theorem ok_law {f : Addr} {fd : FuncData} (F : Fun K "law" "law" sLaw f fd) (N : Nm mg) (cB : Cls K CB) (cG : Cls K CG)
    (nS : Fns P w K mg base "_law_source" 1 ["_law_script"] (spSource K)) (nD : Fns P w K mg base "_law_drawn_shapes" 4 ["_law_source_here"] (spDrawnS K)) (nE : Fns P w K mg base "_law_drawn_joints" 3 ["_law_source_here", "_law_shapes_here"] (spDrawnJ K))
    (nJ : Fns P w K mg base "_law_joined" 1 ["_law_signs"] (spJoined K)) (nG : Fns P w K mg base "_law_spaced" 3 ["_law_source_here", "_law_signs"] (spSpaced K)) (nX : Fns P w K mg base "_law_book_lexemes" 2 ["_law_shapes_here"] (spBookLex K)) (nY : Fns P w K mg base "_law_bag_lexemes" 1 ["_law_joints"] (spBagLex K))
    (nT : Fns P w K mg base "book_text" 2 ["book"] (spBookT K CB)) (nU : Fns P w K mg base "bag_text" 2 ["bag"] (spBagT K CB CG)) (nR : Fns P w K mg base "read_book" 6 ["text"] (spReadBook K CB)) (nQ : Fns P w K mg base "read_bag" 6 ["book", "text"] (spReadBag K CB CG))
    (mB : Mks P w K mg base CB "Book" 3 ["self", "shapes"] (spBookI K CB)) (mG : Mks P w K mg base CG "Bag" 3 ["self", "book", "joints"] (spBagI K CB CG))
    (hS : Mts P w K mg base CB "shapes" 1 ["self"] (spBookS K CB)) (hJ : Mts P w K mg base CG "joints" 1 ["self"] (spBagJ K CB CG)) (eB : OwnE P w K mg base CB 2 (rBookEq K CB)) (eG : OwnE P w K mg base CG 3 (rBagEq K CB CG)) :
    FnOk P w K mg base CX0 7 f fd ["_law_script"] (spLaw K) := by
  obtain ⟨_, _, GS, bS, gS, kS⟩ := nS.ex
  obtain ⟨_, _, GD, bD, gD, kD⟩ := nD.ex
  obtain ⟨_, _, GE, bE, gE, kE⟩ := nE.ex
  obtain ⟨_, _, GJ, bJ, gJ, kJ⟩ := nJ.ex
  obtain ⟨_, _, GG, bG, gG, kG⟩ := nG.ex
  obtain ⟨_, _, GX, bX, gX, kX⟩ := nX.ex
  obtain ⟨_, _, GY, bY, gY, kY⟩ := nY.ex
  obtain ⟨_, _, GT, bT, gT, kT⟩ := nT.ex
  obtain ⟨_, _, GU, bU, gU, kU⟩ := nU.ex
  obtain ⟨_, _, GR, bR, gR, kR⟩ := nR.ex
  obtain ⟨_, _, GQ, bQ, gQ, kQ⟩ := nQ.ex
  obtain ⟨_, _, IB, iB, MB⟩ := mB.ex
  obtain ⟨_, _, IG, iG, MG⟩ := mG.ex
  obtain ⟨_, _, AS, aS, sS⟩ := hS.ex
  obtain ⟨_, _, AJ, aJ, sJ⟩ := hJ.ex
  obtain ⟨_, _, QB, qB, fB, vB⟩ := eB.ex
  obtain ⟨_, _, QG, qG, fG, vG⟩ := eG.ex
  refine F.ok scLaw (fun vs H Q E h => ?_) (fun cdv A outer s H vs Q E hr h => ?_)
  · obtain ⟨a, ns, rfl, _⟩ := h
    rfl
  · obtain ⟨a, ns, rfl, hS, hlen, k⟩ := h
    have hu := hr.units
    have hr1 : Room 1 _ := hr.mono (by decide)
    have hr2 : Room 2 _ := hr.mono (by decide)
    have hr3 : Room 3 _ := hr.mono (by decide)
    have hr4 : Room 4 _ := hr.mono (by decide)
    have hr6 : Room 6 _ := hr.mono (by decide)
    refine ⟨_, pss_cons (ps_set (i := 1) scLaw.nd rfl (.inl rfl) (pe_call GS hr1 (by rfl) gS kS bS .nil pass0 (pa_cons (pv 0) pa_nil)))
      (pss_cons (ps_if (PW.pt (pw_or (pt_cmpR op_ne (pe_call GT hr2 (by rfl) gT kT bT .nil pass0 (pa_cons (pe_make MB IB hr4 (by rfl) mB.gl iB .nil pass0 (pa_cons (pe_lst pa_nil) pa_nil)) pa_nil)) pe_str (nomark _))
          (pw_or1 (pt_cmpR op_ne (pe_call GU hr2 (by rfl) gU kU bU .nil pass0 (pa_cons (pe_make MG IG hr4 (by rfl) mG.gl iG .nil pass0 (pa_cons (pe_make MB IB hr4 (by rfl) mB.gl iB .nil pass0 (pa_cons (pe_lst pa_nil) pa_nil)) (pa_cons (pe_lst pa_nil) pa_nil))) pa_nil)) pe_str (nomark _))))) (pss_one (ps_ret pe_bl)) pss_nil)
      (pss_cons (ps_for PassesOwn.never rfl (pi_range1 (by rfl) N.rng (pa_cons pe_int pa_nil)) (pg_name (i := 2) scLaw.nd rfl (.inl rfl))
        (pss_cons (ps_set (i := 3) scLaw.nd rfl (.inl rfl) (pe_call GD hr4 (by rfl) gD kD bD .nil pass0 (pa_cons (pv 1) pa_nil)))
        (pss_cons (ps_par (i := 4) (j := 5) rfl scLaw.nd rfl rfl (by decide) rfl rfl (pa_cons (pe_call GE hr3 (by rfl) gE kE bE .nil pass0 (pa_cons (pv 1) (pa_cons (pv 3) pa_nil))) (pa_cons (pe_make MB IB hr4 (by rfl) mB.gl iB .nil pass0 (pa_cons (pv 3) pa_nil)) pa_nil)) rfl)
        (pss_cons (ps_par (i := 6) (j := 7) rfl scLaw.nd rfl rfl (by decide) rfl rfl (pa_cons (pe_make MG IG hr4 (by rfl) mG.gl iG .nil pass0 (pa_cons (pv 5) (pa_cons (pv 4) pa_nil))) (pa_cons (pe_call GX hr2 (by rfl) gX kX bX .nil pass0 (pa_cons (pv 3) pa_nil)) pa_nil)) rfl)
        (pss_cons (ps_set (i := 8) scLaw.nd rfl (.inl rfl) (pe_call GT hr2 (by rfl) gT kT bT .nil pass0 (pa_cons (pv 5) pa_nil)))
        (pss_cons (ps_if (pt_cmpR op_ne (pv 8) (pe_call GJ hr1 (by rfl) gJ kJ bJ .nil pass0 (pa_cons (pv 7) pa_nil)) (nomark _)) (pss_one (ps_ret pe_bl)) pss_nil)
        (pss_cons (ps_for PassesOwn.never rfl (pi_list (pe_lst (pa_cons (pv 8) (pa_cons (pe_call GG hr3 (by rfl) gG kG bG .nil pass0 (pa_cons (pv 1) (pa_cons (pv 7) pa_nil))) (pa_cons (pe_call GG hr3 (by rfl) gG kG bG .nil pass0 (pa_cons (pv 1) (pa_cons (pv 7) pa_nil))) pa_nil))))) (pg_name (i := 9) scLaw.nd rfl (.inl rfl))
          (pss_cons (ps_set (i := 10) scLaw.nd rfl (.inl rfl) (pe_call GR hr6 (by rfl) gR kR bR .nil pass0 (pa_cons (pv 9) pa_nil)))
          (pss_one (ps_if (PW.pt (pw_or (pt_cmpR (op_neG QB eB.ne eB.ob fB vB qB hr3) (pv 10) (pv 5) (nomark _)) (pw_or (pt_cmpR (op_neD hu) (pe_meth0 (pv 10) cB sS AS hr1 aS .nil pass0) (pv 3) (nomark _))
            (pw_or1 (pt_cmpR op_ne (pe_call GT hr2 (by rfl) gT kT bT .nil pass0 (pa_cons (pv 10) pa_nil)) (pv 8) (nomark _)))))) (pss_one (ps_ret pe_bl)) pss_nil))))
        (pss_cons (ps_set (i := 7) scLaw.nd rfl (.inl rfl) (pe_call GY hr1 (by rfl) gY kY bY .nil pass0 (pa_cons (pv 4) pa_nil)))
        (pss_cons (ps_set (i := 8) scLaw.nd rfl (.inl rfl) (pe_call GU hr2 (by rfl) gU kU bU .nil pass0 (pa_cons (pv 6) pa_nil)))
        (pss_cons (ps_if (pt_cmpR op_ne (pv 8) (pe_call GJ hr1 (by rfl) gJ kJ bJ .nil pass0 (pa_cons (pv 7) pa_nil)) (nomark _)) (pss_one (ps_ret pe_bl)) pss_nil)
        (pss_one (ps_for PassesOwn.never rfl (pi_list (pe_lst (pa_cons (pv 8) (pa_cons (pe_call GG hr3 (by rfl) gG kG bG .nil pass0 (pa_cons (pv 1) (pa_cons (pv 7) pa_nil))) (pa_cons (pe_call GG hr3 (by rfl) gG kG bG .nil pass0 (pa_cons (pv 1) (pa_cons (pv 7) pa_nil))) pa_nil))))) (pg_name (i := 9) scLaw.nd rfl (.inl rfl))
          (pss_cons (ps_set (i := 10) scLaw.nd rfl (.inl rfl) (pe_call GQ hr6 (by rfl) gQ kQ bQ .nil pass0 (pa_cons (pe_make MB IB hr4 (by rfl) mB.gl iB .nil pass0 (pa_cons (pv 3) pa_nil)) (pa_cons (pv 9) pa_nil))))
          (pss_one (ps_if (PW.pt (pw_or (pt_cmpR (op_neG QG eG.ne eG.ob fG vG qG hr4) (pv 10) (pv 6) (nomark _)) (pw_or (pt_cmpR (op_neD hu) (pe_meth0 (pv 10) cG sJ AJ hr1 aJ .nil pass0) (pv 4) (nomark _))
            (pw_or1 (pt_cmpR op_ne (pe_call GU hr2 (by rfl) gU kU bU .nil pass0 (pa_cons (pv 10) pa_nil)) (pv 8) (nomark _)))))) (pss_one (ps_ret pe_bl)) pss_nil)))))))))))))))
      (pss_one (ps_ret pe_bl)))), ?_⟩
    have three : ∀ {a b c : V}, [a, b, c].length ≤ sizeLine := fun {_ _ _} => (by show 3 ≤ sizeLine; decide)
    have ok0 : OkBook [] := ⟨(fun s h => by cases h), List.nodup_nil, by decide⟩
    have okB0 : OkBag (wordsS []) [] := ⟨(fun s h => by cases h), (fun s h => by cases h), List.nodup_nil, by decide⟩
    refine ⟨_, rfl, a, ns, rfl, hS, by omega, fun d c H1 _ _ _ src1 => ?_⟩
    -- nothing at all
    refine ⟨Nat.zero_le _, fun p hp => fun b0 dx0 hx0 hdx0 _ => ⟨b0, dx0, p, [], [], rfl, upd_same, .inl (.inl ((make_same hx0 hdx0) _ _ upd_same)), .nil, ok0, fun q H2 h2 nq eb eq => ⟨rfl, b0, [], rfl, ⟨dx0, q, [], eb, eq, .nil⟩, ok0, (fun s h => by cases h), fun H3 s3 => ⟨rfl, _, rfl, ?_⟩⟩⟩⟩
    have sB : Same H1 H2 := fun x o e => by
      have e1 := (same_new (o := .lst []) hp) _ _ e
      exact h2 x o (ne_of_none e1 hx0) ((make_same hx0 hdx0) _ _ e1)
    refine if_no (by rw [no_book, decide_eq_true rfl]; rfl) ?_
    refine ⟨Nat.zero_le _, fun p' hp' => fun b1 dx1 hx1 hdx1 _ => ⟨b1, dx1, p', [], [], rfl, upd_same, .inl (.inl ((make_same hx1 hdx1) _ _ upd_same)), .nil, ok0, fun q1 H4 h4 nq1 eb1 eq1 => ⟨rfl, Nat.zero_le _, fun p2 hp2 => fun g0 dg hxg hdg _ => ⟨g0, dg, b1, p2, [], [], [], rfl, upd_same, ?_, by decide, .inl (.inl ((make_same hxg hdg) _ _ upd_same)), .nil, okB0, fun q2 H5 h5 nq2 eg2 eq2 => ⟨rfl, g0, [], [], rfl, ⟨dg, b1, q2, eg2, ?_, eq2⟩, okB0, fun H6 s6 => ⟨rfl, _, rfl, ?_⟩⟩⟩⟩⟩⟩
    · exact (show BookAt K H4 CB b1 [] from ⟨dx1, q1, [], eb1, eq1, .nil⟩).same ((same_new hp2).trans (make_same hxg hdg))
    · have bk : BookAt K H4 CB b1 [] := ⟨dx1, q1, [], eb1, eq1, .nil⟩
      refine bk.same fun x o e => ?_
      have e1 := (same_new (o := .lst []) hp2) _ _ e
      exact h5 x o (ne_of_none e1 hxg) ((make_same hxg hdg) _ _ e1)
    have sX : Same H3 H4 := fun x o e => by
      have e1 := (same_new (o := .lst []) hp') _ _ e
      exact h4 x o (ne_of_none e1 hx1) ((make_same hx1 hdx1) _ _ e1)
    have sY : Same H4 H5 := fun x o e => by
      have e1 := (same_new (o := .lst []) hp2) _ _ e
      exact h5 x o (ne_of_none e1 hxg) ((make_same hxg hdg) _ _ e1)
    have sC : Same H3 H6 := sX.trans (sY.trans s6)
    refine if_no (by rw [no_bag, decide_eq_true rfl]; rfl) ?_
    have src6 : SrcAt H6 d c := src1.up (sB.trans (s3.trans sC))
    clear sB sC sX sY h2 h4 h5
    refine ⟨4, rfl, by decide, by decide, for_range (lo := 0) (n := 4) (fun i σ H' => (∃ v2 v3 v4 v5 v6 v7 v8 v9 v10, σ = [some (.ref a), some (.ref d), v2, v3, v4, v5, v6, v7, v8, v9, v10]) ∧ SrcAt H' d c) ⟨⟨_, _, _, _, _, _, _, _, _, rfl⟩, src6⟩ ?_ ?_⟩
    · rintro i σ H2 hi ⟨⟨v2, v3, v4, v5, v6, v7, v8, v9, v10, rfl⟩, src2⟩
      refine ⟨_, rfl, d, c, rfl, src2, fun L xs ss H3 src3 s3 nL eL dx gs => ?_⟩
      refine ⟨_, rfl, _, rfl, d, c, L, xs, ss, rfl, src3, .inl (.inl eL), dx, gs, fun J ys js H4 src4 s4 nJ eJ dj gj => ?_⟩
      have eL4 := s4 _ _ eL
      have dx4 := DqAll.same s4 dx
      refine ⟨_, rfl, fun b dxb hxb hdxb _ => ⟨b, dxb, L, xs, ss, rfl, upd_same, (make_same hxb hdxb).seq (.inl (.inl (hid_get eL4).2.2)), DqAll.same (hid_all.trans (make_same hxb hdxb)) dx4, gs.book, fun p1 H5 h5 np1 eb ep1 => ⟨rfl, _, _, rfl, ?_⟩⟩⟩
      have s5 : Same H4 H5 := fun x o e => h5 x o (ne_of_none e hxb) ((make_same hxb hdxb) _ _ e)
      have nb := src_ne src4 hxb
      have np := src_ne src4 ((make_same hxb hdxb).free np1)
      have src5 := src4.up s5
      have u5 := hid_up (d := d) (c := c) s5
      have eL5 := u5 _ _ eL4
      have eJ5 := u5 _ _ eJ
      have dx5 := DqAll.same u5 dx4
      have dj5 := DqAll.same u5 dj
      have bk5 : BookAt K (hid d c H5) CB b ss := ⟨dxb, p1, xs, hid_put nb.1 nb.2 eb, hid_put np.1 np.2 ep1, dx5⟩
      clear h5 s5 u5 eL4 eJ dx4 dj eb ep1 np1
      refine ⟨_, rfl, _, rfl, fun g dg hxg hdg _ => ⟨g, dg, b, J, ys, ss, js, rfl, upd_same, (bk5.same hid_all).same (make_same hxg hdg), gs.book.ln, (make_same hxg hdg).seq (.inl (.inl (hid_get eJ5).2.2)), DqAll.same (hid_all.trans (make_same hxg hdg)) dj5, gj.bag, fun p2 H6 h6 np2 eg ep2 => ⟨rfl, ?_⟩⟩⟩
      have s6 : Same H5 H6 := fun x o e => h6 x o (ne_of_none e hxg) ((make_same hxg hdg) _ _ e)
      have ng := src_ne src5 hxg
      have nq := src_ne src5 ((make_same hxg hdg).free np2)
      have src6 := src5.up s6
      have u6 := hid_up (d := d) (c := c) s6
      have eL6 := u6 _ _ eL5
      have eJ6 := u6 _ _ eJ5
      have dx6 := DqAll.same u6 dx5
      have dj6 := DqAll.same u6 dj5
      have bk6 := bk5.same u6
      have bg6 : BagAt K (hid d c H6) CB CG g ss js := ⟨dg, b, p2, hid_put ng.1 ng.2 eg, bk6, hid_put nq.1 nq.2 ep2⟩
      clear h6 s6 u6 eL5 eJ5 dx5 dj5 eg ep2 np2 bk5
      refine ⟨_, rfl, L, xs, ss, rfl, .inl (.inl (hid_get eL6).2.2), DqAll.same hid_all dx6, gs, fun X H7 s7 nX eX => ⟨_, _, rfl, ?_⟩⟩
      have nX' := src_ne src6 nX
      have src7 := src6.up s7
      have u7 := hid_up (d := d) (c := c) s7
      have eL7 := u7 _ _ eL6
      have eJ7 := u7 _ _ eJ6
      have dx7 := DqAll.same u7 dx6
      have dj7 := DqAll.same u7 dj6
      have bk7 := bk6.same u7
      have bg7 := bg6.same u7
      have eX7 : hid d c H7 X = some (.lst ((bookL ss).map V.str)) := hid_put nX'.1 nX'.2 eX
      clear s7 u7 eL6 eJ6 dx6 dj6 bk6 bg6 eX nX
      have all := gs.book.all
      have l30 : ∀ s ∈ ss, s.2.2.length ≤ 30 := fun s hs => Nat.le_trans (gs.all s hs).2 (by decide)
      have ej := book_joined all
      have bt := book_tok all
      have bl := book_len gs
      have shp := shapes_shaped all
      have lay := SeqAt.canLay_of_shaped shp
      refine ⟨_, rfl, b, ss, rfl, bk7.same hid_all, gs.book, l30, fun H8 s8 => ?_⟩
      have src8 := src7.up s8
      have u8 := hid_up (d := d) (c := c) s8
      refine ⟨_, rfl, _, rfl, X, bookL ss, rfl, .inl (.inl (hid_get (u8 _ _ eX7)).2.2), by omega, tok_60 bt, fun H9 s9 => ⟨rfl, _, rfl, ?_⟩⟩
      refine if_no (by rw [ej, decide_eq_true rfl]; rfl) ?_
      have src9 := src8.up s9
      have u9 := u8.trans (hid_up (d := d) (c := c) s9)
      have eL9 := u9 _ _ eL7
      have eJ9 := u9 _ _ eJ7
      have dx9 := DqAll.same u9 dx7
      have dj9 := DqAll.same u9 dj7
      have bk9 := bk7.same u9
      have bg9 := bg7.same u9
      have eX9 := u9 _ _ eX7
      clear s8 s9 u8 u9 eL7 eJ7 dx7 dj7 bk7 bg7 eX7
      have lexS : ∀ {z g0 tl : Str} {ps : List (Str × Str)}, allBlank g0 = true → allBlank tl = true → codes z = codes g0 ++ (flatP ps ++ codes tl) → Spaced "(" ps → ps.map (·.2) = bookL ss → z.length ≤ 6000 → LexOk "BOOK" z (bookL ss) := fun {z g0 tl ps} b0 b1 e hs hp hz =>
        lexOk_any (go_book all) bt (by omega) (by omega) b0 b1 e (spaced_SpE ps "(" hs (tokC (by decide +kernel)) fun p hp' => bt _ (by rw [← hp]; exact List.mem_map.mpr ⟨p, hp', rfl⟩)) hp
      refine ⟨_, rfl, _, rfl, _, rfl, d, c, X, bookL ss, rfl, src9, .inl (.inl eX9), by omega, fun x hx => tok_okWord (bt x hx), fun z1 g1 t1 ps1 HA a1 a2 a3 a4 a5 a6 srcA sHA => ?_⟩
      refine ⟨_, rfl, _, rfl, d, c, X, bookL ss, rfl, srcA, .inl (.inl (sHA _ _ eX9)), by omega, fun x hx => tok_okWord (bt x hx), fun z2 g2 t2 ps2 HB b1 b2 b3 b4 b5 b6 srcB sHB => ?_⟩
      refine ⟨three, fun S hS => ?_⟩
      have lx0 : LexOk "BOOK" (bookT ss) (bookL ss) := by
        rw [ej]
        exact lexOk_joined (go_book all) bt (by omega)
      have lx1 := lexS a1 a2 a3 a4 a5 a6
      have lx2 := lexS b1 b2 b3 b4 b5 b6
      have all3 : ∀ x ∈ ([.str (bookT ss), .str z1, .str z2] : List V), ∃ z, x = .str z ∧ LexOk "BOOK" z (bookL ss) := fun x hx => by
        rcases List.mem_cons.mp hx with e | hx
        · exact ⟨_, e, lx0⟩
        rcases List.mem_cons.mp hx with e | hx
        · exact ⟨_, e, lx1⟩
        · exact ⟨_, List.mem_singleton.mp hx, lx2⟩
      have srcL := srcB.up (same_new (o := .lst [.str (bookT ss), .str z1, .str z2]) hS)
      have uL := (sHA.trans sHB).trans (hid_up (d := d) (c := c) (same_new (o := .lst [.str (bookT ss), .str z1, .str z2]) hS))
      have eS : (upd HB S (.lst [.str (bookT ss), .str z1, .str z2])) S = some (.lst [.str (bookT ss), .str z1, .str z2]) := upd_same
      have eLL := uL _ _ eL9
      have eJL := uL _ _ eJ9
      have dxL := DqAll.same uL dx9
      have djL := DqAll.same uL dj9
      have bkL := bk9.same uL
      have bgL := bg9.same uL
      clear uL eL9 eJ9 dx9 dj9 bk9 bg9 eX9 lx0 lx1 lx2 lexS a1 a2 a3 a4 a5 a6 b1 b2 b3 b4 b5 b6
      generalize upd HB S (.lst [.str (bookT ss), .str z1, .str z2]) = HL at srcL eS eLL eJL dxL djL bkL bgL ⊢
      generalize ([.str (bookT ss), .str z1, .str z2] : List V) = xs3 at all3 eS ⊢
      refine ⟨S, rfl, ⟨_, .inl (.inl eS)⟩, for_list (K := K) (a := S) (xs := xs3) (fun i σ H' => (∃ v2 v9 v10, σ = [some (.ref a), some (.ref d), v2, some (.ref L), some (.ref J), some (.ref b), some (.ref g), some (.ref X), some (.str (bookT ss)), v9, v10]) ∧ Same HL H') ⟨⟨_, _, _, rfl⟩, Same.refl _⟩ (fun i σ H' _ h => h.2.seq (.inl (.inl eS))) ?_ ?_⟩
      · rintro j x σ HC hj ⟨⟨w2, w9, w10, rfl⟩, sHC⟩
        obtain ⟨z, rfl, lxz⟩ := all3 x (List.mem_of_getElem? hj)
        refine ⟨_, rfl, z, ss, rfl, lxz, gs.book, fun t HF sHF nt bkF => ?_⟩
        have bkA : BookAt K HF CB b ss := (bkL.same hid_all).same (sHC.trans sHF)
        obtain ⟨dt, dt1, xt, et, _, _⟩ := id bkF
        obtain ⟨da, da1, xa, ea, _, _⟩ := id bkA
        refine ⟨_, rfl, _, rfl, ⟨t, b, dt, da, _, _, rfl, rfl, et, ea, ss, gs.book, bkF, bkA⟩, fun HG sHG => ⟨_, rfl, ?_⟩⟩
        refine if_no rfl ?_
        have sHG : Same HF HG := sHG
        refine ⟨_, rfl, t, dt, _, rfl, sHG _ _ et, rfl, t, ss, rfl, bkF.same sHG, fun q xq HI sHI nq eq dq => ?_⟩
        have sI := sHC.trans (sHF.trans (sHG.trans sHI))
        refine ⟨_, rfl, .list (ss.map dShape), .list (ss.map dShape), .lst (.inl (.inl eq)) (DqAll.dp dq lay), .lst (.inl (.inl (sI _ _ (hid_get eLL).2.2))) (DqAll.dp (DqAll.same (hid_all.trans sI) dxL) lay), shp, shp, _, rfl, ?_⟩
        refine if_no (by rw [SeqAt.eqv_refl _ lay]; rfl) ?_
        refine ⟨_, rfl, t, ss, rfl, bkF.same (sHG.trans sHI), gs.book, l30, fun HM sHM => ⟨_, rfl, rfl, _, rfl, ?_⟩⟩
        refine if_no (by rw [decide_eq_true rfl]; rfl) ?_
        exact ⟨⟨_, _, _, rfl⟩, sI.trans sHM⟩
      · rintro σ HC ⟨⟨w2, w9, w10, rfl⟩, sHC⟩
        have srcC := srcL.up sHC
        have uC := hid_up (d := d) (c := c) sHC
        have eLC := uC _ _ eLL
        have eJC := uC _ _ eJL
        have dxC := DqAll.same uC dxL
        have djC := DqAll.same uC djL
        have bkC := bkL.same uC
        have bgC := bgL.same uC
        clear uC sHC eLL eJL dxL djL bkL bgL srcL eS all3 lay shp bl bt ej
        have jall : ∀ j ∈ js, isW j.1 = true ∧ isW j.2 = true := fun j hj => ⟨(gj.name j hj).1, (gj.word j hj).1⟩
        have ej := bag_joined jall
        have bt := bag_tok jall
        have bl := bag_len gj.ln
        have shp := joints_shaped jall
        have lay := SeqAt.canLay_of_shaped shp
        refine ⟨_, rfl, J, ys, js, rfl, .inl (.inl (hid_get eJC).2.2), DqAll.same hid_all djC, gj.ln, fun Y H7 s7 nY eY => ?_⟩
        have nY' := src_ne srcC nY
        have src7 := srcC.up s7
        have u7 := hid_up (d := d) (c := c) s7
        have eL7 := u7 _ _ eLC
        have eJ7 := u7 _ _ eJC
        have dx7 := DqAll.same u7 dxC
        have dj7 := DqAll.same u7 djC
        have bk7 := bkC.same u7
        have bg7 := bgC.same u7
        have eY7 : hid d c H7 Y = some (.lst ((bagL js).map V.str)) := hid_put nY'.1 nY'.2 eY
        clear s7 u7 eLC eJC dxC djC bkC bgC eY nY
        refine ⟨_, rfl, g, ss, js, rfl, bg7.same hid_all, gj.bag, fun H8 s8 => ?_⟩
        have src8 := src7.up s8
        have u8 := hid_up (d := d) (c := c) s8
        refine ⟨_, rfl, _, rfl, Y, bagL js, rfl, .inl (.inl (hid_get (u8 _ _ eY7)).2.2), by omega, tok_60 bt, fun H9 s9 => ⟨rfl, _, rfl, ?_⟩⟩
        refine if_no (by rw [ej, decide_eq_true rfl]; rfl) ?_
        have src9 := src8.up s9
        have u9 := u8.trans (hid_up (d := d) (c := c) s9)
        have eL9 := u9 _ _ eL7
        have eJ9 := u9 _ _ eJ7
        have dx9 := DqAll.same u9 dx7
        have dj9 := DqAll.same u9 dj7
        have bk9 := bk7.same u9
        have bg9 := bg7.same u9
        have eY9 := u9 _ _ eY7
        clear s8 s9 u8 u9 eL7 eJ7 dx7 dj7 bk7 bg7 eY7
        have lexS : ∀ {z g0 tl : Str} {ps : List (Str × Str)}, allBlank g0 = true → allBlank tl = true → codes z = codes g0 ++ (flatP ps ++ codes tl) → Spaced "(" ps → ps.map (·.2) = bagL js → z.length ≤ 6000 → LexOk "BAG" z (bagL js) := fun {z g0 tl ps} b0 b1 e hs hp hz =>
          lexOk_any (go_bag jall) bt (by omega) (by omega) b0 b1 e (spaced_SpE ps "(" hs (tokC (by decide +kernel)) fun p hp' => bt _ (by rw [← hp]; exact List.mem_map.mpr ⟨p, hp', rfl⟩)) hp
        refine ⟨_, rfl, _, rfl, _, rfl, d, c, Y, bagL js, rfl, src9, .inl (.inl eY9), by omega, fun x hx => tok_okWord (bt x hx), fun z1 g1 t1 ps1 HA a1 a2 a3 a4 a5 a6 srcA sHA => ?_⟩
        refine ⟨_, rfl, _, rfl, d, c, Y, bagL js, rfl, srcA, .inl (.inl (sHA _ _ eY9)), by omega, fun x hx => tok_okWord (bt x hx), fun z2 g2 t2 ps2 HB b1 b2 b3 b4 b5 b6 srcB sHB => ?_⟩
        refine ⟨three, fun S2 hS2 => ?_⟩
        have lx0 : LexOk "BAG" (bagT js) (bagL js) := by
          rw [ej]
          exact lexOk_joined (go_bag jall) bt (by omega)
        have lx1 := lexS a1 a2 a3 a4 a5 a6
        have lx2 := lexS b1 b2 b3 b4 b5 b6
        have all3 : ∀ x ∈ ([.str (bagT js), .str z1, .str z2] : List V), ∃ z, x = .str z ∧ LexOk "BAG" z (bagL js) := fun x hx => by
          rcases List.mem_cons.mp hx with e | hx
          · exact ⟨_, e, lx0⟩
          rcases List.mem_cons.mp hx with e | hx
          · exact ⟨_, e, lx1⟩
          · exact ⟨_, List.mem_singleton.mp hx, lx2⟩
        have srcL := srcB.up (same_new (o := .lst [.str (bagT js), .str z1, .str z2]) hS2)
        have uL := (sHA.trans sHB).trans (hid_up (d := d) (c := c) (same_new (o := .lst [.str (bagT js), .str z1, .str z2]) hS2))
        have eS : (upd HB S2 (.lst [.str (bagT js), .str z1, .str z2])) S2 = some (.lst [.str (bagT js), .str z1, .str z2]) := upd_same
        have eLL := uL _ _ eL9
        have eJL := uL _ _ eJ9
        have dxL := DqAll.same uL dx9
        have djL := DqAll.same uL dj9
        have bkL := bk9.same uL
        have bgL := bg9.same uL
        clear uL eL9 eJ9 dx9 dj9 bk9 bg9 eY9 lx0 lx1 lx2 lexS a1 a2 a3 a4 a5 a6 b1 b2 b3 b4 b5 b6
        generalize upd HB S2 (.lst [.str (bagT js), .str z1, .str z2]) = HN at srcL eS eLL eJL dxL djL bkL bgL ⊢
        generalize ([.str (bagT js), .str z1, .str z2] : List V) = xs4 at all3 eS ⊢
        refine ⟨S2, rfl, ⟨_, .inl (.inl eS)⟩, for_list (K := K) (a := S2) (xs := xs4) (fun i σ H' => (∃ v2 v9 v10, σ = [some (.ref a), some (.ref d), v2, some (.ref L), some (.ref J), some (.ref b), some (.ref g), some (.ref Y), some (.str (bagT js)), v9, v10]) ∧ Same HN H') ⟨⟨_, _, _, rfl⟩, Same.refl _⟩ (fun i σ H' _ h => h.2.seq (.inl (.inl eS))) ?_ ?_⟩
        · rintro j x σ HD hj ⟨⟨w2, w9, w10, rfl⟩, sHD⟩
          obtain ⟨z, rfl, lxz⟩ := all3 x (List.mem_of_getElem? hj)
          have eLD := sHD _ _ (hid_get eLL).2.2
          have dxD : DqAll K HD xs (ss.map dShape) := DqAll.same (hid_all.trans sHD) dxL
          refine ⟨_, rfl, fun b2 dx2 hx2 hdx2 _ => ⟨b2, dx2, L, xs, ss, rfl, upd_same, (make_same hx2 hdx2).seq (.inl (.inl eLD)), DqAll.same (make_same hx2 hdx2) dxD, gs.book, fun p3 HE h3 np3 eb3 ep3 => ⟨rfl, ?_⟩⟩⟩
          have sHE : Same HD HE := fun x o e => h3 x o (ne_of_none e hx2) ((make_same hx2 hdx2) _ _ e)
          have bk3 : BookAt K HE CB b2 ss := ⟨dx2, p3, xs, eb3, ep3, DqAll.same sHE dxD⟩
          refine ⟨_, rfl, b2, z, ss, js, rfl, bk3, gs.book.ln, lxz, gj.bag, fun t HF sHF nt bgF => ?_⟩
          have bgA : BagAt K HF CB CG g ss js := (bgL.same hid_all).same (sHD.trans (sHE.trans sHF))
          obtain ⟨dt, bt1, dt1, et, _, _⟩ := id bgF
          obtain ⟨da, ba1, da1, ea, _, _⟩ := id bgA
          refine ⟨_, rfl, _, rfl, ⟨t, g, dt, da, _, _, rfl, rfl, et, ea, ss, js, gs.book, gj.bag, bgF, bgA⟩, fun HG sHG => ⟨_, rfl, ?_⟩⟩
          refine if_no rfl ?_
          have sHG : Same HF HG := sHG
          refine ⟨_, rfl, t, dt, _, rfl, sHG _ _ et, rfl, t, ss, js, rfl, bgF.same sHG, fun q xq HI sHI nq eq dq => ?_⟩
          have sI := sHD.trans (sHE.trans (sHF.trans (sHG.trans sHI)))
          refine ⟨_, rfl, .list (js.map dJoint), .list (js.map dJoint), .lst (.inl (.inl eq)) (DqAll.dp dq lay), .lst (.inl (.inl (sI _ _ (hid_get eJL).2.2))) (DqAll.dp (DqAll.same (hid_all.trans sI) djL) lay), shp, shp, _, rfl, ?_⟩
          refine if_no (by rw [SeqAt.eqv_refl _ lay]; rfl) ?_
          refine ⟨_, rfl, t, ss, js, rfl, bgF.same (sHG.trans sHI), gj.bag, fun HM sHM => ⟨_, rfl, rfl, _, rfl, ?_⟩⟩
          refine if_no (by rw [decide_eq_true rfl]; rfl) ?_
          exact ⟨⟨_, _, _, rfl⟩, sI.trans sHM⟩
        · rintro σ HD ⟨⟨w2, w9, w10, rfl⟩, sHD⟩
          exact ⟨⟨_, _, _, _, _, _, _, _, _, rfl⟩, srcL.up sHD⟩
    · rintro σ H3 ⟨⟨v2, v3, v4, v5, v6, v7, v8, v9, v10, rfl⟩, src3⟩
      exact k _
end
end Bc

namespace Bc
open PySem PySem.Spec PyProof.Rows L2
theorem sqT_of {K : PySem.W.Frag} {t : Addr} {dd : Option Addr} {its : Array Value} {n : Nat} {sl : Array (Option Value)} {xs : List V} (h : K.lookup t = some ⟨.type "tuple", dd, .seq its n, sl⟩) (hz : its.size ≤ 100) (hv : Vals xs its.toList) (H : Hp) : SqT K H t xs :=
  .inr ⟨_, its, n, h, rfl, rfl, Nat.le_trans hz (by decide), hv⟩
theorem v1 {x : Str} {t : PySem.Tok} : RelV (.str x) (.str x t) := ⟨t, rfl⟩
theorem vr {a : Addr} : RelV (.ref a) (.ref a) := rfl
theorem rows1 {K : PySem.W.Frag} {t r : Addr} {l : List Str} {H : Hp} (a : SqT K H t [.ref r]) (b : SqT K H r (l.map V.str)) : RulesAt K H t [l] := by
  refine ⟨[r], a, rfl, fun i r' l' h1 h2 => ?_⟩
  match i, h1, h2 with
  | 0, h1, h2 =>
    cases (Option.some.inj h1)
    cases (Option.some.inj h2)
    exact b
  | n + 1, h1, h2 => cases h1
theorem rows2 {K : PySem.W.Frag} {t r1 r2 : Addr} {l1 l2 : List Str} {H : Hp} (a : SqT K H t [.ref r1, .ref r2]) (b1 : SqT K H r1 (l1.map V.str)) (b2 : SqT K H r2 (l2.map V.str)) : RulesAt K H t [l1, l2] := by
  refine ⟨[r1, r2], a, rfl, fun i r' l' h1 h2 => ?_⟩
  match i, h1, h2 with
  | 0, h1, h2 =>
    cases (Option.some.inj h1)
    cases (Option.some.inj h2)
    exact b1
  | 1, h1, h2 =>
    cases (Option.some.inj h1)
    cases (Option.some.inj h2)
    exact b2
  | n + 2, h1, h2 => cases h1
/-- a def's promise, all the more where no repr is under way -/
theorem FnG.ofOk {P : Program} {w : World} {K : PySem.W.Frag} {mg : Str → Option Value} {base : Heap} {k : Nat} {f : Addr} {fd : FuncData} {ps : List Str} {sp : Sp} (F : FnOk P w K mg base CX0 k f fd ps sp) : FnG P w K mg base k f fd ps sp :=
  ⟨F.len, fun A outer s H args us vs Q E hr _ e hb r h => F.run A outer s H args us vs Q E hr e hb r h⟩
theorem all_mk {l : PySem.W.OpenLaw} {w : World} {K : PySem.W.Frag} {h : Heap} {mg : Str → Option Value} {fa CR CB CG aR aN t0 t1 t2 t3 t4 t5 t6 u0 u1 u2 u3 u4 u5 u6 u7 u8 u9 u10 frI frO frT frD fbI fbS fbW fbE fgI fgJ fgE fT fRE fLA fSC fLO fHR fLI fRB fRG fLT fRT fBT fGT fIW fWJ fWS fS fP fO fM fNM fSH fDS fDJ fJ fG fLS fBX fGX fW : Addr} (KX : K.In h) (G : h.Ns mainGlobals mg) (hfa : mg "law" = some (.ref fa))
    {odrI anrI odrO anrO odrT anrT odrD anrD odbI anbI odbS anbS odbW anbW odbE anbE odgI angI odgJ angJ odgE angE odT anT odRE anRE odLA anLA odSC anSC odLO anLO odHR anHR odLI anLI odRB anRB odRG anRG odLT anLT odRT anRT odBT anBT odGT anGT odIW anIW odWJ anWJ odWS anWS odS anS odP anP odO anO odM anM odNM anNM odSH anSH odDS anDS odDJ anDJ odJ anJ odG anG odLS anLS odBX anBX odGX anGX odW anW dN dd0 dd1 dd2 dd3 dd4 dd5 dd6 dd7 dd8 dd9 dd10 dd11 dd12 dd13 dd14 dd15 dd16 dd17 : Option Addr} {slrI slrO slrT slrD slbI slbS slbW slbE slgI slgJ slgE slT slRE slLA slSC slLO slHR slLI slRB slRG slLT slRT slBT slGT slIW slWJ slWS slS slP slO slM slNM slSH slDS slDJ slJ slG slLS slBX slGX slW sN ss0 ss1 ss2 ss3 ss4 ss5 ss6 ss7 ss8 ss9 ss10 ss11 ss12 ss13 ss14 ss15 ss16 ss17 : Array (Option Value)} {ocrI kVrI dcrI pmrI cdrI ctrI ocrO kVrO dcrO pmrO cdrO ctrO ocrT kVrT dcrT pmrT cdrT ctrT ocrD kVrD dcrD pmrD cdrD ctrD ocbI kVbI dcbI pmbI cdbI ctbI ocbS kVbS dcbS pmbS cdbS ctbS ocbW kVbW dcbW pmbW cdbW ctbW ocbE kVbE dcbE pmbE cdbE ctbE ocgI kVgI dcgI pmgI cdgI ctgI ocgJ kVgJ dcgJ pmgJ cdgJ ctgJ ocgE kVgE dcgE pmgE cdgE ctgE ocT kVT dcT pmT cdT ctT ocRE kVRE dcRE pmRE cdRE ctRE ocLA kVLA dcLA pmLA cdLA ctLA ocSC kVSC dcSC pmSC cdSC ctSC ocLO kVLO dcLO pmLO cdLO ctLO ocHR kVHR dcHR pmHR cdHR ctHR ocLI kVLI dcLI pmLI cdLI ctLI ocRB kVRB dcRB pmRB cdRB ctRB ocRG kVRG dcRG pmRG cdRG ctRG ocLT kVLT dcLT pmLT cdLT ctLT ocRT kVRT dcRT pmRT cdRT ctRT ocBT kVBT dcBT pmBT cdBT ctBT ocGT kVGT dcGT pmGT cdGT ctGT ocIW kVIW dcIW pmIW cdIW ctIW ocWJ kVWJ dcWJ pmWJ cdWJ ctWJ ocWS kVWS dcWS pmWS cdWS ctWS ocS kVS dcS pmS cdS ctS ocP kVP dcP pmP cdP ctP ocO kVO dcO pmO cdO ctO ocM kVM dcM pmM cdM ctM ocNM kVNM dcNM pmNM cdNM ctNM ocSH kVSH dcSH pmSH cdSH ctSH ocDS kVDS dcDS pmDS cdDS ctDS ocDJ kVDJ dcDJ pmDJ cdDJ ctDJ ocJ kVJ dcJ pmJ cdJ ctJ ocG kVG dcG pmG cdG ctG ocLS kVLS dcLS pmLS cdLS ctLS ocBX kVBX dcBX pmBX cdBX ctBX ocGX kVGX dcGX pmGX cdGX ctGX ocW kVW dcW pmW cdW ctW : Value}
    {esR : Array DictEntry} {nR nN nn0 nn1 nn2 nn3 nn4 nn5 nn6 nn7 nn8 nn9 nn10 nn11 nn12 nn13 nn14 nn15 nn16 nn17 : Nat} {q1 q2 q3 q4 q5 q6 q7 q8 g0_0 g0_1 g0_2 g1_0 g1_1 g1_2 g1_3 g1_4 g1_5 g2_0 g3_0 g3_1 g3_2 g4_0 g4_1 g4_2 g4_3 g4_4 g5_0 g6_0 g6_1 g7_0 g7_1 g8_0 g9_0 g9_1 g9_2 g10_0 : PySem.Tok}
    (aCR : PySem.W.nsIn K mainGlobals "Reading" = some (some (.ref CR)))
    (pgCR : PySem.W.plainGet K CR Str.empty = true)
    (hdCR : PySem.W.hasDictIn K CR = true)
    (poCR : PySem.W.plainOver K CR = true)
    (saCR : PySem.W.findIn K (.ref CR) "__setattr__" = some (some (.builtin "object.__setattr__")))
    (naCR0 : PySem.W.findIn K (.ref CR) "_awaited" = some none)
    (mkCR : PySem.W.makesIn K CR = true)
    (kpCR : PySem.W.keepIn K (.ref CR) = true)
    (arI : PySem.W.findIn K (.ref CR) "__init__" = some (some (.ref frI)))
    (lrI : K.lookup frI = some ⟨ocrI, odrI, .func (PySem.W.fnOf "__init__" "Reading.__init__" (defArgs sInit) (defBody sInit) (defScope sInit) .none kVrI dcrI pmrI anrI cdrI ctrI), slrI⟩)
    (drI : PySem.W.codeIn K cdrI "Reading.__init__" = true)
    (krI : PySem.W.keepIn K (.ref frI) = true)
    (vrI : PySem.W.isFn K (.ref frI) = true)
    (arO : PySem.W.findIn K (.ref CR) "_open_rules" = some (some (.ref frO)))
    (lrO : K.lookup frO = some ⟨ocrO, odrO, .func (PySem.W.fnOf "_open_rules" "Reading._open_rules" (defArgs sOpen) (defBody sOpen) (defScope sOpen) .none kVrO dcrO pmrO anrO cdrO ctrO), slrO⟩)
    (drO : PySem.W.codeIn K cdrO "Reading._open_rules" = true)
    (krO : PySem.W.keepIn K (.ref frO) = true)
    (vrO : PySem.W.isFn K (.ref frO) = true)
    (arT : PySem.W.findIn K (.ref CR) "takes" = some (some (.ref frT)))
    (lrT : K.lookup frT = some ⟨ocrT, odrT, .func (PySem.W.fnOf "takes" "Reading.takes" (defArgs sTakes) (defBody sTakes) (defScope sTakes) .none kVrT dcrT pmrT anrT cdrT ctrT), slrT⟩)
    (drT : PySem.W.codeIn K cdrT "Reading.takes" = true)
    (krT : PySem.W.keepIn K (.ref frT) = true)
    (vrT : PySem.W.isFn K (.ref frT) = true)
    (arD : PySem.W.findIn K (.ref CR) "is_complete" = some (some (.ref frD)))
    (lrD : K.lookup frD = some ⟨ocrD, odrD, .func (PySem.W.fnOf "is_complete" "Reading.is_complete" (defArgs sDone) (defBody sDone) (defScope sDone) .none kVrD dcrD pmrD anrD cdrD ctrD), slrD⟩)
    (drD : PySem.W.codeIn K cdrD "Reading.is_complete" = true)
    (krD : PySem.W.keepIn K (.ref frD) = true)
    (vrD : PySem.W.isFn K (.ref frD) = true)
    (aCB : PySem.W.nsIn K mainGlobals "Book" = some (some (.ref CB)))
    (pgCB : PySem.W.plainGet K CB Str.empty = true)
    (hdCB : PySem.W.hasDictIn K CB = true)
    (poCB : PySem.W.plainOver K CB = true)
    (saCB : PySem.W.findIn K (.ref CB) "__setattr__" = some (some (.builtin "object.__setattr__")))
    (naCB0 : PySem.W.findIn K (.ref CB) "_shapes" = some none)
    (mkCB : PySem.W.makesIn K CB = true)
    (kpCB : PySem.W.keepIn K (.ref CB) = true)
    (x1CB : PySem.W.findIn K (.ref CB) "__class__" = some (some (.builtin "object.__class__")))
    (x4CB : PySem.W.mroIn K CB (.type "object") = some true)
    (x5CB : PySem.W.kitOne K (.ref CB) (.ref CB) = some true)
    (neCB : PySem.W.findIn K (.ref CB) "__ne__" = some (some (.builtin "object.__ne__")))
    (obCB : PySem.W.subIn K (.ref CB) (.type "object") = some true)
    (abI : PySem.W.findIn K (.ref CB) "__init__" = some (some (.ref fbI)))
    (lbI : K.lookup fbI = some ⟨ocbI, odbI, .func (PySem.W.fnOf "__init__" "Book.__init__" (defArgs sBookI) (defBody sBookI) (defScope sBookI) .none kVbI dcbI pmbI anbI cdbI ctbI), slbI⟩)
    (dbI : PySem.W.codeIn K cdbI "Book.__init__" = true)
    (kbI : PySem.W.keepIn K (.ref fbI) = true)
    (vbI : PySem.W.isFn K (.ref fbI) = true)
    (abS : PySem.W.findIn K (.ref CB) "shapes" = some (some (.ref fbS)))
    (lbS : K.lookup fbS = some ⟨ocbS, odbS, .func (PySem.W.fnOf "shapes" "Book.shapes" (defArgs sBookS) (defBody sBookS) (defScope sBookS) .none kVbS dcbS pmbS anbS cdbS ctbS), slbS⟩)
    (dbS : PySem.W.codeIn K cdbS "Book.shapes" = true)
    (kbS : PySem.W.keepIn K (.ref fbS) = true)
    (vbS : PySem.W.isFn K (.ref fbS) = true)
    (abW : PySem.W.findIn K (.ref CB) "words" = some (some (.ref fbW)))
    (lbW : K.lookup fbW = some ⟨ocbW, odbW, .func (PySem.W.fnOf "words" "Book.words" (defArgs sBookW) (defBody sBookW) (defScope sBookW) .none kVbW dcbW pmbW anbW cdbW ctbW), slbW⟩)
    (dbW : PySem.W.codeIn K cdbW "Book.words" = true)
    (kbW : PySem.W.keepIn K (.ref fbW) = true)
    (vbW : PySem.W.isFn K (.ref fbW) = true)
    (abE : PySem.W.findIn K (.ref CB) "__eq__" = some (some (.ref fbE)))
    (lbE : K.lookup fbE = some ⟨ocbE, odbE, .func (PySem.W.fnOf "__eq__" "Book.__eq__" (defArgs sBookEq) (defBody sBookEq) (defScope sBookEq) .none kVbE dcbE pmbE anbE cdbE ctbE), slbE⟩)
    (dbE : PySem.W.codeIn K cdbE "Book.__eq__" = true)
    (kbE : PySem.W.keepIn K (.ref fbE) = true)
    (vbE : PySem.W.isFn K (.ref fbE) = true)
    (aCG : PySem.W.nsIn K mainGlobals "Bag" = some (some (.ref CG)))
    (pgCG : PySem.W.plainGet K CG Str.empty = true)
    (hdCG : PySem.W.hasDictIn K CG = true)
    (poCG : PySem.W.plainOver K CG = true)
    (saCG : PySem.W.findIn K (.ref CG) "__setattr__" = some (some (.builtin "object.__setattr__")))
    (naCG0 : PySem.W.findIn K (.ref CG) "_book" = some none)
    (naCG1 : PySem.W.findIn K (.ref CG) "_words" = some none)
    (mkCG : PySem.W.makesIn K CG = true)
    (kpCG : PySem.W.keepIn K (.ref CG) = true)
    (x1CG : PySem.W.findIn K (.ref CG) "__class__" = some (some (.builtin "object.__class__")))
    (x4CG : PySem.W.mroIn K CG (.type "object") = some true)
    (x5CG : PySem.W.kitOne K (.ref CG) (.ref CG) = some true)
    (neCG : PySem.W.findIn K (.ref CG) "__ne__" = some (some (.builtin "object.__ne__")))
    (obCG : PySem.W.subIn K (.ref CG) (.type "object") = some true)
    (agI : PySem.W.findIn K (.ref CG) "__init__" = some (some (.ref fgI)))
    (lgI : K.lookup fgI = some ⟨ocgI, odgI, .func (PySem.W.fnOf "__init__" "Bag.__init__" (defArgs sBagI) (defBody sBagI) (defScope sBagI) .none kVgI dcgI pmgI angI cdgI ctgI), slgI⟩)
    (dgI : PySem.W.codeIn K cdgI "Bag.__init__" = true)
    (kgI : PySem.W.keepIn K (.ref fgI) = true)
    (vgI : PySem.W.isFn K (.ref fgI) = true)
    (agJ : PySem.W.findIn K (.ref CG) "joints" = some (some (.ref fgJ)))
    (lgJ : K.lookup fgJ = some ⟨ocgJ, odgJ, .func (PySem.W.fnOf "joints" "Bag.joints" (defArgs sBagJ) (defBody sBagJ) (defScope sBagJ) .none kVgJ dcgJ pmgJ angJ cdgJ ctgJ), slgJ⟩)
    (dgJ : PySem.W.codeIn K cdgJ "Bag.joints" = true)
    (kgJ : PySem.W.keepIn K (.ref fgJ) = true)
    (vgJ : PySem.W.isFn K (.ref fgJ) = true)
    (agE : PySem.W.findIn K (.ref CG) "__eq__" = some (some (.ref fgE)))
    (lgE : K.lookup fgE = some ⟨ocgE, odgE, .func (PySem.W.fnOf "__eq__" "Bag.__eq__" (defArgs sBagEq) (defBody sBagEq) (defScope sBagEq) .none kVgE dcgE pmgE angE cdgE ctgE), slgE⟩)
    (dgE : PySem.W.codeIn K cdgE "Bag.__eq__" = true)
    (kgE : PySem.W.keepIn K (.ref fgE) = true)
    (vgE : PySem.W.isFn K (.ref fgE) = true)
    (x2 : PySem.W.specialIn K (.builtin "object.__class__") "__get__" = some (some (.builtin "getset_descriptor.__get__")))
    (x3 : PySem.W.takesIn K (.builtin "object.__class__") = some true)
    (aT : PySem.W.nsIn K mainGlobals "is_told" = some (some (.ref fT)))
    (lT : K.lookup fT = some ⟨ocT, odT, .func (PySem.W.fnOf "is_told" "is_told" (defArgs sIsTold) (defBody sIsTold) (defScope sIsTold) .none kVT dcT pmT anT cdT ctT), slT⟩)
    (dT : PySem.W.codeIn K cdT "is_told" = true)
    (kT : PySem.W.keepIn K (.ref fT) = true)
    (aRE : PySem.W.nsIn K mainGlobals "run_end" = some (some (.ref fRE)))
    (lRE : K.lookup fRE = some ⟨ocRE, odRE, .func (PySem.W.fnOf "run_end" "run_end" (defArgs sRun) (defBody sRun) (defScope sRun) .none kVRE dcRE pmRE anRE cdRE ctRE), slRE⟩)
    (dRE : PySem.W.codeIn K cdRE "run_end" = true)
    (kRE : PySem.W.keepIn K (.ref fRE) = true)
    (aLA : PySem.W.nsIn K mainGlobals "lexeme_at" = some (some (.ref fLA)))
    (lLA : K.lookup fLA = some ⟨ocLA, odLA, .func (PySem.W.fnOf "lexeme_at" "lexeme_at" (defArgs sLexAt) (defBody sLexAt) (defScope sLexAt) .none kVLA dcLA pmLA anLA cdLA ctLA), slLA⟩)
    (dLA : PySem.W.codeIn K cdLA "lexeme_at" = true)
    (kLA : PySem.W.keepIn K (.ref fLA) = true)
    (aSC : PySem.W.nsIn K mainGlobals "scan" = some (some (.ref fSC)))
    (lSC : K.lookup fSC = some ⟨ocSC, odSC, .func (PySem.W.fnOf "scan" "scan" (defArgs sScan) (defBody sScan) (defScope sScan) .none kVSC dcSC pmSC anSC cdSC ctSC), slSC⟩)
    (dSC : PySem.W.codeIn K cdSC "scan" = true)
    (kSC : PySem.W.keepIn K (.ref fSC) = true)
    (aLO : PySem.W.nsIn K mainGlobals "lexemes_of" = some (some (.ref fLO)))
    (lLO : K.lookup fLO = some ⟨ocLO, odLO, .func (PySem.W.fnOf "lexemes_of" "lexemes_of" (defArgs sLexOf) (defBody sLexOf) (defScope sLexOf) .none kVLO dcLO pmLO anLO cdLO ctLO), slLO⟩)
    (dLO : PySem.W.codeIn K cdLO "lexemes_of" = true)
    (kLO : PySem.W.keepIn K (.ref fLO) = true)
    (aHR : PySem.W.nsIn K mainGlobals "head_and_rows" = some (some (.ref fHR)))
    (lHR : K.lookup fHR = some ⟨ocHR, odHR, .func (PySem.W.fnOf "head_and_rows" "head_and_rows" (defArgs sHead) (defBody sHead) (defScope sHead) .none kVHR dcHR pmHR anHR cdHR ctHR), slHR⟩)
    (dHR : PySem.W.codeIn K cdHR "head_and_rows" = true)
    (kHR : PySem.W.keepIn K (.ref fHR) = true)
    (aLI : PySem.W.nsIn K mainGlobals "list_of" = some (some (.ref fLI)))
    (lLI : K.lookup fLI = some ⟨ocLI, odLI, .func (PySem.W.fnOf "list_of" "list_of" (defArgs sListOf) (defBody sListOf) (defScope sListOf) .none kVLI dcLI pmLI anLI cdLI ctLI), slLI⟩)
    (dLI : PySem.W.codeIn K cdLI "list_of" = true)
    (kLI : PySem.W.keepIn K (.ref fLI) = true)
    (aRB : PySem.W.nsIn K mainGlobals "read_book" = some (some (.ref fRB)))
    (lRB : K.lookup fRB = some ⟨ocRB, odRB, .func (PySem.W.fnOf "read_book" "read_book" (defArgs sReadBook) (defBody sReadBook) (defScope sReadBook) .none kVRB dcRB pmRB anRB cdRB ctRB), slRB⟩)
    (dRB : PySem.W.codeIn K cdRB "read_book" = true)
    (kRB : PySem.W.keepIn K (.ref fRB) = true)
    (aRG : PySem.W.nsIn K mainGlobals "read_bag" = some (some (.ref fRG)))
    (lRG : K.lookup fRG = some ⟨ocRG, odRG, .func (PySem.W.fnOf "read_bag" "read_bag" (defArgs sReadBag) (defBody sReadBag) (defScope sReadBag) .none kVRG dcRG pmRG anRG cdRG ctRG), slRG⟩)
    (dRG : PySem.W.codeIn K cdRG "read_bag" = true)
    (kRG : PySem.W.keepIn K (.ref fRG) = true)
    (aLT : PySem.W.nsIn K mainGlobals "list_text" = some (some (.ref fLT)))
    (lLT : K.lookup fLT = some ⟨ocLT, odLT, .func (PySem.W.fnOf "list_text" "list_text" (defArgs sListT) (defBody sListT) (defScope sListT) .none kVLT dcLT pmLT anLT cdLT ctLT), slLT⟩)
    (dLT : PySem.W.codeIn K cdLT "list_text" = true)
    (kLT : PySem.W.keepIn K (.ref fLT) = true)
    (aRT : PySem.W.nsIn K mainGlobals "rows_text" = some (some (.ref fRT)))
    (lRT : K.lookup fRT = some ⟨ocRT, odRT, .func (PySem.W.fnOf "rows_text" "rows_text" (defArgs sRowsT) (defBody sRowsT) (defScope sRowsT) .none kVRT dcRT pmRT anRT cdRT ctRT), slRT⟩)
    (dRT : PySem.W.codeIn K cdRT "rows_text" = true)
    (kRT : PySem.W.keepIn K (.ref fRT) = true)
    (aBT : PySem.W.nsIn K mainGlobals "book_text" = some (some (.ref fBT)))
    (lBT : K.lookup fBT = some ⟨ocBT, odBT, .func (PySem.W.fnOf "book_text" "book_text" (defArgs sBookT) (defBody sBookT) (defScope sBookT) .none kVBT dcBT pmBT anBT cdBT ctBT), slBT⟩)
    (dBT : PySem.W.codeIn K cdBT "book_text" = true)
    (kBT : PySem.W.keepIn K (.ref fBT) = true)
    (aGT : PySem.W.nsIn K mainGlobals "bag_text" = some (some (.ref fGT)))
    (lGT : K.lookup fGT = some ⟨ocGT, odGT, .func (PySem.W.fnOf "bag_text" "bag_text" (defArgs sBagT) (defBody sBagT) (defScope sBagT) .none kVGT dcGT pmGT anGT cdGT ctGT), slGT⟩)
    (dGT : PySem.W.codeIn K cdGT "bag_text" = true)
    (kGT : PySem.W.keepIn K (.ref fGT) = true)
    (aIW : PySem.W.nsIn K mainGlobals "is_word" = some (some (.ref fIW)))
    (lIW : K.lookup fIW = some ⟨ocIW, odIW, .func (PySem.W.fnOf "is_word" "is_word" (defArgs sIsWord) (defBody sIsWord) (defScope sIsWord) .none kVIW dcIW pmIW anIW cdIW ctIW), slIW⟩)
    (dIW : PySem.W.codeIn K cdIW "is_word" = true)
    (kIW : PySem.W.keepIn K (.ref fIW) = true)
    (aWJ : PySem.W.nsIn K mainGlobals "wrong_in_joint" = some (some (.ref fWJ)))
    (lWJ : K.lookup fWJ = some ⟨ocWJ, odWJ, .func (PySem.W.fnOf "wrong_in_joint" "wrong_in_joint" (defArgs sWrongJ) (defBody sWrongJ) (defScope sWrongJ) .none kVWJ dcWJ pmWJ anWJ cdWJ ctWJ), slWJ⟩)
    (dWJ : PySem.W.codeIn K cdWJ "wrong_in_joint" = true)
    (kWJ : PySem.W.keepIn K (.ref fWJ) = true)
    (aWS : PySem.W.nsIn K mainGlobals "wrong_in_shape" = some (some (.ref fWS)))
    (lWS : K.lookup fWS = some ⟨ocWS, odWS, .func (PySem.W.fnOf "wrong_in_shape" "wrong_in_shape" (defArgs sWrongS) (defBody sWrongS) (defScope sWrongS) .none kVWS dcWS pmWS anWS cdWS ctWS), slWS⟩)
    (dWS : PySem.W.codeIn K cdWS "wrong_in_shape" = true)
    (kWS : PySem.W.keepIn K (.ref fWS) = true)
    (aS : PySem.W.nsIn K mainGlobals "_law_source" = some (some (.ref fS)))
    (lS : K.lookup fS = some ⟨ocS, odS, .func (PySem.W.fnOf "_law_source" "_law_source" (defArgs sSource) (defBody sSource) (defScope sSource) .none kVS dcS pmS anS cdS ctS), slS⟩)
    (dS : PySem.W.codeIn K cdS "_law_source" = true)
    (kS : PySem.W.keepIn K (.ref fS) = true)
    (aP : PySem.W.nsIn K mainGlobals "_law_pick" = some (some (.ref fP)))
    (lP : K.lookup fP = some ⟨ocP, odP, .func (PySem.W.fnOf "_law_pick" "_law_pick" (defArgs sPick) (defBody sPick) (defScope sPick) .none kVP dcP pmP anP cdP ctP), slP⟩)
    (dP : PySem.W.codeIn K cdP "_law_pick" = true)
    (kP : PySem.W.keepIn K (.ref fP) = true)
    (aO : PySem.W.nsIn K mainGlobals "_law_of" = some (some (.ref fO)))
    (lO : K.lookup fO = some ⟨ocO, odO, .func (PySem.W.fnOf "_law_of" "_law_of" (defArgs sOf) (defBody sOf) (defScope sOf) .none kVO dcO pmO anO cdO ctO), slO⟩)
    (dO : PySem.W.codeIn K cdO "_law_of" = true)
    (kO : PySem.W.keepIn K (.ref fO) = true)
    (aM : PySem.W.nsIn K mainGlobals "_law_mixed" = some (some (.ref fM)))
    (lM : K.lookup fM = some ⟨ocM, odM, .func (PySem.W.fnOf "_law_mixed" "_law_mixed" (defArgs sMixed) (defBody sMixed) (defScope sMixed) .none kVM dcM pmM anM cdM ctM), slM⟩)
    (dM : PySem.W.codeIn K cdM "_law_mixed" = true)
    (kM : PySem.W.keepIn K (.ref fM) = true)
    (aNM : PySem.W.nsIn K mainGlobals "_law_names" = some (some (.ref fNM)))
    (lNM : K.lookup fNM = some ⟨ocNM, odNM, .func (PySem.W.fnOf "_law_names" "_law_names" (defArgs sNames) (defBody sNames) (defScope sNames) .none kVNM dcNM pmNM anNM cdNM ctNM), slNM⟩)
    (dNM : PySem.W.codeIn K cdNM "_law_names" = true)
    (kNM : PySem.W.keepIn K (.ref fNM) = true)
    (aSH : PySem.W.nsIn K mainGlobals "_law_shapes" = some (some (.ref fSH)))
    (lSH : K.lookup fSH = some ⟨ocSH, odSH, .func (PySem.W.fnOf "_law_shapes" "_law_shapes" (defArgs sShapes) (defBody sShapes) (defScope sShapes) .none kVSH dcSH pmSH anSH cdSH ctSH), slSH⟩)
    (dSH : PySem.W.codeIn K cdSH "_law_shapes" = true)
    (kSH : PySem.W.keepIn K (.ref fSH) = true)
    (aDS : PySem.W.nsIn K mainGlobals "_law_drawn_shapes" = some (some (.ref fDS)))
    (lDS : K.lookup fDS = some ⟨ocDS, odDS, .func (PySem.W.fnOf "_law_drawn_shapes" "_law_drawn_shapes" (defArgs sDrawnS) (defBody sDrawnS) (defScope sDrawnS) .none kVDS dcDS pmDS anDS cdDS ctDS), slDS⟩)
    (dDS : PySem.W.codeIn K cdDS "_law_drawn_shapes" = true)
    (kDS : PySem.W.keepIn K (.ref fDS) = true)
    (aDJ : PySem.W.nsIn K mainGlobals "_law_drawn_joints" = some (some (.ref fDJ)))
    (lDJ : K.lookup fDJ = some ⟨ocDJ, odDJ, .func (PySem.W.fnOf "_law_drawn_joints" "_law_drawn_joints" (defArgs sDrawnJ) (defBody sDrawnJ) (defScope sDrawnJ) .none kVDJ dcDJ pmDJ anDJ cdDJ ctDJ), slDJ⟩)
    (dDJ : PySem.W.codeIn K cdDJ "_law_drawn_joints" = true)
    (kDJ : PySem.W.keepIn K (.ref fDJ) = true)
    (aJ : PySem.W.nsIn K mainGlobals "_law_joined" = some (some (.ref fJ)))
    (lJ : K.lookup fJ = some ⟨ocJ, odJ, .func (PySem.W.fnOf "_law_joined" "_law_joined" (defArgs sJoined) (defBody sJoined) (defScope sJoined) .none kVJ dcJ pmJ anJ cdJ ctJ), slJ⟩)
    (dJ : PySem.W.codeIn K cdJ "_law_joined" = true)
    (kJ : PySem.W.keepIn K (.ref fJ) = true)
    (aG : PySem.W.nsIn K mainGlobals "_law_spaced" = some (some (.ref fG)))
    (lG : K.lookup fG = some ⟨ocG, odG, .func (PySem.W.fnOf "_law_spaced" "_law_spaced" (defArgs sSpaced) (defBody sSpaced) (defScope sSpaced) .none kVG dcG pmG anG cdG ctG), slG⟩)
    (dG : PySem.W.codeIn K cdG "_law_spaced" = true)
    (kG : PySem.W.keepIn K (.ref fG) = true)
    (aLS : PySem.W.nsIn K mainGlobals "_law_listed" = some (some (.ref fLS)))
    (lLS : K.lookup fLS = some ⟨ocLS, odLS, .func (PySem.W.fnOf "_law_listed" "_law_listed" (defArgs sListed) (defBody sListed) (defScope sListed) .none kVLS dcLS pmLS anLS cdLS ctLS), slLS⟩)
    (dLS : PySem.W.codeIn K cdLS "_law_listed" = true)
    (kLS : PySem.W.keepIn K (.ref fLS) = true)
    (aBX : PySem.W.nsIn K mainGlobals "_law_book_lexemes" = some (some (.ref fBX)))
    (lBX : K.lookup fBX = some ⟨ocBX, odBX, .func (PySem.W.fnOf "_law_book_lexemes" "_law_book_lexemes" (defArgs sBookLex) (defBody sBookLex) (defScope sBookLex) .none kVBX dcBX pmBX anBX cdBX ctBX), slBX⟩)
    (dBX : PySem.W.codeIn K cdBX "_law_book_lexemes" = true)
    (kBX : PySem.W.keepIn K (.ref fBX) = true)
    (aGX : PySem.W.nsIn K mainGlobals "_law_bag_lexemes" = some (some (.ref fGX)))
    (lGX : K.lookup fGX = some ⟨ocGX, odGX, .func (PySem.W.fnOf "_law_bag_lexemes" "_law_bag_lexemes" (defArgs sBagLex) (defBody sBagLex) (defScope sBagLex) .none kVGX dcGX pmGX anGX cdGX ctGX), slGX⟩)
    (dGX : PySem.W.codeIn K cdGX "_law_bag_lexemes" = true)
    (kGX : PySem.W.keepIn K (.ref fGX) = true)
    (aW : PySem.W.nsIn K mainGlobals "law" = some (some (.ref fW)))
    (lW : K.lookup fW = some ⟨ocW, odW, .func (PySem.W.fnOf "law" "law" (defArgs sLaw) (defBody sLaw) (defScope sLaw) .none kVW dcW pmW anW cdW ctW), slW⟩)
    (dW : PySem.W.codeIn K cdW "law" = true)
    (kW : PySem.W.keepIn K (.ref fW) = true)
    (z_int : PySem.W.nsIn K mainGlobals "int" = some none)
    (z_abs : PySem.W.nsIn K mainGlobals "abs" = some none)
    (z_len : PySem.W.nsIn K mainGlobals "len" = some none)
    (z_max : PySem.W.nsIn K mainGlobals "max" = some none)
    (z_reversed : PySem.W.nsIn K mainGlobals "reversed" = some none)
    (z_range : PySem.W.nsIn K mainGlobals "range" = some none)
    (z_list : PySem.W.nsIn K mainGlobals "list" = some none)
    (z_tuple : PySem.W.nsIn K mainGlobals "tuple" = some none)
    (z_isinstance : PySem.W.nsIn K mainGlobals "isinstance" = some none)
    (z_str : PySem.W.nsIn K mainGlobals "str" = some none)
    (z_all : PySem.W.nsIn K mainGlobals "all" = some none)
    (z_enumerate : PySem.W.nsIn K mainGlobals "enumerate" = some none)
    (y_LETTERS : PySem.W.nsIn K mainGlobals "LETTERS" = some (some (.str sLetters q1)))
    (y_DIGITS : PySem.W.nsIn K mainGlobals "DIGITS" = some (some (.str sDigits q2)))
    (y_SIGNS : PySem.W.nsIn K mainGlobals "SIGNS" = some (some (.str sSigns q3)))
    (y_BLANKS : PySem.W.nsIn K mainGlobals "BLANKS" = some (some (.str sBlanks q4)))
    (y_LONGEST : PySem.W.nsIn K mainGlobals "LONGEST" = some (some (.int 12 q5)))
    (y_NAME : PySem.W.nsIn K mainGlobals "NAME" = some (some (.str "NAME" q6)))
    (y_NUMBER : PySem.W.nsIn K mainGlobals "NUMBER" = some (some (.str "NUMBER" q7)))
    (y_ROOT : PySem.W.nsIn K mainGlobals "ROOT" = some (some (.str "root" q8)))
    (aR_ : PySem.W.nsIn K mainGlobals "RULES" = some (some (.ref aR)))
    (aN_ : PySem.W.nsIn K mainGlobals "NOTHING" = some (some (.ref aN)))
    (lR : K.lookup aR = some ⟨.type "dict", none, .dict esR nR, #[]⟩)
    (lN : K.lookup aN = some ⟨.type "tuple", dN, .seq #[] nN, sN⟩)
    (lowR : (aR == sysModules) = false)
    (keys : PySem.W.KeysLit w.params esR.toList)
    (r0 : PySem.W.nsIn K aR "BOOK" = some (some (.ref t0)))
    (r1 : PySem.W.nsIn K aR "SHAPES" = some (some (.ref t1)))
    (r2 : PySem.W.nsIn K aR "BAG" = some (some (.ref t2)))
    (r3 : PySem.W.nsIn K aR "JOINTS" = some (some (.ref t3)))
    (r4 : PySem.W.nsIn K aR "LIST" = some (some (.ref t4)))
    (r5 : PySem.W.nsIn K aR "FIRST NAME" = some (some (.ref t5)))
    (r6 : PySem.W.nsIn K aR "FURTHER NAMES" = some (some (.ref t6)))
    (rs0 : PySem.W.nsIn K aR "{" = some none)
    (rs1 : PySem.W.nsIn K aR ";" = some none)
    (rs2 : PySem.W.nsIn K aR "NAME" = some none)
    (h0 : K.lookup t0 = some ⟨.type "tuple", dd0, .seq #[.ref u0] nn0, ss0⟩)
    (h1 : K.lookup t1 = some ⟨.type "tuple", dd1, .seq #[.ref u1, .ref u2] nn1, ss1⟩)
    (h2 : K.lookup t2 = some ⟨.type "tuple", dd2, .seq #[.ref u3] nn2, ss2⟩)
    (h3 : K.lookup t3 = some ⟨.type "tuple", dd3, .seq #[.ref u4, .ref u5] nn3, ss3⟩)
    (h4 : K.lookup t4 = some ⟨.type "tuple", dd4, .seq #[.ref u6] nn4, ss4⟩)
    (h5 : K.lookup t5 = some ⟨.type "tuple", dd5, .seq #[.ref u7, .ref u8] nn5, ss5⟩)
    (h6 : K.lookup t6 = some ⟨.type "tuple", dd6, .seq #[.ref u9, .ref u10] nn6, ss6⟩)
    (e0 : K.lookup u0 = some ⟨.type "tuple", dd7, .seq #[.str "book" g0_0, .str "{" g0_1, .str "SHAPES" g0_2] nn7, ss7⟩)
    (e1 : K.lookup u1 = some ⟨.type "tuple", dd8, .seq #[.str "shape" g1_0, .str "NAME" g1_1, .str "NAME" g1_2, .str "LIST" g1_3, .str ";" g1_4, .str "SHAPES" g1_5] nn8, ss8⟩)
    (e2 : K.lookup u2 = some ⟨.type "tuple", dd9, .seq #[.str "}" g2_0] nn9, ss9⟩)
    (e3 : K.lookup u3 = some ⟨.type "tuple", dd10, .seq #[.str "bag" g3_0, .str "{" g3_1, .str "JOINTS" g3_2] nn10, ss10⟩)
    (e4 : K.lookup u4 = some ⟨.type "tuple", dd11, .seq #[.str "joint" g4_0, .str "NAME" g4_1, .str "NAME" g4_2, .str ";" g4_3, .str "JOINTS" g4_4] nn11, ss11⟩)
    (e5 : K.lookup u5 = some ⟨.type "tuple", dd12, .seq #[.str "}" g5_0] nn12, ss12⟩)
    (e6 : K.lookup u6 = some ⟨.type "tuple", dd13, .seq #[.str "(" g6_0, .str "FIRST NAME" g6_1] nn13, ss13⟩)
    (e7 : K.lookup u7 = some ⟨.type "tuple", dd14, .seq #[.str "NAME" g7_0, .str "FURTHER NAMES" g7_1] nn14, ss14⟩)
    (e8 : K.lookup u8 = some ⟨.type "tuple", dd15, .seq #[.str ")" g8_0] nn15, ss15⟩)
    (e9 : K.lookup u9 = some ⟨.type "tuple", dd16, .seq #[.str "," g9_0, .str "NAME" g9_1, .str "FURTHER NAMES" g9_2] nn16, ss16⟩)
    (e10 : K.lookup u10 = some ⟨.type "tuple", dd17, .seq #[.str ")" g10_0] nn17, ss17⟩) :
    ∃ fd : FuncData, (∀ (s : Shared) (v : Value), BindsTo s fd ⟨[v], []⟩ [("_law_script", v)]) ∧ ∀ base : Heap, K.In base → base.Ns mainGlobals mg → FnG l.prog w K mg base 7 fa fd ["_law_script"] (spLaw K) := by
  have e := hfa.symm.trans (PySem.W.mg_of KX G aW)
  cases e
  have B : Blt mg := ⟨PySem.W.mg_none_of KX G z_int, PySem.W.mg_none_of KX G z_abs, PySem.W.mg_none_of KX G z_len, PySem.W.mg_none_of KX G z_max⟩
  have N : Nm mg := ⟨⟨_, PySem.W.mg_of KX G y_NAME⟩, ⟨_, PySem.W.mg_of KX G y_NUMBER⟩, PySem.W.mg_none_of KX G z_reversed, PySem.W.mg_none_of KX G z_range, PySem.W.mg_none_of KX G z_list⟩
  have T : Cts mg := ⟨⟨_, PySem.W.mg_of KX G y_LETTERS⟩, ⟨_, PySem.W.mg_of KX G y_DIGITS⟩, ⟨_, PySem.W.mg_of KX G y_SIGNS⟩, ⟨_, PySem.W.mg_of KX G y_BLANKS⟩, ⟨_, PySem.W.mg_of KX G y_LONGEST⟩⟩
  have W0 : Wd mg := ⟨PySem.W.mg_none_of KX G z_isinstance, PySem.W.mg_none_of KX G z_str, PySem.W.mg_none_of KX G z_all⟩
  have W1 : Wt mg := ⟨PySem.W.mg_none_of KX G z_tuple, PySem.W.mg_none_of KX G z_enumerate⟩
  have gROOT : ∃ t, mg "ROOT" = some (.str "root" t) := ⟨_, PySem.W.mg_of KX G y_ROOT⟩
  have clR : Cls K CR := ⟨pgCR, hdCR, poCR, saCR⟩
  have MR : Mk K CR frI := ⟨mkCR, arI, vrI, kpCR⟩
  have noR0 : NoAttr K CR "_awaited" := naCR0
  have merO : Meth K CR "_open_rules" frO := ⟨arO, vrO, krO⟩
  have merT : Meth K CR "takes" frT := ⟨arT, vrT, krT⟩
  have merD : Meth K CR "is_complete" frD := ⟨arD, vrD, krD⟩
  have clB : Cls K CB := ⟨pgCB, hdCB, poCB, saCB⟩
  have MB : Mk K CB fbI := ⟨mkCB, abI, vbI, kpCB⟩
  have noB0 : NoAttr K CB "_shapes" := naCB0
  have mebS : Meth K CB "shapes" fbS := ⟨abS, vbS, kbS⟩
  have mebW : Meth K CB "words" fbW := ⟨abW, vbW, kbW⟩
  have mebE : Meth K CB "__eq__" fbE := ⟨abE, vbE, kbE⟩
  have icB : IsC K CB := ⟨clB, x1CB, x2, x3, x4CB, x5CB⟩
  have clG : Cls K CG := ⟨pgCG, hdCG, poCG, saCG⟩
  have MG : Mk K CG fgI := ⟨mkCG, agI, vgI, kpCG⟩
  have noG0 : NoAttr K CG "_book" := naCG0
  have noG1 : NoAttr K CG "_words" := naCG1
  have megJ : Meth K CG "joints" fgJ := ⟨agJ, vgJ, kgJ⟩
  have megE : Meth K CG "__eq__" fgE := ⟨agE, vgE, kgE⟩
  have icG : IsC K CG := ⟨clG, x1CG, x2, x3, x4CG, x5CG⟩
  have s0 : ∀ H, SqT K H u0 ((["book", "{", "SHAPES"] : List Str).map V.str) := sqT_of e0 (by simp) (.cons v1 (.cons v1 (.cons v1 .nil)))
  have s1 : ∀ H, SqT K H u1 ((["shape", "NAME", "NAME", "LIST", ";", "SHAPES"] : List Str).map V.str) := sqT_of e1 (by simp) (.cons v1 (.cons v1 (.cons v1 (.cons v1 (.cons v1 (.cons v1 .nil))))))
  have s2 : ∀ H, SqT K H u2 ((["}"] : List Str).map V.str) := sqT_of e2 (by simp) (.cons v1 .nil)
  have s3 : ∀ H, SqT K H u3 ((["bag", "{", "JOINTS"] : List Str).map V.str) := sqT_of e3 (by simp) (.cons v1 (.cons v1 (.cons v1 .nil)))
  have s4 : ∀ H, SqT K H u4 ((["joint", "NAME", "NAME", ";", "JOINTS"] : List Str).map V.str) := sqT_of e4 (by simp) (.cons v1 (.cons v1 (.cons v1 (.cons v1 (.cons v1 .nil)))))
  have s5 : ∀ H, SqT K H u5 ((["}"] : List Str).map V.str) := sqT_of e5 (by simp) (.cons v1 .nil)
  have s6 : ∀ H, SqT K H u6 ((["(", "FIRST NAME"] : List Str).map V.str) := sqT_of e6 (by simp) (.cons v1 (.cons v1 .nil))
  have s7 : ∀ H, SqT K H u7 ((["NAME", "FURTHER NAMES"] : List Str).map V.str) := sqT_of e7 (by simp) (.cons v1 (.cons v1 .nil))
  have s8 : ∀ H, SqT K H u8 (([")"] : List Str).map V.str) := sqT_of e8 (by simp) (.cons v1 .nil)
  have s9 : ∀ H, SqT K H u9 (([",", "NAME", "FURTHER NAMES"] : List Str).map V.str) := sqT_of e9 (by simp) (.cons v1 (.cons v1 (.cons v1 .nil)))
  have s10 : ∀ H, SqT K H u10 (([")"] : List Str).map V.str) := sqT_of e10 (by simp) (.cons v1 .nil)
  have R : Rul K w mg aR aN := by
    refine ⟨PySem.W.mg_of KX G aR_, PySem.W.mg_of KX G aN_, fun H => sqT_of lN (by decide) .nil H, ⟨_, _, lR⟩, fun z hz => ?_, fun z hz => ?_⟩
    · simp only [forms, List.mem_cons, List.not_mem_nil, or_false] at hz
      rcases hz with rfl | rfl | rfl | rfl | rfl | rfl | rfl
      · exact ⟨t0, ⟨_, _, _, lR, keys, lowR, r0, rfl⟩, fun H => by rw [show rulesOf "BOOK" = ([["book", "{", "SHAPES"]] : List (List Str)) by decide +kernel]; exact rows1 (sqT_of h0 (by simp) (.cons vr .nil) H) (s0 H)⟩
      · exact ⟨t1, ⟨_, _, _, lR, keys, lowR, r1, rfl⟩, fun H => by rw [show rulesOf "SHAPES" = ([["shape", "NAME", "NAME", "LIST", ";", "SHAPES"], ["}"]] : List (List Str)) by decide +kernel]; exact rows2 (sqT_of h1 (by simp) (.cons vr (.cons vr .nil)) H) (s1 H) (s2 H)⟩
      · exact ⟨t2, ⟨_, _, _, lR, keys, lowR, r2, rfl⟩, fun H => by rw [show rulesOf "BAG" = ([["bag", "{", "JOINTS"]] : List (List Str)) by decide +kernel]; exact rows1 (sqT_of h2 (by simp) (.cons vr .nil) H) (s3 H)⟩
      · exact ⟨t3, ⟨_, _, _, lR, keys, lowR, r3, rfl⟩, fun H => by rw [show rulesOf "JOINTS" = ([["joint", "NAME", "NAME", ";", "JOINTS"], ["}"]] : List (List Str)) by decide +kernel]; exact rows2 (sqT_of h3 (by simp) (.cons vr (.cons vr .nil)) H) (s4 H) (s5 H)⟩
      · exact ⟨t4, ⟨_, _, _, lR, keys, lowR, r4, rfl⟩, fun H => by rw [show rulesOf "LIST" = ([["(", "FIRST NAME"]] : List (List Str)) by decide +kernel]; exact rows1 (sqT_of h4 (by simp) (.cons vr .nil) H) (s6 H)⟩
      · exact ⟨t5, ⟨_, _, _, lR, keys, lowR, r5, rfl⟩, fun H => by rw [show rulesOf "FIRST NAME" = ([["NAME", "FURTHER NAMES"], [")"]] : List (List Str)) by decide +kernel]; exact rows2 (sqT_of h5 (by simp) (.cons vr (.cons vr .nil)) H) (s7 H) (s8 H)⟩
      · exact ⟨t6, ⟨_, _, _, lR, keys, lowR, r6, rfl⟩, fun H => by rw [show rulesOf "FURTHER NAMES" = ([[",", "NAME", "FURTHER NAMES"], [")"]] : List (List Str)) by decide +kernel]; exact rows2 (sqT_of h6 (by simp) (.cons vr (.cons vr .nil)) H) (s9 H) (s10 H)⟩
    · simp only [signsW, List.mem_cons, List.not_mem_nil, or_false] at hz
      rcases hz with rfl | rfl | rfl
      · exact ⟨_, _, _, lR, keys, lowR, rs0, trivial⟩
      · exact ⟨_, _, _, lR, keys, lowR, rs1, trivial⟩
      · exact ⟨_, _, _, lR, keys, lowR, rs2, trivial⟩
  have FrI := fun_mk (st := sInit) lrI drI krI
  have brI := FrI.binds (ps := ["self", "form"]) fun _ _ _ _ _ _ us hl => match us, hl with | [_, _], _ => rfl
  have FrO := fun_mk (st := sOpen) lrO drO krO
  have brO := FrO.binds (ps := ["self"]) fun _ _ _ _ _ _ us hl => match us, hl with | [_], _ => rfl
  have FrT := fun_mk (st := sTakes) lrT drT krT
  have brT := FrT.binds (ps := ["self", "sort", "lexeme"]) fun _ _ _ _ _ _ us hl => match us, hl with | [_, _, _], _ => rfl
  have FrD := fun_mk (st := sDone) lrD drD krD
  have brD := FrD.binds (ps := ["self"]) fun _ _ _ _ _ _ us hl => match us, hl with | [_], _ => rfl
  have FbI := fun_mk (st := sBookI) lbI dbI kbI
  have bbI := FbI.binds (ps := ["self", "shapes"]) fun _ _ _ _ _ _ us hl => match us, hl with | [_, _], _ => rfl
  have FbS := fun_mk (st := sBookS) lbS dbS kbS
  have bbS := FbS.binds (ps := ["self"]) fun _ _ _ _ _ _ us hl => match us, hl with | [_], _ => rfl
  have FbW := fun_mk (st := sBookW) lbW dbW kbW
  have bbW := FbW.binds (ps := ["self"]) fun _ _ _ _ _ _ us hl => match us, hl with | [_], _ => rfl
  have FbE := fun_mk (st := sBookEq) lbE dbE kbE
  have bbE := FbE.binds (ps := ["self", "other"]) fun _ _ _ _ _ _ us hl => match us, hl with | [_, _], _ => rfl
  have FgI := fun_mk (st := sBagI) lgI dgI kgI
  have bgI := FgI.binds (ps := ["self", "book", "joints"]) fun _ _ _ _ _ _ us hl => match us, hl with | [_, _, _], _ => rfl
  have FgJ := fun_mk (st := sBagJ) lgJ dgJ kgJ
  have bgJ := FgJ.binds (ps := ["self"]) fun _ _ _ _ _ _ us hl => match us, hl with | [_], _ => rfl
  have FgE := fun_mk (st := sBagEq) lgE dgE kgE
  have bgE := FgE.binds (ps := ["self", "other"]) fun _ _ _ _ _ _ us hl => match us, hl with | [_, _], _ => rfl
  have FT := fun_mk (st := sIsTold) lT dT kT
  have bT := FT.binds (ps := ["awaited", "sort", "lexeme"]) fun _ _ _ _ _ _ us hl => match us, hl with | [_, _, _], _ => rfl
  have FRE := fun_mk (st := sRun) lRE dRE kRE
  have bRE := FRE.binds (ps := ["text", "place", "letters"]) fun _ _ _ _ _ _ us hl => match us, hl with | [_, _, _], _ => rfl
  have FLA := fun_mk (st := sLexAt) lLA dLA kLA
  have bLA := FLA.binds (ps := ["text", "place"]) fun _ _ _ _ _ _ us hl => match us, hl with | [_, _], _ => rfl
  have FSC := fun_mk (st := sScan) lSC dSC kSC
  have bSC := FSC.binds (ps := ["text"]) fun _ _ _ _ _ _ us hl => match us, hl with | [_], _ => rfl
  have FLO := fun_mk (st := sLexOf) lLO dLO kLO
  have bLO := FLO.binds (ps := ["form", "text"]) fun _ _ _ _ _ _ us hl => match us, hl with | [_, _], _ => rfl
  have FHR := fun_mk (st := sHead) lHR dHR kHR
  have bHR := FHR.binds (ps := ["form", "text"]) fun _ _ _ _ _ _ us hl => match us, hl with | [_, _], _ => rfl
  have FLI := fun_mk (st := sListOf) lLI dLI kLI
  have bLI := FLI.binds (ps := ["read"]) fun _ _ _ _ _ _ us hl => match us, hl with | [_], _ => rfl
  have FRB := fun_mk (st := sReadBook) lRB dRB kRB
  have bRB := FRB.binds (ps := ["text"]) fun _ _ _ _ _ _ us hl => match us, hl with | [_], _ => rfl
  have FRG := fun_mk (st := sReadBag) lRG dRG kRG
  have bRG := FRG.binds (ps := ["book", "text"]) fun _ _ _ _ _ _ us hl => match us, hl with | [_, _], _ => rfl
  have FLT := fun_mk (st := sListT) lLT dLT kLT
  have bLT := FLT.binds (ps := ["names"]) fun _ _ _ _ _ _ us hl => match us, hl with | [_], _ => rfl
  have FRT := fun_mk (st := sRowsT) lRT dRT kRT
  have bRT := FRT.binds (ps := ["head", "rows"]) fun _ _ _ _ _ _ us hl => match us, hl with | [_, _], _ => rfl
  have FBT := fun_mk (st := sBookT) lBT dBT kBT
  have bBT := FBT.binds (ps := ["book"]) fun _ _ _ _ _ _ us hl => match us, hl with | [_], _ => rfl
  have FGT := fun_mk (st := sBagT) lGT dGT kGT
  have bGT := FGT.binds (ps := ["bag"]) fun _ _ _ _ _ _ us hl => match us, hl with | [_], _ => rfl
  have FIW := fun_mk (st := sIsWord) lIW dIW kIW
  have bIW := FIW.binds (ps := ["value"]) fun _ _ _ _ _ _ us hl => match us, hl with | [_], _ => rfl
  have FWJ := fun_mk (st := sWrongJ) lWJ dWJ kWJ
  have bWJ := FWJ.binds (ps := ["joint", "k", "words", "earlier"]) fun _ _ _ _ _ _ us hl => match us, hl with | [_, _, _, _], _ => rfl
  have FWS := fun_mk (st := sWrongS) lWS dWS kWS
  have bWS := FWS.binds (ps := ["shape", "k", "earlier"]) fun _ _ _ _ _ _ us hl => match us, hl with | [_, _, _], _ => rfl
  have FS := fun_mk (st := sSource) lS dS kS
  have bS := FS.binds (ps := ["_law_script"]) fun _ _ _ _ _ _ us hl => match us, hl with | [_], _ => rfl
  have FP := fun_mk (st := sPick) lP dP kP
  have bP := FP.binds (ps := ["_law_source_here", "_law_many"]) fun _ _ _ _ _ _ us hl => match us, hl with | [_, _], _ => rfl
  have FO := fun_mk (st := sOf) lO dO kO
  have bO := FO.binds (ps := ["_law_source_here", "_law_some"]) fun _ _ _ _ _ _ us hl => match us, hl with | [_, _], _ => rfl
  have FM := fun_mk (st := sMixed) lM dM kM
  have bM := FM.binds (ps := ["_law_source_here", "_law_things"]) fun _ _ _ _ _ _ us hl => match us, hl with | [_, _], _ => rfl
  have FNM := fun_mk (st := sNames) lNM dNM kNM
  have bNM := FNM.binds (ps := ["_law_source_here", "_law_many"]) fun _ _ _ _ _ _ us hl => match us, hl with | [_, _], _ => rfl
  have FSH := fun_mk (st := sShapes) lSH dSH kSH
  have bSH := FSH.binds (ps := ["_law_source_here", "_law_most"]) fun _ _ _ _ _ _ us hl => match us, hl with | [_, _], _ => rfl
  have FDS := fun_mk (st := sDrawnS) lDS dDS kDS
  have bDS := FDS.binds (ps := ["_law_source_here"]) fun _ _ _ _ _ _ us hl => match us, hl with | [_], _ => rfl
  have FDJ := fun_mk (st := sDrawnJ) lDJ dDJ kDJ
  have bDJ := FDJ.binds (ps := ["_law_source_here", "_law_shapes_here"]) fun _ _ _ _ _ _ us hl => match us, hl with | [_, _], _ => rfl
  have FJ := fun_mk (st := sJoined) lJ dJ kJ
  have bJ := FJ.binds (ps := ["_law_signs"]) fun _ _ _ _ _ _ us hl => match us, hl with | [_], _ => rfl
  have FG := fun_mk (st := sSpaced) lG dG kG
  have bG := FG.binds (ps := ["_law_source_here", "_law_signs"]) fun _ _ _ _ _ _ us hl => match us, hl with | [_, _], _ => rfl
  have FLS := fun_mk (st := sListed) lLS dLS kLS
  have bLS := FLS.binds (ps := ["_law_words"]) fun _ _ _ _ _ _ us hl => match us, hl with | [_], _ => rfl
  have FBX := fun_mk (st := sBookLex) lBX dBX kBX
  have bBX := FBX.binds (ps := ["_law_shapes_here"]) fun _ _ _ _ _ _ us hl => match us, hl with | [_], _ => rfl
  have FGX := fun_mk (st := sBagLex) lGX dGX kGX
  have bGX := FGX.binds (ps := ["_law_joints"]) fun _ _ _ _ _ _ us hl => match us, hl with | [_], _ => rfl
  have FW := fun_mk (st := sLaw) lW dW kW
  have bW := FW.binds (ps := ["_law_script"]) fun _ _ _ _ _ _ us hl => match us, hl with | [_], _ => rfl
  refine ⟨PySem.W.fnOf "law" "law" (defArgs sLaw) (defBody sLaw) (defScope sLaw) .none kVW dcW pmW anW cdW ctW, fun s v => .of_eq rfl, fun base _ _ => FnG.ofOk ?_⟩
  have iS := ok_source (P := l.prog) (w := w) (base := base) FS B
  have iP := ok_pick (P := l.prog) (w := w) (K := K) (base := base) FP B
  have iO := ok_of FO B iP bP (PySem.W.mg_of KX G aP) kP
  have iG := ok_spaced FG iO bO (PySem.W.mg_of KX G aO) kO
  have iRE := ok_run (P := l.prog) (w := w) (base := base) FRE B
  have iLA := ok_lexAt FLA T iRE bRE (PySem.W.mg_of KX G aRE) kRE
  have iSC := ok_scan FSC B T iLA bLA (PySem.W.mg_of KX G aLA) kLA
  have irI := ok_rInit (P := l.prog) (w := w) (mg := mg) (base := base) FrI clR noR0
  have irD := ok_rDone (P := l.prog) (w := w) (base := base) FrD B clR noR0
  have irO := ok_open (P := l.prog) (w := w) (base := base) FrO B N R clR noR0
  have iT := ok_isTold (P := l.prog) (w := w) (base := base) FT N
  have irT := ok_takes FrT N clR noR0 merO irO brO iT bT (PySem.W.mg_of KX G aT) kT
  have iLO := ok_lexOf FLO clR MR (PySem.W.mg_of KX G aCR) iSC bSC (PySem.W.mg_of KX G aSC) kSC irI brI merT irT brT merD irD brD
  have iHR := ok_head FHR iLO bLO (PySem.W.mg_of KX G aLO) kLO
  have iIW := ok_isWord (P := l.prog) (w := w) (base := base) FIW B T W0
  have iWS := ok_wrongS FWS B W0 N W1 iIW bIW (PySem.W.mg_of KX G aIW) kIW
  have ibI := ok_bookI FbI clB noB0 W0 N W1 iWS bWS (PySem.W.mg_of KX G aWS) kWS
  have ibS := ok_bookS (P := l.prog) (w := w) (base := base) FbS clB noB0 N
  have ibW := ok_bookW (P := l.prog) (w := w) (base := base) FbW clB noB0 N
  have ibE := ok_bookEq FbE clB icB W0 (PySem.W.mg_of KX G aCB) mebS ibS bbS
  have iWJ := ok_wrongJ FWJ B W0 W1 gROOT iIW bIW (PySem.W.mg_of KX G aIW) kIW
  have igI := ok_bagI FgI clB clG noG0 noG1 W0 N W1 iWJ bWJ (PySem.W.mg_of KX G aWJ) kWJ mebW ibW bbW
  have igJ := ok_bagJ (CB := CB) (P := l.prog) (w := w) (base := base) FgJ clG noG1 N
  have igE := ok_bagEq FgE clG noG0 icG W0 (PySem.W.mg_of KX G aCG) megJ igJ bgJ ibE bbE abE vbE
  have iRT := ok_rowsT (P := l.prog) (w := w) (mg := mg) (base := base) FRT
  have iLT := ok_listT (P := l.prog) (w := w) (mg := mg) (base := base) FLT
  have iBT := ok_bookT FBT clB mebS ibS bbS iLT bLT (PySem.W.mg_of KX G aLT) kLT iRT bRT (PySem.W.mg_of KX G aRT) kRT
  have iGT := ok_bagT FGT clG megJ igJ bgJ iRT bRT (PySem.W.mg_of KX G aRT) kRT
  have iLI := ok_listOf (P := l.prog) (w := w) (base := base) FLI W1
  have iRB := ok_readBook FRB clB MB (PySem.W.mg_of KX G aCB) iHR bHR (PySem.W.mg_of KX G aHR) kHR iLI bLI (PySem.W.mg_of KX G aLI) kLI ibI bbI
  have iRG := ok_readBag FRG MG (PySem.W.mg_of KX G aCG) iHR bHR (PySem.W.mg_of KX G aHR) kHR igI bgI
  have iNM := ok_names FNM B W0 N iP bP (PySem.W.mg_of KX G aP) kP
  have iM := ok_mixed FM B N iP bP (PySem.W.mg_of KX G aP) kP
  have iSH := ok_shapes FSH N W1 iP bP (PySem.W.mg_of KX G aP) kP iNM bNM (PySem.W.mg_of KX G aNM) kNM iO bO (PySem.W.mg_of KX G aO) kO iM bM (PySem.W.mg_of KX G aM) kM
  have iDS := ok_drawnS FDS N W1 iP bP (PySem.W.mg_of KX G aP) kP iSH bSH (PySem.W.mg_of KX G aSH) kSH iO bO (PySem.W.mg_of KX G aO) kO iM bM (PySem.W.mg_of KX G aM) kM
  have iDJ := ok_drawnJ FDJ B N iP bP (PySem.W.mg_of KX G aP) kP iNM bNM (PySem.W.mg_of KX G aNM) kNM iO bO (PySem.W.mg_of KX G aO) kO iM bM (PySem.W.mg_of KX G aM) kM
  have iJ := ok_joined (P := l.prog) (w := w) (mg := mg) (base := base) FJ
  have iLS := ok_listed (P := l.prog) (w := w) (base := base) FLS B N
  have iBX := ok_bookLex FBX iLS bLS (PySem.W.mg_of KX G aLS) kLS
  have iGX := ok_bagLex (P := l.prog) (w := w) (mg := mg) (base := base) FGX
  exact ok_law FW N clB clG ⟨_, _, iS, bS, PySem.W.mg_of KX G aS, kS⟩ ⟨_, _, iDS, bDS, PySem.W.mg_of KX G aDS, kDS⟩ ⟨_, _, iDJ, bDJ, PySem.W.mg_of KX G aDJ, kDJ⟩ ⟨_, _, iJ, bJ, PySem.W.mg_of KX G aJ, kJ⟩ ⟨_, _, iG, bG, PySem.W.mg_of KX G aG, kG⟩ ⟨_, _, iBX, bBX, PySem.W.mg_of KX G aBX, kBX⟩ ⟨_, _, iGX, bGX, PySem.W.mg_of KX G aGX, kGX⟩ ⟨_, _, iBT, bBT, PySem.W.mg_of KX G aBT, kBT⟩ ⟨_, _, iGT, bGT, PySem.W.mg_of KX G aGT, kGT⟩ ⟨_, _, iRB, bRB, PySem.W.mg_of KX G aRB, kRB⟩ ⟨_, _, iRG, bRG, PySem.W.mg_of KX G aRG, kRG⟩
    ⟨⟨_, _, ibI, bbI, MB⟩, PySem.W.mg_of KX G aCB⟩ ⟨⟨_, _, igI, bgI, MG⟩, PySem.W.mg_of KX G aCG⟩ ⟨_, _, ibS, bbS, mebS⟩ ⟨_, _, igJ, bgJ, megJ⟩ ⟨⟨_, _, ibE, bbE, abE, vbE⟩, neCB, obCB⟩ ⟨⟨_, _, igE, bgE, agE, vgE⟩, neCG, obCG⟩
end Bc
open PySem PySem.W PyProof.Rows
set_option maxRecDepth 100000 in
set_option maxHeartbeats 0 in
theorem PySem.Challenge.cw_bushcoins_k12_whole_texts_of_books_and_b_holds : PySem.Challenge.rw_bushcoins_k12_whole_texts_of_books_and_b.Holds := by
  w_on; o_law; k_head; (case hw => w_witness2)
  k_fill
  refine Bc.walkG (l := PySem.Challenge.rw_bushcoins_k12_whole_texts_of_books_and_b) (n := 63) (k := 7) (x := "_law_script") (sp := fun w => Bc.spLaw _) rfl (by decide) rfl ⟨rfl, by decide, by decide⟩ (fun w h Y => PySem.W.kIn_of Y) ?F (fun _ _ a ns hl _ hS => ⟨a, ns, rfl, hS, hl, fun _ => rfl⟩)
  case F =>
    intro w mg fa h KX G hmg
    refine' Bc.all_mk KX G hmg ?aCR ?pgCR ?hdCR ?poCR ?saCR ?naCR0 ?mkCR ?kpCR ?arI ?lrI ?drI ?krI ?vrI ?arO ?lrO ?drO ?krO ?vrO ?arT ?lrT ?drT ?krT ?vrT ?arD ?lrD ?drD ?krD ?vrD ?aCB ?pgCB ?hdCB ?poCB ?saCB ?naCB0 ?mkCB ?kpCB ?x1CB ?x4CB ?x5CB ?neCB ?obCB ?abI ?lbI ?dbI ?kbI ?vbI ?abS ?lbS ?dbS ?kbS ?vbS ?abW ?lbW ?dbW ?kbW ?vbW ?abE ?lbE ?dbE ?kbE ?vbE ?aCG ?pgCG ?hdCG ?poCG ?saCG ?naCG0 ?naCG1 ?mkCG ?kpCG ?x1CG ?x4CG ?x5CG ?neCG ?obCG ?agI ?lgI ?dgI ?kgI ?vgI ?agJ ?lgJ ?dgJ ?kgJ ?vgJ ?agE ?lgE ?dgE ?kgE ?vgE ?x2 ?x3 ?aT ?lT ?dT ?kT ?aRE ?lRE ?dRE ?kRE ?aLA ?lLA ?dLA ?kLA ?aSC ?lSC ?dSC ?kSC ?aLO ?lLO ?dLO ?kLO ?aHR ?lHR ?dHR ?kHR ?aLI ?lLI ?dLI ?kLI ?aRB ?lRB ?dRB ?kRB ?aRG ?lRG ?dRG ?kRG ?aLT ?lLT ?dLT ?kLT ?aRT ?lRT ?dRT ?kRT ?aBT ?lBT ?dBT ?kBT ?aGT ?lGT ?dGT ?kGT ?aIW ?lIW ?dIW ?kIW ?aWJ ?lWJ ?dWJ ?kWJ ?aWS ?lWS ?dWS ?kWS ?aS ?lS ?dS ?kS ?aP ?lP ?dP ?kP ?aO ?lO ?dO ?kO ?aM ?lM ?dM ?kM ?aNM ?lNM ?dNM ?kNM ?aSH ?lSH ?dSH ?kSH ?aDS ?lDS ?dDS ?kDS ?aDJ ?lDJ ?dDJ ?kDJ ?aJ ?lJ ?dJ ?kJ ?aG ?lG ?dG ?kG ?aLS ?lLS ?dLS ?kLS ?aBX ?lBX ?dBX ?kBX ?aGX ?lGX ?dGX ?kGX ?aW ?lW ?dW ?kW ?z_int ?z_abs ?z_len ?z_max ?z_reversed ?z_range ?z_list ?z_tuple ?z_isinstance ?z_str ?z_all ?z_enumerate ?y_LETTERS ?y_DIGITS ?y_SIGNS ?y_BLANKS ?y_LONGEST ?y_NAME ?y_NUMBER ?y_ROOT ?aR_ ?aN_ ?lR ?lN ?lowR ?keys ?r0 ?r1 ?r2 ?r3 ?r4 ?r5 ?r6 ?rs0 ?rs1 ?rs2 ?h0 ?h1 ?h2 ?h3 ?h4 ?h5 ?h6 ?e0 ?e1 ?e2 ?e3 ?e4 ?e5 ?e6 ?e7 ?e8 ?e9 ?e10
    (case aCR => k_is)
    (case pgCR => kernel_rfl)
    (case hdCR => kernel_rfl)
    (case poCR => kernel_rfl)
    (case saCR => k_is)
    (case naCR0 => k_is)
    (case mkCR => kernel_rfl)
    (case kpCR => k_is)
    (case arI => k_is)
    (case lrI => k_is)
    (case drI => k_is)
    (case krI => k_is)
    (case vrI => kernel_rfl)
    (case arO => k_is)
    (case lrO => k_is)
    (case drO => k_is)
    (case krO => k_is)
    (case vrO => kernel_rfl)
    (case arT => k_is)
    (case lrT => k_is)
    (case drT => k_is)
    (case krT => k_is)
    (case vrT => kernel_rfl)
    (case arD => k_is)
    (case lrD => k_is)
    (case drD => k_is)
    (case krD => k_is)
    (case vrD => kernel_rfl)
    (case aCB => k_is)
    (case pgCB => kernel_rfl)
    (case hdCB => kernel_rfl)
    (case poCB => kernel_rfl)
    (case saCB => k_is)
    (case naCB0 => k_is)
    (case mkCB => kernel_rfl)
    (case kpCB => k_is)
    (case x1CB => k_is)
    (case x4CB => kernel_rfl)
    (case x5CB => kernel_rfl)
    (case neCB => k_is)
    (case obCB => kernel_rfl)
    (case abI => k_is)
    (case lbI => k_is)
    (case dbI => k_is)
    (case kbI => k_is)
    (case vbI => kernel_rfl)
    (case abS => k_is)
    (case lbS => k_is)
    (case dbS => k_is)
    (case kbS => k_is)
    (case vbS => kernel_rfl)
    (case abW => k_is)
    (case lbW => k_is)
    (case dbW => k_is)
    (case kbW => k_is)
    (case vbW => kernel_rfl)
    (case abE => k_is)
    (case lbE => k_is)
    (case dbE => k_is)
    (case kbE => k_is)
    (case vbE => kernel_rfl)
    (case aCG => k_is)
    (case pgCG => kernel_rfl)
    (case hdCG => kernel_rfl)
    (case poCG => kernel_rfl)
    (case saCG => k_is)
    (case naCG0 => k_is)
    (case naCG1 => k_is)
    (case mkCG => kernel_rfl)
    (case kpCG => k_is)
    (case x1CG => k_is)
    (case x4CG => kernel_rfl)
    (case x5CG => kernel_rfl)
    (case neCG => k_is)
    (case obCG => kernel_rfl)
    (case agI => k_is)
    (case lgI => k_is)
    (case dgI => k_is)
    (case kgI => k_is)
    (case vgI => kernel_rfl)
    (case agJ => k_is)
    (case lgJ => k_is)
    (case dgJ => k_is)
    (case kgJ => k_is)
    (case vgJ => kernel_rfl)
    (case agE => k_is)
    (case lgE => k_is)
    (case dgE => k_is)
    (case kgE => k_is)
    (case vgE => kernel_rfl)
    (case x2 => k_is)
    (case x3 => kernel_rfl)
    (case aT => k_is)
    (case lT => k_is)
    (case dT => k_is)
    (case kT => k_is)
    (case aRE => k_is)
    (case lRE => k_is)
    (case dRE => k_is)
    (case kRE => k_is)
    (case aLA => k_is)
    (case lLA => k_is)
    (case dLA => k_is)
    (case kLA => k_is)
    (case aSC => k_is)
    (case lSC => k_is)
    (case dSC => k_is)
    (case kSC => k_is)
    (case aLO => k_is)
    (case lLO => k_is)
    (case dLO => k_is)
    (case kLO => k_is)
    (case aHR => k_is)
    (case lHR => k_is)
    (case dHR => k_is)
    (case kHR => k_is)
    (case aLI => k_is)
    (case lLI => k_is)
    (case dLI => k_is)
    (case kLI => k_is)
    (case aRB => k_is)
    (case lRB => k_is)
    (case dRB => k_is)
    (case kRB => k_is)
    (case aRG => k_is)
    (case lRG => k_is)
    (case dRG => k_is)
    (case kRG => k_is)
    (case aLT => k_is)
    (case lLT => k_is)
    (case dLT => k_is)
    (case kLT => k_is)
    (case aRT => k_is)
    (case lRT => k_is)
    (case dRT => k_is)
    (case kRT => k_is)
    (case aBT => k_is)
    (case lBT => k_is)
    (case dBT => k_is)
    (case kBT => k_is)
    (case aGT => k_is)
    (case lGT => k_is)
    (case dGT => k_is)
    (case kGT => k_is)
    (case aIW => k_is)
    (case lIW => k_is)
    (case dIW => k_is)
    (case kIW => k_is)
    (case aWJ => k_is)
    (case lWJ => k_is)
    (case dWJ => k_is)
    (case kWJ => k_is)
    (case aWS => k_is)
    (case lWS => k_is)
    (case dWS => k_is)
    (case kWS => k_is)
    (case aS => k_is)
    (case lS => k_is)
    (case dS => k_is)
    (case kS => k_is)
    (case aP => k_is)
    (case lP => k_is)
    (case dP => k_is)
    (case kP => k_is)
    (case aO => k_is)
    (case lO => k_is)
    (case dO => k_is)
    (case kO => k_is)
    (case aM => k_is)
    (case lM => k_is)
    (case dM => k_is)
    (case kM => k_is)
    (case aNM => k_is)
    (case lNM => k_is)
    (case dNM => k_is)
    (case kNM => k_is)
    (case aSH => k_is)
    (case lSH => k_is)
    (case dSH => k_is)
    (case kSH => k_is)
    (case aDS => k_is)
    (case lDS => k_is)
    (case dDS => k_is)
    (case kDS => k_is)
    (case aDJ => k_is)
    (case lDJ => k_is)
    (case dDJ => k_is)
    (case kDJ => k_is)
    (case aJ => k_is)
    (case lJ => k_is)
    (case dJ => k_is)
    (case kJ => k_is)
    (case aG => k_is)
    (case lG => k_is)
    (case dG => k_is)
    (case kG => k_is)
    (case aLS => k_is)
    (case lLS => k_is)
    (case dLS => k_is)
    (case kLS => k_is)
    (case aBX => k_is)
    (case lBX => k_is)
    (case dBX => k_is)
    (case kBX => k_is)
    (case aGX => k_is)
    (case lGX => k_is)
    (case dGX => k_is)
    (case kGX => k_is)
    (case aW => k_is)
    (case lW => k_is)
    (case dW => k_is)
    (case kW => k_is)
    (case z_int => k_is)
    (case z_abs => k_is)
    (case z_len => k_is)
    (case z_max => k_is)
    (case z_reversed => k_is)
    (case z_range => k_is)
    (case z_list => k_is)
    (case z_tuple => k_is)
    (case z_isinstance => k_is)
    (case z_str => k_is)
    (case z_all => k_is)
    (case z_enumerate => k_is)
    (case y_LETTERS => k_is)
    (case y_DIGITS => k_is)
    (case y_SIGNS => k_is)
    (case y_BLANKS => k_is)
    (case y_LONGEST => k_is)
    (case y_NAME => k_is)
    (case y_NUMBER => k_is)
    (case y_ROOT => k_is)
    (case aR_ => k_is)
    (case aN_ => k_is)
    (case lR => k_is)
    (case lN => k_is)
    (case lowR => decide)
    (case keys => exact ⟨⟨_, _, rfl, rfl⟩, ⟨_, _, rfl, rfl⟩, ⟨_, _, rfl, rfl⟩, ⟨_, _, rfl, rfl⟩, ⟨_, _, rfl, rfl⟩, ⟨_, _, rfl, rfl⟩, ⟨_, _, rfl, rfl⟩, ⟨_, _, rfl, rfl⟩, ⟨_, _, rfl, rfl⟩, ⟨_, _, rfl, rfl⟩, ⟨_, _, rfl, rfl⟩, ⟨_, _, rfl, rfl⟩, ⟨_, _, rfl, rfl⟩, ⟨_, _, rfl, rfl⟩, ⟨_, _, rfl, rfl⟩, trivial⟩)
    (case r0 => k_is)
    (case r1 => k_is)
    (case r2 => k_is)
    (case r3 => k_is)
    (case r4 => k_is)
    (case r5 => k_is)
    (case r6 => k_is)
    (case rs0 => k_is)
    (case rs1 => k_is)
    (case rs2 => k_is)
    (case h0 => k_is)
    (case h1 => k_is)
    (case h2 => k_is)
    (case h3 => k_is)
    (case h4 => k_is)
    (case h5 => k_is)
    (case h6 => k_is)
    (case e0 => k_is)
    (case e1 => k_is)
    (case e2 => k_is)
    (case e3 => k_is)
    (case e4 => k_is)
    (case e5 => k_is)
    (case e6 => k_is)
    (case e7 => k_is)
    (case e8 => k_is)
    (case e9 => k_is)
    (case e10 => k_is)
#print axioms PySem.Challenge.cw_bushcoins_k12_whole_texts_of_books_and_b_holds

