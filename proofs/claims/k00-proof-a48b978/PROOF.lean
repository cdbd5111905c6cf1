import PyProof.Rows.All
import Wide.All
import OpenK.AllK
import Wide.FinOn
import PySem.Challenge.RW_oneswill_k00_integers_names_and_values
import HandS.ForMost
import HandS.IsInst
import HandS.Wide
import HandS.TupAny
import HandS.TupMul
import HandS.Style
import HandS.Conv
import PyProof.ReprRoads
import HandS.Defaults
import HandS.HeadHook1
import HandS.HeadHook2
import Lean
import HandS.Ends
import HandS.More
import HandS.Words
import HandS.WordsExc
import HandS.Head0
import HandS.Head1
import HandS.Head2
import HandS.HeadEnd
set_option Elab.async false
set_option linter.all false
set_option maxRecDepth 100000
set_option maxHeartbeats 4000000
namespace Ow
open PySem PySem.Spec PyProof.Rows L2

/-! a def's promise where no repr runs around the call -/
structure FnG (P : Program) (w : World) (K : PySem.W.Frag) (mg : Str → Option Value)
    (base : Heap) (k : Nat) (f : Addr) (fd : FuncData) (ps : List Str) (sp : Sp) : Prop where
  ln : ∀ vs H Q E, sp vs H Q E → vs.length = ps.length
  go : ∀ (B : Around) (up : List Env) (s : Shared) (H : Hp) (ar : Args) (ws : List Value) (vs : List V)
    (Q : VK) (E : XK), B.guards = some [] → Room k B → Env0 P w K mg base B up s H →
    BindsTo s fd ar (ps.zip ws) → Vals vs ws → sp vs H Q E →
    codeAny (model P w) B (.call (.ref f) ar) (CR CX0 up P w H s Q E) s
theorem FnG.of {P : Program} {w : World} {K : PySem.W.Frag} {mg : Str → Option Value} {base : Heap}
    {k : Nat} {f : Addr} {fd : FuncData} {ps : List Str} {sp : Sp}
    (F : FnOk P w K mg base CX0 k f fd ps sp) : FnG P w K mg base k f fd ps sp :=
  ⟨F.len, fun B up s H ar ws vs Q E _ => F.run B up s H ar ws vs Q E⟩

section
variable {P : Program} {w : World} {K : PySem.W.Frag} {mg : Str → Option Value} {base : Heap}
theorem guardsDeep {B : Around} {env : Env} : (B.deeper env).guards = B.guards := rfl
/-- a def of the text, by its body, with nothing guarded -/
theorem okG {x qual : Str} {st : Stmt} {f : Addr} {fd : FuncData} {N ps : List Str} {k : Nat} {sp : Sp}
    (F : Fun K x qual st f fd) (S : FnScope N ps (defScope st))
    (ln : ∀ vs H Q E, sp vs H Q E → vs.length = ps.length)
    (body : ∀ (cd : Value) (B : Around) (up : List Env) (s : Shared) (H : Hp) (vs : List V) (Q : VK) (E : XK),
      B.guards = some [] → Room k (B.deeper (envOfC qual (defScope st) s.heap.objs.size f cd)) → sp vs H Q E →
      ∃ t, PSs (cxOf CX0 P w K mg base N qual (defScope st) f cd B up s H E).nox (defBody st) t ∧
        t { nx := fun _ H' => Q .non H', rt := Q } (start N vs) H) :
    FnG P w K mg base (k + 1) f fd ps sp := by
  obtain ⟨oc, od, kV, doc, pm, an, cd, ct, osl, rfl, lk, hcd⟩ := F.ex
  refine ⟨ln, fun B up s H ar ws vs Q E gB hr e0 hb r hsp => ?_⟩
  have nvs := ln _ _ _ _ hsp
  have inK : K.In s.heap := e0.mod.kin.keeps fun b o e => (e0.bs b o e).1
  have noL : s.heap.NoLimit := e0.mod.nolimit.keeps fun b o e => (e0.bs b o e).1
  have kinds : ∀ y ∈ ps.zip ws, (defScope st).names.lookup y.1 = some .local ∨
      ((defScope st).names.lookup y.1 = some .cell ∧
        ((cellsFrom (s.heap.objs.size + 1) (defScope st).names []).lookup y.1).isSome = true) := by
    intro ⟨n, v⟩ hy
    rcases S.par n (List.of_mem_zip hy).1 with q | q
    · exact .inl q
    · exact .inr ⟨q, PySem.W.cellsFrom_some _ _ _ (.inl q)⟩
  refine codeAny_call_function hr.depth (inK _ _ lk) rfl S.co S.gen rfl
    (PySem.W.codeRec_of inK hcd) (hb _ _ _ _ ?_)
  refine wpAny_newFunctionEnv_cells S.kind kinds fun env he s1 z => ?_
  subst he
  refine ⟨noL.keeps z.toInCall.keep, codeAny_func ?_⟩
  obtain ⟨t, ht, hq⟩ := body cd B up s H vs Q E gB (hr.deeper _) hsp
  have J0 : Inv (cxOf CX0 P w K mg base N qual (defScope st) f cd B up s H E) [] (start N vs) H s1 :=
    inv_start S hr.hd e0 nvs r z
  refine wpAny_mono (ht.nox.run [] s1 (start N vs) H _ J0 hq) (fun fl s' hs => ?_) fun e s' hs => hs
  cases fl with
  | ret u =>
    obtain ⟨v, σ', H', J, rv, q⟩ := hs
    exact ⟨v, H', J.os, J.bare, J.base, J.hok, rv, q⟩
  | next =>
    obtain ⟨σ', H', J, q⟩ := hs
    exact ⟨V.non, H', J.os, J.bare, J.base, J.hok, rfl, q⟩
  | brk =>
    obtain ⟨_, _, _, q⟩ := hs
    exact False.elim q
  | cont =>
    obtain ⟨_, _, _, q⟩ := hs
    exact False.elim q
end
section
variable {X : Cx} {k : Nat} {f : Addr} {fd : FuncData} {ps : List Str} {sp : Sp}
  {x : Str} {p pos : Pos} {e : Expr} {es : List Expr} {t : TA}
/-- f(..) of such a def, in a body around which nothing is guarded -/
theorem pe_callG (F : FnG X.prog X.w X.K X.mg X.base k f fd ps sp) (gX : X.A.guards = some [])
    (hr : Room k X.A) (hg : Gl X x) (hm : X.mg x = some (.ref f)) (hk : PySem.W.keepIn X.K (.ref f) = true)
    (hb : Binds X.K fd ps []) (ha : PA X (e :: es) t)
    (hdb : (x == ("__debug__" : Str)) = false := by decide)
    (he : starEach (e :: es) X.env = (false, eval e X.env) :: starEach es X.env := by rfl)
    (hpl : (backTo pos (starEach es X.env)).any (·.1) = false := by rfl) :
    PE X (.Call (.Name x p) (e :: es) [] pos) (tCall sp [] E0 t) := by
  refine ⟨fun pins s σ H Q I h => ?_⟩
  refine wpAny_Call_Name_kw (ld_glob I hg hm ?_ hdb)
  refine PySem.W.callWith_K (h₀ := X.base) I.ok.mod.kin hk
    (thn (ha.run pos pins s σ H _ I h) fun us s1 hs1 => ?_) he hpl
  obtain ⟨vs, H1, I1, r, q⟩ := hs1
  refine ⟨I1.kIn, ?_⟩
  have q' : sp (vs ++ []) H1 Q E0 := q
  rw [List.append_nil] at q'
  have hl : (us ++ []).length = ps.length := by
    rw [List.append_nil, ← r.length]
    exact F.ln _ _ _ _ q'
  have bt := hb s1 us I1.kIn hl
  rw [List.append_nil] at bt
  refine wpAny_call (codeAny_mono (F.go X.A X.stack s1 H1 ⟨us, []⟩ us vs Q E0 gX hr I1.env0 bt r q') ?_)
  intro r' s' hq
  cases r' with
  | error er => exact False.elim hq
  | ok fl =>
    cases fl with
    | ret u => exact I1.after hq
    | next => exact False.elim hq
    | brk => exact False.elim hq
    | cont => exact False.elim hq
end

/-! repr of data -/
section
variable {X : Cx}
/-- repr(x): x data whose text is known to fit -/
def rRepr (K : PySem.W.Frag) : List V → Hp → VK → Prop := fun xs H Q => ∃ (x : V) (d : PyData), xs = [x] ∧
  Dp K H x d ∧ d.showable = true ∧ d.hasDict = false ∧ d.depth ≤ 40 ∧ d.shown.length ≤ sizeLine ∧
  (∀ i : Int, d = .int i → i.natAbs.log2 < 1920) ∧ Q (.str d.shown) H
theorem call_repr (gX : X.A.guards = some []) (hu : X.A.units + 64 < cLine) :
    CallR X (.builtin "repr") (rRepr X.K) := by
  intro pins s σ H xs us Q I r h
  obtain ⟨x, d, rfl, hd, hsh, hno, hde, hsz, hint, q⟩ := h
  obtain ⟨u, rfl, ru⟩ := vals1 r
  cases hd with
  | non =>
    cases ru
    exact PySem.P.repr_of_none ⟨.str _, H, I.tok _, ⟨_, rfl⟩, q⟩
  | bl b =>
    cases ru
    refine PySem.P.repr_of_bool ⟨.str _, H, I.tok _, ⟨_, rfl⟩, ?_⟩
    cases b <;> exact q
  | int i =>
    obtain ⟨t, rfl⟩ := ru
    exact PySem.P.repr_of_int (hint i rfl) ⟨.str _, H, I.tok _, ⟨_, rfl⟩, q⟩
  | str z =>
    obtain ⟨t, rfl⟩ := ru
    exact PySem.P.repr_of_str ⟨.str _, H, I.tok _, ⟨_, rfl⟩, q⟩ hsz
  | @lst a ys ds hs ha =>
    obtain ⟨as, rd⟩ := Dp.reads I (.list ds) (.ref a) u (.lst hs ha) ru
    cases ru
    refine repr_of_reads' rd hsh (fun z => absurd (hno.symm.trans z) Bool.false_ne_true) gX (by omega)
      (fun _ _ e => e) (fun h' t' tk hk => ?_) hsz
    exact ⟨.str _, H, I.kept (t' := tk) hk, ⟨_, rfl⟩, q⟩
  | @tup a ys ds hs ha =>
    obtain ⟨as, rd⟩ := Dp.reads I (.tuple ds) (.ref a) u (.tup hs ha) ru
    cases ru
    refine repr_of_reads' rd hsh (fun z => absurd (hno.symm.trans z) Bool.false_ne_true) gX (by omega)
      (fun _ _ e => e) (fun h' t' tk hk => ?_) hsz
    exact ⟨.str _, H, I.kept (t' := tk) hk, ⟨_, rfl⟩, q⟩
end
end Ow

set_option Elab.async false
set_option linter.all false
set_option maxRecDepth 100000
set_option maxHeartbeats 4000000
namespace Ow
open PySem PySem.Spec PyProof.Rows L2

/-- what the law's end asks of the call -/
abbrev EndOf (s₁ : Shared) : Result → Shared → Prop := fun r s' =>
  r = .ok (.ret (.bool true)) ∧ OldK s₁.heap s'.heap ∧ s'.os = s₁.os ∧ AllBare s'.gens
section
variable {P : Program} {w : World} {K : PySem.W.Frag} {mg mb : Str → Option Value} {k : Nat} {fa a : Addr}
  {fd : FuncData} {x : Str} {sp : Sp} {s₁ : Shared} {vs : List Value} {ns : List Int}
/-- .. where at most the script, known to its object, is tracked -/
theorem endG1 {H : Hp} (ob : Obj) (hob : s₁.heap.get? a = some ob) (hda : ∀ es ep, ob.data ≠ .dict es ep)
    (inK : K.In s₁.heap) (nsM : s₁.heap.Ns mainGlobals mg) (nsB : s₁.heap.Ns builtinsNs mb)
    (boot : ∀ y : Str, y ≠ "__name__" → mb y = bootBuiltins y) (noL : s₁.heap.NoLimit)
    (g0 : s₁.gens = #[]) (hr : Room k callerA)
    (F : ∀ base : Heap, K.In base → base.Ns mainGlobals mg → FnG P w K mg base k fa fd [x] sp)
    (bind : ∀ (s : Shared) (u : Value), BindsTo s fd ⟨[u], []⟩ [(x, u)])
    (hs : sp [.ref a] H (fun v _ => v = .bl true) fun _ _ _ => False) (only : Only H)
    (hok : HOk P w H s₁.heap) (hA : ∀ b, H b ≠ none → b = a) (hK : H a ≠ none → K.lookup a = none) :
    codeAny (model P w) callerA (.call (.ref fa) ⟨[.ref a], []⟩) (EndOf s₁) s₁ := by
  have free : ∀ {b : Addr}, b ≠ a → H b = none := fun {b} n => by
    cases e : H b with
    | none => rfl
    | some u => exact absurd (hA b (by rw [e]; exact fun z => nomatch z)) n
  have hid : ∀ {b : Addr} {o : Obj}, s₁.heap.get? b = some o → H b = none → (hidT s₁.heap H).get? b = some o :=
    fun e n => hidT_get e n
  have dictFree : ∀ {b : Addr} {o : Obj} {es : Array DictEntry} {ep : Nat},
      s₁.heap.get? b = some o → o.data = .dict es ep → H b = none := fun {b o es ep} e d => by
    refine free fun z => ?_
    rw [z, hob] at e
    exact hda es ep (by rw [Option.some.inj e]; exact d)
  have nsOf : ∀ {b : Addr} {m : Str → Option Value}, s₁.heap.Ns b m → (hidT s₁.heap H).Ns b m := by
    intro b m q
    obtain ⟨o, es, ep, e, d, r⟩ := q
    exact ⟨o, es, ep, hid e (dictFree e d), d, r⟩
  have inB : K.In (hidT s₁.heap H) := fun b o e => hid (inK b o e) (by
    by_cases hb : b = a
    · cases q : H b with
      | none => rfl
      | some u =>
        rw [hb] at e q
        rw [hK (by rw [q]; exact fun z => nomatch z)] at e
        cases e
    · exact free hb)
  have hM : Mod K mg (hidT s₁.heap H) := by
    obtain ⟨mc, h1, h2⟩ := noL
    exact ⟨inB, nsOf nsM, ⟨mb, nsOf nsB, boot⟩, mc, nsOf h1, h2⟩
  have e0 : Env0 P w K mg (hidT s₁.heap H) callerA [] s₁ H :=
    { frames := rfl, mod := hM, bs := fun b o e => of_hidT e, bsz := Nat.le_of_eq (hidT_size _ _)
      funs := trivial, frf := fun b hb => (nomatch (show b ∈ ([] : List Addr) from hb)), hok := hok, bare := .of_eq g0 }
  have run := (F _ inB (nsOf nsM)).go callerA [] s₁ H ⟨[.ref a], []⟩ [.ref a] [.ref a] _ _ rfl hr e0
    (bind s₁ (.ref a)) (.cons rfl .nil) hs
  refine codeAny_mono run fun r s' h => ?_
  cases r with
  | error e => exact False.elim h
  | ok fl =>
    cases fl with
    | next => exact False.elim h
    | brk => exact False.elim h
    | cont => exact False.elim h
    | ret u =>
      obtain ⟨v, H', os, bare, un, hok', rv, q⟩ := h
      have q' : v = .bl true := q
      subst q'
      have eu : u = Value.bool true := rv
      subst eu
      refine ⟨rfl, OldK.of_keep fun b o e => ?_, os, bare⟩
      rcases only b with z | ⟨ob, xs, z⟩
      · exact un.keep b o e z (fun m => nomatch (show b ∈ ([] : List Addr) from m)) (fun m => nomatch m)
      · obtain ⟨e1, _⟩ := hok b _ z
        obtain ⟨e2, _⟩ := hok' b _ (un.frzs b ob _ z)
        rw [e] at e1
        rw [Option.some.inj e1]
        exact e2
theorem endG (inK : K.In s₁.heap) (nsM : s₁.heap.Ns mainGlobals mg) (nsB : s₁.heap.Ns builtinsNs mb)
    (boot : ∀ y : Str, y ≠ "__name__" → mb y = bootBuiltins y) (noL : s₁.heap.NoLimit)
    (g0 : s₁.gens = #[]) (hob : s₁.heap.get? a = some { cls := .type "list", data := .seq vs.toArray })
    (hi : IntsAre vs ns) (hl : ns.length ≤ sizeLine) (hr : Room k callerA)
    (F : ∀ base : Heap, K.In base → base.Ns mainGlobals mg → FnG P w K mg base k fa fd [x] sp)
    (bind : ∀ (s : Shared) (u : Value), BindsTo s fd ⟨[u], []⟩ [(x, u)])
    (hs : ∀ H : Hp, Only H → SqL K H a (ns.map V.int) → sp [.ref a] H (fun v _ => v = .bl true) fun _ _ _ => False) :
    codeAny (model P w) callerA (.call (.ref fa) ⟨[.ref a], []⟩) (EndOf s₁) s₁ := by
  have rv := vals_ints hi
  have nd : ∀ es ep, (Obj.data { cls := .type "list", data := .seq vs.toArray }) ≠ .dict es ep := fun es ep z => by cases z
  cases hk : K.lookup a with
  | some o =>
    have e := inK a o hk
    rw [hob] at e
    cases e
    have O : Only (fun _ => none) := fun _ => .inl rfl
    refine endG1 (H := fun _ => none) _ hob nd inK nsM nsB boot noL g0 hr F bind (hs _ O (.inr ?_)) O
      (fun b u z => nomatch z) (fun b z => absurd rfl z) (fun z => absurd rfl z)
    exact ⟨_, vs.toArray, _, hk, rfl, rfl, rfl, by rw [List.size_toArray, hi.length]; exact hl, rv⟩
  | none =>
    have at_ : ∀ b u, (fun b => if b = a then some (HO.frz { cls := .type "list", data := .seq vs.toArray }
        (.lst (ns.map V.int))) else none) b = some u → b = a ∧ u = HO.frz { cls := .type "list", data := .seq vs.toArray } (.lst (ns.map V.int)) := by
      intro b u z
      by_cases hb : b = a
      · exact ⟨hb, (Option.some.inj ((if_pos hb).symm.trans z)).symm⟩
      · exact nomatch (if_neg hb).symm.trans z
    have O : Only (fun b => if b = a then some (HO.frz { cls := .type "list", data := .seq vs.toArray }
        (.lst (ns.map V.int))) else none) := by
      intro b
      by_cases hb : b = a
      · exact .inr ⟨_, _, if_pos hb⟩
      · exact .inl (if_neg hb)
    refine endG1 _ hob nd inK nsM nsB boot noL g0 hr F bind (hs _ O (.inl (.inr ⟨_, if_pos rfl⟩))) O ?_ ?_ (fun _ => hk)
    · intro b u z
      obtain ⟨rfl, rfl⟩ := at_ b u z
      exact ⟨hob, by rw [List.length_map]; exact hl, vs, _, rv, hob⟩
    · intro b z
      cases q : (fun b => if b = a then some (HO.frz { cls := .type "list", data := .seq vs.toArray }
        (.lst (ns.map V.int))) else none) b with
      | none => exact absurd q z
      | some u => exact (at_ b u q).1
end
/-- the head's goal, from the law's promise with nothing guarded -/
theorem walkG {l : PySem.W.OpenLaw} {n k : Nat} {q : Program} {loose : List Str} {XP : (Str → Option Value) → Heap → Prop}
    {YP : World → Heap → Prop} {d : DefRec} {K : Params → PySem.W.Frag} {sp : PySem.W.Frag → Sp} {x : Str}
    (hn : l.most = some n) (hn2 : n ≤ sizeLine) (hdf : d.params.defaults = []) (hr : Room k callerA)
    (hY : ∀ (w : World) (h : Heap), YP w h → (K w.params).In h)
    (F : ∀ (w : World) (mg : Str → Option Value) (fa : Addr) (h : Heap), (K w.params).In h → h.Ns mainGlobals mg →
      mg d.name = some (.ref fa) → ∃ fd : FuncData, (∀ (s : Shared) (u : Value), BindsTo s fd ⟨[u], []⟩ [(x, u)]) ∧
        ∀ base : Heap, (K w.params).In base → base.Ns mainGlobals mg →
          FnG l.prog w (K w.params) mg base k fa fd [x] (sp (K w.params)))
    (hs : ∀ (K : PySem.W.Frag) (H : Hp) (a : Addr) (ns : List Int), ns.length ≤ n → Only H →
      SqL K H a (ns.map V.int) → sp K [.ref a] H (fun v _ => v = .bl true) fun _ _ _ => False) :
    PySem.W.WalkO q loose XP YP l.row.toRowW d [] (fun f vs => PySem.call f vs) := by
  refine Att.attach_call hn hdf fun w s₀ s₁ mg mb fa o pm cd doc a vs ns G Y ho hd hcd hmg hobj hints hlen hg => ?_
  have inK := hY w _ Y
  obtain ⟨fd, hb, hF⟩ := F w mg fa _ inK G.T.g hmg
  exact endG inK G.T.g G.T.b G.T.builtins G.T.nolimit hg hobj hints (Nat.le_trans hlen hn2) hr hF hb
    fun H hO hS => hs _ H a ns hlen hO hS
end Ow

set_option Elab.async false
set_option linter.all false
set_option maxRecDepth 100000
set_option maxHeartbeats 4000000
namespace Ow
open PySem PySem.Spec PyProof.Rows L2

/-! powers of greater numbers -/
def CPowB (i j : Int) : Prop := 0 ≤ j ∧ (Builtin.Int.intBits i : Int) * j ≤ 2 ^ 27
section
variable {X : Cx}
theorem op_powB : OpR X (binaryOp .Pow) (rI CPowB fun i j => .int (i ^ j.toNat)) :=
  opI fun _ _ _ _ _ _ _ hc q => pow_int hc.1 hc.2 q
end

/-! a tuple backwards: some of its items -/
theorem vals_pick {xs : List V} {its : List Value} (r : Vals xs its) (f : Nat → Nat) : ∀ l : List Nat,
    Vals (l.filterMap fun m => xs[f m]?) (l.filterMap fun m => its[f m]?)
  | [] => .nil
  | m :: l => by
    have ih := vals_pick r f l
    cases e : xs[f m]? with
    | none =>
      simp only [List.filterMap_cons, e, r.none_of e]
      exact ih
    | some x =>
      obtain ⟨u, hu, rv⟩ := r.get e
      simp only [List.filterMap_cons, e, hu]
      exact .cons rv ih
theorem back_places (n : Nat) : Builtin.Slice.slicePlaces ((n : Int) - 1) (-1) (-1) = n := by
  unfold Builtin.Slice.slicePlaces
  rw [if_neg (by decide)]
  by_cases h : (n : Int) - 1 > -1
  · rw [if_pos h]
    simp only [Int.neg_neg, Int.ediv_one]
    omega
  · rw [if_neg h]
    omega
theorem back_adjust (n : Nat) : Builtin.Slice.sliceAdjust none none (-1) (n : Int) = ((n : Int) - 1, -1) := by
  unfold Builtin.Slice.sliceAdjust
  simp
section
variable {prog : Program} {w : World} {A : Around} {E : Value → Shared → Prop} {s : Shared}
theorem back_applied {sl : Addr} {vs : Value} {n : Nat} {Q : Int × Int × Nat → Shared → Prop}
    (hs : s.heap.IsSliceOf sl .none .none vs) (p : IsPart vs (some (-1))) (h : Q ((n : Int) - 1, -1, n) s) :
    wpAny (model prog w) A (Builtin.Slice.sliceApplied (.ref sl) (pure (n : Int))) Q E s := by
  obtain ⟨os, hos, hcs, hds⟩ := id hs
  unfold Builtin.Slice.sliceApplied Builtin.Slice.sliceFields
  refine wpAny_bind (wpAny_bind (wpAny_field hos hds (x := .none) rfl ?_))
  refine wpAny_bind (wpAny_field hos hds (x := .none) rfl ?_)
  refine wpAny_bind (wpAny_field hos hds (x := vs) rfl (wpAny_pure ?_))
  refine wpAny_bind (HT.slicePart_ p ?_)
  show wpAny _ _ (if ((-1 : Int) == 0) = true then _ else _) _ _ s
  rw [if_neg (by decide)]
  refine wpAny_bind (slicePart_none (wpAny_bind (slicePart_none (wpAny_bind (wpAny_pure ?_)))))
  show wpAny _ _ (match Builtin.Slice.sliceAdjust none none (-1) (n : Int) with
    | (lo, hi) => pure (lo, (-1 : Int), Builtin.Slice.slicePlaces lo hi (-1))) _ _ s
  rw [back_adjust]
  show wpAny _ _ (pure ((n : Int) - 1, (-1 : Int), Builtin.Slice.slicePlaces ((n : Int) - 1) (-1) (-1))) _ _ s
  rw [back_places]
  exact wpAny_pure h
theorem back_item {t sl : Addr} {items : Array Value} {vs : Value} {Q : Value → Shared → Prop}
    (ht : IsTup s.heap t items) (hs : s.heap.IsSliceOf sl .none .none vs) (p : IsPart vs (some (-1)))
    (hsz : items.size ≤ sizeLine)
    (h : Q (.ref s.heap.objs.size) { s with heap := s.heap.push { cls := .type "tuple", data := .seq ((List.range items.size).filterMap fun (k : Nat) => items[((items.size : Int) - 1 + (k : Int) * -1).toNat]?).toArray } }) :
    wpAny (model prog w) A (getItem (.ref t) (.ref sl)) Q E s := by
  have hz : sizeOk (.seq ((List.range items.size).filterMap fun (k : Nat) =>
      items[((items.size : Int) - 1 + (k : Int) * -1).toNat]?).toArray) := by
    show Array.size _ ≤ sizeLine
    rw [List.size_toArray]
    refine Nat.le_trans (List.length_filterMap_le _ _) ?_
    rw [List.length_range]
    exact hsz
  obtain ⟨os, hos, hcs, hds⟩ := id hs
  have isS : s.TypeIs (.ref sl) "slice" := ⟨os, hos, hcs⟩
  unfold getItem
  try with_reducible refine wpAny_holding ?_
  first | refine wpAny_bind (wpAny_pure ?_) | skip
  refine wpAny_bind (wpAny_sequenceKey ht.typeIs (by decide) ?_)
  refine wpAny_bind (wpAny_callSpecial?_slot (name := Str.ofString "__getitem__") ht.typeIs
    PyProof.Rows.slot_tuple_getitem (wpAny_call_entry PyProof.Rows.slot_tuple_getitem ht.typeIs
      entry_tuple_getitem ?_ (args_tuple_getitem _ _)))
  show wpAny _ _ (Builtin.Tuple.tupleItemsOf (.ref t) >>= _) _ _ s
  refine wpAny_bind (tupleItemsOf_ ht ?_)
  refine wpAny_bind (wpAny_typeOf isS ?_)
  rw [if_pos (by decide)]
  refine wpAny_bind (back_applied hs p ?_)
  have no : ¬ ((((items.size : Int) - 1) == 0 && (-1 : Int) == 1 && items.size == items.size) = true) := by
    intro q
    rw [Bool.and_eq_true, Bool.and_eq_true] at q
    exact absurd q.1.2 (by decide)
  show wpAny _ _ (if (((items.size : Int) - 1) == 0 && (-1 : Int) == 1 && items.size == items.size) = true then _ else _) _ _ s
  rw [if_neg no]
  first
    | exact wpAny_bind (m := Builtin.Tuple.tupleExact _) (wpAny_newObj_type (wpAny_pure ⟨_, rfl, wpAny_pure h⟩) hz)
    | exact wpAny_bind (m := Builtin.Tuple.tupleExact _)
        (wpAny_newObj_type (wpAny_bind (wpAny_pure (wpAny_pure ⟨_, rfl, wpAny_pure h⟩))) hz)
    | exact wpAny_bind (wpAny_bind (m := Builtin.Tuple.tupleExact _)
        (wpAny_newObj_type (wpAny_pure (wpAny_pure ⟨_, rfl, wpAny_pure h⟩)) hz))
    | exact wpAny_bind (wpAny_bind (m := Builtin.Tuple.tupleExact _)
        (wpAny_newObj_type (wpAny_pure ⟨_, rfl, wpAny_pure h⟩) hz))
end
def tBack (K : PySem.W.Frag) (te : TE) : TE := fun σ H Q => te σ H fun x H1 => ∃ a xs, x = .ref a ∧ SqT K H1 a xs ∧
  ∀ p zs, H1 p = none → (∀ z ∈ zs, z ∈ xs) → zs.length ≤ xs.length → Q (.ref p) (upd H1 p (.tup zs))
section
variable {X : Cx}
theorem pe_back {e : Expr} {te : TE} {k : Nat} {p1 p2 p3 pos : Pos} (he : PE X e te) :
    PE X (.Subscript e (.Slice none none (some (.UnaryOp .USub (.Constant (.int 1) k p1) p2)) p3) pos) (tBack X.K te) := by
  refine ⟨fun pins s σ H Q I h => ?_⟩
  refine Subscript_ (thn (he.run pins s σ H _ I h) fun v s1 hv => ?_)
  obtain ⟨x, H1, I1, r1, a, xs, ex, hx, q⟩ := hv
  subst ex
  cases r1
  have hst : PO X (some (.UnaryOp .USub (.Constant (.int 1) k p1) p2)) (tPart (tUn (rU fun i => .int (-i)) (tC (.int 1)))) :=
    po_some (pe_un un_neg pe_int)
  refine wpAny_Slice (thn (po_none.run pins s1 σ H1 (fun o H2 => o = none ∧ H2 = H1) I1 ⟨rfl, rfl⟩) fun vl s2 hl => ?_)
  obtain ⟨l, H2, I2, pl, el, e2⟩ := hl
  subst el e2
  refine thn (po_none.run pins s2 σ H2 (fun o H3 => o = none ∧ H3 = H2) I2 ⟨rfl, rfl⟩) fun vu s3 hl => ?_
  obtain ⟨u, H3, I3, pu, eu, e3⟩ := hl
  subst eu e3
  refine thn (hst.run pins s3 σ H3 (fun o H4 => o = some (-1) ∧ H4 = H3) I3 ⟨1, rfl, -1, rfl, rfl, rfl⟩) fun vs s4 hl => ?_
  obtain ⟨o, H4, I4, ps, eo, e4⟩ := hl
  subst eo e4
  cases pl
  cases pu
  have I5 : Inv X pins σ H4 { s4 with heap := s4.heap.push { cls := .type "slice", data := .fields #[.none, .none, vs] } } :=
    I4.kept (t' := s4.toks) fun b ob q => Heap.get?_push_of_some _ q
  obtain ⟨its, r, ht, hz⟩ := I5.tuple hx
  have hlen := r.length
  refine tail_any (ops := [.ref a, .ref s4.heap.objs.size]) ht.typeIs (PyProof.Rows.slot_tuple_getitem.lookup) ?_ (by with_unfolding_all rfl)
  refine back_item ht (Heap.IsSliceOf.new _ .none .none vs) ps (by rw [List.size_toArray]; omega) ?_
  have hsz : its.toArray.size = xs.length := by rw [List.size_toArray]; exact hlen.symm
  rw [hsz]
  let f : Nat → Nat := fun k => ((xs.length : Int) - 1 + (k : Int) * -1).toNat
  have hv := vals_pick r f (List.range xs.length)
  have le : ((List.range xs.length).filterMap fun m => xs[f m]?).length ≤ xs.length :=
    Nat.le_trans (List.length_filterMap_le _ _) (by rw [List.length_range]; exact Nat.le_refl _)
  refine ⟨.ref _, _, I5.laid (t' := s4.toks) (o := .tup ((List.range xs.length).filterMap fun m => xs[f m]?))
    (fun b ob q => Heap.get?_push_of_some _ q) (Nat.le_refl _) ?_, rfl,
    q _ _ (I5.hok.fresh (Nat.le_refl _)) (fun z hz => ?_) le⟩
  · refine ⟨Nat.le_trans le hz, (List.range xs.length).filterMap fun m => its[f m]?, hv, ?_⟩
    have e : (List.filterMap (fun (k : Nat) => its.toArray[((xs.length : Int) - 1 + (k : Int) * -1).toNat]?) (List.range xs.length)) =
        ((List.range xs.length).filterMap fun m => its[f m]?) := by
      congr 1
      funext m
      simp [f]
    rw [e]
    exact IsTup.new _ _
  · obtain ⟨m, _, hm⟩ := List.mem_filterMap.mp hz
    exact List.mem_of_getElem? hm
end

/-! a comprehension over a text's signs -/
theorem lc_signs {z : Str} {g : TG} {tt : TT} {te : TE} {vs : List Nat} {σ : L2.St} {H1 : Hp} {D : Addr} {Qd : Hp → Prop}
    (I : Nat → Hp → Prop) (h0 : I 0 (upd H1 D (.lst [])))
    (hs : ∀ i c H, z.cps[i]? = some c → I i H → g (.str ⟨#[c]⟩) (wipe σ vs) H fun σ2 H2 => wipe σ2 vs = wipe σ vs ∧
      tt σ2 H2 fun b H3 => if b = true then te σ2 H3 fun y H4 => ∃ acc, H4 D = some (.lst acc) ∧
        acc.length < sizeLine ∧ I (i + 1) (upd H4 D (.lst (acc ++ [y]))) else I (i + 1) H3)
    (hd : ∀ H, I z.cps.size H → Qd H) :
    ∃ W : Nat → Nat → Hp → Prop, (∃ m, W 0 m (upd H1 D (.lst []))) ∧ ∀ i m H, W i m H →
      ((Its z).stop i H ∧ Qd H) ∨ ((Its z).go i H ∧ ∃ Nx : Hp → Prop, (∀ H', Nx H' → ∃ m', m' < m ∧ W (i + 1) m' H') ∧
        ∀ x H', (Its z).yld i H x H' → g x (wipe σ vs) H' fun σ2 H2 => wipe σ2 vs = wipe σ vs ∧ tt σ2 H2 fun b H3 =>
          if b = true then te σ2 H3 fun y H4 => ∃ acc, H4 D = some (.lst acc) ∧ acc.length < sizeLine ∧
            Nx (upd H4 D (.lst (acc ++ [y]))) else Nx H3) := by
  refine ⟨fun i m H => m + i = z.cps.size ∧ I i H, ⟨z.cps.size, by omega, h0⟩, fun i m H hW => ?_⟩
  obtain ⟨hm, hI⟩ := hW
  by_cases hi : i < z.cps.size
  · refine .inr ⟨hi, I (i + 1), fun H' h' => ⟨m - 1, by omega, by omega, h'⟩, fun x H' hy => ?_⟩
    obtain ⟨rfl, c, hc, rfl⟩ := hy
    exact hs i c _ hc hI
  · have e : i = z.cps.size := by omega
    subst e
    exact .inl ⟨Nat.le_refl _, hd H hI⟩
end Ow

set_option Elab.async false
set_option linter.all false
set_option maxRecDepth 100000
set_option maxHeartbeats 4000000
namespace Ow
open PySem PySem.Spec PyProof.Rows L2

/-! ### the text -/
def topS (i : Nat) : Stmt := PySem.Challenge.pw_oneswill_k00_integers_names_and_values.main.body.getD i (.Pass ⟨0, 0, 0, 0⟩)
abbrev dInteger : Stmt := topS 3
abbrev dName : Stmt := topS 4
abbrev dValue : Stmt := topS 5
abbrev dValues : Stmt := topS 6
abbrev dJug : Stmt := topS 8
abbrev dDip : Stmt := topS 9
abbrev dChoice : Stmt := topS 10
abbrev dLetter : Stmt := topS 11
abbrev dLName : Stmt := topS 12
abbrev dShort : Stmt := topS 13
abbrev dNumbers : Stmt := topS 14
abbrev dTexts : Stmt := topS 15
abbrev dAnyRow : Stmt := topS 16
abbrev dTuples : Stmt := topS 17
abbrev dCell : Stmt := topS 18
abbrev dLaw : Stmt := topS 19

/-! ### heaps that grow, but for the jug at J -/
def Sb (J : Addr) (H H' : Hp) : Prop := ∀ b o, b ≠ J → H b = some o → H' b = some o
theorem Sb.refl (J : Addr) (H : Hp) : Sb J H H := fun _ _ _ e => e
theorem Sb.trans {J : Addr} {H H1 H2 : Hp} (a : Sb J H H1) (b : Sb J H1 H2) : Sb J H H2 :=
  fun c o n e => b c o n (a c o n e)
theorem Sb.same {J : Addr} {H H' : Hp} (a : Same H H') : Sb J H H' := fun c o _ e => a c o e
theorem same_new {H : Hp} {p : Addr} {o : HO} (h : H p = none) : Same H (upd H p o) := fun b x e => by
  rw [upd_ne (ne_of_none e h)]
  exact e
theorem Sb.new {J : Addr} {H : Hp} {p : Addr} {o : HO} (h : H p = none) : Sb J H (upd H p o) := .same (same_new h)
theorem Sb.at {J : Addr} {H : Hp} {o : HO} : Sb J H (upd H J o) := fun b x n e => by
  rw [upd_ne n]
  exact e

/-! ### the values that the law asks about -/
/-- no reference; small enough to be told as a text -/
def scOk : V → Prop
  | .non => True
  | .bl _ => True
  | .int i => i.natAbs < 2 ^ 400
  | .str z => z.length ≤ 4000 ∧ ∀ c ∈ z.cps.toList, c < 128
  | _ => False
/-- (), (0,), [] -/
def Gr (H : Hp) (a : Addr) : Prop := H a = some (.tup []) ∨ H a = some (.tup [.int 0]) ∨ H a = some (.lst [])
def Im (J : Addr) (H : Hp) (v : V) : Prop := scOk v ∨ ∃ a, v = .ref a ∧ a ≠ J ∧ Gr H a
def Vl (J : Addr) (H : Hp) (v : V) : Prop := scOk v ∨ ∃ a, v = .ref a ∧ a ≠ J ∧
  ((∃ xs, H a = some (.tup xs) ∧ xs.length ≤ 60 ∧ ∀ x ∈ xs, Im J H x) ∨ (∃ xs, H a = some (.lst xs)) ∨ ∃ kvs, H a = some (.dK kvs))
theorem Gr.mono {J : Addr} {H H' : Hp} {a : Addr} (s : Sb J H H') (n : a ≠ J) (h : Gr H a) : Gr H' a := by
  rcases h with h | h | h
  · exact .inl (s _ _ n h)
  · exact .inr (.inl (s _ _ n h))
  · exact .inr (.inr (s _ _ n h))
theorem Im.mono {J : Addr} {H H' : Hp} {v : V} (s : Sb J H H') (h : Im J H v) : Im J H' v := by
  rcases h with h | ⟨a, e, n, g⟩
  · exact .inl h
  · exact .inr ⟨a, e, n, g.mono s n⟩
theorem Vl.mono {J : Addr} {H H' : Hp} {v : V} (s : Sb J H H') (h : Vl J H v) : Vl J H' v := by
  rcases h with h | ⟨a, e, n, g⟩
  · exact .inl h
  · refine .inr ⟨a, e, n, ?_⟩
    rcases g with ⟨xs, h, l, q⟩ | ⟨xs, h⟩ | ⟨kvs, h⟩
    · exact .inl ⟨xs, s _ _ n h, l, fun x hx => (q x hx).mono s⟩
    · exact .inr (.inl ⟨xs, s _ _ n h⟩)
    · exact .inr (.inr ⟨kvs, s _ _ n h⟩)
theorem Im.vl {J : Addr} {H : Hp} {v : V} (h : Im J H v) : Vl J H v := by
  rcases h with h | ⟨a, e, n, g⟩
  · exact .inl h
  · refine .inr ⟨a, e, n, ?_⟩
    rcases g with h | h | h
    · exact .inl ⟨_, h, Nat.zero_le _, fun x hx => nomatch hx⟩
    · refine .inl ⟨_, h, by decide, fun x hx => ?_⟩
      rw [List.mem_singleton] at hx
      rw [hx]
      exact .inl (by show Int.natAbs 0 < 2 ^ 400; decide)
    · exact .inr (.inl ⟨_, h⟩)
/-- what is told of a value -/
def bitB (v : V) : Bool := decide (v = .int 0) || decide (v = .int 1)
def shortB : V → Bool
  | .int i => decide (-(10 ^ 60) < i) && decide (i < 10 ^ 60)
  | _ => false
def signB (c : Nat) : Bool := decide (97 ≤ c) && decide (c ≤ 122)
def nameB : V → Bool
  | .str z => (decide (1 ≤ z.length) && decide (z.length ≤ 8)) && z.cps.toList.all signB
  | _ => false
def rowB (H : Hp) : V → Bool
  | .ref a => match H a with
    | some (.tup xs) => xs.all bitB
    | _ => false
  | _ => false
/-- a def that tells a truth of a value, and changes nothing -/
def spB (g : Hp → V → Bool) : Sp := fun vs H Q _ => ∃ v J, vs = [v] ∧ Vl J H v ∧ ∀ H', Same H H' → Q (.bl (g H v)) H'
theorem spB_len {g : Hp → V → Bool} : ∀ vs H Q E, spB g vs H Q E → vs.length = 1 := by
  intro vs H Q E h
  obtain ⟨v, J, rfl, _⟩ := h
  rfl
/-- the classes of such values -/
theorem Vl.ty {K : PySem.W.Frag} {J : Addr} {H : Hp} {v : V} (h : Vl J H v) : ∃ T : String, TyX K H v (.type T) ∧
    ((∃ i, v = .int i) ∧ T = "int" ∨ (∃ b, v = .bl b) ∧ T = "bool" ∨ (v = .non) ∧ T = "NoneType" ∨ (∃ z, v = .str z ∧ z.length ≤ 4000 ∧ ∀ c ∈ z.cps.toList, c < 128) ∧ T = "str" ∨
      (∃ a xs, v = .ref a ∧ H a = some (.tup xs) ∧ xs.length ≤ 60 ∧ ∀ x ∈ xs, Im J H x) ∧ T = "tuple" ∨
      (∃ a xs, v = .ref a ∧ H a = some (.lst xs)) ∧ T = "list" ∨ (∃ a kvs, v = .ref a ∧ H a = some (.dK kvs)) ∧ T = "dict") := by
  rcases h with h | ⟨a, rfl, n, h⟩
  · cases v with
    | non => exact ⟨"NoneType", .base .non, .inr (.inr (.inl ⟨rfl, rfl⟩))⟩
    | bl b => exact ⟨"bool", .base (.bl b), .inr (.inl ⟨⟨b, rfl⟩, rfl⟩)⟩
    | int i => exact ⟨"int", .base (.int i), .inl ⟨⟨i, rfl⟩, rfl⟩⟩
    | str z => exact ⟨"str", .base (.str z), .inr (.inr (.inr (.inl ⟨⟨z, rfl, h⟩, rfl⟩)))⟩
    | byt _ => exact False.elim h
    | flt _ => exact False.elim h
    | ref _ => exact False.elim h
    | ty _ => exact False.elim h
  · rcases h with ⟨xs, h, l, q⟩ | ⟨xs, h⟩ | ⟨kvs, h⟩
    · exact ⟨"tuple", .base (.tup h), .inr (.inr (.inr (.inr (.inl ⟨⟨a, xs, rfl, h, l, q⟩, rfl⟩))))⟩
    · exact ⟨"list", .base (.lst h), .inr (.inr (.inr (.inr (.inr (.inl ⟨⟨a, xs, rfl, h⟩, rfl⟩)))))⟩
    · exact ⟨"dict", .base (.dK h), .inr (.inr (.inr (.inr (.inr (.inr ⟨⟨a, kvs, rfl, h⟩, rfl⟩)))))⟩
end Ow

set_option Elab.async false
set_option linter.all false
set_option maxRecDepth 100000
set_option maxHeartbeats 4000000
set_option exponentiation.threshold 3000
namespace Ow
open PySem PySem.Spec PyProof.Rows L2
theorem scInteger : FnScope ["value"] ["value"] (defScope dInteger) := ⟨rfl, rfl, rfl, by decide +kernel, rfl, by decide +kernel, by decide +kernel⟩
theorem scValue : FnScope ["value"] ["value"] (defScope dValue) := ⟨rfl, rfl, rfl, by decide +kernel, rfl, by decide +kernel, by decide +kernel⟩
theorem boot_isi : bootBuiltins "isinstance" = some (.builtin "isinstance") := by decide +kernel
section
variable {P : Program} {w : World} {K : PySem.W.Frag} {mg : Str → Option Value} {base : Heap}
/-- isinstance(x, T), T a built-in class -/
theorem pe_isi {X : Cx} {e : Expr} {te : TE} {T : String} {n : Str} {p p2 pos : Pos} (g : Gl X "isinstance") (m : X.mg "isinstance" = none)
    (he : PE X e te) (g2 : Gl X n) (m2 : X.mg n = none) (hv : bootBuiltins n = some (.type T)) (nn : n ≠ "__name__" := by decide) (nd : (n == ("__debug__" : Str)) = false := by decide)
    (h1 : starEach [e, .Name n p2] X.env = (false, eval e X.env) :: starEach [.Name n p2] X.env := by rfl) (h2 : (backTo pos (starEach [.Name n p2] X.env)).any (·.1) = false := by rfl) :
    PE X (.Call (.Name "isinstance" p) [e, .Name n p2] [] pos) (tCB (rIsi X.K) (tCons te (tCons (tC (.ty T)) tNil))) :=
  pe_callB call_isi g m boot_isi (pa_cons he (pa_cons (pe_bltn g2 m2 hv rfl nn nd) pa_nil (by rfl)) h1) (by decide) (by decide) h1 h2
def isT (T U : String) : Bool := (kitB T U).getD false
theorem isi_at {K : PySem.W.Frag} {H : Hp} {v : V} {T : String} {b : Bool} {Q : VK} {i : Nat} {σ : L2.St} (U : String) (hi : σ[i]? = some (some v)) (ty : TyX K H v (.type T)) (k : kitB T U = some b) (q : Q (.bl b) H) :
    tCB (rIsi K) (tCons (tVar i) (tCons (tC (.ty U)) tNil)) σ H Q := ⟨v, hi, v, .ty U, .type T, .type U, b, rfl, .ty U, ty, kit_ty k, q⟩
theorem ok_integer {f : Addr} {fd : FuncData} {t : Tok} (F : Fun K "is_integer" "is_integer" dInteger f fd) (mi : mg "isinstance" = none) (mn : mg "int" = none) (mb : mg "bool" = none)
    (mB : mg "_BOUND" = some (.int (10 ^ 60) t)) : FnOk P w K mg base CX0 1 f fd ["value"] (spB fun _ => shortB) := by
  refine F.ok scInteger spB_len (fun cdv A outer s H vs Q E hr h => ?_)
  obtain ⟨v, J, rfl, hv, q⟩ := h
  refine ⟨_, pss_one (ps_ret (pe_and (pe_isi (by rfl) mi (pv 0) (by rfl) mn boot_int)
    (pe_and (pe_not (pe_isi (T := "bool") (by rfl) mi (pv 0) (by rfl) mb (by decide +kernel)))
      (pe_one (pe_chain op_lt op_lt (pe_un un_neg (pe_glob (v := .int (10 ^ 60)) (by rfl) mB ⟨_, rfl⟩)) (pv 0) (pe_glob (v := .int (10 ^ 60)) (by rfl) mB ⟨_, rfl⟩)))))), ?_⟩
  obtain ⟨T, ty, c⟩ := hv.ty (K := K)
  have fin : ∀ b, b = shortB v → Q (.bl b) H := fun b e => by
    rw [e]
    exact q H (Same.refl H)
  rcases c with ⟨⟨i, rfl⟩, rfl⟩ | ⟨⟨b, rfl⟩, rfl⟩ | ⟨rfl, rfl⟩ | ⟨⟨z, rfl, _⟩, rfl⟩ | ⟨⟨a, xs, rfl, _⟩, rfl⟩ | ⟨⟨a, xs, rfl, _⟩, rfl⟩ | ⟨⟨a, xs, rfl, _⟩, rfl⟩
  · refine isi_at "int" rfl ty (b := true) (by decide +kernel) ⟨true, rfl, iteT (isi_at "bool" rfl ty (b := false) (by decide +kernel) ⟨false, rfl, true, rfl, iteT ?_⟩)⟩
    refine ⟨10 ^ 60, rfl, .int i, rfl, _, _, rfl, rfl, _, rfl, ?_⟩
    by_cases h : -(10 ^ 60) < i
    · rw [decide_eq_true h]
      refine iteT ⟨_, _, rfl, rfl, fin _ ?_⟩
      show _ = (decide (-(10 ^ 60) < i) && _)
      rw [decide_eq_true h]
      rfl
    · rw [decide_eq_false h]
      refine iteF (fin _ ?_)
      show _ = (decide (-(10 ^ 60) < i) && _)
      rw [decide_eq_false h]
      rfl
  · exact isi_at "int" rfl ty (b := true) (by decide +kernel) ⟨true, rfl, iteT (isi_at "bool" rfl ty (b := true) (by decide +kernel) ⟨true, rfl, false, rfl, iteF (fin _ rfl)⟩)⟩
  · exact isi_at "int" rfl ty (b := false) (by decide +kernel) ⟨false, rfl, iteF (fin _ rfl)⟩
  · exact isi_at "int" rfl ty (b := false) (by decide +kernel) ⟨false, rfl, iteF (fin _ rfl)⟩
  · exact isi_at "int" rfl ty (b := false) (by decide +kernel) ⟨false, rfl, iteF (fin _ rfl)⟩
  · exact isi_at "int" rfl ty (b := false) (by decide +kernel) ⟨false, rfl, iteF (fin _ rfl)⟩
  · exact isi_at "int" rfl ty (b := false) (by decide +kernel) ⟨false, rfl, iteF (fin _ rfl)⟩
/-- is_value: an integer, 0 or 1 -/
theorem ok_value {f fI : Addr} {fd fdI : FuncData} (F : Fun K "is_value" "is_value" dValue f fd) (FI : FnOk P w K mg base CX0 1 fI fdI ["value"] (spB fun _ => shortB))
    (kI : PySem.W.keepIn K (.ref fI) = true) (bI : Binds K fdI ["value"] []) (gI : mg "is_integer" = some (.ref fI)) : FnOk P w K mg base CX0 2 f fd ["value"] (spB fun _ => bitB) := by
  refine F.ok scValue spB_len (fun cdv A outer s H vs Q E hr h => ?_)
  obtain ⟨v, J, rfl, hv, q⟩ := h
  refine ⟨_, pss_one (ps_ret (pe_and (pe_call FI hr (by rfl) gI kI bI .nil pass0 (pa_cons (pv 0) pa_nil))
    (pe_one (pe_chain op_le op_le pe_int (pv 0) pe_int)))), ?_⟩
  refine ⟨v, rfl, v, J, rfl, hv, fun H1 sm => ⟨_, rfl, ?_⟩⟩
  have fin : ∀ b, b = bitB v → Q (.bl b) H1 := fun b e => by
    rw [e]
    exact q H1 sm
  by_cases hs : shortB v = true
  · show if shortB v = true then _ else _
    rw [hs]
    refine iteT ?_
    cases v with
    | int i =>
      refine ⟨.int i, rfl, 0, i, rfl, rfl, _, rfl, ?_⟩
      have e : bitB (.int i) = (decide (0 ≤ i) && decide (i ≤ 1)) := by
        unfold bitB
        rw [Bool.eq_iff_iff]
        simp only [Bool.or_eq_true, Bool.and_eq_true, decide_eq_true_eq, V.int.injEq]
        omega
      by_cases h : 0 ≤ i
      · rw [decide_eq_true h]
        refine iteT ⟨_, _, rfl, rfl, fin _ ?_⟩
        rw [e, decide_eq_true h]
        rfl
      · rw [decide_eq_false h]
        refine iteF (fin _ ?_)
        rw [e, decide_eq_false h]
        rfl
    | _ => exact absurd (show false = true from hs) Bool.false_ne_true
  · have e : shortB v = false := Bool.eq_false_iff.mpr hs
    show if shortB v = true then _ else _
    rw [e]
    refine iteF (fin _ ?_)
    cases v with
    | int i =>
      symm
      have e2 : (decide (-(10 ^ 60) < i) && decide (i < 10 ^ 60)) = false := e
      unfold bitB
      rw [Bool.or_eq_false_iff]
      constructor
      · refine decide_eq_false fun z => ?_
        have z : i = 0 := V.int.inj z
        subst z
        exact absurd e2 (by decide)
      · refine decide_eq_false fun z => ?_
        have z : i = 1 := V.int.inj z
        subst z
        exact absurd e2 (by decide)
    | _ =>
      symm
      unfold bitB
      rw [Bool.or_eq_false_iff]
      exact ⟨decide_eq_false (fun z => (nomatch z)), decide_eq_false (fun z => (nomatch z))⟩
end
end Ow

set_option Elab.async false
set_option linter.all false
set_option maxRecDepth 100000
set_option maxHeartbeats 4000000
set_option exponentiation.threshold 3000
namespace Ow
open PySem PySem.Spec PyProof.Rows L2
theorem scName : FnScope ["value", "sign"] ["value"] (defScope dName) := ⟨rfl, rfl, rfl, by decide +kernel, rfl, by decide +kernel, by decide +kernel⟩
theorem scValues : FnScope ["value", "item"] ["value"] (defScope dValues) := ⟨rfl, rfl, rfl, by decide +kernel, rfl, by decide +kernel, by decide +kernel⟩
theorem boot_all : bootBuiltins "all" = some (.builtin "all") := by decide +kernel
theorem lt1 (c d : Nat) : decide (([c] : List Nat) < [d]) = decide (c < d) := by
  rw [Bool.eq_iff_iff]
  simp only [decide_eq_true_eq, List.cons_lt_cons_iff]
  constructor
  · intro h
    rcases h with h | ⟨_, h⟩
    · exact h
    · exact absurd h (List.not_lt_nil _)
  · exact .inl
theorem small60 {n : Nat} (h : n ≤ 5000) : n < sizeLine := Nat.lt_of_le_of_lt h (by decide)
section
variable {P : Program} {w : World} {K : PySem.W.Frag} {mg : Str → Option Value} {base : Heap}
theorem ok_name {f : Addr} {fd : FuncData} {t : Tok} (F : Fun K "is_name" "is_name" dName f fd) (mi : mg "isinstance" = none) (ms : mg "str" = none) (ml : mg "len" = none) (ma : mg "all" = none)
    (mM : mg "MAX_LETTERS" = some (.int 8 t)) : FnOk P w K mg base CX0 1 f fd ["value"] (spB fun _ => nameB) := by
  refine F.ok scName spB_len (fun cdv A outer s H vs Q E hr h => ?_)
  obtain ⟨v, J, rfl, hv, q⟩ := h
  refine ⟨_, pss_cons (ps_if (PW.pt (pw_or (pt_not (pt_val (pe_isi (T := "str") (by rfl) mi (pv 0) (by rfl) ms (by decide +kernel))))
      (pw_or1 (pt_not (pt_chain op_le op_le pe_int (pe_callB call_len_str (by rfl) ml PySem.boot_len (pa_cons (pv 0) pa_nil)) (pe_glob (v := .int 8) (by rfl) mM ⟨_, rfl⟩))))))
      (pss_one (ps_ret pe_bl)) pss_nil)
    (pss_one (ps_ret (pe_callB (cr_all rfl) (by rfl) ma boot_all (pa_cons
      (pe_lc (own := [("sign", 1)]) (g := gName 1) (tt := tYes) rfl scName.nd (pi_str (pv 0)) (blkOk_by (N := ["value", "sign"]) (sc := defScope dName) (by decide +kernel))
        (fun _ _ _ _ _ => pg_name (i := 1) scName.nd rfl (Or.inl rfl)) (fun _ _ _ _ _ => pts_nil)
        (fun _ _ _ _ _ => pe_chain op_le_str op_le_str pe_str (pv 1) pe_str)) pa_nil)))), ?_⟩
  obtain ⟨T, ty, c⟩ := hv.ty (K := K)
  have fin : ∀ b H', Same H H' → b = nameB v → Q (.bl b) H' := fun b H' sm e => by
    rw [e]
    exact q H' sm
  rcases c with ⟨⟨i, rfl⟩, rfl⟩ | ⟨⟨b, rfl⟩, rfl⟩ | ⟨rfl, rfl⟩ | ⟨⟨z, rfl, hz, hc⟩, rfl⟩ | ⟨⟨a, xs, rfl, _⟩, rfl⟩ | ⟨⟨a, xs, rfl, _⟩, rfl⟩ | ⟨⟨a, xs, rfl, _⟩, rfl⟩
  · exact isi_at "str" rfl ty (b := false) (by decide +kernel) ⟨false, rfl, iteT (iteT (fin _ _ (Same.refl H) rfl))⟩
  · exact isi_at "str" rfl ty (b := false) (by decide +kernel) ⟨false, rfl, iteT (iteT (fin _ _ (Same.refl H) rfl))⟩
  · exact isi_at "str" rfl ty (b := false) (by decide +kernel) ⟨false, rfl, iteT (iteT (fin _ _ (Same.refl H) rfl))⟩
  · refine isi_at "str" rfl ty (b := true) (by decide +kernel) ⟨true, rfl, iteF ?_⟩
    refine ⟨.str z, rfl, z, rfl, Nat.le_of_lt (small60 (by omega)), 1, _, rfl, rfl, _, rfl, ?_⟩
    by_cases h1 : (1 : Int) ≤ (z.length : Int)
    · rw [decide_eq_true h1]
      refine iteT ⟨_, _, rfl, rfl, _, rfl, ?_⟩
      by_cases h8 : (z.length : Int) ≤ 8
      · rw [decide_eq_true h8]
        refine iteF ?_
        have hsz : z.length = z.cps.toList.length := by rw [Array.length_toList]; rfl
        refine ⟨.str z, rfl, z, rfl, fun D nD => ?_⟩
        refine lc_signs (fun i Hx => Same H Hx ∧ Hx D = some (.lst (((z.cps.toList.take i).map signB).map V.bl))) ⟨same_new nD, upd_same⟩ (fun i c Hx hi hI => ?_) (fun Hx hI => ?_)
        · obtain ⟨sm, eD⟩ := hI
          have hi' : z.cps.toList[i]? = some c := by rw [Array.getElem?_toList]; exact hi
          refine ⟨rfl, ?_⟩
          have next : ∀ b, b = signB c → ∃ acc, Hx D = some (.lst acc) ∧ acc.length < sizeLine ∧
              (Same H (upd Hx D (.lst (acc ++ [V.bl b]))) ∧ (upd Hx D (.lst (acc ++ [V.bl b]))) D = some (.lst (((z.cps.toList.take (i + 1)).map signB).map V.bl))) := by
            intro b e
            refine ⟨_, eD, ?_, fun b o e => ?_, ?_⟩
            · rw [List.length_map, List.length_map]
              refine small60 (Nat.le_trans (List.length_take_le _ _) ?_)
              have hi2 := (List.getElem?_eq_some_iff.mp hi').1
              omega
            · rw [upd_ne (ne_of_none e nD)]
              exact sm _ _ e
            · rw [upd_same, List.take_add_one, hi', List.map_append, List.map_append, e]
              rfl
          refine ⟨.str ⟨#[c]⟩, rfl, _, _, rfl, rfl, _, rfl, ?_⟩
          show if (!decide (([c] : List Nat) < [97])) = true then _ else _
          rw [lt1]
          by_cases hl : c < 97
          · rw [decide_eq_true hl]
            refine iteF (next _ ?_)
            unfold signB
            rw [decide_eq_false (show ¬ 97 ≤ c by omega)]
            rfl
          · rw [decide_eq_false hl]
            refine iteT ⟨_, _, rfl, rfl, next _ ?_⟩
            show (!decide (([122] : List Nat) < [c])) = signB c
            rw [lt1]
            unfold signB
            rw [decide_eq_true (show 97 ≤ c by omega)]
            by_cases hh : 122 < c
            · rw [decide_eq_true hh, decide_eq_false (show ¬ c ≤ 122 by omega)]
              rfl
            · rw [decide_eq_false hh, decide_eq_true (show c ≤ 122 by omega)]
              rfl
        · obtain ⟨sm, eD⟩ := hI
          rw [List.take_of_length_le (by rw [Array.length_toList]; exact Nat.le_refl _)] at eD
          refine ⟨D, _, rfl, .of eD, fin _ _ sm ?_⟩
          show _ = ((decide (1 ≤ z.length) && decide (z.length ≤ 8)) && z.cps.toList.all signB)
          rw [decide_eq_true (show 1 ≤ z.length by omega), decide_eq_true (show z.length ≤ 8 by omega), List.all_map]
          rfl
      · rw [decide_eq_false h8]
        refine iteT (fin _ _ (Same.refl H) ?_)
        show _ = ((_ && decide (z.length ≤ 8)) && _)
        rw [decide_eq_false (show ¬ z.length ≤ 8 by omega), Bool.and_false, Bool.false_and]
    · rw [decide_eq_false h1]
      refine iteF ⟨_, rfl, iteT (fin _ _ (Same.refl H) ?_)⟩
      show _ = ((decide (1 ≤ z.length) && _) && _)
      rw [decide_eq_false (show ¬ 1 ≤ z.length by omega), Bool.false_and, Bool.false_and]
  · exact isi_at "str" rfl ty (b := false) (by decide +kernel) ⟨false, rfl, iteT (iteT (fin _ _ (Same.refl H) rfl))⟩
  · exact isi_at "str" rfl ty (b := false) (by decide +kernel) ⟨false, rfl, iteT (iteT (fin _ _ (Same.refl H) rfl))⟩
  · exact isi_at "str" rfl ty (b := false) (by decide +kernel) ⟨false, rfl, iteT (iteT (fin _ _ (Same.refl H) rfl))⟩
end
end Ow

set_option Elab.async false
set_option linter.all false
set_option maxRecDepth 100000
set_option maxHeartbeats 4000000
set_option exponentiation.threshold 3000
namespace Ow
open PySem PySem.Spec PyProof.Rows L2
section
variable {P : Program} {w : World} {K : PySem.W.Frag} {mg : Str → Option Value} {base : Heap}
theorem boot_tup : bootBuiltins "tuple" = some (.type "tuple") := by decide +kernel
theorem ok_values {f fV : Addr} {fd fdV : FuncData} (F : Fun K "is_values" "is_values" dValues f fd) (FV : FnOk P w K mg base CX0 2 fV fdV ["value"] (spB fun _ => bitB))
    (kV : PySem.W.keepIn K (.ref fV) = true) (bV : Binds K fdV ["value"] []) (gV : mg "is_value" = some (.ref fV))
    (mi : mg "isinstance" = none) (mt : mg "tuple" = none) (ma : mg "all" = none) : FnOk P w K mg base CX0 3 f fd ["value"] (spB rowB) := by
  refine F.ok scValues spB_len (fun cdv A outer s H vs Q E hr h => ?_)
  obtain ⟨v, J, rfl, hv, q⟩ := h
  refine ⟨_, pss_one (ps_ret (pe_and (pe_isi (T := "tuple") (by rfl) mi (pv 0) (by rfl) mt boot_tup)
    (pe_one (pe_callB (cr_all rfl) (by rfl) ma boot_all (pa_cons
      (pe_lc (own := [("item", 1)]) (g := gName 1) (tt := tYes) rfl scValues.nd (pi_tup (pv 0)) (blkOk_by (N := ["value", "item"]) (sc := defScope dValues) (by decide +kernel))
        (fun _ _ _ _ _ => pg_name (i := 1) scValues.nd rfl (Or.inl rfl)) (fun _ _ _ _ _ => pts_nil)
        (fun _ _ _ _ _ => pe_call FV hr (by rfl) gV kV bV .nil pass0 (pa_cons (pv 1) pa_nil))) pa_nil))))), ?_⟩
  obtain ⟨T, ty, c⟩ := hv.ty (K := K)
  have fin : ∀ b H', Same H H' → b = rowB H v → Q (.bl b) H' := fun b H' sm e => by
    rw [e]
    exact q H' sm
  rcases c with ⟨⟨i, rfl⟩, rfl⟩ | ⟨⟨b, rfl⟩, rfl⟩ | ⟨rfl, rfl⟩ | ⟨⟨z, rfl, hz, hc⟩, rfl⟩ | ⟨⟨a, xs, rfl, ha, hl, hi⟩, rfl⟩ | ⟨⟨a, xs, rfl, ha⟩, rfl⟩ | ⟨⟨a, xs, rfl, ha⟩, rfl⟩
  · exact isi_at "tuple" rfl ty (b := false) (by decide +kernel) ⟨false, rfl, iteF (fin _ _ (Same.refl H) rfl)⟩
  · exact isi_at "tuple" rfl ty (b := false) (by decide +kernel) ⟨false, rfl, iteF (fin _ _ (Same.refl H) rfl)⟩
  · exact isi_at "tuple" rfl ty (b := false) (by decide +kernel) ⟨false, rfl, iteF (fin _ _ (Same.refl H) rfl)⟩
  · exact isi_at "tuple" rfl ty (b := false) (by decide +kernel) ⟨false, rfl, iteF (fin _ _ (Same.refl H) rfl)⟩
  · refine isi_at "tuple" rfl ty (b := true) (by decide +kernel) ⟨true, rfl, iteT ?_⟩
    refine ⟨.ref a, rfl, a, rfl, ⟨xs, .of ha⟩, fun D nD => ?_⟩
    refine lc_tup (K := K) (a := a) (xs := xs) (fun i Hx => Same H Hx ∧ Hx D = some (.lst (((xs.take i).map bitB).map V.bl))) ⟨same_new nD, upd_same⟩
      (fun i Hx _ hI => .of (hI.1 _ _ ha)) (fun i x Hx hx hI => ?_) (fun Hx hI => ?_)
    · obtain ⟨sm, eD⟩ := hI
      refine ⟨rfl, ?_⟩
      have iv : Vl J Hx x := (hi x (List.mem_of_getElem? hx)).vl.mono (.same sm)
      refine ⟨x, rfl, x, J, rfl, iv, fun H2 sm2 => ⟨_, sm2 _ _ eD, ?_, fun b o e => ?_, ?_⟩⟩
      · rw [List.length_map, List.length_map]
        exact small60 (Nat.le_trans (List.length_take_le _ _) (by have hi2 := (List.getElem?_eq_some_iff.mp hx).1; omega))
      · rw [upd_ne (ne_of_none e nD)]
        exact sm2 _ _ (sm _ _ e)
      · rw [upd_same, List.take_add_one, hx, List.map_append, List.map_append]
        rfl
    · obtain ⟨sm, eD⟩ := hI
      rw [List.take_of_length_le (Nat.le_refl _)] at eD
      refine ⟨D, _, rfl, .of eD, fin _ _ sm ?_⟩
      unfold rowB
      simp only [ha]
      rw [List.all_map]
      rfl
  · exact isi_at "tuple" rfl ty (b := false) (by decide +kernel) ⟨false, rfl, iteF (fin _ _ (Same.refl H) (by unfold rowB; simp only [ha]))⟩
  · exact isi_at "tuple" rfl ty (b := false) (by decide +kernel) ⟨false, rfl, iteF (fin _ _ (Same.refl H) (by unfold rowB; simp only [ha]))⟩
end
end Ow

set_option Elab.async false
set_option linter.all false
set_option maxRecDepth 100000
set_option maxHeartbeats 4000000
set_option exponentiation.threshold 3000
namespace Ow
open PySem PySem.Spec PyProof.Rows L2
/-- a weaker reading of an expression -/
theorem PE.of {X : Cx} {e : Expr} {t t' : TE} (h : PE X e t) (k : ∀ σ H Q, t' σ H Q → t σ H Q) : PE X e t' :=
  ⟨fun pins s σ H Q I q => h.run pins s σ H Q I (k σ H Q q)⟩
/-- the jug: a list of three ints -/
def Jug (H : Hp) (J : Addr) : Prop := ∃ a b c : Int, H J = some (.lst [.int a, .int b, .int c])
theorem scJug : FnScope ["script", "at", "cell", "great", "mixed"] ["script", "at"] (defScope dJug) := ⟨rfl, rfl, rfl, by decide +kernel, rfl, by decide +kernel, by decide +kernel⟩
theorem scDip : FnScope ["jug", "total", "found", "one", "two"] ["jug", "total"] (defScope dDip) := ⟨rfl, rfl, rfl, by decide +kernel, rfl, by decide +kernel, by decide +kernel⟩
theorem scChoice : FnScope ["jug", "items"] ["jug", "items"] (defScope dChoice) := ⟨rfl, rfl, rfl, by decide +kernel, rfl, by decide +kernel, by decide +kernel⟩
theorem scLetter : FnScope ["jug"] ["jug"] (defScope dLetter) := ⟨rfl, rfl, rfl, by decide +kernel, rfl, by decide +kernel, by decide +kernel⟩
theorem mulB {a m j : Int} (h0 : 0 < m) (h1 : m < 2 ^ 64) : CMul (a % m) j := by
  have l := Int.emod_nonneg a (show m ≠ 0 by omega)
  have u := Int.emod_lt_of_pos a h0
  exact .inl ⟨by omega, by omega⟩
section
variable {P : Program} {w : World} {K : PySem.W.Frag} {mg : Str → Option Value} {base : Heap}
def spDip : Sp := fun vs H Q _ => ∃ (J : Addr) (n : Int), vs = [.ref J, .int n] ∧ 0 < n ∧ n.natAbs < 2 ^ 200 ∧ Jug H J ∧
  ∀ H' k, Sb J H H' → Jug H' J → 0 ≤ k → k < n → Q (.int k) H'
theorem ok_dip {f : Addr} {fd : FuncData} (F : Fun K "_law_dip" "_law_dip" dDip f fd) (mi : mg "int" = none) : FnOk P w K mg base CX0 1 f fd ["jug", "total"] spDip := by
  refine F.ok scDip (fun vs H Q E h => ?_) (fun cdv A outer s H vs Q E hr h => ?_)
  · obtain ⟨J, n, rfl, _⟩ := h
    rfl
  obtain ⟨J, n, rfl, n0, nz, ⟨x, y, z, hJ⟩, q⟩ := h
  refine ⟨_, pss_cons (ps_if (pt_cmpR op_gt (pe_ix ix_list (pv 0) pe_int (fun _ _ => rfl)) pe_int (nomark _))
      (pss_cons (ps_set (i := 2) scDip.nd rfl (.inl rfl) (pe_op op_mod (pe_callTy call_int1 (by rfl) mi boot_int (pa_cons (pe_ix ix_list (pv 0) pe_int (fun _ _ => rfl)) pa_nil)) (pv 1)))
      (pss_cons (ps_asg (pe_op op_fdivW (pe_ix ix_list (pv 0) pe_int (fun _ _ => rfl)) (pv 1)) (pg_sub (pv 0) pe_int set_list))
      (pss_one (ps_ret (pv 2))))) pss_nil)
    (pss_cons (ps_asg (pe_op op_add (pe_ix ix_list (pv 0) pe_int (fun _ _ => rfl)) pe_int) (pg_sub (pv 0) pe_int set_list))
    (pss_cons (ps_set (i := 3) scDip.nd rfl (.inl rfl) (pe_op op_mod (pe_callTy call_int1 (by rfl) mi boot_int (pa_cons
        (pe_op op_add (pe_ix ix_list (pv 0) pe_int (fun _ _ => rfl)) (pe_op op_mul pe_int (pe_ix ix_list (pv 0) pe_int (fun _ _ => rfl)))) pa_nil)) pe_int))
    (pss_cons (ps_set (i := 4) scDip.nd rfl (.inl rfl) (pe_op op_add (pe_op op_mul (pe_op op_mod (pe_callTy call_int1 (by rfl) mi boot_int (pa_cons (pe_op op_mul (pv 3) (pv 3)) pa_nil)) pe_int) (pv 3))
        (pe_op op_mul pe_int (pe_ix ix_list (pv 0) pe_int (fun _ _ => rfl)))))
    (pss_one (ps_ret (pe_op op_mod (pe_callTy call_int1 (by rfl) mi boot_int (pa_cons (pe_op op_fdiv (pe_op op_mod (pe_callTy call_int1 (by rfl) mi boot_int (pa_cons (pv 4) pa_nil)) pe_int) pe_int) pa_nil)) (pv 1))))))), ?_⟩
  have hd : CDivW x n := wide_div (b := 200) n0 nz (by decide) (by decide)
  refine ⟨.ref J, rfl, J, _, 0, .int x, rfl, rfl, .of hJ, atI_nat (j := 0) rfl, x, 0, rfl, rfl, _, rfl, ite2 (fun _ => ?_) (fun _ => ?_)⟩
  · refine ⟨.ref J, rfl, J, _, 0, .int x, rfl, rfl, .of hJ, atI_nat (j := 0) rfl, .inl ⟨x, rfl, .int n, rfl, x, n, rfl, rfl, n0, ?_⟩⟩
    refine ⟨.ref J, rfl, J, _, 0, .int x, rfl, rfl, .of hJ, atI_nat (j := 0) rfl, .int n, rfl, x, n, rfl, rfl, hd, ?_⟩
    refine ⟨.ref J, rfl, J, _, 0, 0, rfl, rfl, hJ, rfl, ?_⟩
    exact ⟨_, rfl, q _ _ Sb.at ⟨_, _, _, upd_same⟩ (Int.emod_nonneg _ (by omega)) (Int.emod_lt_of_pos _ n0)⟩
  · refine ⟨.ref J, rfl, J, _, 2, .int z, rfl, rfl, .of hJ, atI_nat (j := 2) rfl, z, 1, rfl, rfl, ?_⟩
    refine ⟨.ref J, rfl, J, _, 2, 2, rfl, rfl, hJ, rfl, ?_⟩
    have h2 : upd H J (.lst ([V.int x, .int y, .int z].set 2 (.int (z + 1)))) J = some (.lst [.int x, .int y, .int (z + 1)]) := upd_same
    refine ⟨.ref J, rfl, J, _, 1, .int y, rfl, rfl, .of h2, atI_nat (j := 1) rfl, .ref J, rfl, J, _, 2, .int (z + 1), rfl, rfl, .of h2, atI_nat (j := 2) rfl, ?_⟩
    refine ⟨1000429, z + 1, rfl, rfl, .inl ⟨by decide, by decide⟩, y, _, rfl, rfl, .inl ⟨_, rfl, _, _, rfl, rfl, (by show (0 : Int) < _; decide), ?_⟩⟩
    refine ⟨_, rfl, _, rfl, _, _, rfl, rfl, mulB (by decide) (by decide), .inl ⟨_, rfl, _, _, rfl, rfl, (by show (0 : Int) < _; decide), ?_⟩⟩
    refine ⟨_, rfl, _, _, rfl, rfl, mulB (by decide) (by decide), .ref J, rfl, J, _, 2, .int (z + 1), rfl, rfl, .of h2, atI_nat (j := 2) rfl, ?_⟩
    refine ⟨9109, z + 1, rfl, rfl, .inl ⟨by decide, by decide⟩, _, _, rfl, rfl, ?_⟩
    refine ⟨_, rfl, .inl ⟨_, rfl, _, _, rfl, rfl, (by show (0 : Int) < _; decide), _, 16384, rfl, rfl, ⟨by decide, by decide⟩, .inl ⟨_, rfl, .int n, rfl, _, n, rfl, rfl, n0, ?_⟩⟩⟩
    exact q _ _ Sb.at ⟨_, _, _, h2⟩ (Int.emod_nonneg _ (by omega)) (Int.emod_lt_of_pos _ n0)
/-- a jug: three ints, new -/
def spJug (K : PySem.W.Frag) : Sp := fun vs H Q _ => ∃ (a : Addr) (ns : List Int) (i : Nat), vs = [.ref a, .int i] ∧ SqL K H a (ns.map V.int) ∧
  ∀ H' p, Same H H' → H p = none → Jug H' p → Q (.ref p) H'
def tCellAt (K : PySem.W.Frag) : TE := fun σ H Q => ∃ (a : Addr) (ns : List Int) (i : Nat), σ[0]? = some (some (.ref a)) ∧ σ[1]? = some (some (.int i)) ∧
  SqL K H a (ns.map V.int) ∧ ∀ c : Int, Q (.int c) H
def tSomeOf (j : Nat) : TE := fun σ H Q => ∃ c : Int, σ[j]? = some (some (.int c)) ∧ ∀ g : Int, Q (.int g) H
theorem ok_jug {f : Addr} {fd : FuncData} (F : Fun K "_law_jug" "_law_jug" dJug f fd) (mi : mg "int" = none) (ml : mg "len" = none) (ma : mg "abs" = none) (mm : mg "max" = none) :
    FnOk P w K mg base CX0 1 f fd ["script", "at"] (spJug K) := by
  refine F.ok scJug (fun vs H Q E h => ?_) (fun cdv A outer s H vs Q E hr h => ?_)
  · obtain ⟨a, ns, i, rfl, _⟩ := h
    rfl
  obtain ⟨a, ns, i, rfl, hS, q⟩ := h
  refine ⟨_, pss_cons (ps_set (i := 2) scJug.nd rfl (.inl rfl) (PE.of (t' := tCellAt K) (pe_ifExp (pt_cmpR op_lt (pv 1) (pe_callB call_len_seq (by rfl) ml PySem.boot_len (pa_cons (pv 0) pa_nil)) (nomark _))
        (pe_ix ix_list (pv 0) (pv 1) (fun _ _ => rfl)) (pe_op op_add (pe_op op_mul pe_int (pv 1)) pe_int)) ?c1))
    (pss_cons (ps_set (i := 3) scJug.nd rfl (.inl rfl) (PE.of (t' := tSomeOf 2) (pe_op op_mod (pe_callTy call_int1 (by rfl) mi boot_int (pa_cons (pe_callB call_abs (by rfl) ma boot_abs (pa_cons (pv 2) pa_nil)) pa_nil))
        (pe_op op_powB (pe_op op_powB pe_int pe_int) pe_int)) ?c2))
    (pss_cons (ps_set (i := 4) scJug.nd rfl (.inl rfl) (pe_op op_add (pe_op op_add (pe_op op_add (pe_op op_mul (pe_op op_mod (pe_callTy call_int1 (by rfl) mi boot_int (pa_cons (pv 3) pa_nil)) pe_int) pe_int)
        (pe_op op_mul pe_int (pv 1))) (pe_op op_mul pe_int (pe_callTy call_int1 (by rfl) mi boot_int (pa_cons (pe_cmpR op_lt (pv 2) pe_int (nomark _)) pa_nil)))) pe_int))
    (pss_one (ps_ret (pe_lst (pa_cons (pe_callB (call_max2 rfl) (by rfl) mm boot_max (pa_cons pe_int (pa_cons (pe_op op_sub (pv 3) (pe_op op_powB pe_int pe_int)) pa_nil)))
      (pa_cons (pe_op op_mod (pe_callTy call_int1 (by rfl) mi boot_int (pa_cons (pv 4) pa_nil)) pe_int) (pa_cons pe_int pa_nil)))))))), ?r⟩
  case c1 =>
    intro σ H Q h
    obtain ⟨a, ns, i, h0, h1, hS, q⟩ := h
    refine ⟨.int i, h1, .ref a, h0, a, _, rfl, .inl hS, _, _, rfl, rfl, _, rfl, ite2 (fun e => ?_) (fun _ => ?_)⟩
    · have e1 : (i : Int) < ((ns.map V.int).length : Nat) := of_decide_eq_true e
      rw [List.length_map] at e1
      have hi : i < ns.length := by omega
      refine ⟨.ref a, h0, .int i, h1, a, _, i, .int ns[i], rfl, rfl, hS, atI_nat (j := i) ?_, q _⟩
      rw [List.getElem?_map, List.getElem?_eq_getElem hi]
      rfl
    · exact ⟨.int i, h1, 71, i, rfl, rfl, .inl ⟨by decide, by decide⟩, _, 41, rfl, rfl, q _⟩
  case c2 =>
    intro σ H Q h
    obtain ⟨c, h2, q⟩ := h
    refine ⟨.int c, h2, c, rfl, .inl ⟨_, rfl, 10, 43, rfl, rfl, ⟨by decide, by decide +kernel⟩, _, 14, rfl, rfl, ⟨by decide, by decide +kernel⟩, _, _, rfl, rfl, (by show (0 : Int) < _; decide +kernel), q _⟩⟩
  refine ⟨a, ns, i, rfl, rfl, hS, fun c => ⟨c, rfl, fun g => ?_⟩⟩
  refine ⟨.int g, rfl, .inl ⟨_, rfl, g, 2147483179, rfl, rfl, (by show (0 : Int) < _; decide), _, 97303, rfl, rfl, .inr ⟨by decide, by decide⟩, .int i, rfl, 8147, i, rfl, rfl, .inl ⟨by decide, by decide⟩, _, _, rfl, rfl, ?_⟩⟩
  refine ⟨.int c, rfl, c, 0, rfl, rfl, .inr ⟨_, rfl, 53, _, rfl, rfl, .inl ⟨by decide, by decide⟩, _, _, rfl, rfl, _, 79, rfl, rfl, ?_⟩⟩
  refine ⟨.int g, rfl, 10, 18, rfl, rfl, ⟨by decide, by decide +kernel⟩, g, _, rfl, rfl, 0, _, rfl, ?_⟩
  refine ⟨_, rfl, .inl ⟨_, rfl, _, 2305843009213693907, rfl, rfl, (by show (0 : Int) < _; decide), (by show 3 ≤ sizeLine; decide), fun p np => ?_⟩⟩
  exact q _ p (same_new np) np ⟨_, _, _, upd_same⟩
/-- one of some items -/
def spChoice : Sp := fun vs H Q _ => ∃ (J L : Addr) (xs : List V), vs = [.ref J, .ref L] ∧ L ≠ J ∧ H L = some (.lst xs) ∧ xs ≠ [] ∧ xs.length ≤ 1000 ∧ Jug H J ∧
  ∀ H' x, Sb J H H' → Jug H' J → x ∈ xs → Q x H'
theorem ok_choice {f fD : Addr} {fd fdD : FuncData} (F : Fun K "_law_choice" "_law_choice" dChoice f fd) (FD : FnOk P w K mg base CX0 1 fD fdD ["jug", "total"] spDip)
    (kD : PySem.W.keepIn K (.ref fD) = true) (bD : Binds K fdD ["jug", "total"] []) (gD : mg "_law_dip" = some (.ref fD)) (ml : mg "len" = none) : FnOk P w K mg base CX0 2 f fd ["jug", "items"] spChoice := by
  refine F.ok scChoice (fun vs H Q E h => ?_) (fun cdv A outer s H vs Q E hr h => ?_)
  · obtain ⟨J, L, xs, rfl, _⟩ := h
    rfl
  obtain ⟨J, L, xs, rfl, nJ, hL, ne, le, hJ, q⟩ := h
  refine ⟨_, pss_one (ps_ret (pe_ix ix_list (pv 1) (pe_call FD hr (by rfl) gD kD bD .nil pass0 (pa_cons (pv 0) (pa_cons (pe_callB call_len_seq (by rfl) ml PySem.boot_len (pa_cons (pv 1) pa_nil)) pa_nil))) (fun _ _ => rfl))), ?_⟩
  have pos : 0 < xs.length := List.length_pos_iff.mpr ne
  refine ⟨.ref L, rfl, .ref J, rfl, .ref L, rfl, L, xs, rfl, .inl (.of hL), J, xs.length, rfl, by omega, by omega, hJ, fun H' k sb hJ' k0 kn => ?_⟩
  have hk : k.toNat < xs.length := by omega
  refine ⟨L, xs, k, xs[k.toNat], rfl, rfl, .of (sb _ _ nJ hL), ?_, q _ _ sb hJ' (List.getElem_mem hk)⟩
  exact at_of (show k = (k.toNat : Int) by omega) (List.getElem?_eq_getElem hk)
/-- a small letter -/
def spLetter : Sp := fun vs H Q _ => ∃ (J : Addr), vs = [.ref J] ∧ Jug H J ∧ ∀ H' c, Sb J H H' → Jug H' J → c < 128 → Q (.str ⟨#[c]⟩) H'
theorem ok_letter {f fD : Addr} {fd fdD : FuncData} (F : Fun K "_law_letter" "_law_letter" dLetter f fd) (FD : FnOk P w K mg base CX0 1 fD fdD ["jug", "total"] spDip)
    (kD : PySem.W.keepIn K (.ref fD) = true) (bD : Binds K fdD ["jug", "total"] []) (gD : mg "_law_dip" = some (.ref fD)) : FnOk P w K mg base CX0 2 f fd ["jug"] spLetter := by
  refine F.ok scLetter (fun vs H Q E h => ?_) (fun cdv A outer s H vs Q E hr h => ?_)
  · obtain ⟨J, rfl, _⟩ := h
    rfl
  obtain ⟨J, rfl, hJ, q⟩ := h
  refine ⟨_, pss_one (ps_ret (pe_ix ix_str pe_str (pe_call FD hr (by rfl) gD kD bD .nil pass0 (pa_cons (pv 0) (pa_cons pe_int pa_nil))) (fun _ _ => rfl))), ?_⟩
  refine ⟨.ref J, rfl, J, 26, rfl, by decide, by decide, hJ, fun H' k sb hJ' k0 kn => ?_⟩
  have ab : (Str.ofString "abcdefghijklmnopqrstuvwxyz").cps.toList = (List.range 26).map (97 + ·) := by decide +kernel
  refine ⟨_, k, 97 + k.toNat, rfl, rfl, by decide +kernel, ?_, q _ _ sb hJ' (by omega)⟩
  rw [ab]
  have e : k = (k.toNat : Int) := by omega
  rw [e]
  refine atI_nat ?_
  rw [List.getElem?_map, List.getElem?_range (by omega)]
  rfl
end
end Ow

set_option Elab.async false
set_option linter.all false
set_option maxRecDepth 100000
set_option maxHeartbeats 4000000
set_option exponentiation.threshold 3000
namespace Ow
open PySem PySem.Spec PyProof.Rows L2
/-! numbers as texts -/
theorem neg_head (n : Nat) : (Str.ofString (toString (Int.negSucc n))).cps.toList.head? = some 45 := by
  rw [PyProof.Rows.signs_ofString]
  show (("-" ++ toString (n + 1) : String).toList.map Char.toNat).head? = some 45
  rw [String.toList_append]
  rfl
theorem num_inj {i : Int} {k : Nat} (h : Str.ofString (toString i) = Str.ofString (toString (k : Int))) (h0 : (Str.ofString (toString (k : Int))).cps.toList.head? ≠ some 45) : i = k := by
  cases i with
  | ofNat m =>
    have e := congrArg (fun z : Str => z.cps.toList) h
    have e' : (Nat.toDigits 10 m).map Char.toNat = (Nat.toDigits 10 k).map Char.toNat := by
      rw [← PySem.W.KIN.signs_num, ← PySem.W.KIN.signs_num]
      exact e
    have r := PySem.W.KIN.val_back m
    rw [e', PySem.W.KIN.val_back] at r
    show (m : Int) = k
    omega
  | negSucc n =>
    have e := congrArg (fun z : Str => z.cps.toList.head?) h
    rw [neg_head] at e
    exact absurd e.symm h0
theorem num0 (i : Int) : (Str.ofString (toString i) == Str.ofString "0") = decide (i = 0) := by
  rw [Bool.eq_iff_iff, beq_iff_eq, decide_eq_true_eq]
  constructor
  · intro h
    exact num_inj (k := 0) h (by decide +kernel)
  · rintro rfl
    rfl
theorem num1 (i : Int) : (Str.ofString (toString i) == Str.ofString "1") = decide (i = 1) := by
  rw [Bool.eq_iff_iff, beq_iff_eq, decide_eq_true_eq]
  constructor
  · intro h
    exact num_inj (k := 1) h (by decide +kernel)
  · rintro rfl
    rfl
theorem bit_no {v : V} (h : ∀ i : Int, v ≠ .int i) : bitB v = false := by
  unfold bitB
  rw [decide_eq_false (h 0), decide_eq_false (h 1)]
  rfl
/-! items as data -/
theorem Im.data {K : PySem.W.Frag} {J : Addr} {H : Hp} {v : V} (h : Im J H v) : ∃ d : PyData, Dp K H v d ∧ d.canLay0 = true ∧ d.showable = true ∧ d.hasDict = false ∧ d.depth ≤ 1 ∧ d.shown.length ≤ sizeLine ∧
    (∀ i : Int, d = .int i → i.natAbs.log2 < 1920) ∧ ((d.shown == Str.ofString "0") || (d.shown == Str.ofString "1")) = bitB v := by
  rcases h with h | ⟨a, rfl, n, g⟩
  · cases v with
    | non => exact ⟨.none, .non, rfl, rfl, rfl, Nat.zero_le _, by decide +kernel, (fun i e => (nomatch e)), by decide +kernel⟩
    | bl b => cases b <;> exact ⟨.bool _, .bl _, rfl, rfl, rfl, Nat.zero_le _, by decide +kernel, (fun i e => (nomatch e)), by decide +kernel⟩
    | int i =>
      have hb : i.natAbs < 2 ^ 400 := h
      have hl : i.natAbs.log2 < 1920 := Nat.lt_of_lt_of_le (PySem.Flt.log2_lt_of (by decide) hb) (by decide)
      refine ⟨.int i, .int i, rfl, ?_, rfl, Nat.zero_le _, ?_, fun j e => ?_, ?_⟩
      · show decide (i.natAbs.log2 < 1920) = true
        exact decide_eq_true hl
      · show (Str.ofString (toString i)).length ≤ sizeLine
        exact int_text_fits hl
      · cases e
        exact hl
      · show ((Str.ofString (toString i) == Str.ofString "0") || (Str.ofString (toString i) == Str.ofString "1")) = bitB (.int i)
        rw [num0, num1]
        unfold bitB
        congr 1 <;> (rw [Bool.eq_iff_iff, decide_eq_true_eq, decide_eq_true_eq]; exact ⟨fun e => by rw [e], fun e => V.int.inj e⟩)
    | str z =>
      obtain ⟨hz, hc⟩ : z.length ≤ 4000 ∧ ∀ c ∈ z.cps.toList, c < 128 := h
      have h2 := StrLaws.reprText_ge2 z
      have h3 := StrLaws.reprText_len z fun c hm => Nat.lt_of_lt_of_le (hc c hm) (by decide)
      have ne : ∀ k : Str, k.length = 1 → (reprText z == k) = false := fun k hk => by
        rw [beq_eq_false_iff_ne]
        intro e
        rw [e, hk] at h2
        exact absurd h2 (by decide)
      refine ⟨.str z, .str z, ?_, rfl, rfl, Nat.zero_le _, ?_, (fun j e => (nomatch e)), ?_⟩
      · show z.cps.all (fun c => decide (c < 0x110000)) = true
        rw [Array.all_eq_true_iff_forall_mem]
        intro c hm
        exact decide_eq_true (Nat.lt_of_lt_of_le (hc c (by simpa using hm)) (by decide))
      · show (reprText z).length ≤ sizeLine
        rw [sizeLine_eq]
        omega
      · show ((reprText z == Str.ofString "0") || (reprText z == Str.ofString "1")) = bitB (.str z)
        rw [ne _ rfl, ne _ rfl, bit_no (v := .str z) fun i e => (nomatch e)]
        rfl
    | byt _ => exact False.elim h
    | flt _ => exact False.elim h
    | ref _ => exact False.elim h
    | ty _ => exact False.elim h
  · rcases g with g | g | g
    · exact ⟨.tuple [], .tup (.of g) .nil, rfl, rfl, rfl, by decide, by decide +kernel, (fun i e => (nomatch e)), by rw [bit_no (v := .ref a) fun i e => (nomatch e)]; decide +kernel⟩
    · exact ⟨.tuple [.int 0], .tup (.of g) (.cons (.int 0) .nil), rfl, by decide +kernel, rfl, by decide, by decide +kernel, (fun i e => (nomatch e)), by rw [bit_no (v := .ref a) fun i e => (nomatch e)]; decide +kernel⟩
    · exact ⟨.list [], .lst (.of g) .nil, rfl, rfl, rfl, by decide, by decide +kernel, (fun i e => (nomatch e)), by rw [bit_no (v := .ref a) fun i e => (nomatch e)]; decide +kernel⟩
/-- a list of items, as data -/
theorem Ims.data {K : PySem.W.Frag} {J : Addr} {H : Hp} : ∀ {xs : List V}, (∀ x ∈ xs, Im J H x) → ∃ ds, DpAll K H xs ds ∧ PyData.canLayAll0 ds = true ∧ PyData.depthAll ds ≤ 1 ∧ ds.length = xs.length
  | [], _ => ⟨[], .nil, rfl, Nat.zero_le _, rfl⟩
  | x :: xs, h => by
    obtain ⟨d, h1, h2, _, _, h3, _⟩ := (h x List.mem_cons_self).data (K := K)
    obtain ⟨ds, g1, g2, g3, g4⟩ := Ims.data (xs := xs) fun y hy => h y (List.mem_cons_of_mem _ hy)
    refine ⟨d :: ds, .cons h1 g1, ?_, ?_, ?_⟩
    · show (d.canLay0 && PyData.canLayAll0 ds) = true
      rw [h2, g2]
      rfl
    · show max d.depth (PyData.depthAll ds) ≤ 1
      omega
    · rw [List.length_cons, List.length_cons, g4]
/-- l == [] -/
def rNil (K : PySem.W.Frag) : R2 := fun x y H Q => ∃ J D E xs, x = .ref D ∧ y = .ref E ∧ H D = some (.lst xs) ∧ H E = some (.lst []) ∧ (∀ x ∈ xs, Im J H x) ∧ Q (.bl xs.isEmpty) H
theorem op_nil {X : Cx} (hu : X.A.units + 64 < cLine) : OpR X (compareOp .Eq) (rNil X.K) := by
  intro pins s σ H x y v u Q I rx ry h
  obtain ⟨J, D, E, xs, rfl, rfl, hD, hE, hx, q⟩ := h
  obtain ⟨ds, h1, h2, h3, h4⟩ := Ims.data (K := X.K) hx
  refine op_eqD hu pins s σ H _ _ v u Q I rx ry ⟨.list ds, .list [], .lst (.of hD) h1, .lst (.of hE) .nil, ?_, by decide, ?_⟩
  · show (PyData.canLayAll0 ds && decide (PyData.depthAll ds + 1 ≤ 64)) = true
    rw [h2, decide_eq_true (by omega)]
    rfl
  · have e : PyData.eqv (.list ds) (.list []) = xs.isEmpty := by
      cases ds with
      | nil =>
        cases xs with
        | nil => rfl
        | cons _ _ => cases h4
      | cons _ _ =>
        cases xs with
        | nil => cases h4
        | cons _ _ => rfl
    rw [e]
    exact q
end Ow

set_option Elab.async false
set_option linter.all false
set_option maxRecDepth 100000
set_option maxHeartbeats 4000000
set_option exponentiation.threshold 3000
namespace Ow
open PySem PySem.Spec PyProof.Rows L2
theorem scLName : FnScope ["value", "sign"] ["value"] (defScope dLName) := ⟨rfl, rfl, rfl, by decide +kernel, rfl, by decide +kernel, by decide +kernel⟩
theorem scShort : FnScope ["value"] ["value"] (defScope dShort) := ⟨rfl, rfl, rfl, by decide +kernel, rfl, by decide +kernel, by decide +kernel⟩
theorem scNumbers : FnScope ["jug", "cell", "great", "near"] ["jug", "cell"] (defScope dNumbers) := ⟨rfl, rfl, rfl, by decide +kernel, rfl, by decide +kernel, by decide +kernel⟩
theorem scAnyRow : FnScope ["value", "one"] ["value"] (defScope dAnyRow) := ⟨rfl, rfl, rfl, by decide +kernel, rfl, by decide +kernel, by decide +kernel⟩
theorem abc_mem (c : Nat) : decide (c ∈ (Str.ofString "abcdefghijklmnopqrstuvwxyz").cps.toList) = signB c := by
  have ab : (Str.ofString "abcdefghijklmnopqrstuvwxyz").cps.toList = (List.range 26).map (97 + ·) := by decide +kernel
  rw [ab]
  unfold signB
  rw [Bool.eq_iff_iff, decide_eq_true_eq, Bool.and_eq_true, decide_eq_true_eq, decide_eq_true_eq, List.mem_map]
  constructor
  · rintro ⟨k, hk, e⟩
    have := List.mem_range.mp hk
    omega
  · rintro ⟨h1, h2⟩
    exact ⟨c - 97, List.mem_range.mpr (by omega), by omega⟩
theorem none_bad (l : List Nat) (p : Nat → Bool) (g : Nat → V) : ((l.filter fun c => !p c).map g).isEmpty = l.all p := by
  induction l with
  | nil => rfl
  | cons c l ih =>
    cases e : p c with
    | true =>
      rw [List.filter_cons_of_neg (by simp [e]), ih, List.all_cons, e, Bool.true_and]
    | false =>
      rw [List.filter_cons_of_pos (by simp [e]), List.all_cons, e, Bool.false_and]
      rfl
section
variable {P : Program} {w : World} {K : PySem.W.Frag} {mg : Str → Option Value} {base : Heap}
theorem ok_lname {f : Addr} {fd : FuncData} (F : Fun K "_law_is_name" "_law_is_name" dLName f fd) (mi : mg "isinstance" = none) (ms : mg "str" = none) (ml : mg "len" = none) :
    FnOk P w K mg base CX0 1 f fd ["value"] (spB fun _ => nameB) := by
  refine F.ok scLName spB_len (fun cdv A outer s H vs Q E hr h => ?_)
  obtain ⟨v, J, rfl, hv, q⟩ := h
  refine ⟨_, pss_cons (ps_if (PW.pt (pw_or (pt_not (pt_val (pe_isi (T := "str") (by rfl) mi (pv 0) (by rfl) ms boot_str)))
      (pw_or (pt_cmpR op_eq (pe_callB call_len_str (by rfl) ml PySem.boot_len (pa_cons (pv 0) pa_nil)) pe_int (nomark _))
        (pw_or1 (pt_cmpR op_gt (pe_callB call_len_str (by rfl) ml PySem.boot_len (pa_cons (pv 0) pa_nil)) pe_int (nomark _))))))
      (pss_one (ps_ret pe_bl)) pss_nil)
    (pss_one (ps_ret (pe_cmpR (op_nil hr.units)
      (pe_lc (own := [("sign", 1)]) (g := gName 1) (tt := tTest (tOp (fun x y H Q => ∃ (c : Nat) (z : Str), x = .str ⟨#[c]⟩ ∧ y = .str z ∧ Q (.bl (!decide (c ∈ z.cps.toList))) H) (tVar 1) (tC (.str "abcdefghijklmnopqrstuvwxyz")))) rfl scLName.nd (pi_str (pv 0)) (blkOk_by (N := ["value", "sign"]) (sc := defScope dLName) (by decide +kernel))
        (fun _ _ _ _ _ => pg_name (i := 1) scLName.nd rfl (Or.inl rfl)) (fun _ _ _ _ _ => pts_one (pt_cmpR op_notIn_sign (pv 1) pe_str (by rfl)))
        (fun _ _ _ _ _ => pv 1)) (pe_lst pa_nil) (nomark _)))), ?_⟩
  obtain ⟨T, ty, c⟩ := hv.ty (K := K)
  have fin : ∀ b H', Same H H' → b = nameB v → Q (.bl b) H' := fun b H' sm e => by
    rw [e]
    exact q H' sm
  rcases c with ⟨⟨i, rfl⟩, rfl⟩ | ⟨⟨b, rfl⟩, rfl⟩ | ⟨rfl, rfl⟩ | ⟨⟨z, rfl, hz, hc⟩, rfl⟩ | ⟨⟨a, xs, rfl, _⟩, rfl⟩ | ⟨⟨a, xs, rfl, _⟩, rfl⟩ | ⟨⟨a, xs, rfl, _⟩, rfl⟩
  · exact isi_at "str" rfl ty (b := false) (by decide +kernel) ⟨false, rfl, iteT (iteT (fin _ _ (Same.refl H) rfl))⟩
  · exact isi_at "str" rfl ty (b := false) (by decide +kernel) ⟨false, rfl, iteT (iteT (fin _ _ (Same.refl H) rfl))⟩
  · exact isi_at "str" rfl ty (b := false) (by decide +kernel) ⟨false, rfl, iteT (iteT (fin _ _ (Same.refl H) rfl))⟩
  · refine isi_at "str" rfl ty (b := true) (by decide +kernel) ⟨true, rfl, iteF ?_⟩
    have hln : z.length ≤ sizeLine := Nat.le_of_lt (small60 (by omega))
    refine ⟨.str z, rfl, z, rfl, hln, rfl, _, rfl, ite2 (fun e => ?_) (fun ne => ?_)⟩
    · have e0 : (z.length : Int) = 0 := V.int.inj (of_decide_eq_true e)
      refine iteT (fin _ _ (Same.refl H) ?_)
      show _ = ((decide (1 ≤ z.length) && _) && _)
      rw [decide_eq_false (show ¬ 1 ≤ z.length by omega), Bool.false_and, Bool.false_and]
    · have h1 : 1 ≤ z.length := by
        by_cases h : z.length = 0
        · exact absurd (decide_eq_true (by rw [h]; rfl)) ne
        · omega
      refine ⟨.str z, rfl, z, rfl, hln, _, _, rfl, rfl, _, rfl, ite2 (fun e => ?_) (fun ne8 => ?_)⟩
      · have e8 : (8 : Int) < z.length := of_decide_eq_true e
        refine fin _ _ (Same.refl H) ?_
        show _ = ((_ && decide (z.length ≤ 8)) && _)
        rw [decide_eq_false (show ¬ z.length ≤ 8 by omega), Bool.and_false, Bool.false_and]
      · have h8 : z.length ≤ 8 := by
          by_cases h : (8 : Int) < z.length
          · exact absurd (decide_eq_true h) ne8
          · omega
        have hsz : z.length = z.cps.toList.length := by rw [Array.length_toList]; rfl
        refine ⟨.str z, rfl, z, rfl, fun D nD => ?_⟩
        refine lc_signs (fun i Hx => Same H Hx ∧ Hx D = some (.lst (((z.cps.toList.take i).filter fun c => !signB c).map fun c => V.str ⟨#[c]⟩))) ⟨same_new nD, upd_same⟩ (fun i c Hx hi hI => ?_) (fun Hx hI => ?_)
        · obtain ⟨sm, eD⟩ := hI
          have hi' : z.cps.toList[i]? = some c := by rw [Array.getElem?_toList]; exact hi
          refine ⟨rfl, .str ⟨#[c]⟩, rfl, c, _, rfl, rfl, _, rfl, ?_⟩
          rw [abc_mem]
          cases hs : signB c with
          | true =>
            refine iteF ⟨sm, ?_⟩
            rw [eD, List.take_add_one, hi', List.filter_append]
            show _ = some (HO.lst ((_ ++ [c].filter _).map _))
            rw [List.filter_cons_of_neg (by simp [hs]), List.filter_nil, List.append_nil]
          | false =>
            refine iteT ⟨.str ⟨#[c]⟩, rfl, _, eD, ?_, fun b o e => ?_, ?_⟩
            · rw [List.length_map]
              refine small60 (Nat.le_trans (List.length_filter_le _ _) (Nat.le_trans (List.length_take_le _ _) ?_))
              have hi2 := (List.getElem?_eq_some_iff.mp hi').1
              omega
            · rw [upd_ne (ne_of_none e nD)]
              exact sm _ _ e
            · rw [upd_same, List.take_add_one, hi', List.filter_append]
              show _ = some (HO.lst ((_ ++ [c].filter _).map _))
              rw [List.filter_cons_of_pos (by simp [hs]), List.filter_nil, List.map_append]
              rfl
        · obtain ⟨sm, eD⟩ := hI
          rw [List.take_of_length_le (by rw [Array.length_toList]; exact Nat.le_refl _)] at eD
          refine ⟨Nat.zero_le _, fun p hp => ⟨p, D, p, ((z.cps.toList.filter fun c => !signB c).map fun c => V.str ⟨#[c]⟩), rfl, rfl, ?_, upd_same, fun x hx => ?_, fin _ _ (sm.trans (same_new hp)) ?_⟩⟩
          · rw [upd_ne (ne_of_none eD hp)]
            exact eD
          · obtain ⟨c, hm, rfl⟩ := List.mem_map.mp hx
            refine .inl ⟨by show 1 ≤ 4000; decide, fun d hd => ?_⟩
            have ed : d = c := by simpa using hd
            rw [ed]
            exact hc c (List.mem_filter.mp hm).1
          · rw [none_bad]
            show _ = ((decide (1 ≤ z.length) && decide (z.length ≤ 8)) && z.cps.toList.all signB)
            rw [decide_eq_true h1, decide_eq_true h8]
            rfl
  · exact isi_at "str" rfl ty (b := false) (by decide +kernel) ⟨false, rfl, iteT (iteT (fin _ _ (Same.refl H) rfl))⟩
  · exact isi_at "str" rfl ty (b := false) (by decide +kernel) ⟨false, rfl, iteT (iteT (fin _ _ (Same.refl H) rfl))⟩
  · exact isi_at "str" rfl ty (b := false) (by decide +kernel) ⟨false, rfl, iteT (iteT (fin _ _ (Same.refl H) rfl))⟩
theorem ok_short {f : Addr} {fd : FuncData} (F : Fun K "_law_is_short" "_law_is_short" dShort f fd) (mi : mg "isinstance" = none) (mn : mg "int" = none) (mb : mg "bool" = none) :
    FnOk P w K mg base CX0 1 f fd ["value"] (spB fun _ => shortB) := by
  refine F.ok scShort spB_len (fun cdv A outer s H vs Q E hr h => ?_)
  obtain ⟨v, J, rfl, hv, q⟩ := h
  refine ⟨_, pss_one (ps_ret (pe_and (pe_isi (T := "int") (by rfl) mi (pv 0) (by rfl) mn boot_int)
    (pe_and (pe_not (pe_isi (T := "bool") (by rfl) mi (pv 0) (by rfl) mb boot_bool))
      (pe_and (pe_cmpR op_lt (pe_op op_sub pe_int (pe_op op_powB pe_int pe_int)) (pv 0) (nomark _))
        (pe_one (pe_cmpR op_lt (pv 0) (pe_op op_powB pe_int pe_int) (nomark _))))))), ?_⟩
  obtain ⟨T, ty, c⟩ := hv.ty (K := K)
  have fin : ∀ b, b = shortB v → Q (.bl b) H := fun b e => by
    rw [e]
    exact q H (Same.refl H)
  rcases c with ⟨⟨i, rfl⟩, rfl⟩ | ⟨⟨b, rfl⟩, rfl⟩ | ⟨rfl, rfl⟩ | ⟨⟨z, rfl, _⟩, rfl⟩ | ⟨⟨a, xs, rfl, _⟩, rfl⟩ | ⟨⟨a, xs, rfl, _⟩, rfl⟩ | ⟨⟨a, xs, rfl, _⟩, rfl⟩
  · refine isi_at "int" rfl ty (b := true) (by decide +kernel) ⟨true, rfl, iteT (isi_at "bool" rfl ty (b := false) (by decide +kernel) ⟨false, rfl, true, rfl, iteT ?_⟩)⟩
    refine ⟨10, 60, rfl, rfl, ⟨by decide, by decide +kernel⟩, 0, _, rfl, rfl, .int i, rfl, _, i, rfl, rfl, _, rfl, ?_⟩
    have e : (0 : Int) - 10 ^ (60 : Int).toNat = -(10 ^ 60) := by decide +kernel
    rw [e]
    by_cases h : -(10 ^ 60) < i
    · rw [decide_eq_true h]
      refine iteT ⟨.int i, rfl, 10, 60, rfl, rfl, ⟨by decide, by decide +kernel⟩, i, _, rfl, rfl, fin _ ?_⟩
      show _ = (decide (-(10 ^ 60) < i) && decide (i < 10 ^ 60))
      rw [decide_eq_true h]
      rfl
    · rw [decide_eq_false h]
      refine iteF (fin _ ?_)
      show _ = (decide (-(10 ^ 60) < i) && _)
      rw [decide_eq_false h]
      rfl
  · exact isi_at "int" rfl ty (b := true) (by decide +kernel) ⟨true, rfl, iteT (isi_at "bool" rfl ty (b := true) (by decide +kernel) ⟨true, rfl, false, rfl, iteF (fin _ rfl)⟩)⟩
  · exact isi_at "int" rfl ty (b := false) (by decide +kernel) ⟨false, rfl, iteF (fin _ rfl)⟩
  · exact isi_at "int" rfl ty (b := false) (by decide +kernel) ⟨false, rfl, iteF (fin _ rfl)⟩
  · exact isi_at "int" rfl ty (b := false) (by decide +kernel) ⟨false, rfl, iteF (fin _ rfl)⟩
  · exact isi_at "int" rfl ty (b := false) (by decide +kernel) ⟨false, rfl, iteF (fin _ rfl)⟩
  · exact isi_at "int" rfl ty (b := false) (by decide +kernel) ⟨false, rfl, iteF (fin _ rfl)⟩
end
end Ow

set_option Elab.async false
set_option linter.all false
set_option maxRecDepth 100000
set_option maxHeartbeats 4000000
set_option exponentiation.threshold 3000
namespace Ow
open PySem PySem.Spec PyProof.Rows L2
section
variable {P : Program} {w : World} {K : PySem.W.Frag} {mg : Str → Option Value} {base : Heap}
/-- a new list of scalars, the jug turned -/
def spList (nargs : List V → Addr → Prop) (len : Nat) : Sp := fun vs H Q _ => ∃ (J : Addr), nargs vs J ∧ Jug H J ∧
  ∀ H' p xs, Sb J H H' → Jug H' J → p ≠ J → H' p = some (.lst xs) → xs.length = len → (∀ x ∈ xs, Vl J H' x) → Q (.ref p) H'
theorem scInt {i : Int} (h : i.natAbs < 2 ^ 400) {J : Addr} {H : Hp} : Vl J H (.int i) := .inl h
def tBig : TE := fun σ H Q => ∃ c : Int, σ[1]? = some (some (.int c)) ∧ ∀ g : Int, 0 ≤ g → g < 10 ^ 90 → Q (.int g) H
def tJugInt (i : Nat) (lo hi : Int) : TE := fun σ H Q => ∃ J, σ[i]? = some (some (.ref J)) ∧ Jug H J ∧ ∀ H' k, Sb J H H' → Jug H' J → lo ≤ k → k < hi → Q (.int k) H'
theorem ok_numbers {f fD : Addr} {fd fdD : FuncData} (F : Fun K "_law_numbers" "_law_numbers" dNumbers f fd) (FD : FnOk P w K mg base CX0 1 fD fdD ["jug", "total"] spDip)
    (kD : PySem.W.keepIn K (.ref fD) = true) (bD : Binds K fdD ["jug", "total"] []) (gD : mg "_law_dip" = some (.ref fD)) (mi : mg "int" = none) :
    FnOk P w K mg base CX0 2 f fd ["jug", "cell"] (spList (fun vs J => ∃ c : Int, vs = [.ref J, .int c]) 10) := by
  refine F.ok scNumbers (fun vs H Q E h => ?_) (fun cdv A outer s H vs Q E hr h => ?_)
  · obtain ⟨J, ⟨c, rfl⟩, _⟩ := h
    rfl
  obtain ⟨J, ⟨c, rfl⟩, hJ, q⟩ := h
  refine ⟨_, pss_cons (ps_par (i := 2) (j := 3) (by rfl) scNumbers.nd rfl rfl (by decide) rfl rfl (pa_cons
      (PE.of (t' := tBig) (pe_op op_mod (pe_callTy call_int1 (by rfl) mi boot_int (pa_cons (pv 1) pa_nil)) (pe_op op_mulW (pe_op op_powB pe_int pe_int) (pe_op op_powB pe_int pe_int))) ?c1)
      (pa_cons (PE.of (t' := tJugInt 0 (10 ^ 60 - 2) (10 ^ 60 + 3)) (pe_op op_sub (pe_op op_add (pe_op op_powB pe_int pe_int) (pe_call FD hr (by rfl) gD kD bD .nil pass0 (pa_cons (pv 0) (pa_cons pe_int pa_nil)))) pe_int) ?c2) pa_nil)) (by rfl))
    (pss_one (ps_ret (pe_lst (pa_cons (pv 2) (pa_cons (pe_op op_sub pe_int (pv 2)) (pa_cons (pv 3) (pa_cons (pe_op op_sub pe_int (pv 3))
      (pa_cons (pe_op op_powB pe_int pe_int) (pa_cons (pe_op op_sub pe_int (pe_op op_powB pe_int pe_int)) (pa_cons (pe_op op_sub (pe_op op_powB pe_int pe_int) pe_int)
      (pa_cons (pe_op op_sub pe_int (pe_op op_powB pe_int pe_int)) (pa_cons pe_int (pa_cons (pe_op op_sub pe_int pe_int) pa_nil))))))))))))), ?r⟩
  case c1 =>
    intro σ H Q h
    obtain ⟨c, h1, q⟩ := h
    have e : (10 : Int) ^ (60 : Int).toNat * 10 ^ (30 : Int).toNat = 10 ^ 90 := by decide +kernel
    refine ⟨.int c, h1, .inl ⟨c, rfl, 10, 60, rfl, rfl, ⟨by decide, by decide +kernel⟩, 10, 30, rfl, rfl, ⟨by decide, by decide +kernel⟩, _, _, rfl, rfl, (by unfold CMulW; decide +kernel), _, _, rfl, rfl, (by show (0 : Int) < _; decide +kernel), ?_⟩⟩
    show Q (.int (c % (10 ^ (60 : Int).toNat * 10 ^ (30 : Int).toNat))) H
    rw [e]
    exact q _ (Int.emod_nonneg _ (by decide +kernel)) (Int.emod_lt_of_pos _ (by decide +kernel))
  case c2 =>
    intro σ H Q h
    obtain ⟨J, h0, hJ, q⟩ := h
    refine ⟨10, 60, rfl, rfl, ⟨by decide, by decide +kernel⟩, .ref J, h0, J, 5, rfl, by decide, by decide, hJ, fun H' k sb hJ' k0 kn => ⟨_, k, rfl, rfl, _, 2, rfl, rfl, ?_⟩⟩
    have e : (10 : Int) ^ (60 : Int).toNat = 10 ^ 60 := by decide +kernel
    show Q (.int (10 ^ (60 : Int).toNat + k - 2)) H'
    rw [e]
    exact q _ _ sb hJ' (by omega) (by omega)
  refine ⟨c, rfl, fun g g0 g1 => ⟨J, rfl, hJ, fun H1 n sb hJ1 n0 n1 => ⟨_, _, rfl, ?_⟩⟩⟩
  have e : (10 : Int) ^ (60 : Int).toNat = 10 ^ 60 := by decide +kernel
  have pw : CPowB 10 60 := ⟨by decide, by decide +kernel⟩
  refine ⟨.int g, rfl, .int g, rfl, 0, g, rfl, rfl, .int n, rfl, .int n, rfl, 0, n, rfl, rfl, 10, 60, rfl, rfl, pw, 10, 60, rfl, rfl, pw, 0, _, rfl, rfl, 10, 60, rfl, rfl, pw, _, 1, rfl, rfl, 10, 60, rfl, rfl, pw, 1, _, rfl, rfl, 0, 1, rfl, rfl, (by show 10 ≤ sizeLine; decide), fun p np => ?_⟩
  obtain ⟨x1, x2, x3, hJ1'⟩ := hJ1
  have nJ : p ≠ J := fun z => by
    rw [z, hJ1'] at np
    cases np
  have b400 : (10 : Int) ^ 90 + 10 < 2 ^ 400 := by decide +kernel
  have b60 : (10 : Int) ^ 60 + 10 < 2 ^ 400 := by decide +kernel
  have p60 : (0 : Int) < 10 ^ 60 := by decide +kernel
  have nat : ∀ i : Int, -(2 ^ 400) < i → i < 2 ^ 400 → i.natAbs < 2 ^ 400 := fun i a b => by
    have c : ((2 ^ 400 : Nat) : Int) = (2 : Int) ^ 400 := by decide +kernel
    omega
  refine q _ p _ (sb.trans (.new np)) ⟨x1, x2, x3, by rw [upd_ne nJ.symm]; exact hJ1'⟩ nJ upd_same rfl fun x hx => ?_
  rw [e] at hx
  generalize (2 : Int) ^ 400 = B at b400 b60 nat
  generalize (10 : Int) ^ 90 = C at b400 g1
  generalize (10 : Int) ^ 60 = D at *
  simp only [List.mem_cons, List.not_mem_nil, or_false] at hx
  rcases hx with rfl | rfl | rfl | rfl | rfl | rfl | rfl | rfl | rfl | rfl <;> exact scInt (nat _ (by omega) (by omega))
/-- repr by the list of its two cases -/
theorem ok_anyrow {f : Addr} {fd : FuncData} (F : Fun K "_law_is_any_row" "_law_is_any_row" dAnyRow f fd) (mi : mg "isinstance" = none) (mt : mg "tuple" = none) (mr : mg "repr" = none) :
    FnG P w K mg base 1 f fd ["value"] (spB rowB) := by
  refine okG F scAnyRow spB_len (fun cdv A outer s H vs Q E gB hr h => ?_)
  obtain ⟨v, J, rfl, hv, q⟩ := h
  refine ⟨_, pss_one (ps_ret (pe_and (pe_isi (T := "tuple") (by rfl) mi (pv 0) (by rfl) mt boot_tup)
    (pe_one (pe_cmpR (op_nil hr.units)
      (pe_lc (own := [("one", 1)]) (g := gName 1) (tt := tTest (tOp (rIn K true) (tCB (rRepr K) (tCons (tVar 1) tNil)) (tLst (tCons (tC (.str "0")) (tCons (tC (.str "1")) tNil))))) rfl scAnyRow.nd (pi_tup (pv 0)) (blkOk_by (N := ["value", "one"]) (sc := defScope dAnyRow) (by decide +kernel))
        (fun _ _ _ _ _ => pg_name (i := 1) scAnyRow.nd rfl (Or.inl rfl))
        (fun _ _ _ _ _ => pts_one (pt_cmpR op_notIn_seq (pe_callB (call_repr gB hr.units) (by rfl) mr boot_repr (pa_cons (pv 1) pa_nil)) (pe_lst (pa_cons pe_str (pa_cons pe_str pa_nil))) (by rfl)))
        (fun _ _ _ _ _ => pv 1)) (pe_lst pa_nil) (nomark _))))), ?_⟩
  obtain ⟨T, ty, c⟩ := hv.ty (K := K)
  have fin : ∀ b H', Same H H' → b = rowB H v → Q (.bl b) H' := fun b H' sm e => by
    rw [e]
    exact q H' sm
  rcases c with ⟨⟨i, rfl⟩, rfl⟩ | ⟨⟨b, rfl⟩, rfl⟩ | ⟨rfl, rfl⟩ | ⟨⟨z, rfl, hz, hc⟩, rfl⟩ | ⟨⟨a, xs, rfl, ha, hl, hi⟩, rfl⟩ | ⟨⟨a, xs, rfl, ha⟩, rfl⟩ | ⟨⟨a, xs, rfl, ha⟩, rfl⟩
  · exact isi_at "tuple" rfl ty (b := false) (by decide +kernel) ⟨false, rfl, iteF (fin _ _ (Same.refl H) rfl)⟩
  · exact isi_at "tuple" rfl ty (b := false) (by decide +kernel) ⟨false, rfl, iteF (fin _ _ (Same.refl H) rfl)⟩
  · exact isi_at "tuple" rfl ty (b := false) (by decide +kernel) ⟨false, rfl, iteF (fin _ _ (Same.refl H) rfl)⟩
  · exact isi_at "tuple" rfl ty (b := false) (by decide +kernel) ⟨false, rfl, iteF (fin _ _ (Same.refl H) rfl)⟩
  · refine isi_at "tuple" rfl ty (b := true) (by decide +kernel) ⟨true, rfl, iteT ?_⟩
    refine ⟨.ref a, rfl, a, rfl, ⟨xs, .of ha⟩, fun D nD => ?_⟩
    refine lc_tup (K := K) (a := a) (xs := xs) (fun i Hx => Same H Hx ∧ Hx D = some (.lst ((xs.take i).filter fun x => !bitB x))) ⟨same_new nD, upd_same⟩
      (fun i Hx _ hI => .of (hI.1 _ _ ha)) (fun i x Hx hx hI => ?_) (fun Hx hI => ?_)
    · obtain ⟨sm, eD⟩ := hI
      have im : Im J Hx x := (hi x (List.mem_of_getElem? hx)).mono (.same sm)
      obtain ⟨d, h1, h2, h3, h4, h5, h6, h7, h8⟩ := im.data (K := K)
      refine ⟨rfl, x, rfl, x, d, rfl, h1, h3, h4, by omega, h6, h7, (by show 2 ≤ sizeLine; decide), fun p np => ⟨p, _, rfl, .inl (.of upd_same), rfl, rfl, _, rfl, ?_⟩⟩
      have e : inV (.str d.shown) [.str "0", .str "1"] = bitB x := by
        rw [← h8]
        show ((Str.ofString "0" == d.shown) || ((Str.ofString "1" == d.shown) || false)) = _
        rw [Bool.or_false, Bool.beq_comm (a := Str.ofString "0"), Bool.beq_comm (a := Str.ofString "1")]
      show if (!inV (.str d.shown) [.str "0", .str "1"]) = true then _ else _
      rw [e]
      have sm2 : Same H (upd Hx p (.lst [.str "0", .str "1"])) := sm.trans (same_new np)
      have eD2 : upd Hx p (.lst [.str "0", .str "1"]) D = some (.lst ((xs.take i).filter fun x => !bitB x)) := by
        rw [upd_ne (ne_of_none eD np)]
        exact eD
      cases hb : bitB x with
      | true =>
        refine iteF ⟨sm2, ?_⟩
        rw [eD2, List.take_add_one, hx, List.filter_append]
        show _ = some (HO.lst (_ ++ [x].filter _))
        rw [List.filter_cons_of_neg (by simp [hb]), List.filter_nil, List.append_nil]
      | false =>
        refine iteT ⟨x, rfl, _, eD2, ?_, fun b o e => ?_, ?_⟩
        · exact small60 (Nat.le_trans (List.length_filter_le _ _) (Nat.le_trans (List.length_take_le _ _) (by have hi2 := (List.getElem?_eq_some_iff.mp hx).1; omega)))
        · rw [upd_ne (ne_of_none e nD)]
          exact sm2 _ _ e
        · rw [upd_same, List.take_add_one, hx, List.filter_append]
          show _ = some (HO.lst (_ ++ [x].filter _))
          rw [List.filter_cons_of_pos (by simp [hb]), List.filter_nil]
    · obtain ⟨sm, eD⟩ := hI
      rw [List.take_of_length_le (Nat.le_refl _)] at eD
      refine ⟨Nat.zero_le _, fun p hp => ⟨J, D, p, (xs.filter fun x => !bitB x), rfl, rfl, ?_, upd_same, fun x hx => ?_, fin _ _ (sm.trans (same_new hp)) ?_⟩⟩
      · rw [upd_ne (ne_of_none eD hp)]
        exact eD
      · exact (hi x (List.mem_filter.mp hx).1).mono (.same (sm.trans (same_new hp)))
      · unfold rowB
        simp only [ha]
        rw [Bool.eq_iff_iff, List.isEmpty_iff, List.filter_eq_nil_iff, List.all_eq_true]
        constructor
        · intro h x hx
          have := h x hx
          simpa using this
        · intro h x hx
          rw [h x hx]
          simp
  · exact isi_at "tuple" rfl ty (b := false) (by decide +kernel) ⟨false, rfl, iteF (fin _ _ (Same.refl H) (by unfold rowB; simp only [ha]))⟩
  · exact isi_at "tuple" rfl ty (b := false) (by decide +kernel) ⟨false, rfl, iteF (fin _ _ (Same.refl H) (by unfold rowB; simp only [ha]))⟩
end
end Ow

set_option Elab.async false
set_option linter.all false
set_option maxRecDepth 100000
set_option maxHeartbeats 4000000
set_option exponentiation.threshold 3000
namespace Ow
open PySem PySem.Spec PyProof.Rows L2
/-! texts -/
def TxtOk (n : Nat) (z : Str) : Prop := z.length ≤ n ∧ ∀ c ∈ z.cps.toList, c < 128
theorem TxtOk.sc {n : Nat} {z : Str} (h : TxtOk n z) (hn : n ≤ 4000) : scOk (.str z) := ⟨Nat.le_trans h.1 hn, h.2⟩
theorem TxtOk.cut {n : Nat} {z : Str} (h : TxtOk n z) (lo hi : Option Int) : TxtOk n (cutS z lo hi) := by
  refine ⟨Nat.le_trans (cutS_length z lo hi) h.1, fun c hc => h.2 c ?_⟩
  unfold cutS at hc
  have hc2 : c ∈ ((z.cps.toList.drop (HT.sIx z.length 0 lo)).take (HT.sIx z.length z.length hi - HT.sIx z.length 0 lo)) := by simpa using hc
  exact List.mem_of_mem_drop (List.mem_of_mem_take hc2)
theorem TxtOk.app {n m : Nat} {y z : Str} (h : TxtOk n y) (g : TxtOk m z) : TxtOk (n + m) (y ++ z) := by
  have e : (y ++ z).cps.toList = y.cps.toList ++ z.cps.toList := TL.tl_append y z
  constructor
  · rw [TL.len_tl]
    show (y ++ z).cps.toList.length ≤ _
    rw [e, List.length_append]
    have h1 := h.1
    have g1 := g.1
    rw [TL.len_tl] at h1 g1
    exact Nat.add_le_add h1 g1
  · intro c hc
    rw [e] at hc
    rcases List.mem_append.mp hc with hc | hc
    · exact h.2 c hc
    · exact g.2 c hc
theorem joinNil : ∀ l : List (List Nat), TL.joinL [] l = l.flatten
  | [] => rfl
  | [p] => by
    show p = p ++ []
    rw [List.append_nil]
  | p :: q :: r => by
    show p ++ ([] ++ TL.joinL [] (q :: r)) = p ++ (q :: r).flatten
    rw [List.nil_append, joinNil (q :: r)]
theorem join_letters : ∀ (ys : List Str), (∀ y ∈ ys, ∃ c, c < 128 ∧ y = ⟨#[c]⟩) → TxtOk ys.length (Txt.join Str.empty ys) := by
  intro ys h
  have e : (Txt.join Str.empty ys).cps.toList = (ys.map TL.tl).flatten := by
    show TL.tl _ = _
    rw [TL.join_eq, TL.tl_join, ← joinNil]
    rfl
  constructor
  · rw [TL.len_tl]
    show (Txt.join Str.empty ys).cps.toList.length ≤ _
    rw [e]
    clear e
    induction ys with
    | nil => exact Nat.le_refl _
    | cons y ys ih =>
      obtain ⟨c, _, rfl⟩ := h y List.mem_cons_self
      have := ih fun z hz => h z (List.mem_cons_of_mem _ hz)
      rw [List.map_cons, List.flatten_cons, List.length_append]
      show 1 + _ ≤ ys.length + 1
      omega
  · intro c hc
    rw [e] at hc
    obtain ⟨l, hl, hcl⟩ := List.mem_flatten.mp hc
    obtain ⟨y, hy, rfl⟩ := List.mem_map.mp hl
    obtain ⟨d, hd, rfl⟩ := h y hy
    have : c = d := by simpa using hcl
    rw [this]
    exact hd
theorem letters_len : ∀ (ys : List Str), (∀ y ∈ ys, ∃ c, c < 128 ∧ y = ⟨#[c]⟩) → (ys.map (·.length)).sum = ys.length
  | [], _ => rfl
  | y :: ys, h => by
    obtain ⟨c, _, rfl⟩ := h y List.mem_cons_self
    rw [List.map_cons, List.sum_cons, letters_len ys fun z hz => h z (List.mem_cons_of_mem _ hz), List.length_cons]
    show 1 + ys.length = _
    omega
theorem scTexts : FnScope ["jug", "found", "turn", "text", "spot", "odd", "at"] ["jug"] (defScope dTexts) := ⟨rfl, rfl, rfl, by decide +kernel, rfl, by decide +kernel, by decide +kernel⟩
section
variable {P : Program} {w : World} {K : PySem.W.Frag} {mg : Str → Option Value} {base : Heap}
/-- a drawn text of letters -/
def tWord : TE := fun σ H Q => ∃ J, σ[0]? = some (some (.ref J)) ∧ Jug H J ∧ ∀ H' z, Sb J H H' → Jug H' J → TxtOk 10 z → Q (.str z) H'
theorem jug_ne {H : Hp} {J p : Addr} (h : Jug H J) (n : H p = none) : p ≠ J := fun z => by
  obtain ⟨a, b, c, e⟩ := h
  rw [z, e] at n
  cases n
theorem Jug.keep {H H' : Hp} {J p : Addr} {o : HO} (h : Jug H J) (n : p ≠ J) : Jug (upd H p o) J := by
  obtain ⟨a, b, c, e⟩ := h
  exact ⟨a, b, c, by rw [upd_ne n.symm]; exact e⟩
theorem Sb.newer {J : Addr} {H H' : Hp} {p : Addr} {o : HO} (h : Sb J H H') (n : H p = none) : Sb J H (upd H' p o) := fun b x nb e => by
  rw [upd_ne (ne_of_none e n)]
  exact h b x nb e
theorem ok_texts {f fD fC fL : Addr} {fd fdD fdC fdL : FuncData} (F : Fun K "_law_texts" "_law_texts" dTexts f fd)
    (FD : FnOk P w K mg base CX0 1 fD fdD ["jug", "total"] spDip) (kD : PySem.W.keepIn K (.ref fD) = true) (bD : Binds K fdD ["jug", "total"] []) (gD : mg "_law_dip" = some (.ref fD))
    (FC : FnOk P w K mg base CX0 2 fC fdC ["jug", "items"] spChoice) (kC : PySem.W.keepIn K (.ref fC) = true) (bC : Binds K fdC ["jug", "items"] []) (gC : mg "_law_choice" = some (.ref fC))
    (FL : FnOk P w K mg base CX0 2 fL fdL ["jug"] spLetter) (kL : PySem.W.keepIn K (.ref fL) = true) (bL : Binds K fdL ["jug"] []) (gL : mg "_law_letter" = some (.ref fL))
    (mr : mg "range" = none) (ml : mg "len" = none) : FnOk P w K mg base CX0 3 f fd ["jug"] (spList (fun vs J => vs = [.ref J]) 12) := by
  refine F.ok scTexts (fun vs H Q E h => ?_) (fun cdv A outer s H vs Q E hr h => ?_)
  · obtain ⟨J, rfl, _⟩ := h
    rfl
  obtain ⟨J, rfl, hJ, q⟩ := h
  refine ⟨_, pss_cons (ps_set (i := 1) scTexts.nd rfl (.inl rfl) (pe_lst pa_nil))
    (pss_cons (ps_for PassesOwn.never rfl (pi_range1 (by rfl) mr (pa_cons pe_int pa_nil)) (pg_name (i := 2) scTexts.nd rfl (.inl rfl))
      (pss_cons (ps_set (i := 3) scTexts.nd rfl (.inl rfl) (PE.of (t' := tWord) (pe_join pe_str
        (pe_lc (own := [("at", 6)]) (g := gName 6) (tt := tYes) (te := tCall spLetter [] E0 (tCons (tVar 0) tNil)) rfl scTexts.nd (pi_range1 (by rfl) mr (pa_cons (pe_call FD (hr.mono (by decide)) (by rfl) gD kD bD .nil pass0 (pa_cons (pv 0) (pa_cons pe_int pa_nil))) pa_nil))
          (blkOk_by (N := ["jug", "found", "turn", "text", "spot", "odd", "at"]) (sc := defScope dTexts) (by decide +kernel))
          (fun _ _ _ _ _ => pg_name (i := 6) scTexts.nd rfl (Or.inl rfl)) (fun _ _ _ _ _ => pts_nil)
          (fun _ _ _ _ _ => pe_call FL hr (by rfl) gL kL bL .nil pass0 (pa_cons (pv 0) pa_nil)))) ?word))
      (pss_cons (ps_set (i := 4) scTexts.nd rfl (.inl rfl) (pe_call FD (hr.mono (by decide)) (by rfl) gD kD bD .nil pass0 (pa_cons (pv 0) (pa_cons (pe_op op_add (pe_callB call_len_str (by rfl) ml PySem.boot_len (pa_cons (pv 3) pa_nil)) pe_int) pa_nil))))
      (pss_cons (ps_set (i := 5) scTexts.nd rfl (.inl rfl) (pe_call FC hr (by rfl) gC kC bC .nil pass0 (pa_cons (pv 0) (pa_cons (pe_lst (pa_cons pe_str (pa_cons pe_str (pa_cons pe_str (pa_cons pe_str (pa_cons pe_str (pa_cons pe_str
          (pa_cons pe_str (pa_cons pe_str (pa_cons pe_str (pa_cons pe_str (pa_cons pe_str (pa_cons pe_str pa_nil))))))))))))) pa_nil))))
      (pss_one (ps_set (i := 1) scTexts.nd rfl (.inl rfl) (pe_op op_cat (pv 1) (pe_lst (pa_cons (pv 3)
        (pa_cons (pe_op op_add_str (pe_op op_add_str (pe_slice sl_str (pv 3) po_none (po_some (pv 4))) (pv 5)) (pe_slice sl_str (pv 3) (po_some (pv 4)) po_none))
        (pa_cons (pe_op op_add_str (pe_op op_add_str (pe_slice sl_str (pv 3) po_none (po_some (pv 4))) (pv 5)) (pe_slice sl_str (pv 3) (po_some (pe_op op_add (pv 4) pe_int)) po_none)) pa_nil)))))))))))
    (pss_one (ps_ret (pv 1)))), ?r⟩
  case word =>
    intro σ H Q h
    obtain ⟨J, h0, hJ, q⟩ := h
    refine ⟨⟨_, rfl⟩, .ref J, h0, J, 11, rfl, by decide, by decide, hJ, fun H1 k sb1 hJ1 k0 kn => ⟨k, rfl, by omega, by omega, fun D nD => ?_⟩⟩
    have nDJ := jug_ne hJ1 nD
    refine lc_range (lo := 0) (n := k.toNat) (fun i Hx => Sb J H1 Hx ∧ Jug Hx J ∧ ∃ ys : List Str, ys.length = i ∧ (∀ y ∈ ys, ∃ c, c < 128 ∧ y = ⟨#[c]⟩) ∧ Hx D = some (.lst (ys.map V.str)))
      ⟨.new nD, hJ1.keep (H' := H1) nDJ, [], rfl, (fun y hy => nomatch hy), upd_same⟩ (fun i Hx hi hI => ?_) (fun Hx hI => ?_)
    · obtain ⟨sb, hJx, ys, hl, hy, eD⟩ := hI
      refine ⟨?_, ?_⟩
      · show ((((wipe σ [6]).set 6 (some (.int (0 + (i : Int)))))).set 6 none) = (σ.set 6 none)
        show (((σ.set 6 none).set 6 _).set 6 none) = _
        rw [List.set_set, List.set_set]
      · have h0' : ((wipe σ [6]).set 6 (some (V.int (0 + (i : Int)))))[0]? = some (some (.ref J)) := by
          show ((σ.set 6 none).set 6 _)[0]? = _
          rw [List.getElem?_set_ne (by decide), List.getElem?_set_ne (by decide)]
          exact h0
        refine ⟨.ref J, h0', J, rfl, hJx, fun H2 c sb2 hJ2 hc => ⟨_, sb2 _ _ nDJ eD, ?_, ?_, hJ2.keep (H' := H2) nDJ, ys ++ [⟨#[c]⟩], by rw [List.length_append, hl]; rfl, fun y hm => ?_, ?_⟩⟩
        · rw [List.length_map]
          exact small60 (by omega)
        · exact (sb.trans sb2).newer nD
        · rcases List.mem_append.mp hm with hm | hm
          · exact hy y hm
          · exact ⟨c, hc, List.mem_singleton.mp hm⟩
        · rw [upd_same, List.map_append]
          rfl
    · obtain ⟨sb, hJx, ys, hl, hy, eD⟩ := hI
      refine ⟨Str.empty, D, ys, rfl, rfl, .inl (.of eD), ?_, q _ _ (sb1.trans sb) hJx ?_⟩
      · rw [letters_len ys hy]
        show ys.length + ys.length * 0 ≤ _
        omega
      · have := join_letters ys hy
        exact ⟨Nat.le_trans this.1 (by omega), this.2⟩
  refine ⟨Nat.zero_le _, fun L nL => ⟨4, rfl, by decide, by decide, ?_⟩⟩
  refine for_range (lo := 0) (n := 4) (fun i σ Hx => ∃ y2 y3 y4 y5 y6 L xs, σ = [some (.ref J), some (.ref L), y2, y3, y4, y5, y6] ∧ Sb J H Hx ∧ Jug Hx J ∧ L ≠ J ∧ Hx L = some (.lst xs) ∧ xs.length = 3 * i ∧ ∀ x ∈ xs, scOk x)
    ⟨none, none, none, none, none, L, [], rfl, .new nL, hJ.keep (H' := H) (jug_ne hJ nL), jug_ne hJ nL, upd_same, rfl, (fun x hx => nomatch hx)⟩ (fun i σ Hx hi hP => ?_) (fun σ Hx hP => ?_)
  · obtain ⟨y2, y3, y4, y5, y6, L, xs, rfl, sb, hJx, nLJ, eL, hl, hx⟩ := hP
    refine ⟨J, rfl, hJx, fun H1 z sb1 hJ1 tz => ?_⟩
    have zl := tz.1
    have zs : z.length ≤ sizeLine := Nat.le_of_lt (small60 (by omega))
    refine ⟨.ref J, rfl, .str z, rfl, z, rfl, zs, _, 1, rfl, rfl, J, _, rfl, by omega, by omega, hJ1, fun H2 k sb2 hJ2 k0 kn => ?_⟩
    refine ⟨.ref J, rfl, (by show 12 ≤ sizeLine; decide), fun p np => ⟨J, p, _, rfl, jug_ne hJ2 np, upd_same, (fun e => nomatch e), (by show 12 ≤ 1000; decide), hJ2.keep (H' := H2) (jug_ne hJ2 np), fun H3 x sb3 hJ3 hm => ?_⟩⟩
    obtain ⟨o, rfl, to⟩ : ∃ o, x = .str o ∧ TxtOk 1 o := by
      simp only [List.mem_cons, List.not_mem_nil, or_false] at hm
      rcases hm with rfl | rfl | rfl | rfl | rfl | rfl | rfl | rfl | rfl | rfl | rfl | rfl <;> exact ⟨_, rfl, by decide +kernel, by decide +kernel⟩
    have t1 : TxtOk (10 + 1) (cutS z none (some k) ++ o) := (tz.cut none (some k)).app to
    have t2 : TxtOk (10 + 1 + 10) (cutS z none (some k) ++ o ++ cutS z (some k) none) := t1.app (tz.cut (some k) none)
    have t3 : TxtOk (10 + 1 + 10) (cutS z none (some k) ++ o ++ cutS z (some (k + 1)) none) := t1.app (tz.cut (some (k + 1)) none)
    have szz : ∀ {n m : Nat} {a b : Str}, TxtOk n a → TxtOk m b → n ≤ 1000 → m ≤ 1000 → a.length + b.length ≤ sizeLine := fun {n m a b} ha hb h1 h2 => Nat.le_of_lt (small60 (by have := ha.1; have := hb.1; omega))
    have eL3 : H3 L = some (.lst xs) := sb3 _ _ nLJ ((Sb.new np) _ _ nLJ (sb2 _ _ nLJ (sb1 _ _ nLJ eL)))
    refine ⟨.ref L, rfl, .str z, rfl, .str z, rfl, .int k, rfl, k, rfl, z, rfl, zs, .str o, rfl, _, _, rfl, rfl, szz (tz.cut none (some k)) to (by decide) (by decide), ?_⟩
    refine ⟨.str z, rfl, .int k, rfl, k, rfl, z, rfl, zs, _, _, rfl, rfl, szz t1 (tz.cut (some k) none) (by decide) (by decide), ?_⟩
    refine ⟨.str z, rfl, .int k, rfl, k, rfl, z, rfl, zs, .str o, rfl, _, _, rfl, rfl, szz (tz.cut none (some k)) to (by decide) (by decide), ?_⟩
    refine ⟨.str z, rfl, .int k, rfl, k, 1, rfl, rfl, k + 1, rfl, z, rfl, zs, _, _, rfl, rfl, szz t1 (tz.cut (some (k + 1)) none) (by decide) (by decide), (by show 3 ≤ sizeLine; decide), fun p2 np2 => ?_⟩
    have nL2 : L ≠ p2 := ne_of_none eL3 np2
    refine ⟨L, p2, xs, _, rfl, rfl, by rw [upd_ne nL2]; exact eL3, upd_same, ?_, fun p3 np3 => ?_⟩
    · show xs.length + 3 ≤ sizeLine
      exact Nat.le_of_lt (small60 (by omega))
    have hJ4 : Jug (upd H3 p2 (.lst [.str z, .str (cutS z none (some k) ++ o ++ cutS z (some k) none), .str (cutS z none (some k) ++ o ++ cutS z (some (k + 1)) none)])) J := hJ3.keep (H' := H3) (jug_ne hJ3 np2)
    refine ⟨_, _, _, _, y6, p3, _, rfl, ?_, hJ4.keep (H' := H3) (jug_ne hJ4 np3), jug_ne hJ4 np3, upd_same, ?_, fun x hm => ?_⟩
    · exact sb.trans (sb1.trans (sb2.trans ((Sb.new np).trans (sb3.trans ((Sb.new np2).trans (Sb.new np3))))))
    · rw [List.length_append, hl]
      show 3 * i + 3 = _
      omega
    · rcases List.mem_append.mp hm with hm | hm
      · exact hx x hm
      · simp only [List.mem_cons, List.not_mem_nil, or_false] at hm
        rcases hm with rfl | rfl | rfl
        · exact tz.sc (by decide)
        · exact t2.sc (by decide)
        · exact t3.sc (by decide)
  · obtain ⟨y2, y3, y4, y5, y6, L, xs, rfl, sb, hJx, nLJ, eL, hl, hx⟩ := hP
    exact ⟨_, rfl, q _ _ _ sb hJx nLJ eL hl fun x hm => .inl (hx x hm)⟩
end
end Ow

set_option Elab.async false
set_option linter.all false
set_option maxRecDepth 100000
set_option maxHeartbeats 4000000
set_option exponentiation.threshold 3000
namespace Ow
open PySem PySem.Spec PyProof.Rows L2
/-! tuples of items -/
theorem Jug.same {H H' : Hp} {J : Addr} (s : Same H H') (h : Jug H J) : Jug H' J := by
  obtain ⟨a, b, c, e⟩ := h
  exact ⟨a, b, c, s _ _ e⟩
def Tp (J : Addr) (n : Nat) (H : Hp) (v : V) : Prop := ∃ p zs, v = .ref p ∧ p ≠ J ∧ H p = some (.tup zs) ∧ zs.length ≤ n ∧ ∀ z ∈ zs, Im J H z
theorem Tp.mono {J : Addr} {n : Nat} {H H' : Hp} {v : V} (s : Sb J H H') (h : Tp J n H v) : Tp J n H' v := by
  obtain ⟨p, zs, e, nJ, hp, l, q⟩ := h
  exact ⟨p, zs, e, nJ, s _ _ nJ hp, l, fun z hz => (q z hz).mono s⟩
theorem Tp.le {J : Addr} {n m : Nat} {H : Hp} {v : V} (h : Tp J n H v) (l : n ≤ m) : Tp J m H v := by
  obtain ⟨p, zs, e, nJ, hp, l', q⟩ := h
  exact ⟨p, zs, e, nJ, hp, Nat.le_trans l' l, q⟩
theorem Tp.vl {J : Addr} {n : Nat} {H : Hp} {v : V} (h : Tp J n H v) (l : n ≤ 60) : Vl J H v := by
  obtain ⟨p, zs, e, nJ, hp, l', q⟩ := h
  exact .inr ⟨p, e, nJ, .inl ⟨zs, hp, Nat.le_trans l' l, q⟩⟩
theorem Tp.new {J : Addr} {n : Nat} {H : Hp} {p : Addr} {zs : List V} (hJ : Jug H J) (np : H p = none) (l : zs.length ≤ n) (q : ∀ z ∈ zs, Im J H z) : Tp J n (upd H p (.tup zs)) (.ref p) :=
  ⟨p, zs, rfl, jug_ne hJ np, upd_same, l, fun z hz => (q z hz).mono (.new np)⟩
/-- where the elements are drawn: the jug, the row, a place, an odd item -/
def Ct (J : Addr) (σ : L2.St) (H : Hp) : Prop := Jug H J ∧ (∃ r, σ[1]? = some (some r) ∧ Tp J 14 H r) ∧ (∃ k, σ[2]? = some (some (.int k))) ∧ ∃ o, σ[3]? = some (some o) ∧ Im J H o
theorem Ct.mono {J : Addr} {σ : L2.St} {H H' : Hp} (s : Same H H') (h : Ct J σ H) : Ct J σ H' := by
  obtain ⟨a, ⟨r, b, c⟩, k, o, d, e⟩ := h
  exact ⟨a.same s, ⟨r, b, c.mono (.same s)⟩, k, o, d, e.mono (.same s)⟩
/-- an element with a property -/
def tPr (J : Addr) (R : Hp → V → Prop) : TE := fun σ H Q => Ct J σ H ∧ ∀ H2 y, Same H H2 → R H2 y → Q y H2
def tPrs (J : Addr) (R : Hp → V → Prop) (n : Nat) : TA := fun σ H Q => Ct J σ H ∧ ∀ H2 ys, Same H H2 → ys.length = n → (∀ y ∈ ys, R H2 y) → Q ys H2
section
variable {X : Cx} {J : Addr} {R : Hp → V → Prop}
theorem prs_nil : PA X [] (tPrs J R 0) := ⟨fun pos pins s σ H Q I h => (pa_nil (X := X)).run pos pins s σ H Q I (h.2 H [] (Same.refl H) rfl (fun y hy => nomatch hy))⟩
theorem prs_cons (mono : ∀ {H H' v}, Same H H' → R H v → R H' v) {e : Expr} {es : List Expr} {n : Nat} (he : PE X e (tPr J R)) (hes : PA X es (tPrs J R n)) (hs : starEach (e :: es) X.env = (false, eval e X.env) :: starEach es X.env := by rfl) : PA X (e :: es) (tPrs J R (n + 1)) := by
  refine ⟨fun pos pins s σ H Q I h => (pa_cons he hes hs).run pos pins s σ H Q I ?_⟩
  obtain ⟨c, q⟩ := h
  refine ⟨c, fun H1 y s1 r1 => ⟨c.mono s1, fun H2 ys s2 l2 r2 => q H2 (y :: ys) (s1.trans s2) (by rw [List.length_cons, l2]) fun z hz => ?_⟩⟩
  rcases List.mem_cons.mp hz with e | hz
  · rw [e]
    exact mono s2 r1
  · exact r2 z hz
theorem pr_imp {R' : Hp → V → Prop} {e : Expr} (h : PE X e (tPr J R)) (i : ∀ H v, R H v → R' H v) : PE X e (tPr J R') :=
  PE.of h fun σ H Q q => ⟨q.1, fun H2 y s r => q.2 H2 y s (i H2 y r)⟩
theorem pr_const {e : Expr} {v : V} (h : PE X e (tC v)) (r : ∀ H, R H v) : PE X e (tPr J R) := PE.of h fun σ H Q q => q.2 H v (Same.refl H) (r H)
theorem pr_row {e : Expr} (h : PE X e (tVar 1)) : PE X e (tPr J (Tp J 14)) := PE.of h fun σ H Q q => by
  obtain ⟨⟨_, ⟨r, b, c⟩, _⟩, g⟩ := q
  exact ⟨r, b, g H r (Same.refl H) c⟩
theorem pr_odd {e : Expr} (h : PE X e (tVar 3)) : PE X e (tPr J (Im J)) := PE.of h fun σ H Q q => by
  obtain ⟨⟨_, _, _, o, b, c⟩, g⟩ := q
  exact ⟨o, b, g H o (Same.refl H) c⟩
theorem pr_tup {es : List Expr} {n : Nat} {x1} {pos : Pos} (h : PA X es (tPrs J (Im J) n)) (hn : n ≤ 1000) : PE X (.Tuple es x1 pos) (tPr J (Tp J n)) := PE.of (pe_tup h) fun σ H Q q => by
  obtain ⟨c, g⟩ := q
  refine ⟨c, fun H2 ys s l r => ⟨by rw [l]; exact Nat.le_of_lt (small1000 hn), fun p np => g _ _ (s.trans (same_new np)) (Tp.new (c.1.same s) np (by rw [l]; exact Nat.le_refl _) r)⟩⟩
/-- a place of a slice -/
def tAt (J : Addr) : TO := fun σ H Q => Ct J σ H ∧ ∀ o, Q o H
theorem PO.of {e : Option Expr} {t t' : TO} (h : PO X e t) (k : ∀ σ H Q, t' σ H Q → t σ H Q) : PO X e t' := ⟨fun pins s σ H Q I q => h.run pins s σ H Q I (k σ H Q q)⟩
theorem at_none : PO X none (tAt J) := PO.of po_none fun σ H Q q => q.2 none
theorem at_int {e : Expr} {i : Int} (h : PE X e (tC (.int i))) : PO X (some e) (tAt J) := PO.of (po_some h) fun σ H Q q => ⟨i, rfl, q.2 _⟩
theorem at_var {e : Expr} (h : PE X e (tVar 2)) : PO X (some e) (tAt J) := PO.of (po_some h) fun σ H Q q => by
  obtain ⟨⟨_, _, ⟨k, b⟩, _⟩, g⟩ := q
  exact ⟨.int k, b, k, rfl, g _⟩
theorem at_next {e : Expr} (h : PE X e (tOp (rI0 fun i j => .int (i + j)) (tVar 2) (tC (.int 1)))) : PO X (some e) (tAt J) := PO.of (po_some h) fun σ H Q q => by
  obtain ⟨⟨_, _, ⟨k, b⟩, _⟩, g⟩ := q
  exact ⟨.int k, b, k, 1, rfl, rfl, k + 1, rfl, g _⟩
theorem cut_mem {xs : List V} {lo hi : Option Int} {z : V} (h : z ∈ cutV xs lo hi) : z ∈ xs := by
  unfold cutV at h
  exact List.mem_of_mem_drop (List.mem_of_mem_take h)
theorem cut_len {xs : List V} {lo hi : Option Int} : (cutV xs lo hi).length ≤ xs.length := by
  unfold cutV
  rw [List.length_take, List.length_drop]
  omega
theorem pr_slice {e : Expr} {lo hi : Option Expr} {n : Nat} {p2 pos : Pos} (he : PE X e (tPr J (Tp J n))) (hl : PO X lo (tAt J)) (hh : PO X hi (tAt J)) :
    PE X (.Subscript e (.Slice lo hi none p2) pos) (tPr J (Tp J n)) := PE.of (pe_slice sl_tupA he hl hh) fun σ H Q q => by
  obtain ⟨c, g⟩ := q
  refine ⟨c, fun H1 y s1 r1 => ⟨c.mono s1, fun l => ⟨c.mono s1, fun u => ?_⟩⟩⟩
  obtain ⟨p, zs, rfl, nJ, hp, hl, hz⟩ := r1
  refine ⟨p, zs, rfl, .of hp, fun _ => g H1 _ s1 ⟨p, zs, rfl, nJ, hp, hl, hz⟩, fun _ p2 np => g _ _ (s1.trans (same_new np)) (Tp.new (c.1.same s1) np (Nat.le_trans cut_len hl) fun z hz' => hz z (cut_mem hz'))⟩
theorem pr_back {e : Expr} {n k : Nat} {p1 p2 p3 pos : Pos} (he : PE X e (tPr J (Tp J n))) : PE X (.Subscript e (.Slice none none (some (.UnaryOp .USub (.Constant (.int 1) k p1) p2)) p3) pos) (tPr J (Tp J n)) := PE.of (pe_back he) fun σ H Q q => by
  obtain ⟨c, g⟩ := q
  refine ⟨c, fun H1 y s1 r1 => ?_⟩
  obtain ⟨p, zs, rfl, nJ, hp, hl, hz⟩ := r1
  exact ⟨p, zs, rfl, .of hp, fun p2 ws np hw lw => g _ _ (s1.trans (same_new np)) (Tp.new (c.1.same s1) np (Nat.le_trans lw hl) fun z hz' => hz z (hw z hz'))⟩
theorem pr_cat {a b : Expr} {n m : Nat} {pos : Pos} (ha : PE X a (tPr J (Tp J n))) (hb : PE X b (tPr J (Tp J m))) (hz : n + m ≤ 1000) : PE X (.BinOp a .Add b pos) (tPr J (Tp J (n + m))) := PE.of (pe_op op_catA ha hb) fun σ H Q q => by
  obtain ⟨c, g⟩ := q
  refine ⟨c, fun H1 y s1 r1 => ⟨c.mono s1, fun H2 z s2 r2 => ?_⟩⟩
  obtain ⟨p, zs, rfl, nJ, hp, hl, hz1⟩ := r1.mono (.same s2)
  obtain ⟨p2, ws, rfl, nJ2, hp2, hl2, hz2⟩ := r2
  refine ⟨p, p2, zs, ws, rfl, rfl, .of hp, .of hp2, Nat.le_of_lt (small1000 (by omega)), fun _ => ?_, fun _ _ => ?_, fun _ _ p3 np => ?_⟩
  · exact g _ _ (s1.trans s2) (Tp.le ⟨p2, ws, rfl, nJ2, hp2, hl2, hz2⟩ (by omega))
  · exact g _ _ (s1.trans s2) (Tp.le ⟨p, zs, rfl, nJ, hp, hl, hz1⟩ (by omega))
  · refine g _ _ ((s1.trans s2).trans (same_new np)) (Tp.new ((c.1.same s1).same s2) np (by rw [List.length_append]; omega) fun z hz => ?_)
    rcases List.mem_append.mp hz with hz | hz
    · exact hz1 z hz
    · exact hz2 z hz
theorem pr_list {e : Expr} {n : Nat} {p pos : Pos} (he : PE X e (tPr J (Tp J n))) (g1 : Gl X "list") (m1 : X.mg "list" = none)
    (h1 : starEach [e] X.env = (false, eval e X.env) :: starEach [] X.env := by rfl) (h2 : (backTo pos (starEach [] X.env)).any (·.1) = false := by rfl) :
    PE X (.Call (.Name "list" p) [e] [] pos) (tPr J (Vl J)) := PE.of (pe_callTy call_list_of g1 m1 boot_list (pa_cons he pa_nil h1) (by decide) (by decide) h1 h2) fun σ H Q q => by
  obtain ⟨c, g⟩ := q
  refine ⟨c, fun H1 y s1 r1 => ?_⟩
  obtain ⟨p, zs, rfl, nJ, hp, hl, hz⟩ := r1
  exact ⟨p, zs, rfl, .inr (.of hp), fun l nl => g _ _ (s1.trans (same_new nl)) (.inr ⟨l, rfl, jug_ne (c.1.same s1) nl, .inr (.inl ⟨zs, upd_same⟩)⟩)⟩
/-- the written objects () and (0,) and [] as items -/
theorem pr_unit {x1} {pos : Pos} : PE X (.Tuple [] x1 pos) (tPr J (Im J)) := PE.of (pe_tup pa_nil) fun σ H Q q => by
  obtain ⟨c, g⟩ := q
  exact ⟨Nat.zero_le _, fun p np => g _ _ (same_new np) (.inr ⟨p, rfl, jug_ne c.1 np, .inl upd_same⟩)⟩
theorem pr_zero {x1} {pos p1 : Pos} {k : Nat} (hs : starEach [.Constant (.int 0) k p1] X.env = (false, eval (.Constant (.int 0) k p1) X.env) :: starEach [] X.env := by rfl) :
    PE X (.Tuple [.Constant (.int 0) k p1] x1 pos) (tPr J (Im J)) := PE.of (pe_tup (pa_cons pe_int pa_nil hs)) fun σ H Q q => by
  obtain ⟨c, g⟩ := q
  exact ⟨(by show 1 ≤ sizeLine; decide), fun p np => g _ _ (same_new np) (.inr ⟨p, rfl, jug_ne c.1 np, .inr (.inl upd_same)⟩)⟩
theorem pr_empty {pos : Pos} : PE X (.List [] pos) (tPr J (Im J)) := PE.of (pe_lst pa_nil) fun σ H Q q => by
  obtain ⟨c, g⟩ := q
  exact ⟨Nat.zero_le _, fun p np => g _ _ (same_new np) (.inr ⟨p, rfl, jug_ne c.1 np, .inr (.inr upd_same)⟩)⟩
theorem pr_lst {es : List Expr} {n : Nat} {pos : Pos} (h : PA X es (tPrs J (Vl J) n)) (hn : n ≤ 1000) : PE X (.List es pos) (tPr J (Vl J)) := PE.of (pe_lst h) fun σ H Q q => by
  obtain ⟨c, g⟩ := q
  refine ⟨c, fun H2 ys s l r => ⟨by rw [l]; exact Nat.le_of_lt (small1000 hn), fun p np => g _ _ (s.trans (same_new np)) (.inr ⟨p, rfl, jug_ne (c.1.same s) np, .inr (.inl ⟨_, upd_same⟩)⟩)⟩⟩
end
end Ow

set_option Elab.async false
set_option linter.all false
set_option maxRecDepth 100000
set_option maxHeartbeats 4000000
set_option exponentiation.threshold 3000
namespace Ow
open PySem PySem.Spec PyProof.Rows L2
theorem scTuples : FnScope ["jug", "row", "at", "odd", "found", "turn"] ["jug"] (defScope dTuples) := ⟨rfl, rfl, rfl, by decide +kernel, rfl, by decide +kernel, by decide +kernel⟩
theorem scBit {k : Int} (h0 : 0 ≤ k) (h1 : k < 1000) : scOk (.int k) := Nat.lt_of_lt_of_le (show k.natAbs < 1000 by omega) (by decide)
/-- a new list of items -/
def Ls (J : Addr) (n : Nat) (H : Hp) (v : V) : Prop := ∃ p ys, v = .ref p ∧ p ≠ J ∧ H p = some (.lst ys) ∧ ys.length = n ∧ ∀ y ∈ ys, Vl J H y
theorem Ls.mono {J : Addr} {n : Nat} {H H' : Hp} {v : V} (s : Sb J H H') (h : Ls J n H v) : Ls J n H' v := by
  obtain ⟨p, zs, e, nJ, hp, l, q⟩ := h
  exact ⟨p, zs, e, nJ, s _ _ nJ hp, l, fun z hz => (q z hz).mono s⟩
def tRow : TE := fun σ H Q => ∃ J, σ[0]? = some (some (.ref J)) ∧ Jug H J ∧ ∀ H' v, Sb J H H' → Jug H' J → Tp J 14 H' v → Q v H'
def tOdd : TE := fun σ H Q => ∃ J, σ[0]? = some (some (.ref J)) ∧ Jug H J ∧ ∀ H' v, Sb J H H' → Jug H' J → Im J H' v → Q v H'
def tAtt : TE := fun σ H Q => ∃ J r, σ[0]? = some (some (.ref J)) ∧ σ[1]? = some (some r) ∧ Tp J 14 H r ∧ Jug H J ∧ ∀ H' k, Sb J H H' → Jug H' J → Q (.int k) H'
section
variable {X : Cx} {J : Addr} {R : Hp → V → Prop}
theorem pr_ls {es : List Expr} {n : Nat} {pos : Pos} (h : PA X es (tPrs J (Vl J) n)) (hn : n ≤ 1000) : PE X (.List es pos) (tPr J (Ls J n)) := PE.of (pe_lst h) fun σ H Q q => by
  obtain ⟨c, g⟩ := q
  refine ⟨c, fun H2 ys s l r => ⟨by rw [l]; exact Nat.le_of_lt (small1000 hn), fun p np => g _ _ (s.trans (same_new np)) ⟨p, ys, rfl, jug_ne (c.1.same s) np, upd_same, l, fun y hy => (r y hy).mono (.new np)⟩⟩⟩
theorem vcons {e : Expr} {es : List Expr} {n : Nat} (he : PE X e (tPr J (Vl J))) (hes : PA X es (tPrs J (Vl J) n)) (hs : starEach (e :: es) X.env = (false, eval e X.env) :: starEach es X.env := by rfl) : PA X (e :: es) (tPrs J (Vl J) (n + 1)) :=
  prs_cons (R := Vl J) (fun {_ _ _} s h => h.mono (.same s)) he hes hs
theorem icons {e : Expr} {es : List Expr} {n : Nat} (he : PE X e (tPr J (Im J))) (hes : PA X es (tPrs J (Im J) n)) (hs : starEach (e :: es) X.env = (false, eval e X.env) :: starEach es X.env := by rfl) : PA X (e :: es) (tPrs J (Im J) (n + 1)) :=
  prs_cons (R := Im J) (fun {_ _ _} s h => h.mono (.same s)) he hes hs
theorem pr_tp {e : Expr} {n : Nat} (h : PE X e (tPr J (Tp J n))) (l : n ≤ 60) : PE X e (tPr J (Vl J)) := pr_imp h fun _ _ q => q.vl l
theorem pr_im {e : Expr} (h : PE X e (tPr J (Im J))) : PE X e (tPr J (Vl J)) := pr_imp h fun _ _ q => q.vl
theorem pr_sc {e : Expr} {v : V} (h : PE X e (tC v)) (r : scOk v) : PE X e (tPr J (Im J)) := pr_const h fun _ => .inl r
theorem pr_dict {k1 k2 : Nat} {p1 p2 pos : Pos} : PE X (.Dict [some (.Constant (.int 0) k1 p1)] [.Constant (.int 1) k2 p2] pos) (tPr J (Vl J)) :=
  PE.of (pe_disp (pps_cons pe_int pe_int pps_nil) rfl rfl (fun e => nomatch e) (by show 1 ≤ 15; decide)) fun σ H Q q => by
    obtain ⟨c, g⟩ := q
    refine fun p np => ⟨upd_same, [(.inl 0, .int 1)], rfl, (by show 1 ≤ 15; decide), g _ _ ?_ (.inr ⟨p, rfl, jug_ne c.1 np, .inr (.inr ⟨_, upd_same⟩)⟩)⟩
    exact fun b o e => by
      rw [upd_ne (ne_of_none e np), upd_ne (ne_of_none e np)]
      exact e
theorem pr_rep {k1 k2 : Nat} {x1} {p1 p2 p3 pos : Pos} (hs : starEach [.Constant (.int 1) k1 p1] X.env = (false, eval (.Constant (.int 1) k1 p1) X.env) :: starEach [] X.env := by rfl) :
    PE X (.BinOp (.Tuple [.Constant (.int 1) k1 p1] x1 p2) .Mult (.Constant (.int 14) k2 p3) pos) (tPr J (Tp J 14)) :=
  PE.of (pe_op op_repT (pe_tup (pa_cons pe_int pa_nil hs)) pe_int) fun σ H Q q => by
    obtain ⟨c, g⟩ := q
    refine ⟨(by show 1 ≤ sizeLine; decide), fun p np => ⟨p, 14, [.int 1], rfl, rfl, .of upd_same, (fun e => nomatch e), by decide, by decide, by decide, fun p2 np2 => ?_⟩⟩
    have np2' : H p2 = none := by
      by_cases h : p2 = p
      · rw [h]; exact np
      · rw [upd_ne h] at np2; exact np2
    refine g _ _ ((same_new np).trans (same_new np2)) ⟨p2, _, rfl, jug_ne c.1 np2', upd_same, (by show 14 ≤ 14; decide), fun z hz => .inl ?_⟩
    have : z = .int 1 := by
      have hz' : z ∈ List.replicate 14 (V.int 1) := hz
      exact (List.mem_replicate.mp hz').2
    rw [this]
    exact scBit (by decide) (by decide)
end
section
variable {P : Program} {w : World} {K : PySem.W.Frag} {mg : Str → Option Value} {base : Heap}
theorem ok_tuples {f fD fC : Addr} {fd fdD fdC : FuncData} (F : Fun K "_law_tuples" "_law_tuples" dTuples f fd)
    (FD : FnOk P w K mg base CX0 1 fD fdD ["jug", "total"] spDip) (kD : PySem.W.keepIn K (.ref fD) = true) (bD : Binds K fdD ["jug", "total"] []) (gD : mg "_law_dip" = some (.ref fD))
    (FC : FnOk P w K mg base CX0 2 fC fdC ["jug", "items"] spChoice) (kC : PySem.W.keepIn K (.ref fC) = true) (bC : Binds K fdC ["jug", "items"] []) (gC : mg "_law_choice" = some (.ref fC))
    (mr : mg "range" = none) (ml : mg "len" = none) (mt : mg "tuple" = none) (mls : mg "list" = none) : FnOk P w K mg base CX0 3 f fd ["jug"] (spList (fun vs J => vs = [.ref J]) 21) := by
  refine F.ok scTuples (fun vs H Q E h => ?_) (fun cdv A outer s H vs Q E hr h => ?_)
  · obtain ⟨J, rfl, _⟩ := h
    rfl
  obtain ⟨J, rfl, hJ, q⟩ := h
  refine ⟨_, pss_cons (ps_set (i := 1) scTuples.nd rfl (.inl rfl) (PE.of (t' := tRow) (pe_callTy call_tuple_of (by rfl) mt boot_tup (pa_cons
        (pe_lc (own := [("turn", 5)]) (g := gName 5) (tt := tYes) (te := tCall spDip [] E0 (tCons (tVar 0) (tCons (tC (.int 2)) tNil))) rfl scTuples.nd (pi_range1 (by rfl) mr (pa_cons (pe_call FD (hr.mono (by decide)) (by rfl) gD kD bD .nil pass0 (pa_cons (pv 0) (pa_cons pe_int pa_nil))) pa_nil))
          (blkOk_by (N := ["jug", "row", "at", "odd", "found", "turn"]) (sc := defScope dTuples) (by decide +kernel))
          (fun _ _ _ _ _ => pg_name (i := 5) scTuples.nd rfl (Or.inl rfl)) (fun _ _ _ _ _ => pts_nil)
          (fun _ _ _ _ _ => pe_call FD (hr.mono (by decide)) (by rfl) gD kD bD .nil pass0 (pa_cons (pv 0) (pa_cons pe_int pa_nil)))) pa_nil)) ?row))
    (pss_cons (ps_par (i := 2) (j := 3) (by rfl) scTuples.nd rfl rfl (by decide) rfl rfl (pa_cons
        (PE.of (t' := tAtt) (pe_call FD (hr.mono (by decide)) (by rfl) gD kD bD .nil pass0 (pa_cons (pv 0) (pa_cons (pe_op op_add (pe_callB call_len_seq (by rfl) ml PySem.boot_len (pa_cons (pv 1) pa_nil)) pe_int) pa_nil))) ?att)
        (pa_cons (PE.of (t' := tOdd) (pe_call FC hr (by rfl) gC kC bC .nil pass0 (pa_cons (pv 0) (pa_cons (pe_lst (pa_cons (pe_op op_sub pe_int pe_int) (pa_cons pe_bl (pa_cons pe_bl (pa_cons pe_non
          (pa_cons pe_str (pa_cons pe_str (pa_cons pe_int (pa_cons (pe_tup (pa_cons pe_int pa_nil)) (pa_cons (pe_op op_powB pe_int pe_int) (pa_cons (pe_lst pa_nil) pa_nil))))))))))) pa_nil))) ?odd) pa_nil)) (by rfl))
    (pss_cons (ps_set (i := 4) (te := tPr J (Ls J 8)) scTuples.nd rfl (.inl rfl) (pr_ls (J := J) (n := 8) (vcons (pr_tp (pr_row (pv 1)) (by decide))
        (vcons (pr_tp (pr_back (pr_row (pv 1))) (by decide))
        (vcons (pr_tp (pr_cat (pr_row (pv 1)) (pr_slice (pr_row (pv 1)) at_none (at_int pe_int)) (by decide)) (by decide))
        (vcons (pr_tp (pr_cat (pr_slice (pr_row (pv 1)) at_none (at_var (pv 2))) (pr_slice (pr_row (pv 1)) (at_next (pe_op op_add (pv 2) pe_int)) at_none) (by decide)) (by decide))
        (vcons (pr_tp (pr_cat (pr_cat (pr_slice (pr_row (pv 1)) at_none (at_var (pv 2))) (pr_tup (icons (pr_odd (pv 3)) prs_nil) (by decide)) (by decide)) (pr_slice (pr_row (pv 1)) (at_var (pv 2)) at_none) (by decide)) (by decide))
        (vcons (pr_list (pr_row (pv 1)) (by rfl) mls)
        (vcons (pr_tp (pr_tup (icons (pr_odd (pv 3)) prs_nil) (by decide)) (by decide))
        (vcons (pr_tp (pr_tup prs_nil (by decide)) (by decide))
        prs_nil)))))))) (by decide)))
    (pss_one (ps_ret (pe_op (tb := tPr J (Ls J 13)) op_cat (pv 4) (pr_ls (J := J) (n := 13) (vcons (pr_tp (pr_cat (pr_row (pv 1)) (pr_tup (icons (pr_odd (pv 3)) prs_nil) (by decide)) (by decide)) (by decide))
        (vcons (pr_tp (pr_cat (pr_tup (icons (pr_odd (pv 3)) prs_nil) (by decide)) (pr_row (pv 1)) (by decide)) (by decide))
        (vcons (pr_im (pr_sc pe_str (by constructor <;> decide +kernel)))
        (vcons (pr_im (pr_sc pe_non trivial))
        (vcons (pr_im (pr_sc pe_int (scBit (by decide) (by decide))))
        (vcons (pr_im (pr_sc pe_int (scBit (by decide) (by decide))))
        (vcons (pr_im pr_empty)
        (vcons (pr_dict)
        (vcons (pr_tp (pr_tup (icons pr_zero prs_nil) (by decide)) (by decide))
        (vcons (pr_tp (pr_tup (icons (pr_sc pe_int (scBit (by decide) (by decide))) (icons (pr_sc pe_int (scBit (by decide) (by decide))) (icons (pr_sc pe_int (scBit (by decide) (by decide))) prs_nil))) (by decide)) (by decide))
        (vcons (pr_tp (pr_tup (icons (pr_sc pe_bl trivial) (icons (pr_sc pe_int (scBit (by decide) (by decide))) prs_nil)) (by decide)) (by decide))
        (vcons (pr_tp (pr_tup (icons pr_unit prs_nil) (by decide)) (by decide))
        (vcons (pr_tp pr_rep (by decide))
        prs_nil))))))))))))) (by decide))))))), ?r⟩
  case row =>
    intro σ H Q h
    obtain ⟨J, h0, hJ, q⟩ := h
    refine ⟨.ref J, h0, J, 15, rfl, by decide, by decide, hJ, fun H1 k sb1 hJ1 k0 kn => ⟨k, rfl, by omega, by omega, fun D nD => ?_⟩⟩
    have nDJ := jug_ne hJ1 nD
    refine lc_range (lo := 0) (n := k.toNat) (fun i Hx => Sb J H1 Hx ∧ Jug Hx J ∧ ∃ ys : List V, ys.length = i ∧ (∀ y ∈ ys, scOk y) ∧ Hx D = some (.lst ys))
      ⟨.new nD, hJ1.keep (H' := H1) nDJ, [], rfl, (fun y hy => nomatch hy), upd_same⟩ (fun i Hx hi hI => ?_) (fun Hx hI => ?_)
    · obtain ⟨sb, hJx, ys, hl, hy, eD⟩ := hI
      refine ⟨?_, ?_⟩
      · show ((((wipe σ [5]).set 5 (some (.int (0 + (i : Int)))))).set 5 none) = (σ.set 5 none)
        show (((σ.set 5 none).set 5 _).set 5 none) = _
        rw [List.set_set, List.set_set]
      · have h0' : ((wipe σ [5]).set 5 (some (V.int (0 + (i : Int)))))[0]? = some (some (.ref J)) := by
          show ((σ.set 5 none).set 5 _)[0]? = _
          rw [List.getElem?_set_ne (by decide), List.getElem?_set_ne (by decide)]
          exact h0
        refine ⟨.ref J, h0', J, 2, rfl, by decide, by decide, hJx, fun H2 c sb2 hJ2 c0 c1 => ⟨_, sb2 _ _ nDJ eD, ?_, ?_, hJ2.keep (H' := H2) nDJ, ys ++ [.int c], by rw [List.length_append, hl]; rfl, fun y hm => ?_, upd_same⟩⟩
        · exact small60 (by omega)
        · exact (sb.trans sb2).newer nD
        · rcases List.mem_append.mp hm with hm | hm
          · exact hy y hm
          · rw [List.mem_singleton.mp hm]
            exact scBit c0 (by omega)
    · obtain ⟨sb, hJx, ys, hl, hy, eD⟩ := hI
      refine ⟨D, ys, rfl, .inl ⟨.inl (.inl eD), fun l nl => ?_⟩⟩
      exact q _ _ ((sb1.trans sb).trans (.new nl)) (hJx.keep (H' := Hx) (jug_ne hJx nl)) (Tp.new hJx nl (by omega) fun z hz => .inl (hy z hz))
  case att =>
    intro σ H Q h
    obtain ⟨J, r, h0, h1, ⟨p, zs, rfl, nJ, hp, hl, hz⟩, hJ, q⟩ := h
    refine ⟨.ref J, h0, .ref p, h1, p, zs, rfl, .inr (.of hp), _, 1, rfl, rfl, J, _, rfl, by omega, by omega, hJ, fun H' k sb hJ' _ _ => q _ _ sb hJ'⟩
  case odd =>
    intro σ H Q h
    obtain ⟨J, h0, hJ, q⟩ := h
    have pw : CPowB 10 60 := ⟨by decide, by decide +kernel⟩
    refine ⟨.ref J, h0, 0, 1, rfl, rfl, (by show 1 ≤ sizeLine; decide), fun p1 np1 => ⟨10, 60, rfl, rfl, pw, Nat.zero_le _, fun p2 np2 => ⟨(by show 10 ≤ sizeLine; decide), fun p3 np3 => ?_⟩⟩⟩
    have j1 := jug_ne hJ np1
    have hJ1 := hJ.keep (H' := H) (o := .tup [.int 0]) j1
    have j2 := jug_ne hJ1 np2
    have hJ2 := hJ1.keep (H' := H) (o := .lst []) j2
    have j3 := jug_ne hJ2 np3
    refine ⟨J, p3, _, rfl, j3, upd_same, (fun e => nomatch e), (by show 10 ≤ 1000; decide), hJ2.keep (H' := H) j3, fun H' x sb hJ' hm => ?_⟩
    have s3 : Sb J H H' := (Sb.new np1).trans ((Sb.new np2).trans ((Sb.new np3).trans sb))
    refine q _ _ s3 hJ' ?_
    have e1 : H' p1 = some (.tup [.int 0]) := by
      refine sb _ _ j1 ?_
      have n2 : p1 ≠ p2 := ne_of_none upd_same np2
      rw [upd_ne (ne_of_none (show upd (upd H p1 (.tup [.int 0])) p2 (.lst []) p1 = some (.tup [.int 0]) by rw [upd_ne n2]; exact upd_same) np3), upd_ne n2]
      exact upd_same
    have e2 : H' p2 = some (.lst []) := by
      refine sb _ _ j2 ?_
      rw [upd_ne (ne_of_none upd_same np3)]
      exact upd_same
    have e60 : (10 : Int) ^ (60 : Int).toNat < 2 ^ 400 := by decide +kernel
    have p60 : (0 : Int) ≤ 10 ^ (60 : Int).toNat := by decide +kernel
    simp only [List.mem_cons, List.not_mem_nil, or_false] at hm
    rcases hm with rfl | rfl | rfl | rfl | rfl | rfl | rfl | rfl | rfl | rfl
    · exact .inl (by show Int.natAbs (-1) < 2 ^ 400; decide)
    · exact .inl trivial
    · exact .inl trivial
    · exact .inl trivial
    · exact .inl (by constructor <;> decide +kernel)
    · exact .inl (by constructor <;> decide +kernel)
    · exact .inl (scBit (by decide) (by decide))
    · exact .inr ⟨p1, rfl, j1, .inr (.inl e1)⟩
    · refine .inl ?_
      show Int.natAbs (10 ^ (60 : Int).toNat) < 2 ^ 400
      decide +kernel
    · exact .inr ⟨p2, rfl, j2, .inr (.inr e2)⟩
  refine ⟨J, rfl, hJ, fun H1 r sb1 hJ1 hr1 => ⟨J, r, rfl, rfl, hr1, hJ1, fun H2 k sb2 hJ2 => ⟨J, rfl, hJ2, fun H3 o sb3 hJ3 ho => ⟨_, _, rfl, ?_⟩⟩⟩⟩
  have ct : ∀ (f t : Option V), Ct J [some (.ref J), some r, some (.int k), some o, f, t] H3 := fun f t => ⟨hJ3, ⟨r, rfl, hr1.mono (sb2.trans sb3)⟩, ⟨k, rfl⟩, o, rfl, ho⟩
  refine ⟨ct _ _, fun H4 y s4 l4 => ⟨y, rfl, (ct _ _).mono s4, fun H5 y2 s5 l5 => ?_⟩⟩
  obtain ⟨p, ys, rfl, nJ, hp, hl, hv⟩ := l4.mono (.same s5)
  obtain ⟨p2, ys2, rfl, nJ2, hp2, hl2, hv2⟩ := l5
  have hJ5 : Jug H5 J := (hJ3.same s4).same s5
  refine ⟨p, p2, ys, ys2, rfl, rfl, hp, hp2, Nat.le_of_lt (small60 (by omega)), fun p3 np3 => ?_⟩
  refine q _ p3 (ys ++ ys2) (((sb1.trans sb2).trans sb3).trans ((Sb.same s4).trans ((Sb.same s5).trans (.new np3)))) (hJ5.keep (H' := H) (jug_ne hJ5 np3)) (jug_ne hJ5 np3) upd_same (by rw [List.length_append, hl, hl2]) fun x hx => ?_
  rcases List.mem_append.mp hx with hx | hx
  · exact (hv x hx).mono (.new np3)
  · exact (hv2 x hx).mono (.new np3)
end
end Ow

set_option Elab.async false
set_option linter.all false
set_option maxRecDepth 100000
set_option maxHeartbeats 4000000
set_option exponentiation.threshold 3000
namespace Ow
open PySem PySem.Spec PyProof.Rows L2
theorem scCell : FnScope ["script", "at", "jug", "cell", "values", "turn", "value", "found", "due"] ["script", "at"] (defScope dCell) := ⟨rfl, rfl, rfl, by decide +kernel, rfl, by decide +kernel, by decide +kernel⟩
theorem scLaw : FnScope ["script", "at"] ["script"] (defScope dLaw) := ⟨rfl, rfl, rfl, by decide +kernel, rfl, by decide +kernel, by decide +kernel⟩
theorem PS.of {X : Cx} {st : Stmt} {t t' : TS} (h : PS X st t) (k : ∀ D σ H, t' D σ H → t D σ H) : PS X st t' := ⟨fun pins s σ H D I q => h.run pins s σ H D I (k D σ H q)⟩
/-! elements that need the jug alone -/
def uPr (J : Addr) (R : Hp → V → Prop) : TE := fun _ H Q => Jug H J ∧ ∀ H2 y, Same H H2 → R H2 y → Q y H2
def uPrs (J : Addr) (R : Hp → V → Prop) (n : Nat) : TA := fun _ H Q => Jug H J ∧ ∀ H2 ys, Same H H2 → ys.length = n → (∀ y ∈ ys, R H2 y) → Q ys H2
section
variable {X : Cx} {J : Addr} {R : Hp → V → Prop}
theorem u_nil : PA X [] (uPrs J R 0) := ⟨fun pos pins s σ H Q I h => (pa_nil (X := X)).run pos pins s σ H Q I (h.2 H [] (Same.refl H) rfl (fun y hy => nomatch hy))⟩
theorem u_cons0 (mono : ∀ H H' v, Same H H' → R H v → R H' v) {e : Expr} {es : List Expr} {n : Nat} (he : PE X e (uPr J R)) (hes : PA X es (uPrs J R n)) (hs : starEach (e :: es) X.env = (false, eval e X.env) :: starEach es X.env) : PA X (e :: es) (uPrs J R (n + 1)) := by
  refine ⟨fun pos pins s σ H Q I h => (pa_cons he hes hs).run pos pins s σ H Q I ?_⟩
  obtain ⟨c, q⟩ := h
  refine ⟨c, fun H1 y s1 r1 => ⟨c.same s1, fun H2 ys s2 l2 r2 => q H2 (y :: ys) (s1.trans s2) (by rw [List.length_cons, l2]) fun z hz => ?_⟩⟩
  rcases List.mem_cons.mp hz with e | hz
  · rw [e]
    exact mono _ _ _ s2 r1
  · exact r2 z hz
theorem uv_cons {e : Expr} {es : List Expr} {n : Nat} (he : PE X e (uPr J (Vl J))) (hes : PA X es (uPrs J (Vl J) n)) (hs : starEach (e :: es) X.env = (false, eval e X.env) :: starEach es X.env := by rfl) : PA X (e :: es) (uPrs J (Vl J) (n + 1)) :=
  u_cons0 (fun _ _ _ s h => h.mono (.same s)) he hes hs
theorem ui_cons {e : Expr} {es : List Expr} {n : Nat} (he : PE X e (uPr J (Im J))) (hes : PA X es (uPrs J (Im J) n)) (hs : starEach (e :: es) X.env = (false, eval e X.env) :: starEach es X.env := by rfl) : PA X (e :: es) (uPrs J (Im J) (n + 1)) :=
  u_cons0 (fun _ _ _ s h => h.mono (.same s)) he hes hs
theorem u_sc {e : Expr} {v : V} (h : PE X e (tC v)) (r : scOk v) : PE X e (uPr J (Im J)) := PE.of h fun σ H Q q => q.2 H v (Same.refl H) (.inl r)
theorem u_im {e : Expr} (h : PE X e (uPr J (Im J))) : PE X e (uPr J (Vl J)) := PE.of h fun σ H Q q => ⟨q.1, fun H2 y s r => q.2 H2 y s r.vl⟩
theorem u_empty {pos : Pos} : PE X (.List [] pos) (uPr J (Im J)) := PE.of (pe_lst pa_nil) fun σ H Q q =>
  ⟨Nat.zero_le _, fun p np => q.2 _ _ (same_new np) (.inr ⟨p, rfl, jug_ne q.1 np, .inr (.inr upd_same)⟩)⟩
theorem u_dnew {pos : Pos} : PE X (.Dict [] [] pos) (uPr J (Vl J)) := PE.of pe_dnewK fun σ H Q q p np =>
  q.2 _ _ (same_new np) (.inr ⟨p, rfl, jug_ne q.1 np, .inr (.inr ⟨_, upd_same⟩)⟩)
theorem u_dict {z : Str} {k1 k2 : Nat} {p1 p2 pos : Pos} : PE X (.Dict [some (.Constant (.str z) k1 p1)] [.Constant (.int 1) k2 p2] pos) (uPr J (Vl J)) :=
  PE.of (pe_disp (pps_cons pe_str pe_int pps_nil) rfl rfl (fun e => nomatch e) (by show 1 ≤ 15; decide)) fun σ H Q q => by
    obtain ⟨c, g⟩ := q
    refine fun p np => ⟨upd_same, [(.inr z, .int 1)], rfl, (by show 1 ≤ 15; decide), g _ _ ?_ (.inr ⟨p, rfl, jug_ne c np, .inr (.inr ⟨_, upd_same⟩)⟩)⟩
    exact fun b o e => by
      rw [upd_ne (ne_of_none e np), upd_ne (ne_of_none e np)]
      exact e
theorem u_tup {es : List Expr} {n : Nat} {x1} {pos : Pos} (h : PA X es (uPrs J (Im J) n)) (hn : n ≤ 60) : PE X (.Tuple es x1 pos) (uPr J (Vl J)) := PE.of (pe_tup h) fun σ H Q q => by
  obtain ⟨c, g⟩ := q
  refine ⟨c, fun H2 ys s l r => ⟨by rw [l]; exact Nat.le_of_lt (small60 (by omega)), fun p np => g _ _ (s.trans (same_new np)) ((Tp.new (c.same s) np (by rw [l]; exact Nat.le_refl _) r).vl hn)⟩⟩
theorem u_lst {es : List Expr} {n : Nat} {pos : Pos} (h : PA X es (uPrs J (Im J) n)) (hn : n ≤ 60) : PE X (.List es pos) (uPr J (Vl J)) := PE.of (pe_lst h) fun σ H Q q => by
  obtain ⟨c, g⟩ := q
  refine ⟨c, fun H2 ys s l r => ⟨by rw [l]; exact Nat.le_of_lt (small60 (by omega)), fun p np => g _ _ (s.trans (same_new np)) (.inr ⟨p, rfl, jug_ne (c.same s) np, .inr (.inl ⟨_, upd_same⟩)⟩)⟩⟩
theorem u_ls {es : List Expr} {n : Nat} {pos : Pos} (h : PA X es (uPrs J (Vl J) n)) (hn : n ≤ 60) : PE X (.List es pos) (uPr J (Ls J n)) := PE.of (pe_lst h) fun σ H Q q => by
  obtain ⟨c, g⟩ := q
  refine ⟨c, fun H2 ys s l r => ⟨by rw [l]; exact Nat.le_of_lt (small60 (by omega)), fun p np => g _ _ (s.trans (same_new np)) ⟨p, ys, rfl, jug_ne (c.same s) np, upd_same, l, fun y hy => (r y hy).mono (.new np)⟩⟩⟩
end
theorem pe_ex {X : Cx} {e : Expr} {t : Addr → TE} (h : ∀ J, PE X e (t J)) : PE X e (fun σ H Q => ∃ J, t J σ H Q) := ⟨fun pins s σ H Q I ⟨J, q⟩ => (h J).run pins s σ H Q I q⟩
theorem rowB_same {J : Addr} {H H' : Hp} {v : V} (s : Same H H') (h : Vl J H v) : rowB H' v = rowB H v := by
  rcases h with h | ⟨a, rfl, n, h⟩
  · cases v with
    | ref _ => exact False.elim h
    | _ => rfl
  · rcases h with ⟨xs, h, _⟩ | ⟨xs, h⟩ | ⟨kvs, h⟩ <;> (unfold rowB; simp only [h, s _ _ h])
theorem sb_same {J : Addr} {H H' : Hp} (s : Sb J H H') (n : H J = none) : Same H H' := fun b o e => s b o (ne_of_none e n) e
section
variable {P : Program} {w : World} {K : PySem.W.Frag} {mg : Str → Option Value} {base : Heap}
def spCell (K : PySem.W.Frag) : Sp := fun vs H Q _ => ∃ (a : Addr) (ns : List Int) (i : Nat), vs = [.ref a, .int i] ∧ SqL K H a (ns.map V.int) ∧ ∀ H', Same H H' → Q (.bl true) H'
def tCellIf (K : PySem.W.Frag) : TS := fun D σ H => ∃ (a : Addr) (ns : List Int) (i : Nat), σ[0]? = some (some (.ref a)) ∧ σ[1]? = some (some (.int i)) ∧ SqL K H a (ns.map V.int) ∧ (∃ c0 : Int, σ[3]? = some (some (.int c0))) ∧ ∀ c : Int, D.nx (σ.set 3 (some (.int c))) H
theorem three_data {K : PySem.W.Frag} {H : Hp} {p : Addr} {a b c : Bool} (h : H p = some (.lst [.bl a, .bl b, .bl c])) : Dp K H (.ref p) (.list [.bool a, .bool b, .bool c]) :=
  .lst (.of h) (.cons (.bl a) (.cons (.bl b) (.cons (.bl c) .nil)))
theorem three_shown : ∀ a b c : Bool, (PyData.list [.bool a, .bool b, .bool c]).showable = true ∧ (PyData.list [.bool a, .bool b, .bool c]).hasDict = false ∧ (PyData.list [.bool a, .bool b, .bool c]).depth ≤ 40 ∧ (PyData.list [.bool a, .bool b, .bool c]).shown.length ≤ sizeLine := by
  decide +kernel
theorem ok_cell {f fJ fN fT fU fI fM fV fS fL fR : Addr} {fd fdJ fdN fdT fdU fdI fdM fdV fdS fdL fdR : FuncData} (F : Fun K "_law_cell_right" "_law_cell_right" dCell f fd)
    (FJ : FnOk P w K mg base CX0 1 fJ fdJ ["script", "at"] (spJug K)) (kJ : PySem.W.keepIn K (.ref fJ) = true) (bJ : Binds K fdJ ["script", "at"] []) (gJ : mg "_law_jug" = some (.ref fJ))
    (FN : FnOk P w K mg base CX0 2 fN fdN ["jug", "cell"] (spList (fun vs J => ∃ c : Int, vs = [.ref J, .int c]) 10)) (kN : PySem.W.keepIn K (.ref fN) = true) (bN : Binds K fdN ["jug", "cell"] []) (gN : mg "_law_numbers" = some (.ref fN))
    (FT : FnOk P w K mg base CX0 3 fT fdT ["jug"] (spList (fun vs J => vs = [.ref J]) 12)) (kT : PySem.W.keepIn K (.ref fT) = true) (bT : Binds K fdT ["jug"] []) (gT : mg "_law_texts" = some (.ref fT))
    (FU : FnOk P w K mg base CX0 3 fU fdU ["jug"] (spList (fun vs J => vs = [.ref J]) 21)) (kU : PySem.W.keepIn K (.ref fU) = true) (bU : Binds K fdU ["jug"] []) (gU : mg "_law_tuples" = some (.ref fU))
    (FI : FnOk P w K mg base CX0 1 fI fdI ["value"] (spB fun _ => shortB)) (kI : PySem.W.keepIn K (.ref fI) = true) (bI : Binds K fdI ["value"] []) (gI : mg "is_integer" = some (.ref fI))
    (FM : FnOk P w K mg base CX0 1 fM fdM ["value"] (spB fun _ => nameB)) (kM : PySem.W.keepIn K (.ref fM) = true) (bM : Binds K fdM ["value"] []) (gM : mg "is_name" = some (.ref fM))
    (FV : FnOk P w K mg base CX0 3 fV fdV ["value"] (spB rowB)) (kV : PySem.W.keepIn K (.ref fV) = true) (bV : Binds K fdV ["value"] []) (gV : mg "is_values" = some (.ref fV))
    (FS : FnOk P w K mg base CX0 1 fS fdS ["value"] (spB fun _ => shortB)) (kS : PySem.W.keepIn K (.ref fS) = true) (bS : Binds K fdS ["value"] []) (gS : mg "_law_is_short" = some (.ref fS))
    (FL : FnOk P w K mg base CX0 1 fL fdL ["value"] (spB fun _ => nameB)) (kL : PySem.W.keepIn K (.ref fL) = true) (bL : Binds K fdL ["value"] []) (gL : mg "_law_is_name" = some (.ref fL))
    (FR : FnG P w K mg base 1 fR fdR ["value"] (spB rowB)) (kR : PySem.W.keepIn K (.ref fR) = true) (bR : Binds K fdR ["value"] []) (gR : mg "_law_is_any_row" = some (.ref fR))
    (mr : mg "range" = none) (ml : mg "len" = none) (mp : mg "repr" = none) : FnG P w K mg base 4 f fd ["script", "at"] (spCell K) := by
  refine okG F scCell (fun vs H Q E h => ?_) (fun cdv A outer s H vs Q E gB hr h => ?_)
  · obtain ⟨a, ns, i, rfl, _⟩ := h
    rfl
  obtain ⟨a, ns, i, rfl, hS, q⟩ := h
  refine ⟨_, pss_cons (ps_par (i := 2) (j := 3) (by rfl) scCell.nd rfl rfl (by decide) rfl rfl (pa_cons
      (pe_call FJ (hr.mono (by decide)) (by rfl) gJ kJ bJ .nil pass0 (pa_cons (pv 0) (pa_cons (pv 1) pa_nil)))
      (pa_cons (pe_op op_add (pe_op op_mul pe_int (pv 1)) pe_int) pa_nil)) (by rfl))
    (pss_cons (PS.of (t' := tCellIf K) (ps_if (pt_cmpR op_lt (pv 1) (pe_callB call_len_seq (by rfl) ml PySem.boot_len (pa_cons (pv 0) pa_nil)) (nomark _))
      (pss_one (ps_set (i := 3) scCell.nd rfl (.inl rfl) (pe_ix ix_list (pv 0) (pv 1) (fun _ _ => rfl)))) pss_nil) ?cif)
    (pss_cons (ps_set (i := 4) scCell.nd rfl (.inl rfl) (pe_op op_cat (pe_op op_cat
      (pe_call FN (hr.mono (by decide)) (by rfl) gN kN bN .nil pass0 (pa_cons (pv 2) (pa_cons (pv 3) pa_nil)))
      (pe_call FT hr (by rfl) gT kT bT .nil pass0 (pa_cons (pv 2) pa_nil))) (pe_call FU hr (by rfl) gU kU bU .nil pass0 (pa_cons (pv 2) pa_nil))))
    (pss_cons (ps_set (i := 4) scCell.nd rfl (.inl rfl) (pe_op op_cat (pv 4) (pe_ex fun J => u_ls (J := J) (n := 13)
      (uv_cons (u_im (u_sc pe_bl trivial)) (uv_cons (u_im (u_sc pe_bl trivial)) (uv_cons (u_im (u_sc pe_non trivial)) (uv_cons (u_im (u_sc pe_str (by constructor <;> decide +kernel)))
      (uv_cons (u_im u_empty) (uv_cons u_dnew (uv_cons (u_tup (ui_cons u_empty u_nil) (by decide)) (uv_cons (u_tup (ui_cons (u_sc pe_int (scBit (by decide) (by decide))) u_nil) (by decide))
      (uv_cons (u_tup (ui_cons (u_sc pe_non trivial) u_nil) (by decide)) (uv_cons (u_lst (ui_cons (u_sc pe_int (scBit (by decide) (by decide))) u_nil) (by decide)) (uv_cons u_dict
      (uv_cons (u_im (u_sc pe_str (by constructor <;> decide +kernel))) (uv_cons (u_im (u_sc pe_str (by constructor <;> decide +kernel))) u_nil))))))))))))) (by decide))))
    (pss_cons (ps_for PassesOwn.never rfl (pi_range1 (by rfl) mr (pa_cons pe_int pa_nil)) (pg_name (i := 5) scCell.nd rfl (.inl rfl))
      (pss_one (ps_for PassesOwn.never rfl (pi_list (pv 4)) (pg_name (i := 6) scCell.nd rfl (.inl rfl))
        (pss_cons (ps_set (i := 7) scCell.nd rfl (.inl rfl) (pe_lst (pa_cons (pe_call FI (hr.mono (by decide)) (by rfl) gI kI bI .nil pass0 (pa_cons (pv 6) pa_nil))
          (pa_cons (pe_call FM (hr.mono (by decide)) (by rfl) gM kM bM .nil pass0 (pa_cons (pv 6) pa_nil)) (pa_cons (pe_call FV hr (by rfl) gV kV bV .nil pass0 (pa_cons (pv 6) pa_nil)) pa_nil)))))
        (pss_cons (ps_set (i := 8) scCell.nd rfl (.inl rfl) (pe_lst (pa_cons (pe_call FS (hr.mono (by decide)) (by rfl) gS kS bS .nil pass0 (pa_cons (pv 6) pa_nil))
          (pa_cons (pe_call FL (hr.mono (by decide)) (by rfl) gL kL bL .nil pass0 (pa_cons (pv 6) pa_nil)) (pa_cons (pe_callG FR gB (hr.mono (by decide)) (by rfl) gR kR bR (pa_cons (pv 6) pa_nil)) pa_nil)))))
        (pss_one (ps_if (pt_cmpR op_ne (pe_callB (call_repr gB hr.units) (by rfl) mp boot_repr (pa_cons (pv 7) pa_nil)) (pe_callB (call_repr gB hr.units) (by rfl) mp boot_repr (pa_cons (pv 8) pa_nil)) (nomark _))
          (pss_one (ps_ret pe_bl)) pss_nil)))))))
    (pss_one (ps_ret pe_bl)))))), ?r⟩
  case cif =>
    intro D σ H h
    obtain ⟨a, ns, i, h0, h1, hS, ⟨c0, h3⟩, q⟩ := h
    refine ⟨.int i, h1, .ref a, h0, a, _, rfl, .inl hS, _, _, rfl, rfl, _, rfl, ite2 (fun e => ?_) (fun _ => ?_)⟩
    · have e1 : (i : Int) < ((ns.map V.int).length : Nat) := of_decide_eq_true e
      rw [List.length_map] at e1
      have hi : i < ns.length := by omega
      refine ⟨.ref a, h0, .int i, h1, a, _, i, .int ns[i], rfl, rfl, hS, atI_nat (j := i) ?_, q _⟩
      rw [List.getElem?_map, List.getElem?_eq_getElem hi]
      rfl
    · have e : σ.set 3 (some (.int c0)) = σ := by
        obtain ⟨hl, he⟩ := List.getElem?_eq_some_iff.mp h3
        rw [← he]
        exact List.set_getElem_self hl
      have := q c0
      rw [e] at this
      exact this
  refine ⟨.ref a, rfl, .int i, rfl, a, ns, i, rfl, hS, fun H1 J sm1 nJ hJ => ⟨.int i, rfl, 41, i, rfl, rfl, .inl ⟨by decide, by decide⟩, _, 7, rfl, rfl, _, _, rfl, ?_⟩⟩
  refine ⟨a, ns, i, rfl, rfl, sm1.seq hS, ⟨_, rfl⟩, fun c => ?_⟩
  refine ⟨.ref J, rfl, .int c, rfl, J, ⟨c, rfl⟩, hJ, fun H2 p2 xs2 sb2 hJ2 n2 e2 l2 v2 => ⟨.ref J, rfl, J, rfl, hJ2, fun H3 p3 xs3 sb3 hJ3 n3 e3 l3 v3 => ?_⟩⟩
  refine ⟨p2, p3, xs2, xs3, rfl, rfl, sb3 _ _ n2 e2, e3, Nat.le_of_lt (small60 (by omega)), fun p4 np4 => ?_⟩
  have hJ4 : Jug (upd H3 p4 (.lst (xs2 ++ xs3))) J := hJ3.keep (H' := H) (jug_ne hJ3 np4)
  refine ⟨.ref J, rfl, J, rfl, hJ4, fun H5 p5 xs5 sb5 hJ5 n5 e5 l5 v5 => ?_⟩
  have e4 : H5 p4 = some (.lst (xs2 ++ xs3)) := sb5 _ _ (jug_ne hJ3 np4) upd_same
  have sb4 : Sb J H3 (upd H3 p4 (.lst (xs2 ++ xs3))) := .new np4
  refine ⟨p4, p5, xs2 ++ xs3, xs5, rfl, rfl, e4, e5, Nat.le_of_lt (small60 (by rw [List.length_append]; omega)), fun p6 np6 => ?_⟩
  have hJ6 : Jug (upd H5 p6 (.lst (xs2 ++ xs3 ++ xs5))) J := hJ5.keep (H' := H) (jug_ne hJ5 np6)
  refine ⟨.ref p6, rfl, J, hJ6, fun H7 y s7 l7 => ?_⟩
  obtain ⟨p7, xs7, rfl, n7, e7, l7', v7⟩ := l7
  refine ⟨p6, p7, xs2 ++ xs3 ++ xs5, xs7, rfl, rfl, s7 _ _ upd_same, e7, Nat.le_of_lt (small60 (by rw [List.length_append, List.length_append]; omega)), fun p8 np8 => ?_⟩
  have n8 : H J = none := nJ
  have sH : Same H H7 := fun b o e => s7 _ _ ((((sb2.trans sb3).trans sb4).trans (sb5.trans (.new np6))) _ _ (ne_of_none e nJ) (sm1 _ _ e))
  generalize exs : xs2 ++ xs3 ++ xs5 ++ xs7 = xs
  have vx : ∀ x ∈ xs, Vl J (upd H7 p8 (.lst xs)) x := by
    intro x hx
    rw [← exs] at hx
    rcases List.mem_append.mp hx with hx | hx
    · rcases List.mem_append.mp hx with hx | hx
      · rcases List.mem_append.mp hx with hx | hx
        · exact (v2 x hx).mono (sb3.trans (sb4.trans (sb5.trans ((Sb.new np6).trans ((Sb.same s7).trans (.new np8))))))
        · exact (v3 x hx).mono (sb4.trans (sb5.trans ((Sb.new np6).trans ((Sb.same s7).trans (.new np8)))))
      · exact (v5 x hx).mono ((Sb.new np6).trans ((Sb.same s7).trans (.new np8)))
    · exact (v7 x hx).mono (.new np8)
  have e8 : upd H7 p8 (.lst xs) p8 = some (.lst xs) := upd_same
  have s8 : Same H (upd H7 p8 (.lst xs)) := sH.trans (same_new np8)
  generalize upd H7 p8 (.lst xs) = H8 at vx e8 s8
  refine ⟨2, rfl, by decide, by decide, ?_⟩
  refine for_range (lo := 0) (n := 2) (fun t σ Hx => ∃ y5 y6 y7 y8, σ = [some (.ref a), some (.int i), some (.ref J), some (.int c), some (.ref p8), y5, y6, y7, y8] ∧ Same H8 Hx)
    ⟨none, none, none, none, rfl, Same.refl _⟩ (fun t σ Hx ht hP => ?_) (fun σ Hx hP => ?_)
  · obtain ⟨y5, y6, y7, y8, rfl, sx⟩ := hP
    refine ⟨.ref p8, rfl, p8, rfl, ⟨_, .of (sx _ _ e8)⟩, ?_⟩
    refine for_list (K := K) (a := p8) (xs := xs) (fun j σ Hy => ∃ y6 y7 y8, σ = [some (.ref a), some (.int i), some (.ref J), some (.int c), some (.ref p8), some (.int (0 + (t : Int))), y6, y7, y8] ∧ Same H8 Hy)
      ⟨y6, y7, y8, rfl, sx⟩ (fun j σ Hy _ hP => ?_) (fun j x σ Hy hx hP => ?_) (fun σ Hy hP => ?_)
    · obtain ⟨_, _, _, _, sy⟩ := hP
      exact .of (sy _ _ e8)
    · obtain ⟨z6, z7, z8, rfl, sy⟩ := hP
      have v0 : Vl J Hy x := (vx x (List.mem_of_getElem? hx)).mono (.same sy)
      refine ⟨x, rfl, x, J, rfl, v0, fun G1 t1 => ⟨x, rfl, x, J, rfl, v0.mono (.same t1), fun G2 t2 => ⟨x, rfl, x, J, rfl, (v0.mono (.same t1)).mono (.same t2), fun G3 t3 => ⟨(by show 3 ≤ sizeLine; decide), fun q1 nq1 => ?_⟩⟩⟩⟩
      have w3 : Vl J G3 x := ((v0.mono (.same t1)).mono (.same t2)).mono (.same t3)
      have w4 : Vl J (upd G3 q1 (.lst [.bl (shortB x), .bl (nameB x), .bl (rowB G2 x)])) x := w3.mono (.new nq1)
      refine ⟨x, rfl, x, J, rfl, w4, fun G5 t5 => ⟨x, rfl, x, J, rfl, w4.mono (.same t5), fun G6 t6 => ⟨x, rfl, x, J, rfl, (w4.mono (.same t5)).mono (.same t6), fun G7 t7 => ⟨(by show 3 ≤ sizeLine; decide), fun q2 nq2 => ?_⟩⟩⟩⟩
      have er : rowB G6 x = rowB G2 x := by
        rw [rowB_same t6 (w4.mono (.same t5)), rowB_same t5 w4, rowB_same (same_new nq1) w3, rowB_same t3 ((v0.mono (.same t1)).mono (.same t2))]
      have eq1 : upd G7 q2 (.lst [.bl (shortB x), .bl (nameB x), .bl (rowB G6 x)]) q1 = some (.lst [.bl (shortB x), .bl (nameB x), .bl (rowB G2 x)]) := by
        have := t7 _ _ (t6 _ _ (t5 _ _ (upd_same (H := G3) (a := q1))))
        rw [upd_ne (ne_of_none this nq2)]
        exact this
      have d1 := three_data (K := K) eq1
      have d2 := three_data (K := K) (upd_same (H := G7) (a := q2) (o := .lst [.bl (shortB x), .bl (nameB x), .bl (rowB G6 x)]))
      obtain ⟨a1, a2, a3, a4⟩ := three_shown (shortB x) (nameB x) (rowB G2 x)
      obtain ⟨b1, b2, b3, b4⟩ := three_shown (shortB x) (nameB x) (rowB G6 x)
      refine ⟨.ref q1, rfl, .ref q1, _, rfl, d1, a1, a2, a3, a4, (fun k e => nomatch e), .ref q2, rfl, .ref q2, _, rfl, d2, b1, b2, b3, b4, (fun k e => nomatch e), rfl, _, rfl, ?_⟩
      rw [er, decide_eq_true rfl]
      refine iteF ⟨_, _, _, rfl, ?_⟩
      exact sy.trans (t1.trans (t2.trans (t3.trans ((same_new nq1).trans (t5.trans (t6.trans (t7.trans (same_new nq2))))))))
    · obtain ⟨z6, z7, z8, rfl, sy⟩ := hP
      exact ⟨_, _, _, _, rfl, sy⟩
  · obtain ⟨y5, y6, y7, y8, rfl, sx⟩ := hP
    exact q _ (s8.trans sx)
end
end Ow

set_option Elab.async false
set_option linter.all false
set_option maxRecDepth 100000
set_option maxHeartbeats 4000000
set_option exponentiation.threshold 3000
namespace Ow
open PySem PySem.Spec PyProof.Rows L2
/-- a def found by its name -/
theorem Fun.ofD {K : PySem.W.Frag} {x qual : Str} {st : Stmt} {f : Addr} {fd : FuncData} (F : FunD K x qual (defArgs st) (defBody st) (defScope st) [] [] f fd) : Fun K x qual st f fd := by
  obtain ⟨oc, od, dV, kV, doc, pm, an, cdv, ct, osl, rfl, lk, hcd, hD, hK⟩ := F.ex
  rcases hD with ⟨_, rfl⟩ | ⟨e, _⟩
  · exact ⟨⟨oc, od, kV, doc, pm, an, cdv, ct, osl, rfl, lk, hcd⟩, F.kp⟩
  · exact absurd rfl e
section
variable {P : Program} {w : World} {K : PySem.W.Frag} {mg : Str → Option Value} {base : Heap}
def spLaw (K : PySem.W.Frag) : Sp := fun vs H Q _ => ∃ (a : Addr) (ns : List Int), vs = [.ref a] ∧ SqL K H a (ns.map V.int) ∧ ns.length ≤ 63 ∧ ∀ H', Q (.bl true) H'
theorem ok_law {f fC : Addr} {fd fdC : FuncData} {t : Tok} (F : Fun K "law" "law" dLaw f fd)
    (FC : FnG P w K mg base 4 fC fdC ["script", "at"] (spCell K)) (kC : PySem.W.keepIn K (.ref fC) = true) (bC : Binds K fdC ["script", "at"] []) (gC : mg "_law_cell_right" = some (.ref fC))
    (mM : mg "MAX_LETTERS" = some (.int 8 t)) (mr : mg "range" = none) (ml : mg "len" = none) (mx : mg "max" = none) (mn : mg "min" = none) : FnG P w K mg base 5 f fd ["script"] (spLaw K) := by
  refine okG F scLaw (fun vs H Q E h => ?_) (fun cdv A outer s H vs Q E gB hr h => ?_)
  · obtain ⟨a, ns, rfl, _⟩ := h
    rfl
  obtain ⟨a, ns, rfl, hS, hl, q⟩ := h
  refine ⟨_, pss_cons (ps_if (pt_cmpR op_ne (pe_glob (v := .int 8) (by rfl) mM ⟨_, rfl⟩) pe_int (nomark _)) (pss_one (ps_ret pe_bl)) pss_nil)
    (pss_cons (ps_for PassesOwn.never rfl (pi_range1 (by rfl) mr (pa_cons (pe_callB (call_max2 rfl) (by rfl) mx boot_max (pa_cons pe_int
        (pa_cons (pe_callB (call_min2 rfl) (by rfl) mn boot_min (pa_cons pe_int (pa_cons (pe_callB call_len_seq (by rfl) ml PySem.boot_len (pa_cons (pv 0) pa_nil)) pa_nil))) pa_nil))) pa_nil)) (pg_name (i := 1) scLaw.nd rfl (.inl rfl))
      (pss_one (ps_if (pt_not (pt_val (pe_callG FC gB hr (by rfl) gC kC bC (pa_cons (pv 0) (pa_cons (pv 1) pa_nil))))) (pss_one (ps_ret pe_bl)) pss_nil)))
    (pss_one (ps_ret pe_bl))), ?_⟩
  refine ⟨rfl, _, rfl, ?_⟩
  rw [decide_eq_true rfl]
  refine iteF ⟨.ref a, rfl, a, _, rfl, .inl hS, 8, _, rfl, 1, _, rfl, _, rfl, ?_, ?_, ?_⟩
  · split <;> split <;> omega
  · split <;> split <;> omega
  generalize (if (if (((ns.map V.int).length : Nat) : Int) < 8 then (((ns.map V.int).length : Nat) : Int) else 8) > 1 then (if (((ns.map V.int).length : Nat) : Int) < 8 then (((ns.map V.int).length : Nat) : Int) else 8) else 1) = m
  refine for_range (lo := 0) (n := m.toNat) (fun t σ Hx => ∃ y, σ = [some (.ref a), y] ∧ Same H Hx)
    ⟨none, rfl, Same.refl _⟩ (fun t σ Hx ht hP => ?_) (fun σ Hx hP => ?_)
  · obtain ⟨y, rfl, sx⟩ := hP
    refine ⟨.ref a, rfl, .int (0 + (t : Int)), rfl, a, ns, t, ?_, sx.seq hS, fun H' s' => ⟨true, rfl, iteF ⟨_, rfl, sx.trans s'⟩⟩⟩
    show [V.ref a, V.int (0 + (t : Int))] = _
    rw [Int.zero_add]
  · exact q _
end
/-! the head by facts -/
def dd (i : Nat) (x : Str) : He.DefD := ⟨(x, none), x, x, defArgs (topS i), defBody (topS i), defScope (topS i), [], []⟩
def fns : List He.DefD := [dd 3 "is_integer", dd 4 "is_name", dd 5 "is_value", dd 6 "is_values", dd 8 "_law_jug", dd 9 "_law_dip", dd 10 "_law_choice", dd 11 "_law_letter", dd 12 "_law_is_name", dd 13 "_law_is_short",
  dd 14 "_law_numbers", dd 15 "_law_texts", dd 16 "_law_is_any_row", dd 17 "_law_tuples", dd 18 "_law_cell_right", dd 19 "law"]
def fas : List He.Fa := [.glo "is_integer", .glo "is_name", .glo "is_value", .glo "is_values", .glo "_law_jug", .glo "_law_dip", .glo "_law_choice", .glo "_law_letter", .glo "_law_is_name", .glo "_law_is_short",
  .glo "_law_numbers", .glo "_law_texts", .glo "_law_is_any_row", .glo "_law_tuples", .glo "_law_cell_right", .glo "law",
  .int "MAX_LETTERS" 8, .int "_BOUND" 1000000000000000000000000000000000000000000000000000000000000,
  .free "isinstance", .free "int", .free "bool", .free "str", .free "len", .free "all", .free "tuple", .free "abs", .free "max", .free "min", .free "range", .free "repr", .free "list"]
theorem facts {P : Program} {w : World} {K : PySem.W.Frag} {h : Heap} {mg : Str → Option Value} {f : Addr} (X : K.In h) (G : h.Ns mainGlobals mg) (hfa : mg ("law" : Str) = some (.ref f)) (c : He.SaysD fas fns K) :
    ∃ fd : FuncData, (∀ (s : Shared) (v : Value), BindsTo s fd ⟨[v], []⟩ [("script", v)]) ∧ ∀ base : Heap, K.In base → base.Ns mainGlobals mg → FnG P w K mg base 5 f fd ["script"] (spLaw K) := by
  obtain ⟨fdI, DI⟩ := c.def_ 0 (d := dd 3 "is_integer") rfl
  obtain ⟨fdM, DM⟩ := c.def_ 1 (d := dd 4 "is_name") rfl
  obtain ⟨fdB, DB⟩ := c.def_ 2 (d := dd 5 "is_value") rfl
  obtain ⟨fdV, DV⟩ := c.def_ 3 (d := dd 6 "is_values") rfl
  obtain ⟨fdJ, DJ⟩ := c.def_ 4 (d := dd 8 "_law_jug") rfl
  obtain ⟨fdD, DD⟩ := c.def_ 5 (d := dd 9 "_law_dip") rfl
  obtain ⟨fdC, DC⟩ := c.def_ 6 (d := dd 10 "_law_choice") rfl
  obtain ⟨fdL, DL⟩ := c.def_ 7 (d := dd 11 "_law_letter") rfl
  obtain ⟨fdN, DN⟩ := c.def_ 8 (d := dd 12 "_law_is_name") rfl
  obtain ⟨fdS, DS⟩ := c.def_ 9 (d := dd 13 "_law_is_short") rfl
  obtain ⟨fdU, DU⟩ := c.def_ 10 (d := dd 14 "_law_numbers") rfl
  obtain ⟨fdT, DT⟩ := c.def_ 11 (d := dd 15 "_law_texts") rfl
  obtain ⟨fdR, DR⟩ := c.def_ 12 (d := dd 16 "_law_is_any_row") rfl
  obtain ⟨fdW, DW⟩ := c.def_ 13 (d := dd 17 "_law_tuples") rfl
  obtain ⟨fdX, DX⟩ := c.def_ 14 (d := dd 18 "_law_cell_right") rfl
  obtain ⟨fd, DZ⟩ := c.def_ 15 (d := dd 19 "law") rfl
  have e := hfa.symm.trans (He.glo_ok X G (c.fact 15 (f := .glo "law") rfl))
  cases e
  have gI := He.glo_ok X G (c.fact 0 (f := .glo "is_integer") rfl)
  have gM := He.glo_ok X G (c.fact 1 (f := .glo "is_name") rfl)
  have gB := He.glo_ok X G (c.fact 2 (f := .glo "is_value") rfl)
  have gV := He.glo_ok X G (c.fact 3 (f := .glo "is_values") rfl)
  have gJ := He.glo_ok X G (c.fact 4 (f := .glo "_law_jug") rfl)
  have gD := He.glo_ok X G (c.fact 5 (f := .glo "_law_dip") rfl)
  have gC := He.glo_ok X G (c.fact 6 (f := .glo "_law_choice") rfl)
  have gL := He.glo_ok X G (c.fact 7 (f := .glo "_law_letter") rfl)
  have gN := He.glo_ok X G (c.fact 8 (f := .glo "_law_is_name") rfl)
  have gS := He.glo_ok X G (c.fact 9 (f := .glo "_law_is_short") rfl)
  have gU := He.glo_ok X G (c.fact 10 (f := .glo "_law_numbers") rfl)
  have gT := He.glo_ok X G (c.fact 11 (f := .glo "_law_texts") rfl)
  have gR := He.glo_ok X G (c.fact 12 (f := .glo "_law_is_any_row") rfl)
  have gW := He.glo_ok X G (c.fact 13 (f := .glo "_law_tuples") rfl)
  have gX := He.glo_ok X G (c.fact 14 (f := .glo "_law_cell_right") rfl)
  obtain ⟨t8, mM⟩ := He.int_ok X G (c.fact 16 (f := .int "MAX_LETTERS" 8) rfl)
  obtain ⟨tB, mB0⟩ := He.int_ok X G (c.fact 17 (f := .int "_BOUND" 1000000000000000000000000000000000000000000000000000000000000) rfl)
  have mB : mg "_BOUND" = some (.int (10 ^ 60) tB) := by
    rw [mB0, show (10 : Int) ^ 60 = 1000000000000000000000000000000000000000000000000000000000000 by decide +kernel]
  have mi := He.free_ok X G (c.fact 18 (f := .free "isinstance") rfl)
  have mn := He.free_ok X G (c.fact 19 (f := .free "int") rfl)
  have mb := He.free_ok X G (c.fact 20 (f := .free "bool") rfl)
  have ms := He.free_ok X G (c.fact 21 (f := .free "str") rfl)
  have ml := He.free_ok X G (c.fact 22 (f := .free "len") rfl)
  have ma := He.free_ok X G (c.fact 23 (f := .free "all") rfl)
  have mt := He.free_ok X G (c.fact 24 (f := .free "tuple") rfl)
  have mabs := He.free_ok X G (c.fact 25 (f := .free "abs") rfl)
  have mx := He.free_ok X G (c.fact 26 (f := .free "max") rfl)
  have mmin := He.free_ok X G (c.fact 27 (f := .free "min") rfl)
  have mr := He.free_ok X G (c.fact 28 (f := .free "range") rfl)
  have mp := He.free_ok X G (c.fact 29 (f := .free "repr") rfl)
  have mls := He.free_ok X G (c.fact 30 (f := .free "list") rfl)
  have bI : Binds K fdI ["value"] [] := DI.bindsN fun _ _ _ _ _ _ us hl => match us, hl with | [_], _ => rfl
  have bM : Binds K fdM ["value"] [] := DM.bindsN fun _ _ _ _ _ _ us hl => match us, hl with | [_], _ => rfl
  have bB : Binds K fdB ["value"] [] := DB.bindsN fun _ _ _ _ _ _ us hl => match us, hl with | [_], _ => rfl
  have bV : Binds K fdV ["value"] [] := DV.bindsN fun _ _ _ _ _ _ us hl => match us, hl with | [_], _ => rfl
  have bJ : Binds K fdJ ["script", "at"] [] := DJ.bindsN fun _ _ _ _ _ _ us hl => match us, hl with | [_, _], _ => rfl
  have bD : Binds K fdD ["jug", "total"] [] := DD.bindsN fun _ _ _ _ _ _ us hl => match us, hl with | [_, _], _ => rfl
  have bC : Binds K fdC ["jug", "items"] [] := DC.bindsN fun _ _ _ _ _ _ us hl => match us, hl with | [_, _], _ => rfl
  have bL : Binds K fdL ["jug"] [] := DL.bindsN fun _ _ _ _ _ _ us hl => match us, hl with | [_], _ => rfl
  have bN : Binds K fdN ["value"] [] := DN.bindsN fun _ _ _ _ _ _ us hl => match us, hl with | [_], _ => rfl
  have bS : Binds K fdS ["value"] [] := DS.bindsN fun _ _ _ _ _ _ us hl => match us, hl with | [_], _ => rfl
  have bU : Binds K fdU ["jug", "cell"] [] := DU.bindsN fun _ _ _ _ _ _ us hl => match us, hl with | [_, _], _ => rfl
  have bT : Binds K fdT ["jug"] [] := DT.bindsN fun _ _ _ _ _ _ us hl => match us, hl with | [_], _ => rfl
  have bR : Binds K fdR ["value"] [] := DR.bindsN fun _ _ _ _ _ _ us hl => match us, hl with | [_], _ => rfl
  have bW : Binds K fdW ["jug"] [] := DW.bindsN fun _ _ _ _ _ _ us hl => match us, hl with | [_], _ => rfl
  have bX : Binds K fdX ["script", "at"] [] := DX.bindsN fun _ _ _ _ _ _ us hl => match us, hl with | [_, _], _ => rfl
  have bZ := FunD.bindsA (ps := ["script"]) DZ fun _ _ _ _ _ _ us hl => match us, hl with | [_], _ => rfl
  refine ⟨fd, fun s v => bZ s [v] rfl, fun base _ _ => ?_⟩
  have FI : FnOk P w K mg base CX0 1 _ fdI ["value"] (spB fun _ => shortB) := ok_integer (Fun.ofD DI) mi mn mb mB
  have FM : FnOk P w K mg base CX0 1 _ fdM ["value"] (spB fun _ => nameB) := ok_name (Fun.ofD DM) mi ms ml ma mM
  have FB : FnOk P w K mg base CX0 2 _ fdB ["value"] (spB fun _ => bitB) := ok_value (Fun.ofD DB) FI DI.kp bI gI
  have FV : FnOk P w K mg base CX0 3 _ fdV ["value"] (spB rowB) := ok_values (Fun.ofD DV) FB DB.kp bB gB mi mt ma
  have FJ : FnOk P w K mg base CX0 1 _ fdJ ["script", "at"] (spJug K) := ok_jug (Fun.ofD DJ) mn ml mabs mx
  have FD : FnOk P w K mg base CX0 1 _ fdD ["jug", "total"] spDip := ok_dip (Fun.ofD DD) mn
  have FC : FnOk P w K mg base CX0 2 _ fdC ["jug", "items"] spChoice := ok_choice (Fun.ofD DC) FD DD.kp bD gD ml
  have FL : FnOk P w K mg base CX0 2 _ fdL ["jug"] spLetter := ok_letter (Fun.ofD DL) FD DD.kp bD gD
  have FN : FnOk P w K mg base CX0 1 _ fdN ["value"] (spB fun _ => nameB) := ok_lname (Fun.ofD DN) mi ms ml
  have FS : FnOk P w K mg base CX0 1 _ fdS ["value"] (spB fun _ => shortB) := ok_short (Fun.ofD DS) mi mn mb
  have FU : FnOk P w K mg base CX0 2 _ fdU ["jug", "cell"] (spList (fun vs J => ∃ c : Int, vs = [.ref J, .int c]) 10) := ok_numbers (Fun.ofD DU) FD DD.kp bD gD mn
  have FT : FnOk P w K mg base CX0 3 _ fdT ["jug"] (spList (fun vs J => vs = [.ref J]) 12) := ok_texts (Fun.ofD DT) FD DD.kp bD gD FC DC.kp bC gC FL DL.kp bL gL mr ml
  have FR : FnG P w K mg base 1 _ fdR ["value"] (spB rowB) := ok_anyrow (Fun.ofD DR) mi mt mp
  have FW : FnOk P w K mg base CX0 3 _ fdW ["jug"] (spList (fun vs J => vs = [.ref J]) 21) := ok_tuples (Fun.ofD DW) FD DD.kp bD gD FC DC.kp bC gC mr ml mt mls
  have FX : FnG P w K mg base 4 _ fdX ["script", "at"] (spCell K) := ok_cell (Fun.ofD DX) FJ DJ.kp bJ gJ FU DU.kp bU gU FT DT.kp bT gT FW DW.kp bW gW FI DI.kp bI gI FM DM.kp bM gM FV DV.kp bV gV
    FS DS.kp bS gS FN DN.kp bN gN FR DR.kp bR gR mr ml mp
  exact ok_law (Fun.ofD DZ) FX DX.kp bX gX mM mr ml mx mmin
end Ow

set_option Elab.async false
set_option linter.all false
set_option maxRecDepth 100000
set_option maxHeartbeats 0
namespace Ow
open PySem PySem.Spec PyProof.Rows L2
abbrev RR : PySem.W.OpenRow := PySem.W.OpenLaw.row PySem.Challenge.rw_oneswill_k00_integers_names_and_values
abbrev hk : PySem.W.Hook := He.hookD 4 fas fns
def ob (s : PySem.W.SharedT) : He.AlD := He.obsDG 4 fas fns (HandSHeadRun.getT s)
theorem ob_eq (s : PySem.W.SharedT) : ob s = hk.obs s.abs := He.obsDG_eq (HandSHeadRun.getT_eq s)
def loose : List Str := ["MAX_LETTERS", "_BOUND", "is_integer", "is_name", "is_value", "is_values", "_law_jug", "_law_dip", "_law_choice", "_law_letter", "_law_is_name", "_law_is_short", "_law_numbers", "_law_texts", "_law_is_any_row", "_law_tuples", "_law_cell_right"]
theorem run (w : World) : HandSHeadRun.RunEq RR (PySem.W.view RR.prog [19]) hk ob 800 loose w := by
  intro os
  kernel_rfl
end Ow
open PySem PySem.W PySem.Calls PyProof.Rows
theorem PySem.Challenge.cw_oneswill_k00_integers_names_and_values_holds : PySem.Challenge.rw_oneswill_k00_integers_names_and_values.Holds := by
  w_on; o_law
  refine HandSHeadRun.head_any (r := OpenLaw.row PySem.Challenge.rw_oneswill_k00_integers_names_and_values) (q := view (OpenLaw.row PySem.Challenge.rw_oneswill_k00_integers_names_and_values).prog [19]) (H := Ow.hk) (ob := Ow.ob) (M := 800) (loose := Ow.loose) (d := HandSHeadRun.topDef (OpenLaw.row PySem.Challenge.rw_oneswill_k00_integers_names_and_values).prog 19) (kwd := []) Ow.ob_eq
    (by kernel_rfl) (fun s => by kernel_rfl) Ow.run (by kernel_rfl) (by kernel_rfl) (by kernel_rfl) (by rfl) (by first | assumption | decide +kernel) (by decide +kernel) ⟨rfl, rfl, rfl, rfl, rfl, by decide +kernel⟩ ?hw ?hc
  case hw => w_witness2
  case hc =>
    refine Att.attach_call (n := 63) rfl (by kernel_rfl) fun w s₀ s₁ mg mb fa o pm cd doc a vs ns G Y ho hd hcd hmg0 hobj hints hlen hg => ?_
    obtain ⟨K, KX, c⟩ := Y
    have hmg : mg ("law" : PySem.Str) = some (.ref fa) := by
      have e : (HandSHeadRun.topDef (OpenLaw.row PySem.Challenge.rw_oneswill_k00_integers_names_and_values).prog 19).name = ("law" : PySem.Str) := by kernel_rfl
      rw [← e]
      exact hmg0
    obtain ⟨fd, hb, hF⟩ := Ow.facts (P := PySem.Challenge.rw_oneswill_k00_integers_names_and_values.prog) (w := w) KX G.T.g hmg c
    exact Ow.endG (k := 5) KX G.T.g G.T.b G.T.builtins G.T.nolimit hg hobj hints (Nat.le_trans hlen (by decide)) ⟨rfl, by decide, by decide⟩ hF hb fun H hO hS => ⟨a, ns, rfl, hS, hlen, fun _ => rfl⟩
