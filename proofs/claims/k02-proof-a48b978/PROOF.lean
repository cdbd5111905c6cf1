import PyProof.Rows.All
import Wide.All
import OpenK.AllK
import Wide.FinOn
import PySem.Challenge.RW_oneswill_k02_agendas_told
import HandS.ForMost
import HandS.IsInst
import HandS.Wide
import HandS.TupAny
import HandS.TupMul
import HandS.Style
import HandS.Conv
import PyProof.ReprRoads
import HandS.Dict
import HandS.DictComp
import HandS.Zip
import HandS.Deep
import HandS.More
import HandS.Star
import HandS.WideBits
import HandS.ClsMeth
import HandS.Defaults
import HandS.HeadHook1
import HandS.HeadHook2
import Lean
import HandS.Ends
import HandS.Words
import HandS.WordsExc
import HandS.Head0
import HandS.Head1
import HandS.Head2
import HandS.HeadEnd
import HandS.Walk
import KE.GoesMore
import KE.GoesZip
import KE.KItemsList
import PyProof.ListStr
import HandS.Property
import HandS.TupSets
import KE.KeyNested
import HandS.DictTup
import KE.KDictPairs
import KE.KDictCopyH
import KE.KDictDisplayH
import KE.KDictKeyed
import HandS.Iter
import KE.KDictWalk
import KE.SortData
import KE.KDictSum
import HandS.Keys
import KE.LtSeq
import HandS.Strs
import HandS.ForSpec
import HandS.SetBool
import HandS.Comp
import HandS.SortInts
import KE.KStar
import HandS.TupLen
import PyProof.StrOps2
import PyProof.EqKinds
import PyProof.FactsAll.dict_1
import OpenK.KOps
import KE.KCallOwn
import HandS.IterVal
import PyProof.InstEq
import HandS.FStr
import HandS.Codes
import HandS.ListItems
import HandS.DeepEq
import HandS.DictEq
set_option Elab.async false
set_option linter.all false
set_option maxRecDepth 100000
set_option maxHeartbeats 4000000
namespace Ow
open PySem PySem.Spec PyProof.Rows L2

/-! a def's promise where no repr runs around the call -/
structure FnG (P : Program) (w : World) (K : PySem.W.Frag) (mg : Str → Option Value)
    (base : Heap) (k : Nat) (f : Addr) (fd : FuncData) (ps : List Str) (sp : Sp) : Prop where
  ln : ∀ vs H Q E, sp vs H Q E → vs.length = ps.length
  go : ∀ (B : Around) (up : List Env) (s : Shared) (H : Hp) (ar : Args) (ws : List Value) (vs : List V)
    (Q : VK) (E : XK), B.guards = some [] → Room k B → Env0 P w K mg base B up s H →
    BindsTo s fd ar (ps.zip ws) → Vals vs ws → sp vs H Q E →
    codeAny (model P w) B (.call (.ref f) ar) (CR CX0 up P w H s Q E) s
theorem FnG.of {P : Program} {w : World} {K : PySem.W.Frag} {mg : Str → Option Value} {base : Heap}
    {k : Nat} {f : Addr} {fd : FuncData} {ps : List Str} {sp : Sp}
    (F : FnOk P w K mg base CX0 k f fd ps sp) : FnG P w K mg base k f fd ps sp :=
  ⟨F.len, fun B up s H ar ws vs Q E _ => F.run B up s H ar ws vs Q E⟩

section
variable {P : Program} {w : World} {K : PySem.W.Frag} {mg : Str → Option Value} {base : Heap}
theorem guardsDeep {B : Around} {env : Env} : (B.deeper env).guards = B.guards := rfl
/-- a def of the text, by its body, with nothing guarded -/
theorem okG {x qual : Str} {st : Stmt} {f : Addr} {fd : FuncData} {N ps : List Str} {k : Nat} {sp : Sp}
    (F : Fun K x qual st f fd) (S : FnScope N ps (defScope st))
    (ln : ∀ vs H Q E, sp vs H Q E → vs.length = ps.length)
    (body : ∀ (cd : Value) (B : Around) (up : List Env) (s : Shared) (H : Hp) (vs : List V) (Q : VK) (E : XK),
      B.guards = some [] → Room k (B.deeper (envOfC qual (defScope st) s.heap.objs.size f cd)) → sp vs H Q E →
      ∃ t, PSs (cxOf CX0 P w K mg base N qual (defScope st) f cd B up s H E).nox (defBody st) t ∧
        t { nx := fun _ H' => Q .non H', rt := Q } (start N vs) H) :
    FnG P w K mg base (k + 1) f fd ps sp := by
  obtain ⟨oc, od, kV, doc, pm, an, cd, ct, osl, rfl, lk, hcd⟩ := F.ex
  refine ⟨ln, fun B up s H ar ws vs Q E gB hr e0 hb r hsp => ?_⟩
  have nvs := ln _ _ _ _ hsp
  have inK : K.In s.heap := e0.mod.kin.keeps fun b o e => (e0.bs b o e).1
  have noL : s.heap.NoLimit := e0.mod.nolimit.keeps fun b o e => (e0.bs b o e).1
  have kinds : ∀ y ∈ ps.zip ws, (defScope st).names.lookup y.1 = some .local ∨
      ((defScope st).names.lookup y.1 = some .cell ∧
        ((cellsFrom (s.heap.objs.size + 1) (defScope st).names []).lookup y.1).isSome = true) := by
    intro ⟨n, v⟩ hy
    rcases S.par n (List.of_mem_zip hy).1 with q | q
    · exact .inl q
    · exact .inr ⟨q, PySem.W.cellsFrom_some _ _ _ (.inl q)⟩
  refine codeAny_call_function hr.depth (inK _ _ lk) rfl S.co S.gen rfl
    (PySem.W.codeRec_of inK hcd) (hb _ _ _ _ ?_)
  refine wpAny_newFunctionEnv_cells S.kind kinds fun env he s1 z => ?_
  subst he
  refine ⟨noL.keeps z.toInCall.keep, codeAny_func ?_⟩
  obtain ⟨t, ht, hq⟩ := body cd B up s H vs Q E gB (hr.deeper _) hsp
  have J0 : Inv (cxOf CX0 P w K mg base N qual (defScope st) f cd B up s H E) [] (start N vs) H s1 :=
    inv_start S hr.hd e0 nvs r z
  refine wpAny_mono (ht.nox.run [] s1 (start N vs) H _ J0 hq) (fun fl s' hs => ?_) fun e s' hs => hs
  cases fl with
  | ret u =>
    obtain ⟨v, σ', H', J, rv, q⟩ := hs
    exact ⟨v, H', J.os, J.bare, J.base, J.hok, rv, q⟩
  | next =>
    obtain ⟨σ', H', J, q⟩ := hs
    exact ⟨V.non, H', J.os, J.bare, J.base, J.hok, rfl, q⟩
  | brk =>
    obtain ⟨_, _, _, q⟩ := hs
    exact False.elim q
  | cont =>
    obtain ⟨_, _, _, q⟩ := hs
    exact False.elim q
end
section
variable {X : Cx} {k : Nat} {f : Addr} {fd : FuncData} {ps : List Str} {sp : Sp}
  {x : Str} {p pos : Pos} {e : Expr} {es : List Expr} {t : TA}
/-- f(..) of such a def, in a body around which nothing is guarded -/
theorem pe_callG (F : FnG X.prog X.w X.K X.mg X.base k f fd ps sp) (gX : X.A.guards = some [])
    (hr : Room k X.A) (hg : Gl X x) (hm : X.mg x = some (.ref f)) (hk : PySem.W.keepIn X.K (.ref f) = true)
    (hb : Binds X.K fd ps []) (ha : PA X (e :: es) t)
    (hdb : (x == ("__debug__" : Str)) = false := by decide)
    (he : starEach (e :: es) X.env = (false, eval e X.env) :: starEach es X.env := by rfl)
    (hpl : (backTo pos (starEach es X.env)).any (·.1) = false := by rfl) :
    PE X (.Call (.Name x p) (e :: es) [] pos) (tCall sp [] E0 t) := by
  refine ⟨fun pins s σ H Q I h => ?_⟩
  refine wpAny_Call_Name_kw (ld_glob I hg hm ?_ hdb)
  refine PySem.W.callWith_K (h₀ := X.base) I.ok.mod.kin hk
    (thn (ha.run pos pins s σ H _ I h) fun us s1 hs1 => ?_) he hpl
  obtain ⟨vs, H1, I1, r, q⟩ := hs1
  refine ⟨I1.kIn, ?_⟩
  have q' : sp (vs ++ []) H1 Q E0 := q
  rw [List.append_nil] at q'
  have hl : (us ++ []).length = ps.length := by
    rw [List.append_nil, ← r.length]
    exact F.ln _ _ _ _ q'
  have bt := hb s1 us I1.kIn hl
  rw [List.append_nil] at bt
  refine wpAny_call (codeAny_mono (F.go X.A X.stack s1 H1 ⟨us, []⟩ us vs Q E0 gX hr I1.env0 bt r q') ?_)
  intro r' s' hq
  cases r' with
  | error er => exact False.elim hq
  | ok fl =>
    cases fl with
    | ret u => exact I1.after hq
    | next => exact False.elim hq
    | brk => exact False.elim hq
    | cont => exact False.elim hq
end

/-! repr of data -/
section
variable {X : Cx}
/-- repr(x): x data whose text is known to fit -/
def rRepr (K : PySem.W.Frag) : List V → Hp → VK → Prop := fun xs H Q => ∃ (x : V) (d : PyData), xs = [x] ∧
  Dp K H x d ∧ d.showable = true ∧ d.hasDict = false ∧ d.depth ≤ 40 ∧ d.shown.length ≤ sizeLine ∧
  (∀ i : Int, d = .int i → i.natAbs.log2 < 1920) ∧ Q (.str d.shown) H
theorem call_repr (gX : X.A.guards = some []) (hu : X.A.units + 64 < cLine) :
    CallR X (.builtin "repr") (rRepr X.K) := by
  intro pins s σ H xs us Q I r h
  obtain ⟨x, d, rfl, hd, hsh, hno, hde, hsz, hint, q⟩ := h
  obtain ⟨u, rfl, ru⟩ := vals1 r
  cases hd with
  | non =>
    cases ru
    exact PySem.P.repr_of_none ⟨.str _, H, I.tok _, ⟨_, rfl⟩, q⟩
  | bl b =>
    cases ru
    refine PySem.P.repr_of_bool ⟨.str _, H, I.tok _, ⟨_, rfl⟩, ?_⟩
    cases b <;> exact q
  | int i =>
    obtain ⟨t, rfl⟩ := ru
    exact PySem.P.repr_of_int (hint i rfl) ⟨.str _, H, I.tok _, ⟨_, rfl⟩, q⟩
  | str z =>
    obtain ⟨t, rfl⟩ := ru
    exact PySem.P.repr_of_str ⟨.str _, H, I.tok _, ⟨_, rfl⟩, q⟩ hsz
  | @lst a ys ds hs ha =>
    obtain ⟨as, rd⟩ := Dp.reads I (.list ds) (.ref a) u (.lst hs ha) ru
    cases ru
    refine repr_of_reads' rd hsh (fun z => absurd (hno.symm.trans z) Bool.false_ne_true) gX (by omega)
      (fun _ _ e => e) (fun h' t' tk hk => ?_) hsz
    exact ⟨.str _, H, I.kept (t' := tk) hk, ⟨_, rfl⟩, q⟩
  | @tup a ys ds hs ha =>
    obtain ⟨as, rd⟩ := Dp.reads I (.tuple ds) (.ref a) u (.tup hs ha) ru
    cases ru
    refine repr_of_reads' rd hsh (fun z => absurd (hno.symm.trans z) Bool.false_ne_true) gX (by omega)
      (fun _ _ e => e) (fun h' t' tk hk => ?_) hsz
    exact ⟨.str _, H, I.kept (t' := tk) hk, ⟨_, rfl⟩, q⟩
end
end Ow

set_option Elab.async false
set_option linter.all false
set_option maxRecDepth 100000
set_option maxHeartbeats 4000000
namespace Ow
open PySem PySem.Spec PyProof.Rows L2

/-- what the law's end asks of the call -/
abbrev EndOf (s₁ : Shared) : Result → Shared → Prop := fun r s' =>
  r = .ok (.ret (.bool true)) ∧ OldK s₁.heap s'.heap ∧ s'.os = s₁.os ∧ AllBare s'.gens
section
variable {P : Program} {w : World} {K : PySem.W.Frag} {mg mb : Str → Option Value} {k : Nat} {fa a : Addr}
  {fd : FuncData} {x : Str} {sp : Sp} {s₁ : Shared} {vs : List Value} {ns : List Int}
/-- .. where at most the script, known to its object, is tracked -/
theorem endG1 {H : Hp} (ob : Obj) (hob : s₁.heap.get? a = some ob) (hda : ∀ es ep, ob.data ≠ .dict es ep)
    (inK : K.In s₁.heap) (nsM : s₁.heap.Ns mainGlobals mg) (nsB : s₁.heap.Ns builtinsNs mb)
    (boot : ∀ y : Str, y ≠ "__name__" → mb y = bootBuiltins y) (noL : s₁.heap.NoLimit)
    (g0 : s₁.gens = #[]) (hr : Room k callerA)
    (F : ∀ base : Heap, K.In base → base.Ns mainGlobals mg → FnG P w K mg base k fa fd [x] sp)
    (bind : ∀ (s : Shared) (u : Value), BindsTo s fd ⟨[u], []⟩ [(x, u)])
    (hs : sp [.ref a] H (fun v _ => v = .bl true) fun _ _ _ => False) (only : Only H)
    (hok : HOk P w H s₁.heap) (hA : ∀ b, H b ≠ none → b = a) (hK : H a ≠ none → K.lookup a = none) :
    codeAny (model P w) callerA (.call (.ref fa) ⟨[.ref a], []⟩) (EndOf s₁) s₁ := by
  have free : ∀ {b : Addr}, b ≠ a → H b = none := fun {b} n => by
    cases e : H b with
    | none => rfl
    | some u => exact absurd (hA b (by rw [e]; exact fun z => nomatch z)) n
  have hid : ∀ {b : Addr} {o : Obj}, s₁.heap.get? b = some o → H b = none → (hidT s₁.heap H).get? b = some o :=
    fun e n => hidT_get e n
  have dictFree : ∀ {b : Addr} {o : Obj} {es : Array DictEntry} {ep : Nat},
      s₁.heap.get? b = some o → o.data = .dict es ep → H b = none := fun {b o es ep} e d => by
    refine free fun z => ?_
    rw [z, hob] at e
    exact hda es ep (by rw [Option.some.inj e]; exact d)
  have nsOf : ∀ {b : Addr} {m : Str → Option Value}, s₁.heap.Ns b m → (hidT s₁.heap H).Ns b m := by
    intro b m q
    obtain ⟨o, es, ep, e, d, r⟩ := q
    exact ⟨o, es, ep, hid e (dictFree e d), d, r⟩
  have inB : K.In (hidT s₁.heap H) := fun b o e => hid (inK b o e) (by
    by_cases hb : b = a
    · cases q : H b with
      | none => rfl
      | some u =>
        rw [hb] at e q
        rw [hK (by rw [q]; exact fun z => nomatch z)] at e
        cases e
    · exact free hb)
  have hM : Mod K mg (hidT s₁.heap H) := by
    obtain ⟨mc, h1, h2⟩ := noL
    exact ⟨inB, nsOf nsM, ⟨mb, nsOf nsB, boot⟩, mc, nsOf h1, h2⟩
  have e0 : Env0 P w K mg (hidT s₁.heap H) callerA [] s₁ H :=
    { frames := rfl, mod := hM, bs := fun b o e => of_hidT e, bsz := Nat.le_of_eq (hidT_size _ _)
      funs := trivial, frf := fun b hb => (nomatch (show b ∈ ([] : List Addr) from hb)), hok := hok, bare := .of_eq g0 }
  have run := (F _ inB (nsOf nsM)).go callerA [] s₁ H ⟨[.ref a], []⟩ [.ref a] [.ref a] _ _ rfl hr e0
    (bind s₁ (.ref a)) (.cons rfl .nil) hs
  refine codeAny_mono run fun r s' h => ?_
  cases r with
  | error e => exact False.elim h
  | ok fl =>
    cases fl with
    | next => exact False.elim h
    | brk => exact False.elim h
    | cont => exact False.elim h
    | ret u =>
      obtain ⟨v, H', os, bare, un, hok', rv, q⟩ := h
      have q' : v = .bl true := q
      subst q'
      have eu : u = Value.bool true := rv
      subst eu
      refine ⟨rfl, OldK.of_keep fun b o e => ?_, os, bare⟩
      rcases only b with z | ⟨ob, xs, z⟩
      · exact un.keep b o e z (fun m => nomatch (show b ∈ ([] : List Addr) from m)) (fun m => nomatch m)
      · obtain ⟨e1, _⟩ := hok b _ z
        obtain ⟨e2, _⟩ := hok' b _ (un.frzs b ob _ z)
        rw [e] at e1
        rw [Option.some.inj e1]
        exact e2
theorem endG (inK : K.In s₁.heap) (nsM : s₁.heap.Ns mainGlobals mg) (nsB : s₁.heap.Ns builtinsNs mb)
    (boot : ∀ y : Str, y ≠ "__name__" → mb y = bootBuiltins y) (noL : s₁.heap.NoLimit)
    (g0 : s₁.gens = #[]) (hob : s₁.heap.get? a = some { cls := .type "list", data := .seq vs.toArray })
    (hi : IntsAre vs ns) (hl : ns.length ≤ sizeLine) (hr : Room k callerA)
    (F : ∀ base : Heap, K.In base → base.Ns mainGlobals mg → FnG P w K mg base k fa fd [x] sp)
    (bind : ∀ (s : Shared) (u : Value), BindsTo s fd ⟨[u], []⟩ [(x, u)])
    (hs : ∀ H : Hp, Only H → SqL K H a (ns.map V.int) → sp [.ref a] H (fun v _ => v = .bl true) fun _ _ _ => False) :
    codeAny (model P w) callerA (.call (.ref fa) ⟨[.ref a], []⟩) (EndOf s₁) s₁ := by
  have rv := vals_ints hi
  have nd : ∀ es ep, (Obj.data { cls := .type "list", data := .seq vs.toArray }) ≠ .dict es ep := fun es ep z => by cases z
  cases hk : K.lookup a with
  | some o =>
    have e := inK a o hk
    rw [hob] at e
    cases e
    have O : Only (fun _ => none) := fun _ => .inl rfl
    refine endG1 (H := fun _ => none) _ hob nd inK nsM nsB boot noL g0 hr F bind (hs _ O (.inr ?_)) O
      (fun b u z => nomatch z) (fun b z => absurd rfl z) (fun z => absurd rfl z)
    exact ⟨_, vs.toArray, _, hk, rfl, rfl, rfl, by rw [List.size_toArray, hi.length]; exact hl, rv⟩
  | none =>
    have at_ : ∀ b u, (fun b => if b = a then some (HO.frz { cls := .type "list", data := .seq vs.toArray }
        (.lst (ns.map V.int))) else none) b = some u → b = a ∧ u = HO.frz { cls := .type "list", data := .seq vs.toArray } (.lst (ns.map V.int)) := by
      intro b u z
      by_cases hb : b = a
      · exact ⟨hb, (Option.some.inj ((if_pos hb).symm.trans z)).symm⟩
      · exact nomatch (if_neg hb).symm.trans z
    have O : Only (fun b => if b = a then some (HO.frz { cls := .type "list", data := .seq vs.toArray }
        (.lst (ns.map V.int))) else none) := by
      intro b
      by_cases hb : b = a
      · exact .inr ⟨_, _, if_pos hb⟩
      · exact .inl (if_neg hb)
    refine endG1 _ hob nd inK nsM nsB boot noL g0 hr F bind (hs _ O (.inl (.inr ⟨_, if_pos rfl⟩))) O ?_ ?_ (fun _ => hk)
    · intro b u z
      obtain ⟨rfl, rfl⟩ := at_ b u z
      exact ⟨hob, by rw [List.length_map]; exact hl, vs, _, rv, hob⟩
    · intro b z
      cases q : (fun b => if b = a then some (HO.frz { cls := .type "list", data := .seq vs.toArray }
        (.lst (ns.map V.int))) else none) b with
      | none => exact absurd q z
      | some u => exact (at_ b u q).1
end
/-- the head's goal, from the law's promise with nothing guarded -/
theorem walkG {l : PySem.W.OpenLaw} {n k : Nat} {q : Program} {loose : List Str} {XP : (Str → Option Value) → Heap → Prop}
    {YP : World → Heap → Prop} {d : DefRec} {K : Params → PySem.W.Frag} {sp : PySem.W.Frag → Sp} {x : Str}
    (hn : l.most = some n) (hn2 : n ≤ sizeLine) (hdf : d.params.defaults = []) (hr : Room k callerA)
    (hY : ∀ (w : World) (h : Heap), YP w h → (K w.params).In h)
    (F : ∀ (w : World) (mg : Str → Option Value) (fa : Addr) (h : Heap), (K w.params).In h → h.Ns mainGlobals mg →
      mg d.name = some (.ref fa) → ∃ fd : FuncData, (∀ (s : Shared) (u : Value), BindsTo s fd ⟨[u], []⟩ [(x, u)]) ∧
        ∀ base : Heap, (K w.params).In base → base.Ns mainGlobals mg →
          FnG l.prog w (K w.params) mg base k fa fd [x] (sp (K w.params)))
    (hs : ∀ (K : PySem.W.Frag) (H : Hp) (a : Addr) (ns : List Int), ns.length ≤ n → Only H →
      SqL K H a (ns.map V.int) → sp K [.ref a] H (fun v _ => v = .bl true) fun _ _ _ => False) :
    PySem.W.WalkO q loose XP YP l.row.toRowW d [] (fun f vs => PySem.call f vs) := by
  refine Att.attach_call hn hdf fun w s₀ s₁ mg mb fa o pm cd doc a vs ns G Y ho hd hcd hmg hobj hints hlen hg => ?_
  have inK := hY w _ Y
  obtain ⟨fd, hb, hF⟩ := F w mg fa _ inK G.T.g hmg
  exact endG inK G.T.g G.T.b G.T.builtins G.T.nolimit hg hobj hints (Nat.le_trans hlen hn2) hr hF hb
    fun H hO hS => hs _ H a ns hlen hO hS
end Ow

set_option Elab.async false
set_option linter.all false
set_option maxRecDepth 100000
set_option maxHeartbeats 4000000
namespace Ow
open PySem PySem.Spec PyProof.Rows L2

/-! powers of greater numbers -/
def CPowB (i j : Int) : Prop := 0 ≤ j ∧ (Builtin.Int.intBits i : Int) * j ≤ 2 ^ 27
section
variable {X : Cx}
theorem op_powB : OpR X (binaryOp .Pow) (rI CPowB fun i j => .int (i ^ j.toNat)) :=
  opI fun _ _ _ _ _ _ _ hc q => pow_int hc.1 hc.2 q
end

/-! a tuple backwards: some of its items -/
theorem vals_pick {xs : List V} {its : List Value} (r : Vals xs its) (f : Nat → Nat) : ∀ l : List Nat,
    Vals (l.filterMap fun m => xs[f m]?) (l.filterMap fun m => its[f m]?)
  | [] => .nil
  | m :: l => by
    have ih := vals_pick r f l
    cases e : xs[f m]? with
    | none =>
      simp only [List.filterMap_cons, e, r.none_of e]
      exact ih
    | some x =>
      obtain ⟨u, hu, rv⟩ := r.get e
      simp only [List.filterMap_cons, e, hu]
      exact .cons rv ih
theorem back_places (n : Nat) : Builtin.Slice.slicePlaces ((n : Int) - 1) (-1) (-1) = n := by
  unfold Builtin.Slice.slicePlaces
  rw [if_neg (by decide)]
  by_cases h : (n : Int) - 1 > -1
  · rw [if_pos h]
    simp only [Int.neg_neg, Int.ediv_one]
    omega
  · rw [if_neg h]
    omega
theorem back_adjust (n : Nat) : Builtin.Slice.sliceAdjust none none (-1) (n : Int) = ((n : Int) - 1, -1) := by
  unfold Builtin.Slice.sliceAdjust
  simp
section
variable {prog : Program} {w : World} {A : Around} {E : Value → Shared → Prop} {s : Shared}
theorem back_applied {sl : Addr} {vs : Value} {n : Nat} {Q : Int × Int × Nat → Shared → Prop}
    (hs : s.heap.IsSliceOf sl .none .none vs) (p : IsPart vs (some (-1))) (h : Q ((n : Int) - 1, -1, n) s) :
    wpAny (model prog w) A (Builtin.Slice.sliceApplied (.ref sl) (pure (n : Int))) Q E s := by
  obtain ⟨os, hos, hcs, hds⟩ := id hs
  unfold Builtin.Slice.sliceApplied Builtin.Slice.sliceFields
  refine wpAny_bind (wpAny_bind (wpAny_field hos hds (x := .none) rfl ?_))
  refine wpAny_bind (wpAny_field hos hds (x := .none) rfl ?_)
  refine wpAny_bind (wpAny_field hos hds (x := vs) rfl (wpAny_pure ?_))
  refine wpAny_bind (HT.slicePart_ p ?_)
  show wpAny _ _ (if ((-1 : Int) == 0) = true then _ else _) _ _ s
  rw [if_neg (by decide)]
  refine wpAny_bind (slicePart_none (wpAny_bind (slicePart_none (wpAny_bind (wpAny_pure ?_)))))
  show wpAny _ _ (match Builtin.Slice.sliceAdjust none none (-1) (n : Int) with
    | (lo, hi) => pure (lo, (-1 : Int), Builtin.Slice.slicePlaces lo hi (-1))) _ _ s
  rw [back_adjust]
  show wpAny _ _ (pure ((n : Int) - 1, (-1 : Int), Builtin.Slice.slicePlaces ((n : Int) - 1) (-1) (-1))) _ _ s
  rw [back_places]
  exact wpAny_pure h
theorem back_item {t sl : Addr} {items : Array Value} {vs : Value} {Q : Value → Shared → Prop}
    (ht : IsTup s.heap t items) (hs : s.heap.IsSliceOf sl .none .none vs) (p : IsPart vs (some (-1)))
    (hsz : items.size ≤ sizeLine)
    (h : Q (.ref s.heap.objs.size) { s with heap := s.heap.push { cls := .type "tuple", data := .seq ((List.range items.size).filterMap fun (k : Nat) => items[((items.size : Int) - 1 + (k : Int) * -1).toNat]?).toArray } }) :
    wpAny (model prog w) A (getItem (.ref t) (.ref sl)) Q E s := by
  have hz : sizeOk (.seq ((List.range items.size).filterMap fun (k : Nat) =>
      items[((items.size : Int) - 1 + (k : Int) * -1).toNat]?).toArray) := by
    show Array.size _ ≤ sizeLine
    rw [List.size_toArray]
    refine Nat.le_trans (List.length_filterMap_le _ _) ?_
    rw [List.length_range]
    exact hsz
  obtain ⟨os, hos, hcs, hds⟩ := id hs
  have isS : s.TypeIs (.ref sl) "slice" := ⟨os, hos, hcs⟩
  unfold getItem
  try with_reducible refine wpAny_holding ?_
  first | refine wpAny_bind (wpAny_pure ?_) | skip
  refine wpAny_bind (wpAny_sequenceKey ht.typeIs (by decide) ?_)
  refine wpAny_bind (wpAny_callSpecial?_slot (name := Str.ofString "__getitem__") ht.typeIs
    PyProof.Rows.slot_tuple_getitem (wpAny_call_entry PyProof.Rows.slot_tuple_getitem ht.typeIs
      entry_tuple_getitem ?_ (args_tuple_getitem _ _)))
  show wpAny _ _ (Builtin.Tuple.tupleItemsOf (.ref t) >>= _) _ _ s
  refine wpAny_bind (tupleItemsOf_ ht ?_)
  refine wpAny_bind (wpAny_typeOf isS ?_)
  rw [if_pos (by decide)]
  refine wpAny_bind (back_applied hs p ?_)
  have no : ¬ ((((items.size : Int) - 1) == 0 && (-1 : Int) == 1 && items.size == items.size) = true) := by
    intro q
    rw [Bool.and_eq_true, Bool.and_eq_true] at q
    exact absurd q.1.2 (by decide)
  show wpAny _ _ (if (((items.size : Int) - 1) == 0 && (-1 : Int) == 1 && items.size == items.size) = true then _ else _) _ _ s
  rw [if_neg no]
  first
    | exact wpAny_bind (m := Builtin.Tuple.tupleExact _) (wpAny_newObj_type (wpAny_pure ⟨_, rfl, wpAny_pure h⟩) hz)
    | exact wpAny_bind (m := Builtin.Tuple.tupleExact _)
        (wpAny_newObj_type (wpAny_bind (wpAny_pure (wpAny_pure ⟨_, rfl, wpAny_pure h⟩))) hz)
    | exact wpAny_bind (wpAny_bind (m := Builtin.Tuple.tupleExact _)
        (wpAny_newObj_type (wpAny_pure (wpAny_pure ⟨_, rfl, wpAny_pure h⟩)) hz))
    | exact wpAny_bind (wpAny_bind (m := Builtin.Tuple.tupleExact _)
        (wpAny_newObj_type (wpAny_pure ⟨_, rfl, wpAny_pure h⟩) hz))
end
def tBack (K : PySem.W.Frag) (te : TE) : TE := fun σ H Q => te σ H fun x H1 => ∃ a xs, x = .ref a ∧ SqT K H1 a xs ∧
  ∀ p zs, H1 p = none → (∀ z ∈ zs, z ∈ xs) → zs.length ≤ xs.length → Q (.ref p) (upd H1 p (.tup zs))
section
variable {X : Cx}
theorem pe_back {e : Expr} {te : TE} {k : Nat} {p1 p2 p3 pos : Pos} (he : PE X e te) :
    PE X (.Subscript e (.Slice none none (some (.UnaryOp .USub (.Constant (.int 1) k p1) p2)) p3) pos) (tBack X.K te) := by
  refine ⟨fun pins s σ H Q I h => ?_⟩
  refine Subscript_ (thn (he.run pins s σ H _ I h) fun v s1 hv => ?_)
  obtain ⟨x, H1, I1, r1, a, xs, ex, hx, q⟩ := hv
  subst ex
  cases r1
  have hst : PO X (some (.UnaryOp .USub (.Constant (.int 1) k p1) p2)) (tPart (tUn (rU fun i => .int (-i)) (tC (.int 1)))) :=
    po_some (pe_un un_neg pe_int)
  refine wpAny_Slice (thn (po_none.run pins s1 σ H1 (fun o H2 => o = none ∧ H2 = H1) I1 ⟨rfl, rfl⟩) fun vl s2 hl => ?_)
  obtain ⟨l, H2, I2, pl, el, e2⟩ := hl
  subst el e2
  refine thn (po_none.run pins s2 σ H2 (fun o H3 => o = none ∧ H3 = H2) I2 ⟨rfl, rfl⟩) fun vu s3 hl => ?_
  obtain ⟨u, H3, I3, pu, eu, e3⟩ := hl
  subst eu e3
  refine thn (hst.run pins s3 σ H3 (fun o H4 => o = some (-1) ∧ H4 = H3) I3 ⟨1, rfl, -1, rfl, rfl, rfl⟩) fun vs s4 hl => ?_
  obtain ⟨o, H4, I4, ps, eo, e4⟩ := hl
  subst eo e4
  cases pl
  cases pu
  have I5 : Inv X pins σ H4 { s4 with heap := s4.heap.push { cls := .type "slice", data := .fields #[.none, .none, vs] } } :=
    I4.kept (t' := s4.toks) fun b ob q => Heap.get?_push_of_some _ q
  obtain ⟨its, r, ht, hz⟩ := I5.tuple hx
  have hlen := r.length
  refine tail_any (ops := [.ref a, .ref s4.heap.objs.size]) ht.typeIs (PyProof.Rows.slot_tuple_getitem.lookup) ?_ (by with_unfolding_all rfl)
  refine back_item ht (Heap.IsSliceOf.new _ .none .none vs) ps (by rw [List.size_toArray]; omega) ?_
  have hsz : its.toArray.size = xs.length := by rw [List.size_toArray]; exact hlen.symm
  rw [hsz]
  let f : Nat → Nat := fun k => ((xs.length : Int) - 1 + (k : Int) * -1).toNat
  have hv := vals_pick r f (List.range xs.length)
  have le : ((List.range xs.length).filterMap fun m => xs[f m]?).length ≤ xs.length :=
    Nat.le_trans (List.length_filterMap_le _ _) (by rw [List.length_range]; exact Nat.le_refl _)
  refine ⟨.ref _, _, I5.laid (t' := s4.toks) (o := .tup ((List.range xs.length).filterMap fun m => xs[f m]?))
    (fun b ob q => Heap.get?_push_of_some _ q) (Nat.le_refl _) ?_, rfl,
    q _ _ (I5.hok.fresh (Nat.le_refl _)) (fun z hz => ?_) le⟩
  · refine ⟨Nat.le_trans le hz, (List.range xs.length).filterMap fun m => its[f m]?, hv, ?_⟩
    have e : (List.filterMap (fun (k : Nat) => its.toArray[((xs.length : Int) - 1 + (k : Int) * -1).toNat]?) (List.range xs.length)) =
        ((List.range xs.length).filterMap fun m => its[f m]?) := by
      congr 1
      funext m
      simp [f]
    rw [e]
    exact IsTup.new _ _
  · obtain ⟨m, _, hm⟩ := List.mem_filterMap.mp hz
    exact List.mem_of_getElem? hm
end

/-! a comprehension over a text's signs -/
theorem lc_signs {z : Str} {g : TG} {tt : TT} {te : TE} {vs : List Nat} {σ : L2.St} {H1 : Hp} {D : Addr} {Qd : Hp → Prop}
    (I : Nat → Hp → Prop) (h0 : I 0 (upd H1 D (.lst [])))
    (hs : ∀ i c H, z.cps[i]? = some c → I i H → g (.str ⟨#[c]⟩) (wipe σ vs) H fun σ2 H2 => wipe σ2 vs = wipe σ vs ∧
      tt σ2 H2 fun b H3 => if b = true then te σ2 H3 fun y H4 => ∃ acc, H4 D = some (.lst acc) ∧
        acc.length < sizeLine ∧ I (i + 1) (upd H4 D (.lst (acc ++ [y]))) else I (i + 1) H3)
    (hd : ∀ H, I z.cps.size H → Qd H) :
    ∃ W : Nat → Nat → Hp → Prop, (∃ m, W 0 m (upd H1 D (.lst []))) ∧ ∀ i m H, W i m H →
      ((Its z).stop i H ∧ Qd H) ∨ ((Its z).go i H ∧ ∃ Nx : Hp → Prop, (∀ H', Nx H' → ∃ m', m' < m ∧ W (i + 1) m' H') ∧
        ∀ x H', (Its z).yld i H x H' → g x (wipe σ vs) H' fun σ2 H2 => wipe σ2 vs = wipe σ vs ∧ tt σ2 H2 fun b H3 =>
          if b = true then te σ2 H3 fun y H4 => ∃ acc, H4 D = some (.lst acc) ∧ acc.length < sizeLine ∧
            Nx (upd H4 D (.lst (acc ++ [y]))) else Nx H3) := by
  refine ⟨fun i m H => m + i = z.cps.size ∧ I i H, ⟨z.cps.size, by omega, h0⟩, fun i m H hW => ?_⟩
  obtain ⟨hm, hI⟩ := hW
  by_cases hi : i < z.cps.size
  · refine .inr ⟨hi, I (i + 1), fun H' h' => ⟨m - 1, by omega, by omega, h'⟩, fun x H' hy => ?_⟩
    obtain ⟨rfl, c, hc, rfl⟩ := hy
    exact hs i c _ hc hI
  · have e : i = z.cps.size := by omega
    subst e
    exact .inl ⟨Nat.le_refl _, hd H hI⟩
end Ow

set_option Elab.async false
set_option linter.all false
set_option maxRecDepth 100000
set_option maxHeartbeats 4000000
namespace Ow
open PySem PySem.Spec PyProof.Rows L2

/-! ### the text -/
def topS (i : Nat) : Stmt := PySem.Challenge.pw_oneswill_k02_agendas_told.main.body.getD i (.Pass ⟨0, 0, 0, 0⟩)
def inS (i j : Nat) : Stmt := match topS i with
  | .ClassDef _ _ _ b _ _ _ _ _ _ _ => b.getD j (.Pass ⟨0, 0, 0, 0⟩)
  | _ => .Pass ⟨0, 0, 0, 0⟩
abbrev dWall : Stmt := topS 0
abbrev dOwn : Stmt := topS 2
abbrev dUnInit : Stmt := inS 6 0
abbrev dUnStr : Stmt := inS 6 1
abbrev dInteger : Stmt := topS 10
abbrev dName : Stmt := topS 11
abbrev dValue : Stmt := topS 12
abbrev dValues : Stmt := topS 13
abbrev dHasValues : Stmt := topS 14
abbrev dAscending : Stmt := topS 15
abbrev dSetNames : Stmt := topS 16
abbrev dIssues : Stmt := topS 19
abbrev dIsAnswer : Stmt := topS 20
abbrev dContrary : Stmt := topS 21
abbrev dHasBoth : Stmt := topS 22
abbrev dAreRows : Stmt := topS 23
abbrev dAgendaOfColumns : Stmt := topS 24
abbrev dInit : Stmt := inS 25 0
abbrev dAgFree : Stmt := inS 25 1
abbrev dPIssues : Stmt := inS 25 2
abbrev dPRows : Stmt := inS 25 3
abbrev dAgAnswers : Stmt := inS 25 4
abbrev dAgGetitem : Stmt := inS 25 5
abbrev dAgContains : Stmt := inS 25 6
abbrev dLen : Stmt := inS 25 7
abbrev dAgEq : Stmt := inS 25 8
abbrev dAgStr : Stmt := inS 25 9
abbrev dAgIter : Stmt := inS 25 10
abbrev dAgWithRow : Stmt := inS 25 11
abbrev dAgWithoutRow : Stmt := inS 25 12
abbrev dAgTurned : Stmt := inS 25 13
abbrev dAgRenamed : Stmt := inS 25 14
abbrev dAgOnly : Stmt := inS 25 15
abbrev dAgFixed : Stmt := inS 25 16
abbrev dAgAdd : Stmt := inS 25 17
abbrev dAgRadd : Stmt := inS 25 18
abbrev dLAnswers : Stmt := topS 27
abbrev dJug : Stmt := topS 28
abbrev dDip : Stmt := topS 29
abbrev dChoice : Stmt := topS 30
abbrev dJumbled : Stmt := topS 31
abbrev dAllRows : Stmt := topS 32
abbrev dLSumOf : Stmt := topS 33
abbrev dLJoinedRow : Stmt := topS 34
abbrev dLClosedBy : Stmt := topS 35
abbrev dLWithBoth : Stmt := topS 36
abbrev dLRowsAny : Stmt := topS 37
abbrev dLRowsOf : Stmt := topS 38
abbrev dLMadeAgenda : Stmt := topS 39
abbrev dLetter : Stmt := topS 40
abbrev dManyNames : Stmt := topS 41
abbrev dLWideAgenda : Stmt := topS 42
abbrev dLIsAgenda : Stmt := topS 43
abbrev dLWith : Stmt := topS 44
abbrev dNear : Stmt := topS 45
abbrev dAllRight : Stmt := topS 46
abbrev dCell : Stmt := topS 47
abbrev dLaw : Stmt := topS 48

/-! ### heaps that grow, but for the jug at J -/
def Sb (J : Addr) (H H' : Hp) : Prop := ∀ b o, b ≠ J → H b = some o → H' b = some o
theorem Sb.refl (J : Addr) (H : Hp) : Sb J H H := fun _ _ _ e => e
theorem Sb.trans {J : Addr} {H H1 H2 : Hp} (a : Sb J H H1) (b : Sb J H1 H2) : Sb J H H2 :=
  fun c o n e => b c o n (a c o n e)
theorem Sb.same {J : Addr} {H H' : Hp} (a : Same H H') : Sb J H H' := fun c o _ e => a c o e
theorem same_new {H : Hp} {p : Addr} {o : HO} (h : H p = none) : Same H (upd H p o) := fun b x e => by
  rw [upd_ne (ne_of_none e h)]
  exact e
theorem Sb.new {J : Addr} {H : Hp} {p : Addr} {o : HO} (h : H p = none) : Sb J H (upd H p o) := .same (same_new h)
theorem Sb.at {J : Addr} {H : Hp} {o : HO} : Sb J H (upd H J o) := fun b x n e => by
  rw [upd_ne n]
  exact e

/-! ### the values that the law asks about -/
/-- no reference; small enough to be told as a text -/
def scOk : V → Prop
  | .non => True
  | .bl _ => True
  | .int i => i.natAbs < 2 ^ 400
  | .str z => z.length ≤ 4000 ∧ ∀ c ∈ z.cps.toList, c < 128
  | _ => False
/-- (), (0,), [] -/
def Gr (H : Hp) (a : Addr) : Prop := H a = some (.tup []) ∨ H a = some (.tup [.int 0]) ∨ H a = some (.lst [])
def Im (J : Addr) (H : Hp) (v : V) : Prop := scOk v ∨ ∃ a, v = .ref a ∧ a ≠ J ∧ Gr H a
def Vl (J : Addr) (H : Hp) (v : V) : Prop := scOk v ∨ ∃ a, v = .ref a ∧ a ≠ J ∧
  ((∃ xs, H a = some (.tup xs) ∧ xs.length ≤ 60 ∧ ∀ x ∈ xs, Im J H x) ∨ (∃ xs, H a = some (.lst xs)) ∨ ∃ kvs, H a = some (.dK kvs))
theorem Gr.mono {J : Addr} {H H' : Hp} {a : Addr} (s : Sb J H H') (n : a ≠ J) (h : Gr H a) : Gr H' a := by
  rcases h with h | h | h
  · exact .inl (s _ _ n h)
  · exact .inr (.inl (s _ _ n h))
  · exact .inr (.inr (s _ _ n h))
theorem Im.mono {J : Addr} {H H' : Hp} {v : V} (s : Sb J H H') (h : Im J H v) : Im J H' v := by
  rcases h with h | ⟨a, e, n, g⟩
  · exact .inl h
  · exact .inr ⟨a, e, n, g.mono s n⟩
theorem Vl.mono {J : Addr} {H H' : Hp} {v : V} (s : Sb J H H') (h : Vl J H v) : Vl J H' v := by
  rcases h with h | ⟨a, e, n, g⟩
  · exact .inl h
  · refine .inr ⟨a, e, n, ?_⟩
    rcases g with ⟨xs, h, l, q⟩ | ⟨xs, h⟩ | ⟨kvs, h⟩
    · exact .inl ⟨xs, s _ _ n h, l, fun x hx => (q x hx).mono s⟩
    · exact .inr (.inl ⟨xs, s _ _ n h⟩)
    · exact .inr (.inr ⟨kvs, s _ _ n h⟩)
theorem Im.vl {J : Addr} {H : Hp} {v : V} (h : Im J H v) : Vl J H v := by
  rcases h with h | ⟨a, e, n, g⟩
  · exact .inl h
  · refine .inr ⟨a, e, n, ?_⟩
    rcases g with h | h | h
    · exact .inl ⟨_, h, Nat.zero_le _, fun x hx => nomatch hx⟩
    · refine .inl ⟨_, h, by decide, fun x hx => ?_⟩
      rw [List.mem_singleton] at hx
      rw [hx]
      exact .inl (by show Int.natAbs 0 < 2 ^ 400; decide)
    · exact .inr (.inl ⟨_, h⟩)
/-- what is told of a value -/
def bitB (v : V) : Bool := decide (v = .int 0) || decide (v = .int 1)
def shortB : V → Bool
  | .int i => decide (-(10 ^ 60) < i) && decide (i < 10 ^ 60)
  | _ => false
def signB (c : Nat) : Bool := decide (97 ≤ c) && decide (c ≤ 122)
def nameB : V → Bool
  | .str z => (decide (1 ≤ z.length) && decide (z.length ≤ 8)) && z.cps.toList.all signB
  | _ => false
def rowB (H : Hp) : V → Bool
  | .ref a => match H a with
    | some (.tup xs) => xs.all bitB
    | _ => false
  | _ => false
/-- a def that tells a truth of a value, and changes nothing -/
def spB (g : Hp → V → Bool) : Sp := fun vs H Q _ => ∃ v J, vs = [v] ∧ Vl J H v ∧ ∀ H', Same H H' → Q (.bl (g H v)) H'
theorem spB_len {g : Hp → V → Bool} : ∀ vs H Q E, spB g vs H Q E → vs.length = 1 := by
  intro vs H Q E h
  obtain ⟨v, J, rfl, _⟩ := h
  rfl
/-- the classes of such values -/
theorem Vl.ty {K : PySem.W.Frag} {J : Addr} {H : Hp} {v : V} (h : Vl J H v) : ∃ T : String, TyX K H v (.type T) ∧
    ((∃ i, v = .int i) ∧ T = "int" ∨ (∃ b, v = .bl b) ∧ T = "bool" ∨ (v = .non) ∧ T = "NoneType" ∨ (∃ z, v = .str z ∧ z.length ≤ 4000 ∧ ∀ c ∈ z.cps.toList, c < 128) ∧ T = "str" ∨
      (∃ a xs, v = .ref a ∧ H a = some (.tup xs) ∧ xs.length ≤ 60 ∧ ∀ x ∈ xs, Im J H x) ∧ T = "tuple" ∨
      (∃ a xs, v = .ref a ∧ H a = some (.lst xs)) ∧ T = "list" ∨ (∃ a kvs, v = .ref a ∧ H a = some (.dK kvs)) ∧ T = "dict") := by
  rcases h with h | ⟨a, rfl, n, h⟩
  · cases v with
    | non => exact ⟨"NoneType", .base .non, .inr (.inr (.inl ⟨rfl, rfl⟩))⟩
    | bl b => exact ⟨"bool", .base (.bl b), .inr (.inl ⟨⟨b, rfl⟩, rfl⟩)⟩
    | int i => exact ⟨"int", .base (.int i), .inl ⟨⟨i, rfl⟩, rfl⟩⟩
    | str z => exact ⟨"str", .base (.str z), .inr (.inr (.inr (.inl ⟨⟨z, rfl, h⟩, rfl⟩)))⟩
    | byt _ => exact False.elim h
    | flt _ => exact False.elim h
    | ref _ => exact False.elim h
    | ty _ => exact False.elim h
  · rcases h with ⟨xs, h, l, q⟩ | ⟨xs, h⟩ | ⟨kvs, h⟩
    · exact ⟨"tuple", .base (.tup h), .inr (.inr (.inr (.inr (.inl ⟨⟨a, xs, rfl, h, l, q⟩, rfl⟩))))⟩
    · exact ⟨"list", .base (.lst h), .inr (.inr (.inr (.inr (.inr (.inl ⟨⟨a, xs, rfl, h⟩, rfl⟩)))))⟩
    · exact ⟨"dict", .base (.dK h), .inr (.inr (.inr (.inr (.inr (.inr ⟨⟨a, kvs, rfl, h⟩, rfl⟩)))))⟩
end Ow

set_option Elab.async false
set_option linter.all false
set_option maxRecDepth 100000
set_option maxHeartbeats 4000000
set_option exponentiation.threshold 3000
namespace Ow
open PySem PySem.Spec PyProof.Rows L2
/-! a def behind a property, a classmethod: found by the address that the record names -/
abbrev Seen : Type := Option (Str × Str × Arguments × FuncBody × Scope × Addr × List (Str × Addr) × Value × Addr)
def seen (K : PySem.W.Frag) (a : Addr) : Seen := (K.lookup a).bind fun o => match o.data with
  | .func d => some (d.name, d.qualname, d.params, d.body, d.scope, d.globals, d.closure, d.defaults, d.builtins)
  | _ => none
def coded (K : PySem.W.Frag) (a : Addr) (q : Str) : Bool := match K.lookup a with
  | some o => (match o.data with
    | .func d => PySem.W.codeIn K d.code q
    | _ => false)
  | none => false
def want (x q : Str) (st : Stmt) : Seen := some (x, q, defArgs st, .stmts (defBody st), defScope st, mainGlobals, [], .none, builtinsNs)
/-- the def that the record of a property, a classmethod names -/
def recA (K : PySem.W.Frag) (p : Addr) (T : String) : Addr := match PySem.W.recIn K p T with
  | some (.ref g :: _) => g
  | _ => 0
def recB (K : PySem.W.Frag) (p : Addr) (T : String) : Bool := match PySem.W.recIn K p T with
  | some (.ref _ :: _) => true
  | _ => false
def propB (K : PySem.W.Frag) (C : Addr) (f : Str) : Bool := He.eqO (PySem.W.findIn K (.ref C) f) (some (some (.ref (He.ma K C f)))) && (He.eqO (PySem.W.specialIn K (.ref (He.ma K C f)) "__get__") (some (some (.builtin "property.__get__"))) && (decide (PySem.W.takesIn K (.ref (He.ma K C f)) = some true) && recB K (He.ma K C f) "property"))
def cmB (K : PySem.W.Frag) (C : Addr) (f : Str) : Bool := (match PySem.W.findCls K (.ref C) (.type "type") f with
  | some (.get (.builtin b) (.ref p) .none (.ref c)) => decide (b = "classmethod.__get__") && (decide (p = He.ma K C f) && decide (c = C))
  | _ => false) && (recB K (He.ma K C f) "classmethod" && PySem.W.fnIn K (recA K (He.ma K C f) "classmethod"))
def crB (K : PySem.W.Frag) (C : Addr) : Bool := PySem.W.readsIn K C (.type "type") && He.eqO (PySem.W.specialIn K (.ref C) "__getattribute__") (some (some (.builtin "type.__getattribute__")))
def kindB (K : PySem.W.Frag) (C : Addr) : Bool := He.eqO (PySem.W.findIn K (.ref C) "__class__") (some (some (.builtin "object.__class__"))) && (He.eqO (PySem.W.specialIn K (.builtin "object.__class__") "__get__") (some (some (.builtin "getset_descriptor.__get__"))) &&
  (decide (PySem.W.takesIn K (.builtin "object.__class__") = some true) && (decide (PySem.W.mroIn K C (.type "object") = some true) && (decide (PySem.W.kitOne K (.ref C) (.ref C) = some true) && (["NoneType", "int", "str", "tuple", "list"] : List String).all fun T => decide (PySem.W.kitOne K (.type T) (.ref C) = some false) && PySem.W.notFirst K C (.type T)))))
/-! != by the own == -/
def neB (K : PySem.W.Frag) (C : Addr) : Bool := He.eqO (PySem.W.findIn K (.ref C) "__ne__") (some (some (.builtin "object.__ne__"))) && decide (PySem.W.subIn K (.ref C) (.type "object") = some true)
def insB (K : PySem.W.Frag) (C : Addr) : Bool := He.eqO (PySem.W.findIn K (.ref C) "__class__") (some (some (.builtin "object.__class__"))) && (He.eqO (PySem.W.specialIn K (.builtin "object.__class__") "__get__") (some (some (.builtin "getset_descriptor.__get__"))) &&
  (decide (PySem.W.takesIn K (.builtin "object.__class__") = some true) && (decide (PySem.W.mroIn K C (.type "object") = some true) && decide (PySem.W.kitOne K (.ref C) (.ref C) = some true))))
/-! the head by facts -/
def dd (i : Nat) (x : Str) : He.DefD := ⟨(x, none), x, x, defArgs (topS i), defBody (topS i), defScope (topS i), [], []⟩
def dm (c : Str) (st : Stmt) (m q : Str) : He.DefD := ⟨(c, some m), m, q, defArgs st, defBody st, defScope st, [], []⟩

def fns : List He.DefD := [dd 10 "is_integer", dd 12 "is_value", dd 11 "is_name", dd 13 "is_values", dd 29 "_law_dip", dd 28 "_law_jug", dd 30 "_law_choice", dd 14 "has_values", dd 32 "_law_all_rows", dd 15 "is_ascending", dd 16 "is_set_of_names", dd 19 "is_issues", dd 31 "_law_jumbled", dd 22 "_has_both", dd 23 "_are_rows", dm "Agenda" (inS 25 0) "__init__" "Agenda.__init__", dm "Agenda" (inS 25 7) "__len__" "Agenda.__len__", dd 33 "_law_sum_of", dd 34 "_law_joined_row", dd 35 "_law_closed_by", dd 36 "_law_with_both", dd 37 "_law_rows_any", dd 38 "_law_rows_of", dd 40 "_law_letter", dd 41 "_law_many_names", dd 42 "_law_wide_agenda", dd 39 "_law_made_agenda", dd 20 "is_answer", dd 21 "contrary", dm "Agenda" (inS 25 5) "__getitem__" "Agenda.__getitem__", dm "Agenda" (inS 25 6) "__contains__" "Agenda.__contains__", dm "Agenda" (inS 25 8) "__eq__" "Agenda.__eq__", dm "Agenda" (inS 25 9) "__str__" "Agenda.__str__", dm "Agenda" (inS 25 10) "__iter__" "Agenda.__iter__", dd 27 "_law_answers", dd 43 "_law_is_agenda", dd 44 "_law_with", dd 45 "_law_near", dd 46 "_law_all_right", dd 47 "_law_cell_right", dd 48 "law"]
def fas : List He.Fa := [.glo "is_integer", .glo "is_value", .glo "is_name", .glo "is_values", .glo "_law_dip", .glo "_law_jug", .glo "_law_choice", .glo "has_values", .glo "_law_all_rows", .glo "is_ascending", .glo "is_set_of_names", .glo "is_issues", .glo "_law_jumbled", .glo "_has_both", .glo "_are_rows", .glo "_law_sum_of", .glo "_law_joined_row", .glo "_law_closed_by", .glo "_law_with_both", .glo "_law_rows_any", .glo "_law_rows_of", .glo "_law_letter", .glo "_law_many_names", .glo "_law_wide_agenda", .glo "_law_made_agenda", .glo "is_answer", .glo "contrary", .glo "_law_answers", .glo "_law_is_agenda", .glo "_law_with", .glo "_law_near", .glo "_law_all_right", .glo "_law_cell_right", .glo "law", .glo "Agenda", .int "_BOUND" 1000000000000000000000000000000000000000000000000000000000000, .int "MAX_LETTERS" 8, .int "MAX_ISSUES" 6, .free "isinstance", .free "int", .free "bool", .free "str", .free "len", .free "all", .free "tuple", .free "abs", .free "max", .free "range", .free "list", .free "zip", .free "sum", .free "min", .free "sorted", .free "dict", .free "set", .free "enumerate", .free "iter", .free "repr", .cls "Agenda", .noat "Agenda" "_issues", .noat "Agenda" "_rows", .meth "Agenda" "__len__", .meth "Agenda" "__str__", .meth "Agenda" "__iter__", .meth "Agenda" "__getitem__", .meth "Agenda" "__contains__", .meth "Agenda" "__eq__", .mkr "Agenda"]
/-- more facts -/
abbrev aAissues (K : PySem.W.Frag) : Addr := recA K (He.ma K (He.ga K "Agenda") "issues") "property"
abbrev aArows (K : PySem.W.Frag) : Addr := recA K (He.ma K (He.ga K "Agenda") "rows") "property"
abbrev aAanswers (K : PySem.W.Frag) : Addr := recA K (He.ma K (He.ga K "Agenda") "answers") "property"
def x2 (K : PySem.W.Frag) : Bool := propB K (He.ga K "Agenda") "issues" && (propB K (He.ga K "Agenda") "rows" && (propB K (He.ga K "Agenda") "answers" && (crB K (He.ga K "Agenda") && (insB K (He.ga K "Agenda") && (kindB K (He.ga K "Agenda") && (neB K (He.ga K "Agenda") && (decide (PySem.W.kitOne K (.type "dict") (.ref (He.ga K "Agenda")) = some false) && (decide (PySem.W.noSeq K (He.ga K "Agenda") = true) && (decide (PySem.W.fnIn K (He.ma K (He.ga K "Agenda") "__getitem__") = true) && (decide (PySem.W.notFirst K (He.ga K "Agenda") (.type "dict") = true)))))))))))
def x3 (K : PySem.W.Frag) : Bool := coded K (aAissues K) "Agenda.issues" && (PySem.W.keepIn K (.ref (aAissues K)) && (coded K (aArows K) "Agenda.rows" && (PySem.W.keepIn K (.ref (aArows K)) && (coded K (aAanswers K) "Agenda.answers" && (PySem.W.keepIn K (.ref (aAanswers K)))))))
def xtra (K : PySem.W.Frag) : Bool := x2 K && x3 K
def seens (K : PySem.W.Frag) : List Seen := [seen K (aAissues K), seen K (aArows K), seen K (aAanswers K)]
def wants : List Seen := [want "issues" "Agenda.issues" (inS 25 2), want "rows" "Agenda.rows" (inS 25 3), want "answers" "Agenda.answers" (inS 25 4)]
abbrev AlE : Type := He.AlD × Bool × List Seen
def obsK (K : PySem.W.Frag) : AlE := (He.obsD fas fns K, xtra K, seens K)
/-! the addresses by breadth, each node once (HandS's asD costs 3 GB more in the kernel) -/
def kidsB (g : Addr → Option Obj) (as : List Addr) : List Addr := as.flatMap fun a => match g a with
  | some o => He.refsD o
  | none => []
noncomputable def hasB (a : Nat) (l : List Nat) : Bool := List.rec false (fun b _ r => cond (Nat.beq a b) true r) l
noncomputable def addB (old : List Nat) (l : List Nat) : List Nat := List.rec (fun acc => acc) (fun b _ r acc => cond (hasB b acc) (r acc) (cond (hasB b old) (r acc) (r (b :: acc)))) l []
noncomputable def asB (g : Addr → Option Obj) (n : Nat) : List Addr → List Addr → List Addr := Nat.rec (fun old new => old ++ new) (fun _ r old new => r (old ++ new) (addB (old ++ new) (kidsB g new))) n
noncomputable def frE (n : Nat) (g : Addr → Option Obj) : PySem.W.Frag := He.frG g (asB g n [cStatics] [mainGlobals])
noncomputable def obsE (n : Nat) (g : Addr → Option Obj) : AlE := obsK (frE n g)
def valE : AlE := (He.valD fns, true, wants)
noncomputable def hookE (n : Nat) : PySem.W.Hook where
  α := AlE
  obs := fun s => obsE n s.heap.get?
  val := fun _ => valE
  says := fun _ h => ∃ K : PySem.W.Frag, K.In h ∧ He.SaysD fas fns K ∧ xtra K = true ∧ seens K = wants
  of := fun _ _ e => ⟨frE n _, He.frG_in, congrArg (fun z : AlE => z.1) e, congrArg (fun z : AlE => z.2.1) e, congrArg (fun z : AlE => z.2.2) e⟩
  keeps := fun _ _ _ ⟨K, hK, c⟩ k => ⟨K, PySem.W.Frag.In.keeps hK k, c⟩
theorem obsE_eq {n : Nat} {g : Addr → Option Obj} {s : Shared} (h : ∀ a, g a = s.heap.get? a) : obsE n g = (hookE n).obs s := by
  have e : g = s.heap.get? := funext h
  rw [e] <;> rfl
end Ow

set_option Elab.async false
set_option linter.all false
set_option maxRecDepth 100000
set_option maxHeartbeats 0
namespace Ow
open PySem PySem.Spec PyProof.Rows L2
abbrev RR : PySem.W.OpenRow := PySem.W.OpenLaw.row PySem.Challenge.rw_oneswill_k02_agendas_told
noncomputable abbrev hk : PySem.W.Hook := hookE 5
noncomputable def ob (s : PySem.W.SharedT) : AlE := obsE 5 (HandSHeadRun.getT s)
theorem ob_eq (s : PySem.W.SharedT) : ob s = hk.obs s.abs := obsE_eq (HandSHeadRun.getT_eq s)
def loose0 : List Str := ["_wall", "_own", "WillError", "InvalidAgenda", "InvalidOperation", "UnknownName", "MAX_LETTERS", "_BOUND", "is_integer", "is_name"]
def loose1 : List Str := ["is_value", "is_values", "has_values", "is_ascending", "is_set_of_names", "MAX_ISSUES", "is_issues", "is_answer", "contrary", "_has_both"]
def loose2 : List Str := ["_are_rows", "_agenda_of_columns", "Agenda", "_law_answers", "_law_jug", "_law_dip", "_law_choice", "_law_jumbled", "_law_all_rows", "_law_sum_of"]
def loose3 : List Str := ["_law_joined_row", "_law_closed_by", "_law_with_both", "_law_rows_any", "_law_rows_of", "_law_made_agenda", "_law_letter", "_law_many_names", "_law_wide_agenda", "_law_is_agenda"]
def loose4 : List Str := ["_law_with", "_law_near", "_law_all_right", "_law_cell_right"]
def loose : List Str := loose0 ++ loose1 ++ loose2 ++ loose3 ++ loose4
theorem run (w : World) : HandSHeadRun.RunEq RR (PySem.W.view RR.prog [48]) hk ob 9000 loose w := by
  intro os
  kernel_rfl
end Ow

set_option Elab.async false
set_option linter.all false
set_option maxRecDepth 100000
set_option maxHeartbeats 4000000
set_option exponentiation.threshold 3000
namespace Ow
open PySem PySem.Spec PyProof.Rows L2
theorem scInteger : FnScope ["value"] ["value"] (defScope dInteger) := ⟨rfl, rfl, rfl, by decide +kernel, rfl, by decide +kernel, by decide +kernel⟩
theorem scValue : FnScope ["value"] ["value"] (defScope dValue) := ⟨rfl, rfl, rfl, by decide +kernel, rfl, by decide +kernel, by decide +kernel⟩
theorem boot_isi : bootBuiltins "isinstance" = some (.builtin "isinstance") := by decide +kernel
section
variable {P : Program} {w : World} {K : PySem.W.Frag} {mg : Str → Option Value} {base : Heap}
/-- isinstance(x, T), T a built-in class -/
theorem pe_isi {X : Cx} {e : Expr} {te : TE} {T : String} {n : Str} {p p2 pos : Pos} (g : Gl X "isinstance") (m : X.mg "isinstance" = none)
    (he : PE X e te) (g2 : Gl X n) (m2 : X.mg n = none) (hv : bootBuiltins n = some (.type T)) (nn : n ≠ "__name__" := by decide) (nd : (n == ("__debug__" : Str)) = false := by decide)
    (h1 : starEach [e, .Name n p2] X.env = (false, eval e X.env) :: starEach [.Name n p2] X.env := by rfl) (h2 : (backTo pos (starEach [.Name n p2] X.env)).any (·.1) = false := by rfl) :
    PE X (.Call (.Name "isinstance" p) [e, .Name n p2] [] pos) (tCB (rIsi X.K) (tCons te (tCons (tC (.ty T)) tNil))) :=
  pe_callB call_isi g m boot_isi (pa_cons he (pa_cons (pe_bltn g2 m2 hv rfl nn nd) pa_nil (by rfl)) h1) (by decide) (by decide) h1 h2
def isT (T U : String) : Bool := (kitB T U).getD false
theorem isi_at {K : PySem.W.Frag} {H : Hp} {v : V} {T : String} {b : Bool} {Q : VK} {i : Nat} {σ : L2.St} (U : String) (hi : σ[i]? = some (some v)) (ty : TyX K H v (.type T)) (k : kitB T U = some b) (q : Q (.bl b) H) :
    tCB (rIsi K) (tCons (tVar i) (tCons (tC (.ty U)) tNil)) σ H Q := ⟨v, hi, v, .ty U, .type T, .type U, b, rfl, .ty U, ty, kit_ty k, q⟩
theorem ok_integer {f : Addr} {fd : FuncData} {t : Tok} (F : Fun K "is_integer" "is_integer" dInteger f fd) (mi : mg "isinstance" = none) (mn : mg "int" = none) (mb : mg "bool" = none)
    (mB : mg "_BOUND" = some (.int (10 ^ 60) t)) : FnOk P w K mg base CX0 1 f fd ["value"] (spB fun _ => shortB) := by
  refine F.ok scInteger spB_len (fun cdv A outer s H vs Q E hr h => ?_)
  obtain ⟨v, J, rfl, hv, q⟩ := h
  refine ⟨_, pss_one (ps_ret (pe_and (pe_isi (by rfl) mi (pv 0) (by rfl) mn boot_int)
    (pe_and (pe_not (pe_isi (T := "bool") (by rfl) mi (pv 0) (by rfl) mb (by decide +kernel)))
      (pe_one (pe_chain op_lt op_lt (pe_un un_neg (pe_glob (v := .int (10 ^ 60)) (by rfl) mB ⟨_, rfl⟩)) (pv 0) (pe_glob (v := .int (10 ^ 60)) (by rfl) mB ⟨_, rfl⟩)))))), ?_⟩
  obtain ⟨T, ty, c⟩ := hv.ty (K := K)
  have fin : ∀ b, b = shortB v → Q (.bl b) H := fun b e => by
    rw [e]
    exact q H (Same.refl H)
  rcases c with ⟨⟨i, rfl⟩, rfl⟩ | ⟨⟨b, rfl⟩, rfl⟩ | ⟨rfl, rfl⟩ | ⟨⟨z, rfl, _⟩, rfl⟩ | ⟨⟨a, xs, rfl, _⟩, rfl⟩ | ⟨⟨a, xs, rfl, _⟩, rfl⟩ | ⟨⟨a, xs, rfl, _⟩, rfl⟩
  · refine isi_at "int" rfl ty (b := true) (by decide +kernel) ⟨true, rfl, iteT (isi_at "bool" rfl ty (b := false) (by decide +kernel) ⟨false, rfl, true, rfl, iteT ?_⟩)⟩
    refine ⟨10 ^ 60, rfl, .int i, rfl, _, _, rfl, rfl, _, rfl, ?_⟩
    by_cases h : -(10 ^ 60) < i
    · rw [decide_eq_true h]
      refine iteT ⟨_, _, rfl, rfl, fin _ ?_⟩
      show _ = (decide (-(10 ^ 60) < i) && _)
      rw [decide_eq_true h]
      rfl
    · rw [decide_eq_false h]
      refine iteF (fin _ ?_)
      show _ = (decide (-(10 ^ 60) < i) && _)
      rw [decide_eq_false h]
      rfl
  · exact isi_at "int" rfl ty (b := true) (by decide +kernel) ⟨true, rfl, iteT (isi_at "bool" rfl ty (b := true) (by decide +kernel) ⟨true, rfl, false, rfl, iteF (fin _ rfl)⟩)⟩
  · exact isi_at "int" rfl ty (b := false) (by decide +kernel) ⟨false, rfl, iteF (fin _ rfl)⟩
  · exact isi_at "int" rfl ty (b := false) (by decide +kernel) ⟨false, rfl, iteF (fin _ rfl)⟩
  · exact isi_at "int" rfl ty (b := false) (by decide +kernel) ⟨false, rfl, iteF (fin _ rfl)⟩
  · exact isi_at "int" rfl ty (b := false) (by decide +kernel) ⟨false, rfl, iteF (fin _ rfl)⟩
  · exact isi_at "int" rfl ty (b := false) (by decide +kernel) ⟨false, rfl, iteF (fin _ rfl)⟩
/-- is_value: an integer, 0 or 1 -/
theorem ok_value {f fI : Addr} {fd fdI : FuncData} (F : Fun K "is_value" "is_value" dValue f fd) (FI : FnOk P w K mg base CX0 1 fI fdI ["value"] (spB fun _ => shortB))
    (kI : PySem.W.keepIn K (.ref fI) = true) (bI : Binds K fdI ["value"] []) (gI : mg "is_integer" = some (.ref fI)) : FnOk P w K mg base CX0 2 f fd ["value"] (spB fun _ => bitB) := by
  refine F.ok scValue spB_len (fun cdv A outer s H vs Q E hr h => ?_)
  obtain ⟨v, J, rfl, hv, q⟩ := h
  refine ⟨_, pss_one (ps_ret (pe_and (pe_call FI hr (by rfl) gI kI bI .nil pass0 (pa_cons (pv 0) pa_nil))
    (pe_one (pe_chain op_le op_le pe_int (pv 0) pe_int)))), ?_⟩
  refine ⟨v, rfl, v, J, rfl, hv, fun H1 sm => ⟨_, rfl, ?_⟩⟩
  have fin : ∀ b, b = bitB v → Q (.bl b) H1 := fun b e => by
    rw [e]
    exact q H1 sm
  by_cases hs : shortB v = true
  · show if shortB v = true then _ else _
    rw [hs]
    refine iteT ?_
    cases v with
    | int i =>
      refine ⟨.int i, rfl, 0, i, rfl, rfl, _, rfl, ?_⟩
      have e : bitB (.int i) = (decide (0 ≤ i) && decide (i ≤ 1)) := by
        unfold bitB
        rw [Bool.eq_iff_iff]
        simp only [Bool.or_eq_true, Bool.and_eq_true, decide_eq_true_eq, V.int.injEq]
        omega
      by_cases h : 0 ≤ i
      · rw [decide_eq_true h]
        refine iteT ⟨_, _, rfl, rfl, fin _ ?_⟩
        rw [e, decide_eq_true h]
        rfl
      · rw [decide_eq_false h]
        refine iteF (fin _ ?_)
        rw [e, decide_eq_false h]
        rfl
    | _ => exact absurd (show false = true from hs) Bool.false_ne_true
  · have e : shortB v = false := Bool.eq_false_iff.mpr hs
    show if shortB v = true then _ else _
    rw [e]
    refine iteF (fin _ ?_)
    cases v with
    | int i =>
      symm
      have e2 : (decide (-(10 ^ 60) < i) && decide (i < 10 ^ 60)) = false := e
      unfold bitB
      rw [Bool.or_eq_false_iff]
      constructor
      · refine decide_eq_false fun z => ?_
        have z : i = 0 := V.int.inj z
        subst z
        exact absurd e2 (by decide)
      · refine decide_eq_false fun z => ?_
        have z : i = 1 := V.int.inj z
        subst z
        exact absurd e2 (by decide)
    | _ =>
      symm
      unfold bitB
      rw [Bool.or_eq_false_iff]
      exact ⟨decide_eq_false (fun z => (nomatch z)), decide_eq_false (fun z => (nomatch z))⟩
end
end Ow

set_option Elab.async false
set_option linter.all false
set_option maxRecDepth 100000
set_option maxHeartbeats 4000000
set_option exponentiation.threshold 3000
namespace Ow
open PySem PySem.Spec PyProof.Rows L2
theorem scName : FnScope ["value", "sign"] ["value"] (defScope dName) := ⟨rfl, rfl, rfl, by decide +kernel, rfl, by decide +kernel, by decide +kernel⟩
theorem scValues : FnScope ["value", "item"] ["value"] (defScope dValues) := ⟨rfl, rfl, rfl, by decide +kernel, rfl, by decide +kernel, by decide +kernel⟩
theorem boot_all : bootBuiltins "all" = some (.builtin "all") := by decide +kernel
theorem lt1 (c d : Nat) : decide (([c] : List Nat) < [d]) = decide (c < d) := by
  rw [Bool.eq_iff_iff]
  simp only [decide_eq_true_eq, List.cons_lt_cons_iff]
  constructor
  · intro h
    rcases h with h | ⟨_, h⟩
    · exact h
    · exact absurd h (List.not_lt_nil _)
  · exact .inl
theorem small60 {n : Nat} (h : n ≤ 5000) : n < sizeLine := Nat.lt_of_le_of_lt h (by decide)
section
variable {P : Program} {w : World} {K : PySem.W.Frag} {mg : Str → Option Value} {base : Heap}
theorem ok_name {f : Addr} {fd : FuncData} {t : Tok} (F : Fun K "is_name" "is_name" dName f fd) (mi : mg "isinstance" = none) (ms : mg "str" = none) (ml : mg "len" = none) (ma : mg "all" = none)
    (mM : mg "MAX_LETTERS" = some (.int 8 t)) : FnOk P w K mg base CX0 1 f fd ["value"] (spB fun _ => nameB) := by
  refine F.ok scName spB_len (fun cdv A outer s H vs Q E hr h => ?_)
  obtain ⟨v, J, rfl, hv, q⟩ := h
  refine ⟨_, pss_cons (ps_if (PW.pt (pw_or (pt_not (pt_val (pe_isi (T := "str") (by rfl) mi (pv 0) (by rfl) ms (by decide +kernel))))
      (pw_or1 (pt_not (pt_chain op_le op_le pe_int (pe_callB call_len_str (by rfl) ml PySem.boot_len (pa_cons (pv 0) pa_nil)) (pe_glob (v := .int 8) (by rfl) mM ⟨_, rfl⟩))))))
      (pss_one (ps_ret pe_bl)) pss_nil)
    (pss_one (ps_ret (pe_callB (cr_all rfl) (by rfl) ma boot_all (pa_cons
      (pe_lc (own := [("sign", 1)]) (g := gName 1) (tt := tYes) rfl scName.nd (pi_str (pv 0)) (blkOk_by (N := ["value", "sign"]) (sc := defScope dName) (by decide +kernel))
        (fun _ _ _ _ _ => pg_name (i := 1) scName.nd rfl (Or.inl rfl)) (fun _ _ _ _ _ => pts_nil)
        (fun _ _ _ _ _ => pe_chain op_le_str op_le_str pe_str (pv 1) pe_str)) pa_nil)))), ?_⟩
  obtain ⟨T, ty, c⟩ := hv.ty (K := K)
  have fin : ∀ b H', Same H H' → b = nameB v → Q (.bl b) H' := fun b H' sm e => by
    rw [e]
    exact q H' sm
  rcases c with ⟨⟨i, rfl⟩, rfl⟩ | ⟨⟨b, rfl⟩, rfl⟩ | ⟨rfl, rfl⟩ | ⟨⟨z, rfl, hz, hc⟩, rfl⟩ | ⟨⟨a, xs, rfl, _⟩, rfl⟩ | ⟨⟨a, xs, rfl, _⟩, rfl⟩ | ⟨⟨a, xs, rfl, _⟩, rfl⟩
  · exact isi_at "str" rfl ty (b := false) (by decide +kernel) ⟨false, rfl, iteT (iteT (fin _ _ (Same.refl H) rfl))⟩
  · exact isi_at "str" rfl ty (b := false) (by decide +kernel) ⟨false, rfl, iteT (iteT (fin _ _ (Same.refl H) rfl))⟩
  · exact isi_at "str" rfl ty (b := false) (by decide +kernel) ⟨false, rfl, iteT (iteT (fin _ _ (Same.refl H) rfl))⟩
  · refine isi_at "str" rfl ty (b := true) (by decide +kernel) ⟨true, rfl, iteF ?_⟩
    refine ⟨.str z, rfl, z, rfl, Nat.le_of_lt (small60 (by omega)), 1, _, rfl, rfl, _, rfl, ?_⟩
    by_cases h1 : (1 : Int) ≤ (z.length : Int)
    · rw [decide_eq_true h1]
      refine iteT ⟨_, _, rfl, rfl, _, rfl, ?_⟩
      by_cases h8 : (z.length : Int) ≤ 8
      · rw [decide_eq_true h8]
        refine iteF ?_
        have hsz : z.length = z.cps.toList.length := by rw [Array.length_toList]; rfl
        refine ⟨.str z, rfl, z, rfl, fun D nD => ?_⟩
        refine lc_signs (fun i Hx => Same H Hx ∧ Hx D = some (.lst (((z.cps.toList.take i).map signB).map V.bl))) ⟨same_new nD, upd_same⟩ (fun i c Hx hi hI => ?_) (fun Hx hI => ?_)
        · obtain ⟨sm, eD⟩ := hI
          have hi' : z.cps.toList[i]? = some c := by rw [Array.getElem?_toList]; exact hi
          refine ⟨rfl, ?_⟩
          have next : ∀ b, b = signB c → ∃ acc, Hx D = some (.lst acc) ∧ acc.length < sizeLine ∧
              (Same H (upd Hx D (.lst (acc ++ [V.bl b]))) ∧ (upd Hx D (.lst (acc ++ [V.bl b]))) D = some (.lst (((z.cps.toList.take (i + 1)).map signB).map V.bl))) := by
            intro b e
            refine ⟨_, eD, ?_, fun b o e => ?_, ?_⟩
            · rw [List.length_map, List.length_map]
              refine small60 (Nat.le_trans (List.length_take_le _ _) ?_)
              have hi2 := (List.getElem?_eq_some_iff.mp hi').1
              omega
            · rw [upd_ne (ne_of_none e nD)]
              exact sm _ _ e
            · rw [upd_same, List.take_add_one, hi', List.map_append, List.map_append, e]
              rfl
          refine ⟨.str ⟨#[c]⟩, rfl, _, _, rfl, rfl, _, rfl, ?_⟩
          show if (!decide (([c] : List Nat) < [97])) = true then _ else _
          rw [lt1]
          by_cases hl : c < 97
          · rw [decide_eq_true hl]
            refine iteF (next _ ?_)
            unfold signB
            rw [decide_eq_false (show ¬ 97 ≤ c by omega)]
            rfl
          · rw [decide_eq_false hl]
            refine iteT ⟨_, _, rfl, rfl, next _ ?_⟩
            show (!decide (([122] : List Nat) < [c])) = signB c
            rw [lt1]
            unfold signB
            rw [decide_eq_true (show 97 ≤ c by omega)]
            by_cases hh : 122 < c
            · rw [decide_eq_true hh, decide_eq_false (show ¬ c ≤ 122 by omega)]
              rfl
            · rw [decide_eq_false hh, decide_eq_true (show c ≤ 122 by omega)]
              rfl
        · obtain ⟨sm, eD⟩ := hI
          rw [List.take_of_length_le (by rw [Array.length_toList]; exact Nat.le_refl _)] at eD
          refine ⟨D, _, rfl, .of eD, fin _ _ sm ?_⟩
          show _ = ((decide (1 ≤ z.length) && decide (z.length ≤ 8)) && z.cps.toList.all signB)
          rw [decide_eq_true (show 1 ≤ z.length by omega), decide_eq_true (show z.length ≤ 8 by omega), List.all_map]
          rfl
      · rw [decide_eq_false h8]
        refine iteT (fin _ _ (Same.refl H) ?_)
        show _ = ((_ && decide (z.length ≤ 8)) && _)
        rw [decide_eq_false (show ¬ z.length ≤ 8 by omega), Bool.and_false, Bool.false_and]
    · rw [decide_eq_false h1]
      refine iteF ⟨_, rfl, iteT (fin _ _ (Same.refl H) ?_)⟩
      show _ = ((decide (1 ≤ z.length) && _) && _)
      rw [decide_eq_false (show ¬ 1 ≤ z.length by omega), Bool.false_and, Bool.false_and]
  · exact isi_at "str" rfl ty (b := false) (by decide +kernel) ⟨false, rfl, iteT (iteT (fin _ _ (Same.refl H) rfl))⟩
  · exact isi_at "str" rfl ty (b := false) (by decide +kernel) ⟨false, rfl, iteT (iteT (fin _ _ (Same.refl H) rfl))⟩
  · exact isi_at "str" rfl ty (b := false) (by decide +kernel) ⟨false, rfl, iteT (iteT (fin _ _ (Same.refl H) rfl))⟩
end
end Ow

set_option Elab.async false
set_option linter.all false
set_option maxRecDepth 100000
set_option maxHeartbeats 4000000
set_option exponentiation.threshold 3000
namespace Ow
open PySem PySem.Spec PyProof.Rows L2
section
variable {P : Program} {w : World} {K : PySem.W.Frag} {mg : Str → Option Value} {base : Heap}
theorem boot_tup : bootBuiltins "tuple" = some (.type "tuple") := by decide +kernel
theorem ok_values {f fV : Addr} {fd fdV : FuncData} (F : Fun K "is_values" "is_values" dValues f fd) (FV : FnOk P w K mg base CX0 2 fV fdV ["value"] (spB fun _ => bitB))
    (kV : PySem.W.keepIn K (.ref fV) = true) (bV : Binds K fdV ["value"] []) (gV : mg "is_value" = some (.ref fV))
    (mi : mg "isinstance" = none) (mt : mg "tuple" = none) (ma : mg "all" = none) : FnOk P w K mg base CX0 3 f fd ["value"] (spB rowB) := by
  refine F.ok scValues spB_len (fun cdv A outer s H vs Q E hr h => ?_)
  obtain ⟨v, J, rfl, hv, q⟩ := h
  refine ⟨_, pss_one (ps_ret (pe_and (pe_isi (T := "tuple") (by rfl) mi (pv 0) (by rfl) mt boot_tup)
    (pe_one (pe_callB (cr_all rfl) (by rfl) ma boot_all (pa_cons
      (pe_lc (own := [("item", 1)]) (g := gName 1) (tt := tYes) rfl scValues.nd (pi_tup (pv 0)) (blkOk_by (N := ["value", "item"]) (sc := defScope dValues) (by decide +kernel))
        (fun _ _ _ _ _ => pg_name (i := 1) scValues.nd rfl (Or.inl rfl)) (fun _ _ _ _ _ => pts_nil)
        (fun _ _ _ _ _ => pe_call FV hr (by rfl) gV kV bV .nil pass0 (pa_cons (pv 1) pa_nil))) pa_nil))))), ?_⟩
  obtain ⟨T, ty, c⟩ := hv.ty (K := K)
  have fin : ∀ b H', Same H H' → b = rowB H v → Q (.bl b) H' := fun b H' sm e => by
    rw [e]
    exact q H' sm
  rcases c with ⟨⟨i, rfl⟩, rfl⟩ | ⟨⟨b, rfl⟩, rfl⟩ | ⟨rfl, rfl⟩ | ⟨⟨z, rfl, hz, hc⟩, rfl⟩ | ⟨⟨a, xs, rfl, ha, hl, hi⟩, rfl⟩ | ⟨⟨a, xs, rfl, ha⟩, rfl⟩ | ⟨⟨a, xs, rfl, ha⟩, rfl⟩
  · exact isi_at "tuple" rfl ty (b := false) (by decide +kernel) ⟨false, rfl, iteF (fin _ _ (Same.refl H) rfl)⟩
  · exact isi_at "tuple" rfl ty (b := false) (by decide +kernel) ⟨false, rfl, iteF (fin _ _ (Same.refl H) rfl)⟩
  · exact isi_at "tuple" rfl ty (b := false) (by decide +kernel) ⟨false, rfl, iteF (fin _ _ (Same.refl H) rfl)⟩
  · exact isi_at "tuple" rfl ty (b := false) (by decide +kernel) ⟨false, rfl, iteF (fin _ _ (Same.refl H) rfl)⟩
  · refine isi_at "tuple" rfl ty (b := true) (by decide +kernel) ⟨true, rfl, iteT ?_⟩
    refine ⟨.ref a, rfl, a, rfl, ⟨xs, .of ha⟩, fun D nD => ?_⟩
    refine lc_tup (K := K) (a := a) (xs := xs) (fun i Hx => Same H Hx ∧ Hx D = some (.lst (((xs.take i).map bitB).map V.bl))) ⟨same_new nD, upd_same⟩
      (fun i Hx _ hI => .of (hI.1 _ _ ha)) (fun i x Hx hx hI => ?_) (fun Hx hI => ?_)
    · obtain ⟨sm, eD⟩ := hI
      refine ⟨rfl, ?_⟩
      have iv : Vl J Hx x := (hi x (List.mem_of_getElem? hx)).vl.mono (.same sm)
      refine ⟨x, rfl, x, J, rfl, iv, fun H2 sm2 => ⟨_, sm2 _ _ eD, ?_, fun b o e => ?_, ?_⟩⟩
      · rw [List.length_map, List.length_map]
        exact small60 (Nat.le_trans (List.length_take_le _ _) (by have hi2 := (List.getElem?_eq_some_iff.mp hx).1; omega))
      · rw [upd_ne (ne_of_none e nD)]
        exact sm2 _ _ (sm _ _ e)
      · rw [upd_same, List.take_add_one, hx, List.map_append, List.map_append]
        rfl
    · obtain ⟨sm, eD⟩ := hI
      rw [List.take_of_length_le (Nat.le_refl _)] at eD
      refine ⟨D, _, rfl, .of eD, fin _ _ sm ?_⟩
      unfold rowB
      simp only [ha]
      rw [List.all_map]
      rfl
  · exact isi_at "tuple" rfl ty (b := false) (by decide +kernel) ⟨false, rfl, iteF (fin _ _ (Same.refl H) (by unfold rowB; simp only [ha]))⟩
  · exact isi_at "tuple" rfl ty (b := false) (by decide +kernel) ⟨false, rfl, iteF (fin _ _ (Same.refl H) (by unfold rowB; simp only [ha]))⟩
end
end Ow

set_option Elab.async false
set_option linter.all false
set_option maxRecDepth 100000
set_option maxHeartbeats 4000000
set_option exponentiation.threshold 3000
namespace Ow
open PySem PySem.Spec PyProof.Rows L2
/-- a weaker reading of an expression -/
theorem PE.of {X : Cx} {e : Expr} {t t' : TE} (h : PE X e t) (k : ∀ σ H Q, t' σ H Q → t σ H Q) : PE X e t' :=
  ⟨fun pins s σ H Q I q => h.run pins s σ H Q I (k σ H Q q)⟩
/-- the jug: a list of three ints -/
def Jug (H : Hp) (J : Addr) : Prop := ∃ a b c : Int, H J = some (.lst [.int a, .int b, .int c])
theorem scJug : FnScope ["script", "at", "cell", "great", "mixed"] ["script", "at"] (defScope dJug) := ⟨rfl, rfl, rfl, by decide +kernel, rfl, by decide +kernel, by decide +kernel⟩
theorem scDip : FnScope ["jug", "total", "found", "one", "two"] ["jug", "total"] (defScope dDip) := ⟨rfl, rfl, rfl, by decide +kernel, rfl, by decide +kernel, by decide +kernel⟩
theorem scChoice : FnScope ["jug", "items"] ["jug", "items"] (defScope dChoice) := ⟨rfl, rfl, rfl, by decide +kernel, rfl, by decide +kernel, by decide +kernel⟩
theorem mulB {a m j : Int} (h0 : 0 < m) (h1 : m < 2 ^ 64) : CMul (a % m) j := by
  have l := Int.emod_nonneg a (show m ≠ 0 by omega)
  have u := Int.emod_lt_of_pos a h0
  exact .inl ⟨by omega, by omega⟩
section
variable {P : Program} {w : World} {K : PySem.W.Frag} {mg : Str → Option Value} {base : Heap}
def spDip : Sp := fun vs H Q _ => ∃ (J : Addr) (n : Int), vs = [.ref J, .int n] ∧ 0 < n ∧ n.natAbs < 2 ^ 200 ∧ Jug H J ∧
  ∀ H' k, Sb J H H' → Jug H' J → 0 ≤ k → k < n → Q (.int k) H'
theorem ok_dip {f : Addr} {fd : FuncData} (F : Fun K "_law_dip" "_law_dip" dDip f fd) (mi : mg "int" = none) : FnOk P w K mg base CX0 1 f fd ["jug", "total"] spDip := by
  refine F.ok scDip (fun vs H Q E h => ?_) (fun cdv A outer s H vs Q E hr h => ?_)
  · obtain ⟨J, n, rfl, _⟩ := h
    rfl
  obtain ⟨J, n, rfl, n0, nz, ⟨x, y, z, hJ⟩, q⟩ := h
  refine ⟨_, pss_cons (ps_if (pt_cmpR op_gt (pe_ix ix_list (pv 0) pe_int (fun _ _ => rfl)) pe_int (nomark _))
      (pss_cons (ps_set (i := 2) scDip.nd rfl (.inl rfl) (pe_op op_mod (pe_callTy call_int1 (by rfl) mi boot_int (pa_cons (pe_ix ix_list (pv 0) pe_int (fun _ _ => rfl)) pa_nil)) (pv 1)))
      (pss_cons (ps_asg (pe_op op_fdivW (pe_ix ix_list (pv 0) pe_int (fun _ _ => rfl)) (pv 1)) (pg_sub (pv 0) pe_int set_list))
      (pss_one (ps_ret (pv 2))))) pss_nil)
    (pss_cons (ps_asg (pe_op op_add (pe_ix ix_list (pv 0) pe_int (fun _ _ => rfl)) pe_int) (pg_sub (pv 0) pe_int set_list))
    (pss_cons (ps_set (i := 3) scDip.nd rfl (.inl rfl) (pe_op op_mod (pe_callTy call_int1 (by rfl) mi boot_int (pa_cons
        (pe_op op_add (pe_ix ix_list (pv 0) pe_int (fun _ _ => rfl)) (pe_op op_mul pe_int (pe_ix ix_list (pv 0) pe_int (fun _ _ => rfl)))) pa_nil)) pe_int))
    (pss_cons (ps_set (i := 4) scDip.nd rfl (.inl rfl) (pe_op op_add (pe_op op_mul (pe_op op_mod (pe_callTy call_int1 (by rfl) mi boot_int (pa_cons (pe_op op_mul (pv 3) (pv 3)) pa_nil)) pe_int) (pv 3))
        (pe_op op_mul pe_int (pe_ix ix_list (pv 0) pe_int (fun _ _ => rfl)))))
    (pss_one (ps_ret (pe_op op_mod (pe_callTy call_int1 (by rfl) mi boot_int (pa_cons (pe_op op_fdiv (pe_op op_mod (pe_callTy call_int1 (by rfl) mi boot_int (pa_cons (pv 4) pa_nil)) pe_int) pe_int) pa_nil)) (pv 1))))))), ?_⟩
  have hd : CDivW x n := wide_div (b := 200) n0 nz (by decide) (by decide)
  refine ⟨.ref J, rfl, J, _, 0, .int x, rfl, rfl, .of hJ, atI_nat (j := 0) rfl, x, 0, rfl, rfl, _, rfl, ite2 (fun _ => ?_) (fun _ => ?_)⟩
  · refine ⟨.ref J, rfl, J, _, 0, .int x, rfl, rfl, .of hJ, atI_nat (j := 0) rfl, .inl ⟨x, rfl, .int n, rfl, x, n, rfl, rfl, n0, ?_⟩⟩
    refine ⟨.ref J, rfl, J, _, 0, .int x, rfl, rfl, .of hJ, atI_nat (j := 0) rfl, .int n, rfl, x, n, rfl, rfl, hd, ?_⟩
    refine ⟨.ref J, rfl, J, _, 0, 0, rfl, rfl, hJ, rfl, ?_⟩
    exact ⟨_, rfl, q _ _ Sb.at ⟨_, _, _, upd_same⟩ (Int.emod_nonneg _ (by omega)) (Int.emod_lt_of_pos _ n0)⟩
  · refine ⟨.ref J, rfl, J, _, 2, .int z, rfl, rfl, .of hJ, atI_nat (j := 2) rfl, z, 1, rfl, rfl, ?_⟩
    refine ⟨.ref J, rfl, J, _, 2, 2, rfl, rfl, hJ, rfl, ?_⟩
    have h2 : upd H J (.lst ([V.int x, .int y, .int z].set 2 (.int (z + 1)))) J = some (.lst [.int x, .int y, .int (z + 1)]) := upd_same
    refine ⟨.ref J, rfl, J, _, 1, .int y, rfl, rfl, .of h2, atI_nat (j := 1) rfl, .ref J, rfl, J, _, 2, .int (z + 1), rfl, rfl, .of h2, atI_nat (j := 2) rfl, ?_⟩
    refine ⟨1000429, z + 1, rfl, rfl, .inl ⟨by decide, by decide⟩, y, _, rfl, rfl, .inl ⟨_, rfl, _, _, rfl, rfl, (by show (0 : Int) < _; decide), ?_⟩⟩
    refine ⟨_, rfl, _, rfl, _, _, rfl, rfl, mulB (by decide) (by decide), .inl ⟨_, rfl, _, _, rfl, rfl, (by show (0 : Int) < _; decide), ?_⟩⟩
    refine ⟨_, rfl, _, _, rfl, rfl, mulB (by decide) (by decide), .ref J, rfl, J, _, 2, .int (z + 1), rfl, rfl, .of h2, atI_nat (j := 2) rfl, ?_⟩
    refine ⟨9109, z + 1, rfl, rfl, .inl ⟨by decide, by decide⟩, _, _, rfl, rfl, ?_⟩
    refine ⟨_, rfl, .inl ⟨_, rfl, _, _, rfl, rfl, (by show (0 : Int) < _; decide), _, 16384, rfl, rfl, ⟨by decide, by decide⟩, .inl ⟨_, rfl, .int n, rfl, _, n, rfl, rfl, n0, ?_⟩⟩⟩
    exact q _ _ Sb.at ⟨_, _, _, h2⟩ (Int.emod_nonneg _ (by omega)) (Int.emod_lt_of_pos _ n0)
/-- a jug: three ints, new -/
def spJug (K : PySem.W.Frag) : Sp := fun vs H Q _ => ∃ (a : Addr) (ns : List Int) (i : Nat), vs = [.ref a, .int i] ∧ SqL K H a (ns.map V.int) ∧
  ∀ H' p, Same H H' → H p = none → Jug H' p → Q (.ref p) H'
def tCellAt (K : PySem.W.Frag) : TE := fun σ H Q => ∃ (a : Addr) (ns : List Int) (i : Nat), σ[0]? = some (some (.ref a)) ∧ σ[1]? = some (some (.int i)) ∧
  SqL K H a (ns.map V.int) ∧ ∀ c : Int, Q (.int c) H
def tSomeOf (j : Nat) : TE := fun σ H Q => ∃ c : Int, σ[j]? = some (some (.int c)) ∧ ∀ g : Int, Q (.int g) H
theorem ok_jug {f : Addr} {fd : FuncData} (F : Fun K "_law_jug" "_law_jug" dJug f fd) (mi : mg "int" = none) (ml : mg "len" = none) (ma : mg "abs" = none) (mm : mg "max" = none) :
    FnOk P w K mg base CX0 1 f fd ["script", "at"] (spJug K) := by
  refine F.ok scJug (fun vs H Q E h => ?_) (fun cdv A outer s H vs Q E hr h => ?_)
  · obtain ⟨a, ns, i, rfl, _⟩ := h
    rfl
  obtain ⟨a, ns, i, rfl, hS, q⟩ := h
  refine ⟨_, pss_cons (ps_set (i := 2) scJug.nd rfl (.inl rfl) (PE.of (t' := tCellAt K) (pe_ifExp (pt_cmpR op_lt (pv 1) (pe_callB call_len_seq (by rfl) ml PySem.boot_len (pa_cons (pv 0) pa_nil)) (nomark _))
        (pe_ix ix_list (pv 0) (pv 1) (fun _ _ => rfl)) (pe_op op_add (pe_op op_mul pe_int (pv 1)) pe_int)) ?c1))
    (pss_cons (ps_set (i := 3) scJug.nd rfl (.inl rfl) (PE.of (t' := tSomeOf 2) (pe_op op_mod (pe_callTy call_int1 (by rfl) mi boot_int (pa_cons (pe_callB call_abs (by rfl) ma boot_abs (pa_cons (pv 2) pa_nil)) pa_nil))
        (pe_op op_powB (pe_op op_powB pe_int pe_int) pe_int)) ?c2))
    (pss_cons (ps_set (i := 4) scJug.nd rfl (.inl rfl) (pe_op op_add (pe_op op_add (pe_op op_add (pe_op op_mul (pe_op op_mod (pe_callTy call_int1 (by rfl) mi boot_int (pa_cons (pv 3) pa_nil)) pe_int) pe_int)
        (pe_op op_mul pe_int (pv 1))) (pe_op op_mul pe_int (pe_callTy call_int1 (by rfl) mi boot_int (pa_cons (pe_cmpR op_lt (pv 2) pe_int (nomark _)) pa_nil)))) pe_int))
    (pss_one (ps_ret (pe_lst (pa_cons (pe_callB (call_max2 rfl) (by rfl) mm boot_max (pa_cons pe_int (pa_cons (pe_op op_sub (pv 3) (pe_op op_powB pe_int pe_int)) pa_nil)))
      (pa_cons (pe_op op_mod (pe_callTy call_int1 (by rfl) mi boot_int (pa_cons (pv 4) pa_nil)) pe_int) (pa_cons pe_int pa_nil)))))))), ?r⟩
  case c1 =>
    intro σ H Q h
    obtain ⟨a, ns, i, h0, h1, hS, q⟩ := h
    refine ⟨.int i, h1, .ref a, h0, a, _, rfl, .inl hS, _, _, rfl, rfl, _, rfl, ite2 (fun e => ?_) (fun _ => ?_)⟩
    · have e1 : (i : Int) < ((ns.map V.int).length : Nat) := of_decide_eq_true e
      rw [List.length_map] at e1
      have hi : i < ns.length := by omega
      refine ⟨.ref a, h0, .int i, h1, a, _, i, .int ns[i], rfl, rfl, hS, atI_nat (j := i) ?_, q _⟩
      rw [List.getElem?_map, List.getElem?_eq_getElem hi]
      rfl
    · exact ⟨.int i, h1, 71, i, rfl, rfl, .inl ⟨by decide, by decide⟩, _, 41, rfl, rfl, q _⟩
  case c2 =>
    intro σ H Q h
    obtain ⟨c, h2, q⟩ := h
    refine ⟨.int c, h2, c, rfl, .inl ⟨_, rfl, 10, 43, rfl, rfl, ⟨by decide, by decide +kernel⟩, _, 14, rfl, rfl, ⟨by decide, by decide +kernel⟩, _, _, rfl, rfl, (by show (0 : Int) < _; decide +kernel), q _⟩⟩
  refine ⟨a, ns, i, rfl, rfl, hS, fun c => ⟨c, rfl, fun g => ?_⟩⟩
  refine ⟨.int g, rfl, .inl ⟨_, rfl, g, 2147483179, rfl, rfl, (by show (0 : Int) < _; decide), _, 97303, rfl, rfl, .inr ⟨by decide, by decide⟩, .int i, rfl, 8147, i, rfl, rfl, .inl ⟨by decide, by decide⟩, _, _, rfl, rfl, ?_⟩⟩
  refine ⟨.int c, rfl, c, 0, rfl, rfl, .inr ⟨_, rfl, 53, _, rfl, rfl, .inl ⟨by decide, by decide⟩, _, _, rfl, rfl, _, 79, rfl, rfl, ?_⟩⟩
  refine ⟨.int g, rfl, 10, 18, rfl, rfl, ⟨by decide, by decide +kernel⟩, g, _, rfl, rfl, 0, _, rfl, ?_⟩
  refine ⟨_, rfl, .inl ⟨_, rfl, _, 2305843009213693907, rfl, rfl, (by show (0 : Int) < _; decide), (by show 3 ≤ sizeLine; decide), fun p np => ?_⟩⟩
  exact q _ p (same_new np) np ⟨_, _, _, upd_same⟩
/-- one of some items -/
def spChoice : Sp := fun vs H Q _ => ∃ (J L : Addr) (xs : List V), vs = [.ref J, .ref L] ∧ L ≠ J ∧ H L = some (.lst xs) ∧ xs ≠ [] ∧ xs.length ≤ 1000 ∧ Jug H J ∧
  ∀ H' x, Sb J H H' → Jug H' J → x ∈ xs → Q x H'
theorem ok_choice {f fD : Addr} {fd fdD : FuncData} (F : Fun K "_law_choice" "_law_choice" dChoice f fd) (FD : FnOk P w K mg base CX0 1 fD fdD ["jug", "total"] spDip)
    (kD : PySem.W.keepIn K (.ref fD) = true) (bD : Binds K fdD ["jug", "total"] []) (gD : mg "_law_dip" = some (.ref fD)) (ml : mg "len" = none) : FnOk P w K mg base CX0 2 f fd ["jug", "items"] spChoice := by
  refine F.ok scChoice (fun vs H Q E h => ?_) (fun cdv A outer s H vs Q E hr h => ?_)
  · obtain ⟨J, L, xs, rfl, _⟩ := h
    rfl
  obtain ⟨J, L, xs, rfl, nJ, hL, ne, le, hJ, q⟩ := h
  refine ⟨_, pss_one (ps_ret (pe_ix ix_list (pv 1) (pe_call FD hr (by rfl) gD kD bD .nil pass0 (pa_cons (pv 0) (pa_cons (pe_callB call_len_seq (by rfl) ml PySem.boot_len (pa_cons (pv 1) pa_nil)) pa_nil))) (fun _ _ => rfl))), ?_⟩
  have pos : 0 < xs.length := List.length_pos_iff.mpr ne
  refine ⟨.ref L, rfl, .ref J, rfl, .ref L, rfl, L, xs, rfl, .inl (.of hL), J, xs.length, rfl, by omega, by omega, hJ, fun H' k sb hJ' k0 kn => ?_⟩
  have hk : k.toNat < xs.length := by omega
  refine ⟨L, xs, k, xs[k.toNat], rfl, rfl, .of (sb _ _ nJ hL), ?_, q _ _ sb hJ' (List.getElem_mem hk)⟩
  exact at_of (show k = (k.toNat : Int) by omega) (List.getElem?_eq_getElem hk)
end
end Ow

set_option Elab.async false
set_option linter.all false
set_option maxRecDepth 100000
set_option maxHeartbeats 4000000
set_option exponentiation.threshold 3000
namespace Ow
open PySem PySem.Spec PyProof.Rows L2
/-! ### heaps that grow, but for the places M, where jugs stand -/
def Gw (M : Addr → Prop) (H H' : Hp) : Prop := ∀ b o, ¬ M b → H b = some o → H' b = some o
def Jg (M : Addr → Prop) (H : Hp) : Prop := ∀ b, M b → Jug H b
def No : Addr → Prop := fun _ => False
def At (J : Addr) : Addr → Prop := fun b => b = J
section
variable {M : Addr → Prop} {H H' H'' : Hp} {J p a : Addr} {o : HO} {xs : List V}
theorem Gw.refl (H : Hp) : Gw M H H := fun _ _ _ e => e
theorem Gw.trans (a : Gw M H H') (b : Gw M H' H'') : Gw M H H'' := fun c o n e => b c o n (a c o n e)
theorem Gw.same (s : Same H H') : Gw M H H' := fun c o _ e => s c o e
theorem Gw.toSame (s : Gw No H H') : Same H H' := fun c o e => s c o (fun z => z) e
theorem Gw.sb (s : Gw (At J) H H') : Sb J H H' := fun c o n e => s c o n e
theorem Sb.gw (s : Sb J H H') : Gw (At J) H H' := fun c o n e => s c o n e
theorem Gw.new (h : H p = none) : Gw M H (upd H p o) := .same (same_new h)
theorem Gw.newer (g : Gw M H H') (n : H p = none) : Gw M H (upd H' p o) := fun b x m e => by
  rw [upd_ne (ne_of_none e n)]
  exact g b x m e
theorem jug_same (s : Same H H') (j : Jug H J) : Jug H' J := by
  obtain ⟨a, b, c, e⟩ := j
  exact ⟨a, b, c, s _ _ e⟩
theorem jug_keep (j : Jug H J) (n : p ≠ J) : Jug (upd H p o) J := by
  obtain ⟨a, b, c, e⟩ := j
  exact ⟨a, b, c, by rw [upd_ne n.symm]; exact e⟩
theorem jug_none (j : Jug H J) (n : H p = none) : p ≠ J := fun z => by
  obtain ⟨a, b, c, e⟩ := j
  rw [z, e] at n
  cases n
theorem jug_tup (j : Jug H J) (n : H p = some (.tup xs)) : p ≠ J := fun z => by
  obtain ⟨a, b, c, e⟩ := j
  rw [z, e] at n
  cases n
theorem Jg.no : Jg No H := fun _ z => z.elim
theorem Jg.at_ (j : Jug H J) : Jg (At J) H := fun b z => by
  have z : b = J := z
  rw [z]
  exact j
theorem Jg.jug (j : Jg (At J) H) : Jug H J := j J rfl
theorem Jg.same (j : Jg M H) (s : Same H H') : Jg M H' := fun b m => jug_same s (j b m)
theorem Jg.keep (j : Jg M H) (n : ¬ M p) : Jg M (upd H p o) := fun b m => jug_keep (j b m) fun z => n (by rw [z]; exact m)
theorem Jg.free (j : Jg M H) (n : H p = none) : ¬ M p := fun m => jug_none (j p m) n rfl
theorem Jg.new (j : Jg M H) (n : H p = none) : Jg M (upd H p o) := j.keep (j.free n)
theorem Jg.tup (j : Jg M H) (n : H p = some (.tup xs)) : ¬ M p := fun m => jug_tup (j p m) n rfl
theorem Gw.tup (g : Gw M H H') (j : Jg M H) (h : H a = some (.tup xs)) : H' a = some (.tup xs) := g a _ (j.tup h) h
end
/-! all but lists stay -/
def Tk (H H' : Hp) : Prop := ∀ b o, (∀ xs, o ≠ .lst xs) → H b = some o → H' b = some o
theorem Tk.refl (H : Hp) : Tk H H := fun _ _ _ e => e
theorem Tk.trans {H H' H'' : Hp} (a : Tk H H') (b : Tk H' H'') : Tk H H'' := fun c o n e => b c o n (a c o n e)
theorem Gw.tk {M : Addr → Prop} {H H' : Hp} (g : Gw M H H') (j : Jg M H) : Tk H H' := fun b o n e => g b o (fun m => by
  obtain ⟨x, y, z, q⟩ := j b m
  rw [e] at q
  exact n _ (Option.some.inj q)) e
theorem Tk.same {H H' : Hp} (s : Same H H') : Tk H H' := fun b o _ e => s b o e
theorem Tk.lst {H : Hp} {a : Addr} {xs ys : List V} (h : H a = some (.lst xs)) : Tk H (upd H a (.lst ys)) := fun b o n e => by
  rw [upd_ne (fun z => by rw [z, h] at e; exact n _ (Option.some.inj e).symm)]
  exact e
theorem Tk.new {H : Hp} {p : Addr} {o : HO} (h : H p = none) : Tk H (upd H p o) := .same (same_new h)
theorem Tk.tup {H H' : Hp} {a : Addr} {xs : List V} (t : Tk H H') (h : H a = some (.tup xs)) : H' a = some (.tup xs) := t a _ (fun _ z => nomatch z) h
/-! ### two lists, item by item -/
inductive All2 {α β : Type} (R : α → β → Prop) : List α → List β → Prop
  | nil : All2 R [] []
  | cons {x : α} {y : β} {xs : List α} {ys : List β} : R x y → All2 R xs ys → All2 R (x :: xs) (y :: ys)
section
variable {α β : Type} {R S : α → β → Prop} {xs : List α} {ys : List β}
theorem All2.len (h : All2 R xs ys) : xs.length = ys.length := by
  induction h with
  | nil => rfl
  | cons _ _ ih => rw [List.length_cons, List.length_cons, ih]
theorem All2.imp (k : ∀ x y, R x y → S x y) (h : All2 R xs ys) : All2 S xs ys := by
  induction h with
  | nil => exact .nil
  | cons r _ ih => exact .cons (k _ _ r) ih
theorem All2.get (h : All2 R xs ys) : ∀ {i : Nat} {x : α}, xs[i]? = some x → ∃ y, ys[i]? = some y ∧ R x y := by
  induction h with
  | nil => intro i x e; simp at e
  | cons r _ ih =>
    intro i x e
    cases i with
    | zero => simp at e; subst e; exact ⟨_, rfl, r⟩
    | succ i => exact ih (by simpa using e)
theorem All2.get' (h : All2 R xs ys) : ∀ {i : Nat} {y : β}, ys[i]? = some y → ∃ x, xs[i]? = some x ∧ R x y := by
  induction h with
  | nil => intro i x e; simp at e
  | cons r _ ih =>
    intro i x e
    cases i with
    | zero => simp at e; subst e; exact ⟨_, rfl, r⟩
    | succ i => exact ih (by simpa using e)
theorem All2.app {xs' : List α} {ys' : List β} (h : All2 R xs ys) (g : All2 R xs' ys') : All2 R (xs ++ xs') (ys ++ ys') := by
  induction h with
  | nil => exact g
  | cons r _ ih => exact .cons r ih
theorem All2.mem (h : All2 R xs ys) {x : α} (m : x ∈ xs) : ∃ y, y ∈ ys ∧ R x y := by
  obtain ⟨i, hi⟩ := List.mem_iff_getElem?.mp m
  obtain ⟨y, hy, r⟩ := h.get hi
  exact ⟨y, List.mem_of_getElem? hy, r⟩
theorem All2.of_get : ∀ {xs : List α} {ys : List β}, xs.length = ys.length → (∀ (i : Nat) x y, xs[i]? = some x → ys[i]? = some y → R x y) → All2 R xs ys
  | [], [], _, _ => .nil
  | x :: xs, y :: ys, e, h => .cons (h 0 x y rfl rfl) (All2.of_get (by simpa using e) fun i x y hx hy => h (i + 1) x y (by simpa using hx) (by simpa using hy))
  | [], _ :: _, e, _ => nomatch e
  | _ :: _, [], e, _ => nomatch e
theorem All2.map {γ : Type} (f : γ → β) {zs : List γ} (h : ∀ (i : Nat) x z, xs[i]? = some x → zs[i]? = some z → R x (f z)) (e : xs.length = zs.length) : All2 R xs (zs.map f) := by
  refine .of_get (by rw [List.length_map]; exact e) fun i x y hx hy => ?_
  rw [List.getElem?_map] at hy
  cases hz : zs[i]? with
  | none => rw [hz] at hy; cases hy
  | some z =>
    rw [hz] at hy
    cases hy
    exact h i x z hx hz
end
/-! ### tuples of ints, and lists and tuples of them -/
def IsRow (H : Hp) (v : V) (ns : List Int) : Prop := ∃ a, v = .ref a ∧ H a = some (.tup (ns.map V.int))
def IsRows (H : Hp) (v : V) (rs : List (List Int)) : Prop := ∃ a xs, v = .ref a ∧ H a = some (.tup xs) ∧ All2 (IsRow H) xs rs
section
variable {H H' : Hp} {v : V} {ns : List Int} {rs : List (List Int)} {xs : List V}
theorem IsRow.tk (t : Tk H H') (h : IsRow H v ns) : IsRow H' v ns := by
  obtain ⟨a, e, q⟩ := h
  exact ⟨a, e, t.tup q⟩
theorem all_tk (t : Tk H H') (h : All2 (IsRow H) xs rs) : All2 (IsRow H') xs rs := h.imp fun _ _ q => q.tk t
theorem IsRows.tk (t : Tk H H') (h : IsRows H v rs) : IsRows H' v rs := by
  obtain ⟨a, xs, e, q, r⟩ := h
  exact ⟨a, xs, e, t.tup q, all_tk t r⟩
theorem IsRow.new {p : Addr} : IsRow (upd H p (.tup (ns.map V.int))) (.ref p) ns := ⟨p, rfl, upd_same⟩
end
/-! ### comprehensions -/
section
variable {J : It} {n : Nat} {G : Hp → Prop} {Y : Nat → Hp → V → Hp → Prop}
/-- every element by itself: what is known of it stays whatever lists do -/
theorem lc_map {M : Addr → Prop} (w : Walk J n G Y) (hn : n ≤ 5000) {g : TG} {te : TE} {vs : List Nat} {σ : L2.St} {H1 : Hp} {D : Addr} {Qd : Hp → Prop} (hJ : Jg M H1) (nD : H1 D = none) (P : Nat → Hp → V → Prop)
    (hP : ∀ i H H' v, Tk H H' → P i H v → P i H' v) (hG : ∀ H, Gw M H1 H → Jg M H → G H)
    (hs : ∀ i x H H' (K : VK), i < n → Gw M H1 H → Jg M H → Y i H x H' → (∀ y H4, Gw M H H4 → Jg M H4 → P i H4 y → K y H4) →
      g x (wipe σ vs) H' fun σ2 H2 => wipe σ2 vs = wipe σ vs ∧ te σ2 H2 K)
    (hd : ∀ H ys, Gw M H1 H → Jg M H → H D = some (.lst ys) → ys.length = n → (∀ i y, ys[i]? = some y → P i H y) → Qd H) :
    ∃ W : Nat → Nat → Hp → Prop, (∃ m, W 0 m (upd H1 D (.lst []))) ∧ ∀ i m H, W i m H →
      (J.stop i H ∧ Qd H) ∨ (J.go i H ∧ ∃ Nx : Hp → Prop, (∀ H', Nx H' → ∃ m', m' < m ∧ W (i + 1) m' H') ∧ ∀ x H', J.yld i H x H' → g x (wipe σ vs) H' fun σ2 H2 => wipe σ2 vs = wipe σ vs ∧ tYes σ2 H2 fun b H3 =>
        if b = true then te σ2 H3 fun y H4 => ∃ acc, H4 D = some (.lst acc) ∧ acc.length < sizeLine ∧ Nx (upd H4 D (.lst (acc ++ [y]))) else Nx H3) := by
  have nM : ¬ M D := hJ.free nD
  refine lc_it w (fun i H => Gw M H1 H ∧ Jg M H ∧ ∃ ys, H D = some (.lst ys) ∧ ys.length = i ∧ ∀ j y, ys[j]? = some y → P j H y)
    ⟨Gw.new nD, hJ.new nD, [], upd_same, rfl, fun j y e => by simp at e⟩ (fun i H _ h => hG H h.1 h.2.1) (fun i x H H' hi h y => ?_) (fun H h => ?_)
  · obtain ⟨g1, j1, ys, eD, hl, hp⟩ := h
    refine hs i x H H' (fun y H4 => ∃ acc, H4 D = some (.lst acc) ∧ acc.length < sizeLine ∧ (fun H => Gw M H1 H ∧ Jg M H ∧ ∃ ys, H D = some (.lst ys) ∧ ys.length = i + 1 ∧ ∀ j y, ys[j]? = some y → P j H y) (upd H4 D (.lst (acc ++ [y])))) hi g1 j1 y fun y2 H4 g4 j4 p4 => ?_
    have e4 : H4 D = some (.lst ys) := g4 D _ nM eD
    have t4 : Tk H H4 := g4.tk j1
    refine ⟨ys, e4, small60 (by omega), ?_, ?_, ys ++ [y2], upd_same, by rw [List.length_append, hl]; rfl, fun k z hz => ?_⟩
    · exact (g1.trans g4).newer nD
    · exact j4.keep nM
    · by_cases hk : k < ys.length
      · rw [List.getElem?_append_left hk] at hz
        exact hP _ _ _ _ (t4.trans (Tk.lst e4)) (hp k z hz)
      · rw [List.getElem?_append_right (by omega)] at hz
        have e0 : k - ys.length = 0 := by
          cases hq : k - ys.length with
          | zero => rfl
          | succ m => rw [hq] at hz; simp at hz
        rw [e0] at hz
        have ek : k = i := by omega
        have ez : z = y2 := by simpa using hz.symm
        rw [ek, ez]
        exact hP _ _ _ _ (Tk.lst e4) p4
  · obtain ⟨g1, j1, ys, eD, hl, hp⟩ := h
    exact hd H ys g1 j1 eD hl hp
end
end Ow

set_option Elab.async false
set_option linter.all false
set_option maxRecDepth 100000
set_option maxHeartbeats 4000000
namespace PySem
open Sem (wp)
open AutoSeq1 (wpAny_loadPart')
/-! enumerate of a tuple, made -/
theorem ow_enum_newT (l : Addr) (items : Array Value) (n : Nat) (dct : Option Addr) (sl : Array (Option Value)) :
    Meets (Builtin.«enumerate.__new__» ⟨[.type "enumerate", .ref l], []⟩) (fun _ R s => s.heap.get? l = some { cls := .type "tuple", dict := dct, data := .seq items n, slots := sl } ∧
      R (.ok (.ret (.ref (s.heap.push { cls := .type "tuple_iterator", data := .fields #[.ref l, .int 0 0] }).objs.size)))
        { s with heap := (s.heap.push { cls := .type "tuple_iterator", data := .fields #[.ref l, .int 0 0] }).push { cls := .type "enumerate", data := .fields #[.none, .bool false, .ref s.heap.objs.size, rawInt 0, .none, .none] } }) :=
  .of_wp fun prog w A R s h => by
    obtain ⟨hp, g, d, tk, os⟩ := s
    obtain ⟨hl, h⟩ := h
    have hsub := sub_enumerate
    have hT : Heap.IsTuple (Shared.heap ⟨hp, g, d, tk, os⟩) l items := ⟨_, hl, rfl, n, rfl⟩
    wp_walk using wpAny_loadPart' hl
    refine wpAny_stack_any fun st => wpAny_pure ?_
    split
    · rename_i c _ _ _ _ _
      cases (c == Value.type "enumerate")
      · wp_walk using wpAny_loadPart' hl, wpAny_pyIter_tuple hT
        exact ⟨_, rfl, h⟩
      · wp_walk using wpAny_loadPart' hl, wpAny_pyIter_tuple hT
        exact ⟨_, rfl, h⟩
    · wp_walk using wpAny_loadPart' hl, wpAny_pyIter_tuple hT
      exact ⟨_, rfl, h⟩
section
variable {prog : Program} {w : World} {A : Around} {E : Value → Shared → Prop} {s : Shared}
theorem ow_call_enumT {l : Addr} {items : Array Value} {Q : Value → Shared → Prop} (hL : s.heap.IsTuple l items)
    (h : ∀ h', IsEnum h' (s.heap.objs.size + 1) s.heap.objs.size 0 .none → h'.IsTupleIter s.heap.objs.size l 0 → (∀ b o, s.heap.get? b = some o → h'.get? b = some o) → Q (.ref (s.heap.objs.size + 1)) { s with heap := h' }) :
    wpAny (model prog w) A (call (.type "enumerate") [.ref l]) Q E s := by
  obtain ⟨⟨c, dct, dt, sl⟩, hl, hc, n, hd⟩ := hL
  have hc1 : c = .type "tuple" := hc
  have hd1 : dt = .seq items n := hd
  subst hc1 hd1
  refine callType_new F.called_enumerate (by decide) (F.typeCall_enumerate_1 _) (F.newCall_enumerate_1 _) (fun obj => F.args_object_init_2 obj _) F.entry_enumerate_new (ow_enum_newT l items n dct sl) ⟨hl, ?_⟩
  have hz : (s.heap.push { cls := .type "tuple_iterator", data := .fields #[.ref l, .int 0 0] }).objs.size = s.heap.objs.size + 1 := Heap.size_push ..
  show _ ∧ _
  rw [hz]
  have he : IsEnum ((s.heap.push { cls := .type "tuple_iterator", data := .fields #[.ref l, .int 0 0] }).push { cls := .type "enumerate", data := .fields #[.none, .bool false, .ref s.heap.objs.size, rawInt 0, .none, .none] }) (s.heap.objs.size + 1) s.heap.objs.size 0 .none := by
    have e := Heap.get?_push_size (s.heap.push { cls := .type "tuple_iterator", data := .fields #[.ref l, .int 0 0] }) (o := { cls := .type "enumerate", data := .fields #[.none, .bool false, .ref s.heap.objs.size, rawInt 0, .none, .none] }) rfl
    rw [hz] at e
    exact e
  exact ⟨⟨_, he, rfl⟩, h _ he ⟨_, Heap.get?_push_of_some _ (Heap.get?_push_size _ rfl), rfl, rfl⟩ fun b o x => Heap.get?_push_of_some _ (Heap.get?_push_of_some _ x)⟩
end
end PySem
namespace Ow
open PySem PySem.Spec PyProof.Rows L2
/-! a walk over enumerate(tuple) -/
def IteT (K : PySem.W.Frag) (a : Addr) : It :=
  ⟨fun i H => ∃ (xs : List V) (x : V), SqT K H a xs ∧ xs[i]? = some x, fun i H v H' => ∃ T x, v = .ref T ∧ H T = none ∧ H' = upd H T (.tup [.int (i : Nat), x]) ∧ ∀ xs, SqT K H a xs → xs[i]? = some x, fun i H => ∃ xs : List V, SqT K H a xs ∧ xs.length ≤ i⟩
theorem isTuple_of {h : Heap} {a : Addr} {its : Array Value} (t : IsTup h a its) : h.IsTuple a its := t
theorem turn_enumT {P : Program} {w : World} {K : PySem.W.Frag} {elts : List Expr} {kk : Nat} {tpos : Pos} (a e it : Addr) :
    Turn P w K (.Tuple elts kk tpos) (IteT K a) [e, it] e (fun i h => (∃ old, IsEnum h e it ((i : Nat) : Int) old) ∧ h.IsTupleIter it a i ∧ e ≠ it) where
  mem := by simp
  obj := fun i h st b hb => by
    obtain ⟨⟨old, he⟩, ⟨o, ho, hc, hd⟩, _⟩ := st
    rcases (show b = e ∨ b = it by simpa using hb) with z | z
    · rw [z]
      exact ⟨_, he, fun v q => (nomatch q)⟩
    · rw [z]
      exact ⟨o, ho, fun v q => by rw [hd] at q; cases q⟩
  keep := fun i h h' st k => let ⟨⟨old, he⟩, hi, hne⟩ := st; ⟨⟨old, k e (by simp) _ he⟩, hi.at fun o q => k it (by simp) o q, hne⟩
  item := by
    intro X hP hw hK hc i pins s σ H E I hf st hg
    subst hP hw hK
    obtain ⟨⟨old, he⟩, hit, hne⟩ := st
    obtain ⟨xs, x, hq, hx⟩ := hg
    obtain ⟨its, rv, p, hz⟩ := I.tuple hq
    obtain ⟨u, hu, ru⟩ := rv.get hx
    have hel : e < s.heap.objs.size := Heap.lt_size he
    have hil : it < s.heap.objs.size := by obtain ⟨_, q, _⟩ := hit; exact Heap.lt_size q
    have hai : a ≠ it := fun z => by
      obtain ⟨o1, h1, c1, _⟩ := p
      obtain ⟨o2, h2, c2, _⟩ := hit
      rw [z, h2] at h1
      cases h1
      rw [c1] at c2
      exact absurd c2 (by decide)
    have hae : e ≠ a := fun z => by
      obtain ⟨o1, h1, c1, _⟩ := p
      rw [← z, he] at h1
      cases h1
      have c3 : Value.type "enumerate" = Value.type "tuple" := c1
      exact absurd c3 (by decide)
    have hif : i < its.toArray.size := by
      have h1 := (List.getElem?_eq_some_iff.mp hu).1
      rw [List.size_toArray]
      exact h1
    refine wpAny_pyNext_enum_itemD (Draws.tuple (A := X.A.in1) (show X.A.in1.handled = none from I.ok.hd hc) it a hai its.toArray) he ⟨hit, p⟩ hif hne (by simp [hne, hae]) fun y h' tk hy ho hst hT hsz hk => ?_
    have ey : y = u := by
      have : its.toArray[i]? = some u := by simpa using hu
      rw [this] at hy
      exact (Option.some.inj hy).symm
    subst ey
    refine ⟨_, rfl, wpAny_letOwnedTupleGo_enum (s := { s with heap := h', toks := tk + 1 }) ho fun h'' he' sb => ?_⟩
    have hT2 : h''.get? s.heap.objs.size = some { cls := .type "tuple", data := .seq #[.int i tk, y] } := (sb.2 _ (Nat.ne_of_gt hel)).trans hT
    have new : ObjOk X.prog X.w (upd H s.heap.objs.size (.tup [.int (i : Nat), x])) h'' s.heap.objs.size (.tup [.int (i : Nat), x]) :=
      ⟨by show 2 ≤ sizeLine; decide, [.int i tk, y], .cons ⟨_, rfl⟩ (.cons ru .nil), ⟨_, hT2, rfl, _, rfl⟩⟩
    have I1 : Inv X pins σ (upd H s.heap.objs.size (.tup [.int (i : Nat), x])) { s with heap := h'', toks := tk + 1 } :=
      I.turnedNew (ch := [e, it]) (fun b ob hb q => (sb.2 b (fun z => hb (by simp [z]))).trans (hk b ob (fun z => hb (by simp [z])) (fun z => hb (by simp [z])) q)) hf (Nat.le_refl _) new
    refine ⟨.ref s.heap.objs.size, _, I1, rfl, ⟨_, x, rfl, I.hok.fresh (Nat.le_refl _), rfl, fun ys hy => by rw [I.tuple_inj hy hq]; exact hx⟩, ⟨⟨y, ?_⟩, hst.1.at fun o q => (sb.2 it (Ne.symm hne)).trans q, hne⟩, fun b hb => ?_⟩
    · rw [show ((i + 1 : Nat) : Int) = (i : Int) + 1 by omega]
      exact he'
    · have hb' : b < s.heap.objs.size := by
        rcases (show b = e ∨ b = it by simpa using hb) with z | z
        · rw [z]; exact hel
        · rw [z]; exact hil
      rw [upd_ne (Nat.ne_of_lt hb')]
      exact (hf b hb).1
  done := by
    intro X hP hw hK hc i pins s σ H E I hf st hg
    subst hP hw hK
    obtain ⟨⟨old, he⟩, hit, hne⟩ := st
    obtain ⟨xs, hq, hx⟩ := hg
    obtain ⟨its, rv, p, hz⟩ := I.tuple hq
    have hai : a ≠ it := fun z => by
      obtain ⟨o1, h1, c1, _⟩ := p
      obtain ⟨o2, h2, c2, _⟩ := hit
      rw [z, h2] at h1
      cases h1
      rw [c1] at c2
      exact absurd c2 (by decide)
    obtain ⟨f0, f1, f2, f3, f4, f5⟩ := hf it (by simp)
    have hl := rv.length
    have D2 : Draws X.prog X.w X.A.in1 it [it, a] i (fun j v => its.toArray[j]? = some v) (fun j h => j = i ∧ h.IsTupleIter it a i ∧ h.IsTuple a its.toArray) :=
      ⟨fun _ _ st => let ⟨o, ho, _⟩ := st.2.1; ⟨o, ho⟩, fun _ _ _ st hk => ⟨st.1, st.2.1.at fun o e => hk it (by simp) o e, st.2.2.at fun o e => hk a (by simp) o e⟩,
        fun j s Q E hj st hQ => absurd st.1 (by omega), fun s Q E st hE => by
        refine wpAny_nextOf_tuple_end (A := X.A.in1) (show X.A.in1.handled = none from I.ok.hd hc) st.2.1 st.2.2 ?_ hE
        rw [List.getElem?_toArray]
        exact List.getElem?_eq_none (by omega)⟩
    exact wpAny_pyNext_enum_endD D2 he ⟨rfl, hit, p⟩ fun h' eb => ⟨rfl, I.turned (t' := s.toks) (fun b o hb q => eb b o hb q) f0 f1 f3 f4 f5⟩
  self := fun A i s Q E st h => let ⟨⟨_, he⟩, _⟩ := st; wpAny_pyIter_enum he h
def iEnumT (K : PySem.W.Frag) (ta : TA) : TI := fun σ H R => ta σ H fun vs H1 => ∃ a xs, vs = [.ref a] ∧ SqT K H1 a xs ∧ R (IteT K a) H1
/-- for i, x in enumerate(t), t a tuple -/
theorem pi_enumT {X : Cx} {e : Expr} {ta : TA} {p pos tpos : Pos} {elts : List Expr} {kk : Nat} (hg : Gl X "enumerate") (hm : X.mg "enumerate" = none) (ha : PA X [e] ta) (hs : starEach [e] X.env = [(false, eval e X.env)] := by rfl) :
    PI X (.Tuple elts kk tpos) (.Call (.Name "enumerate" p) [e] [] pos) (iEnumT X.K ta) := by
  refine ⟨fun pins s σ H R I h => ?_⟩
  refine Call_ (ld_blt I hg hm boot_enumerate (PyProof.Rows.callWith_type1 (thn (ha.run pos pins s σ H _ I h) fun us s1 ⟨vs, H1, I1, r1, q1⟩ => ?_) hs rfl))
  obtain ⟨a, xs, ex, hq, q⟩ := q1
  subst ex
  cases r1 with
  | cons r rr =>
    cases rr
    cases r
    obtain ⟨its, rv, p', hz⟩ := I1.tuple hq
    refine ow_call_enumT (isTuple_of p') fun h' he hit hk => wpAny_pyIter_enum he ?_
    have I2 : Inv X pins σ H1 { s1 with heap := h' } := I1.kept (t' := s1.toks) hk
    refine ⟨s1.heap.objs.size + 1, [s1.heap.objs.size + 1, s1.heap.objs.size], _, _, H1, rfl, I2, turn_enumT a (s1.heap.objs.size + 1) s1.heap.objs.size, ⟨⟨.none, he⟩, hit, Nat.succ_ne_self _⟩, fun b hb => ?_, q⟩
    have hle : s1.heap.objs.size ≤ b := by
      rcases (show b = s1.heap.objs.size + 1 ∨ b = s1.heap.objs.size by simpa using hb) with z | z
      · rw [z]
        exact Nat.le_add_right _ _
      · rw [z]
        exact Nat.le_refl _
    exact I1.fpOk hle (I1.hok.fresh hle)
theorem walk_enumT {K : PySem.W.Frag} {a : Addr} {xs : List V} : Walk (IteT K a) xs.length (fun H => SqT K H a xs) (YPair (fun i => some (.int (i : Nat))) (fun i => xs[i]?)) where
  goes := fun i H hi h => ⟨xs, xs[i], h, List.getElem?_eq_getElem hi⟩
  stops := fun H h => ⟨xs, h, Nat.le_refl _⟩
  yields := fun i H x H' hi h y => by
    obtain ⟨T, z, rfl, n, rfl, q⟩ := y
    exact ⟨T, _, z, rfl, n, rfl, rfl, q xs h⟩
end Ow

set_option Elab.async false
set_option linter.all false
set_option maxRecDepth 100000
set_option maxHeartbeats 4000000
namespace Ow
open PySem PySem.Spec PyProof.Rows L2
section
variable {X : Cx} {CX : CXT} {k : Nat} {f C : Addr} {fd : FuncData} {ps : List Str} {sp : Sp} {E : XK}
/-- a def called from around A, whose frames are those of the body -/
theorem run_at {A : Around} (hfr : A.frames = X.A.frames) {pins : List (Addr × Obj)} {σ : L2.St} {H : Hp} {s : Shared} {Q : VK} {us : List Value} {vs : List V} (F : FnOk X.prog X.w X.K X.mg X.base CX k f fd ps sp) (hr : Room k A) (hb : Binds X.K fd ps []) (hx : Passes CX X E)
    (I : Inv X pins σ H s) (r : Vals vs us) (h : sp vs H Q E) : wpAny (model X.prog X.w) A (call (.ref f) us) (EP X pins σ Q) X.xe s := by
  have hl : us.length = ps.length := by rw [← r.length]; exact F.len _ _ _ _ h
  have b := hb s us I.kIn (by rw [List.append_nil]; exact hl)
  rw [List.append_nil] at b
  have e0 : Env0 X.prog X.w X.K X.mg X.base A X.stack s H := by
    have e := I.env0
    exact ⟨hfr.trans e.frames, e.mod, e.bs, e.bsz, e.funs, e.frf, e.hok, e.bare⟩
  refine wpAny_call (codeAny_mono (F.run A X.stack s H ⟨us, []⟩ us vs Q E hr e0 b r h) fun o s' hq => ?_)
  cases o with
  | error e => exact hx pins σ H s e s' I hq
  | ok fl =>
    cases fl with
    | ret u => exact I.after hq
    | next => exact False.elim hq
    | brk => exact False.elim hq
    | cont => exact False.elim hq
/-- o[i], o of an own class with its own [] -/
def tIxO (C : Addr) (sp : Sp) (E : XK) (to ti : TE) : TE := fun σ H Q => to σ H fun x H1 => ti σ H1 fun y H2 => ∃ a dx fs, x = .ref a ∧ H2 a = some (.ins C dx fs) ∧ sp [.ref a, y] H2 Q E
theorem pe_ixO {o i : Expr} {pos : Pos} {to ti : TE} (ho : PE X o to) (hi : PE X i ti) (hn : PySem.W.noSeq X.K C = true) (hm : Meth X.K C "__getitem__" f) (hfn : PySem.W.fnIn X.K f = true) (F : FnOk X.prog X.w X.K X.mg X.base CX k f fd ps sp)
    (hr : Room (k + 1) X.A) (hb : Binds X.K fd ps []) (hx : Passes CX X E) (hs : ∀ a v, subscripted i true (.ref a) v = runValue (.builtin "lifetime.subscript" ⟨[.ref a, v], []⟩) := by intro _ _; with_unfolding_all rfl) :
    PE X (.Subscript o i pos) (tIxO C sp E to ti) := by
  refine ⟨fun pins s σ H Q I h => ?_⟩
  refine Subscript_ (binT ho hi I h fun v u s2 x y H2 I2 rx ry q => ?_)
  obtain ⟨a, dx, fs, rfl, ha, q⟩ := q
  cases rx
  obtain ⟨mA, J, _⟩ := ins_get I2.hok ha
  obtain ⟨od, J, _⟩ := J.look
  obtain ⟨m, hF⟩ := I2.fr
  refine PySem.W.sub_K hF I2.ok.mod.kin J hm.at_ hfn hm.fn ?_ (hs a u)
  have rr : Vals [V.ref a, y] [Value.ref a, u] := .cons rfl (.cons ry .nil)
  exact run_at (A := X.A.in1) rfl F hr.in1 hb hx I2 rr q
end
/-! ### a tuple times one is itself -/
theorem tuple_mulO (l : Addr) (items : Array Value) (n : Nat) (dd : Option Addr) (sl : Array (Option Value)) (u : Tok) :
    Meets (Builtin.«tuple.__mul__» ⟨[.ref l, .int 1 u], []⟩) (fun _ R s => s.heap.get? l = some { cls := .type "tuple", dict := dd, data := .seq items n, slots := sl } ∧ R (.ok (.ret (Value.ref l))) s) :=
  .of_wp fun prog w A R s h => by
    obtain ⟨hp, g, d, tk, os⟩ := s
    obtain ⟨hl, h⟩ := h
    have f1 := AutoSeq1.idx_int
    wp_walk using wpAny_loadPart' hl
    repeat (first
      | (refine wpAny_ite_true (decide_eq_true (by simp)) ?_; wp_walk using wpAny_loadPart' hl)
      | (refine wpAny_ite_false (decide_eq_false (by simp)) ?_; wp_walk using wpAny_loadPart' hl))
    all_goals exact ⟨_, rfl, h⟩

def rRepA (K : PySem.W.Frag) : R2 := fun x y H Q => ∃ l k xs, x = .ref l ∧ y = .int k ∧ SqT K H l xs ∧ xs ≠ [] ∧ 1 ≤ k ∧ k ≤ 1000 ∧ xs.length ≤ 1000 ∧ (k = 1 → Q (.ref l) H) ∧
  (2 ≤ k → ∀ p, H p = none → Q (.ref p) (upd H p (.tup (List.replicate k.toNat xs).flatten)))
section
variable {X : Cx}
theorem op_repA : OpR X (binaryOp .Mult) (rRepA X.K) := by
  intro pins s σ H x y v u Q I rx ry h
  obtain ⟨l, k, xs, rfl, rfl, hT, hne, h1, h2, hz, q1, q2⟩ := h
  by_cases hk : 2 ≤ k
  · exact op_repT pins s σ H _ _ v u Q I rx ry ⟨l, k, xs, rfl, rfl, hT, hne, hk, h2, hz, q2 hk⟩
  have ek : k = 1 := by omega
  subst ek
  cases rx
  obtain ⟨t, rfl⟩ := ry
  obtain ⟨its, r, ⟨⟨cls, dd, data, sl⟩, ho, hc, n, hd⟩, hs⟩ := I.tuple hT
  have hc1 : cls = .type "tuple" := hc
  have hd1 : data = .seq its.toArray n := hd
  subst hc1 hd1
  refine wpAny_binaryOp_repeat_ref (T := "tuple") (U := "int") (by decide) ⟨_, ho, rfl⟩ (fun s' => typeIs_int s' 1 t) noFill_tuple_mul F.fills_int_mul F.slot_int_rmul repeat_tuple F.slot_int_index.lookup
    (call_meets F.slot_int_rmul (typeIs_int s 1 t) F.entry_int_rmul (F.args_int_rmul_2 _ _) (int_rmul_tuple 1 t l its.toArray n dd sl)
      ⟨ho, rfl, ⟨_, ho, rfl⟩, call_meets F.slot_tuple_mul ⟨_, ho, rfl⟩ F.entry_tuple_mul (F.args_tuple_mul_2 _ _) (tuple_mulO l its.toArray n dd sl t) ⟨ho, ?_⟩⟩)
  exact ⟨.ref l, H, I, rfl, q1 rfl⟩
end
/-! ### every second item of a tuple -/
theorem step_adjust (n : Nat) : Builtin.Slice.sliceAdjust none none 2 (n : Int) = (0, (n : Int)) := by
  unfold Builtin.Slice.sliceAdjust
  simp
theorem step_places (n : Nat) : Builtin.Slice.slicePlaces 0 (n : Int) 2 = (n + 1) / 2 := by
  unfold Builtin.Slice.slicePlaces
  rw [if_pos (by decide)]
  by_cases h : (0 : Int) < (n : Int)
  · first | rw [if_pos h] | rw [if_pos (show (n : Int) > 0 from h)] | skip
    omega
  · first | rw [if_neg h] | skip
    omega
section
variable {prog : Program} {w : World} {A : Around} {E : Value → Shared → Prop} {s : Shared}
theorem step_applied {sl : Addr} {vs : Value} {n : Nat} {Q : Int × Int × Nat → Shared → Prop} (hs : s.heap.IsSliceOf sl .none .none vs) (p : IsPart vs (some 2)) (h : Q (0, 2, (n + 1) / 2) s) :
    wpAny (model prog w) A (Builtin.Slice.sliceApplied (.ref sl) (pure (n : Int))) Q E s := by
  obtain ⟨os, hos, hcs, hds⟩ := id hs
  unfold Builtin.Slice.sliceApplied Builtin.Slice.sliceFields
  refine wpAny_bind (wpAny_bind (wpAny_field hos hds (x := .none) rfl ?_))
  refine wpAny_bind (wpAny_field hos hds (x := .none) rfl ?_)
  refine wpAny_bind (wpAny_field hos hds (x := vs) rfl (wpAny_pure ?_))
  refine wpAny_bind (HT.slicePart_ p ?_)
  show wpAny _ _ (if ((2 : Int) == 0) = true then _ else _) _ _ s
  rw [if_neg (by decide)]
  refine wpAny_bind (slicePart_none (wpAny_bind (slicePart_none (wpAny_bind (wpAny_pure ?_)))))
  show wpAny _ _ (match Builtin.Slice.sliceAdjust none none 2 (n : Int) with
    | (lo, hi) => pure (lo, (2 : Int), Builtin.Slice.slicePlaces lo hi 2)) _ _ s
  rw [step_adjust]
  show wpAny _ _ (pure ((0 : Int), (2 : Int), Builtin.Slice.slicePlaces 0 (n : Int) 2)) _ _ s
  rw [step_places]
  exact wpAny_pure h
theorem step_item {t sl : Addr} {items : Array Value} {vs : Value} {Q : Value → Shared → Prop} (ht : IsTup s.heap t items) (hs : s.heap.IsSliceOf sl .none .none vs) (p : IsPart vs (some 2)) (hsz : items.size ≤ sizeLine)
    (h : Q (.ref s.heap.objs.size) { s with heap := s.heap.push { cls := .type "tuple", data := .seq ((List.range ((items.size + 1) / 2)).filterMap fun (k : Nat) => items[((0 : Int) + (k : Int) * 2).toNat]?).toArray } }) :
    wpAny (model prog w) A (getItem (.ref t) (.ref sl)) Q E s := by
  have hz : sizeOk (.seq ((List.range ((items.size + 1) / 2)).filterMap fun (k : Nat) => items[((0 : Int) + (k : Int) * 2).toNat]?).toArray) := by
    show Array.size _ ≤ sizeLine
    rw [List.size_toArray]
    refine Nat.le_trans (List.length_filterMap_le _ _) ?_
    rw [List.length_range]
    have : (items.size + 1) / 2 ≤ items.size := by omega
    omega
  obtain ⟨os, hos, hcs, hds⟩ := id hs
  have isS : s.TypeIs (.ref sl) "slice" := ⟨os, hos, hcs⟩
  unfold getItem
  try with_reducible refine wpAny_holding ?_
  first | refine wpAny_bind (wpAny_pure ?_) | skip
  refine wpAny_bind (wpAny_sequenceKey ht.typeIs (by decide) ?_)
  refine wpAny_bind (wpAny_callSpecial?_slot (name := Str.ofString "__getitem__") ht.typeIs PyProof.Rows.slot_tuple_getitem (wpAny_call_entry PyProof.Rows.slot_tuple_getitem ht.typeIs entry_tuple_getitem ?_ (args_tuple_getitem _ _)))
  show wpAny _ _ (Builtin.Tuple.tupleItemsOf (.ref t) >>= _) _ _ s
  refine wpAny_bind (tupleItemsOf_ ht ?_)
  refine wpAny_bind (wpAny_typeOf isS ?_)
  rw [if_pos (by decide)]
  refine wpAny_bind (step_applied hs p ?_)
  have no : ¬ (((0 : Int) == 0 && (2 : Int) == 1 && (items.size + 1) / 2 == items.size) = true) := by
    intro q
    rw [Bool.and_eq_true, Bool.and_eq_true] at q
    exact absurd q.1.2 (by decide)
  show wpAny _ _ (if ((0 : Int) == 0 && (2 : Int) == 1 && (items.size + 1) / 2 == items.size) = true then _ else _) _ _ s
  rw [if_neg no]
  first
    | exact wpAny_bind (m := Builtin.Tuple.tupleExact _) (wpAny_newObj_type (wpAny_pure ⟨_, rfl, wpAny_pure h⟩) hz)
    | exact wpAny_bind (m := Builtin.Tuple.tupleExact _) (wpAny_newObj_type (wpAny_bind (wpAny_pure (wpAny_pure ⟨_, rfl, wpAny_pure h⟩))) hz)
    | exact wpAny_bind (wpAny_bind (m := Builtin.Tuple.tupleExact _) (wpAny_newObj_type (wpAny_pure (wpAny_pure ⟨_, rfl, wpAny_pure h⟩)) hz))
    | exact wpAny_bind (wpAny_bind (m := Builtin.Tuple.tupleExact _) (wpAny_newObj_type (wpAny_pure ⟨_, rfl, wpAny_pure h⟩) hz))
end
def tStep2 (K : PySem.W.Frag) (te : TE) : TE := fun σ H Q => te σ H fun x H1 => ∃ a xs, x = .ref a ∧ SqT K H1 a xs ∧
  ∀ p zs, H1 p = none → (∀ z ∈ zs, z ∈ xs) → zs.length = (xs.length + 1) / 2 → Q (.ref p) (upd H1 p (.tup zs))
section
variable {X : Cx}
theorem pick_len {α : Type} (xs : List α) : ∀ l : List Nat, (∀ m ∈ l, m < xs.length) → (l.filterMap fun m => xs[m]?).length = l.length
  | [], _ => rfl
  | m :: l, h => by
    have hm := h m List.mem_cons_self
    rw [List.filterMap_cons, List.getElem?_eq_getElem hm]
    simp only [List.length_cons]
    rw [pick_len xs l fun k hk => h k (List.mem_cons_of_mem _ hk)]
theorem pe_step2 {e : Expr} {te : TE} {k : Nat} {p1 p3 pos : Pos} (he : PE X e te) : PE X (.Subscript e (.Slice none none (some (.Constant (.int 2) k p1)) p3) pos) (tStep2 X.K te) := by
  refine ⟨fun pins s σ H Q I h => ?_⟩
  refine Subscript_ (thn (he.run pins s σ H _ I h) fun v s1 hv => ?_)
  obtain ⟨x, H1, I1, r1, a, xs, ex, hx, q⟩ := hv
  subst ex
  cases r1
  have hst : PO X (some (.Constant (.int 2) k p1)) (tPart (tC (.int 2))) := po_some pe_int
  refine wpAny_Slice (thn (po_none.run pins s1 σ H1 (fun o H2 => o = none ∧ H2 = H1) I1 ⟨rfl, rfl⟩) fun vl s2 hl => ?_)
  obtain ⟨l, H2, I2, pl, el, e2⟩ := hl
  subst el e2
  refine thn (po_none.run pins s2 σ H2 (fun o H3 => o = none ∧ H3 = H2) I2 ⟨rfl, rfl⟩) fun vu s3 hl => ?_
  obtain ⟨u, H3, I3, pu, eu, e3⟩ := hl
  subst eu e3
  refine thn (hst.run pins s3 σ H3 (fun o H4 => o = some 2 ∧ H4 = H3) I3 ⟨2, rfl, rfl, rfl⟩) fun vs s4 hl => ?_
  obtain ⟨o, H4, I4, ps, eo, e4⟩ := hl
  subst eo e4
  cases pl
  cases pu
  have I5 : Inv X pins σ H4 { s4 with heap := s4.heap.push { cls := .type "slice", data := .fields #[.none, .none, vs] } } := I4.kept (t' := s4.toks) fun b ob q => Heap.get?_push_of_some _ q
  obtain ⟨its, r, ht, hz⟩ := I5.tuple hx
  have hlen := r.length
  refine tail_any (ops := [.ref a, .ref s4.heap.objs.size]) ht.typeIs (PyProof.Rows.slot_tuple_getitem.lookup) ?_ (by with_unfolding_all rfl)
  refine step_item ht (Heap.IsSliceOf.new _ .none .none vs) ps (by rw [List.size_toArray]; omega) ?_
  have hsz : its.toArray.size = xs.length := by rw [List.size_toArray]; exact hlen.symm
  rw [hsz]
  let f : Nat → Nat := fun k => ((0 : Int) + (k : Int) * 2).toNat
  have hv := vals_pick r f (List.range ((xs.length + 1) / 2))
  have le : ((List.range ((xs.length + 1) / 2)).filterMap fun m => xs[f m]?).length = (xs.length + 1) / 2 := by
    have e := pick_len xs ((List.range ((xs.length + 1) / 2)).map f) (fun m hm => by
      obtain ⟨j, hj, rfl⟩ := List.mem_map.mp hm
      have := List.mem_range.mp hj
      show ((0 : Int) + (j : Int) * 2).toNat < _
      omega)
    rw [List.filterMap_map, List.length_map, List.length_range] at e
    exact e
  refine ⟨.ref _, _, I5.laid (t' := s4.toks) (o := .tup ((List.range ((xs.length + 1) / 2)).filterMap fun m => xs[f m]?)) (fun b ob q => Heap.get?_push_of_some _ q) (Nat.le_refl _) ?_, rfl,
    q _ _ (I5.hok.fresh (Nat.le_refl _)) (fun z hz => ?_) le⟩
  · refine ⟨by rw [le]; omega, (List.range ((xs.length + 1) / 2)).filterMap fun m => its[f m]?, hv, ?_⟩
    have e : (List.filterMap (fun (k : Nat) => its.toArray[((0 : Int) + (k : Int) * 2).toNat]?) (List.range ((xs.length + 1) / 2))) = ((List.range ((xs.length + 1) / 2)).filterMap fun m => its[f m]?) := by
      congr 1
      funext m
      simp [f]
    rw [e]
    exact IsTup.new _ _
  · obtain ⟨m, _, hm⟩ := List.mem_filterMap.mp hz
    exact List.mem_of_getElem? hm
end
end Ow

set_option Elab.async false
set_option linter.all false
set_option maxRecDepth 100000
set_option maxHeartbeats 4000000
namespace Ow
open PySem PySem.Spec PyProof.Rows
open Sem (wp)
/-! ### a list or a tuple, walked -/
inductive SqK | lst | tup
def SqK.Is : SqK → Heap → Addr → Array Value → Prop
  | .lst, h, l, xs => h.IsList l xs
  | .tup, h, l, xs => h.IsTuple l xs
def SqK.It : SqK → Heap → Addr → Addr → Nat → Prop
  | .lst, h, it, l, i => h.IsListIter it l i
  | .tup, h, it, l, i => h.IsTupleIter it l i
def SqK.ob : SqK → Addr → Obj
  | .lst, l => { cls := .type "list_iterator", data := .fields #[.ref l, .int 0 0] }
  | .tup, l => { cls := .type "tuple_iterator", data := .fields #[.ref l, .int 0 0] }
section
variable {prog : Program} {w : World} {A : Around} {E : Value → Shared → Prop} {s : Shared} {k k1 k2 : SqK}
theorem SqK.Is.keep {h h' : Heap} {l : Addr} {xs : Array Value} (x : k.Is h l xs) (e : ∀ o, h.get? l = some o → h'.get? l = some o) : k.Is h' l xs := by
  cases k with
  | lst => exact Heap.IsList.at x e
  | tup => exact Heap.IsTuple.at x e
theorem SqK.It.keep {h h' : Heap} {it l : Addr} {i : Nat} (x : k.It h it l i) (e : ∀ o, h.get? it = some o → h'.get? it = some o) : k.It h' it l i := by
  cases k with
  | lst => exact Heap.IsListIter.at x e
  | tup => exact Heap.IsTupleIter.at x e
theorem SqK.Is.lt {h : Heap} {l : Addr} {xs : Array Value} (x : k.Is h l xs) : l < h.objs.size := by
  cases k with
  | lst => obtain ⟨o, e, _⟩ := x; exact Heap.lt_size e
  | tup => obtain ⟨o, e, _⟩ := x; exact Heap.lt_size e
theorem SqK.iter {l : Addr} {xs : Array Value} (x : k.Is s.heap l xs) {Q : Value → Shared → Prop} (h : Q (.ref s.heap.objs.size) { s with heap := s.heap.push (k.ob l) }) : wpAny (model prog w) A (pyIter (.ref l)) Q E s := by
  cases k with
  | lst => exact wpAny_pyIter_list x h
  | tup => exact wpAny_pyIter_tuple x h
theorem SqK.start {h : Heap} {l it : Addr} (e : h.get? it = some (k.ob l)) : k.It h it l 0 := by
  cases k with
  | lst => exact ⟨_, e, rfl, rfl⟩
  | tup => exact ⟨_, e, rfl, rfl⟩
theorem SqK.draws (hh : A.handled = none) (it l : Addr) (hne : l ≠ it) (items : Array Value) : Draws prog w A it [it, l] items.size (fun i v => items[i]? = some v) (fun i h => k.It h it l i ∧ k.Is h l items) := by
  cases k with
  | lst => exact Draws.list hh it l hne items
  | tup => exact Draws.tuple hh it l hne items
end
/-! ### zip, made -/
def zh1 (h : Heap) (k1 : SqK) (l1 : Addr) : Heap := h.push (k1.ob l1)
def zh2 (h : Heap) (k1 k2 : SqK) (l1 l2 : Addr) : Heap := (zh1 h k1 l1).push (k2.ob l2)
def zh3 (h : Heap) (k1 k2 : SqK) (l1 l2 : Addr) : Heap := (zh2 h k1 k2 l1 l2).push { cls := .type "tuple", data := .seq #[.ref h.objs.size, .ref (zh1 h k1 l1).objs.size] }
def zh4 (h : Heap) (k1 k2 : SqK) (l1 l2 : Addr) : Heap := (zh3 h k1 k2 l1 l2).push { cls := .type "tuple", data := .seq #[.none, .none] }
def zh5 (h : Heap) (k1 k2 : SqK) (l1 l2 : Addr) : Heap := (zh4 h k1 k2 l1 l2).push { cls := .type "zip", data := .fields #[.none, .bool false, .bool false, .ref (zh2 h k1 k2 l1 l2).objs.size, .ref (zh3 h k1 k2 l1 l2).objs.size] }
theorem meets_zip (k1 k2 : SqK) (l1 l2 : Addr) (xs ys : Array Value) :
    Meets (Builtin.«zip.__new__» ⟨[.type "zip", .ref l1, .ref l2], []⟩) (fun _ R s => k1.Is s.heap l1 xs ∧ k2.Is s.heap l2 ys ∧ R (.ok (.ret (.ref (zh4 s.heap k1 k2 l1 l2).objs.size))) { s with heap := zh5 s.heap k1 k2 l1 l2 }) :=
  .of_wp fun prog w A R s h => by
    obtain ⟨hp, g, d, tk, os⟩ := s
    obtain ⟨hl1, hl2, h⟩ := h
    have hsub := sub_zip
    have hL1 : k1.Is (Shared.heap ⟨hp, g, d, tk, os⟩) l1 xs := hl1
    have hL2 : k2.Is (Shared.heap ⟨hp.push (k1.ob l1), g, d, tk, os⟩) l2 ys := SqK.Is.keep hl2 fun o e => Heap.get?_push_of_some _ e
    wp_walk using SqK.iter hL1, SqK.iter hL2
    exact ⟨_, rfl, h⟩
section
variable {prog : Program} {w : World} {A : Around} {E : Value → Shared → Prop} {s : Shared} {k1 k2 : SqK}
theorem call_zipK {l1 l2 : Addr} {xs ys : Array Value} {Q : Value → Shared → Prop} (hl1 : k1.Is s.heap l1 xs) (hl2 : k2.Is s.heap l2 ys)
    (h : ∀ h', IsZip h' (s.heap.objs.size + 4) (s.heap.objs.size + 2) (s.heap.objs.size + 3) .none → IsTupOf2 h' (s.heap.objs.size + 2) (.ref s.heap.objs.size) (.ref (s.heap.objs.size + 1)) →
      IsTupOf2 h' (s.heap.objs.size + 3) .none .none → k1.It h' s.heap.objs.size l1 0 → k2.It h' (s.heap.objs.size + 1) l2 0 → h'.objs.size = s.heap.objs.size + 5 →
      (∀ c o, s.heap.get? c = some o → h'.get? c = some o) → Q (.ref (s.heap.objs.size + 4)) { s with heap := h' }) :
    wpAny (model prog w) A (call (.type "zip") [.ref l1, .ref l2]) Q E s := by
  refine callType_new F.called_zip (by decide) (F.typeCall_zip_2 _ _) (F.newCall_zip_2 _ _) (fun obj => F.args_object_init_3 obj _ _) F.entry_zip_new (meets_zip k1 k2 l1 l2 xs ys) ⟨hl1, hl2, ?_⟩
  have z1 : (zh1 s.heap k1 l1).objs.size = s.heap.objs.size + 1 := Heap.size_push ..
  have z2 : (zh2 s.heap k1 k2 l1 l2).objs.size = s.heap.objs.size + 2 := by unfold zh2; rw [Heap.size_push, z1]
  have z3 : (zh3 s.heap k1 k2 l1 l2).objs.size = s.heap.objs.size + 3 := by unfold zh3; rw [Heap.size_push, z2]
  have z4 : (zh4 s.heap k1 k2 l1 l2).objs.size = s.heap.objs.size + 4 := by unfold zh4; rw [Heap.size_push, z3]
  have z5 : (zh5 s.heap k1 k2 l1 l2).objs.size = s.heap.objs.size + 5 := by unfold zh5; rw [Heap.size_push, z4]
  have g5 : (zh5 s.heap k1 k2 l1 l2).get? (zh4 s.heap k1 k2 l1 l2).objs.size = some _ := Heap.get?_push_size _ rfl
  have g4 : (zh5 s.heap k1 k2 l1 l2).get? (zh3 s.heap k1 k2 l1 l2).objs.size = some _ := Heap.get?_push_of_some _ (Heap.get?_push_size _ rfl)
  have g3 : (zh5 s.heap k1 k2 l1 l2).get? (zh2 s.heap k1 k2 l1 l2).objs.size = some _ := Heap.get?_push_of_some _ (Heap.get?_push_of_some _ (Heap.get?_push_size _ rfl))
  have fr : (k2.ob l2).isFreed = false := by cases k2 <;> rfl
  have fr1 : (k1.ob l1).isFreed = false := by cases k1 <;> rfl
  have g2 : (zh5 s.heap k1 k2 l1 l2).get? (zh1 s.heap k1 l1).objs.size = some (k2.ob l2) := Heap.get?_push_of_some _ (Heap.get?_push_of_some _ (Heap.get?_push_of_some _ (Heap.get?_push_size _ fr)))
  have g1 : (zh5 s.heap k1 k2 l1 l2).get? s.heap.objs.size = some (k1.ob l1) := Heap.get?_push_of_some _ (Heap.get?_push_of_some _ (Heap.get?_push_of_some _ (Heap.get?_push_of_some _ (Heap.get?_push_size _ fr1))))
  show _ ∧ _
  rw [z2, z3, z4] at g5
  rw [z1, z2] at g3
  rw [z3] at g4
  rw [z1] at g2
  rw [z4]
  exact ⟨⟨_, g5, rfl⟩, h _ g5 g3 g4 (SqK.start g1) (SqK.start g2) z5 fun c o x => Heap.get?_push_of_some _ (Heap.get?_push_of_some _ (Heap.get?_push_of_some _ (Heap.get?_push_of_some _ (Heap.get?_push_of_some _ x))))⟩
end
/-! ### zip's next, while the tuple that it handed out is still held -/
/-- the tuple T is out -/
def ZipO (h : Heap) (z TI TO T : Addr) : Prop := ∃ fl, h.get? z = some { cls := .type "zip", dict := none, data := .fields #[rawInt T, .bool fl, .bool false, .ref TI, .ref TO], slots := #[] }
section
variable {prog : Program} {w : World} {A : Around} {E : Value → Shared → Prop} {s : Shared} {z TI TO T i1 i2 : Addr} {fp1 fp2 : List Addr} {n1 n2 i : Nat} {P1 P2 : Nat → Value → Prop} {St1 St2 : Nat → Heap → Prop} {oT : Obj}
theorem zipO_free {Q : Bool → Shared → Prop} (hz : ZipO s.heap z TI TO T) (hT : s.heap.get? T = some oT) (h : ∀ h', ZipO h' z TI TO T → Heap.SameBut z s.heap h' → Q false { s with heap := h' }) :
    wpAny (model prog w) A (Builtin.SmallTypes.ownedTupleIsFree (.ref z)) Q E s := by
  obtain ⟨fl, hz⟩ := hz
  unfold Builtin.SmallTypes.ownedTupleIsFree
  refine wpAny_bind (wpAny_field hz rfl (x := rawInt T) rfl ?_)
  show wpAny _ _ (loadIfAlive ((T : Int).toNat) >>= _) _ _ _
  rw [Int.toNat_natCast]
  refine wpAny_bind (PySem.W.kdx_alive hT ?_)
  simp only [Option.isNone_some, Bool.false_eq_true, if_false]
  refine wpAny_bind (wpAny_field hz rfl (x := .bool fl) rfl ?_)
  cases fl with
  | true =>
    have e : (Value.bool true != Value.bool true) = false := by decide
    simp only [e, Bool.false_eq_true, if_false]
    exact wpAny_pure (h s.heap ⟨true, hz⟩ (Heap.SameBut.refl z s.heap))
  | false =>
    have e : (Value.bool false != Value.bool true) = true := by decide
    simp only [e, if_true]
    exact wpAny_bind (wpAny_setField_rec hz (by simp) fun h' hz' hs' => wpAny_pure (h h' ⟨true, hz'⟩ hs'))

theorem zipO_item {Q : Value → Shared → Prop} (S : ZipSep2 z TI TO i1 i2 fp1 fp2) (D1 : Draws prog w A i1 fp1 n1 P1 St1) (D2 : Draws prog w A i2 fp2 n2 P2 St2)
    (hz : ZipO s.heap z TI TO T) (hT : s.heap.get? T = some oT) (hTI : IsTupOf2 s.heap TI (.ref i1) (.ref i2)) (st1 : St1 i s.heap) (st2 : St2 i s.heap) (hlt1 : i < n1) (hlt2 : i < n2)
    (hQ : ∀ x1 x2 h' tk, P1 i x1 → P2 i x2 → ZipO h' z TI TO T → St1 (i + 1) h' → St2 (i + 1) h' → IsTupOf2 h' s.heap.objs.size x1 x2 → h'.objs.size = s.heap.objs.size + 1 →
      (∀ c o, c ≠ z → c ≠ i1 → c ≠ i2 → s.heap.get? c = some o → h'.get? c = some o) → Q (.ref s.heap.objs.size) { s with heap := h', toks := tk }) :
    wpAny (model prog w) A (Builtin.«zip.__next__» ⟨[.ref z], []⟩) (fun fin s' => ∃ v, fin = .done (.ret v) ∧ Q v s') E s := by
  obtain ⟨hp, g, d, tk0, os⟩ := s
  obtain ⟨fl, hz0⟩ := id hz
  show wpAny _ _ (field (.ref z) 2 >>= _) _ _ _
  refine wpAny_bind (wpAny_field hz0 rfl (x := .bool false) rfl ?_)
  show wpAny _ _ (field (.ref z) 3 >>= _) _ _ _
  refine wpAny_bind (wpAny_field hz0 rfl (x := .ref TI) rfl ?_)
  refine wpAny_bind (wpAny_seqItems hTI rfl ?_)
  show wpAny _ _ (Builtin.SmallTypes.ownedTupleIsFree (.ref z) >>= _) _ _ _
  refine wpAny_bind (zipO_free hz hT fun g0 hz1 hs0 => ?_)
  simp only [Bool.false_eq_true, if_false]
  have hs0' : Heap.SameBut z hp g0 := hs0
  rw [← Array.forIn_toList]
  simp only [List.forIn_cons, List.forIn_nil]
  refine wpAny_bind (wpAny_bind (wpAny_bind (wpAny_holding ?_)))
  show wpAny _ _ (Builtin.SmallTypes.nextOf (.ref i1) >>= _) _ _ ⟨g0, g, d, tk0, os⟩
  refine wpAny_bind (D1.item i _ _ _ hlt1 (D1.over st1 hs0' S.zf1) fun x1 p1 tk1 hx1 sn1 hp1 => wpAny_pure ?_)
  have hp1' : Heap.SameBut i1 g0 p1 := hp1
  refine wpAny_pure ?_
  refine wpAny_bind (wpAny_bind (wpAny_holding ?_))
  show wpAny _ _ (Builtin.SmallTypes.nextOf (.ref i2) >>= _) _ _ ⟨p1, g, d, tk1, os⟩
  refine wpAny_bind (D2.item i _ _ _ hlt2 (D2.over (D2.over st2 hs0' S.zf2) hp1' S.sep1_2) fun x2 p2 tk2 hx2 sn2 hp2 => wpAny_pure ?_)
  have hp2' : Heap.SameBut i2 p1 p2 := hp2
  refine wpAny_pure (wpAny_pure ?_)
  show wpAny _ _ (newTuple [x1, x2] >>= _) _ _ ⟨p2, g, d, tk2, os⟩
  refine wpAny_bind (wpAny_newTuple ?_)
  have hsz : p2.objs.size = hp.objs.size := by rw [hp2'.1, hp1'.1, hs0'.1]
  refine wpAny_pure ⟨_, rfl, ?_⟩
  obtain ⟨fl2, hz2⟩ := hz1
  have hzz : ZipO (p2.push { cls := .type "tuple", data := .seq #[x1, x2] }) z TI TO T := ⟨fl2, Heap.get?_push_of_some _ (hp2'.extBut _ _ S.zi2 (hp1'.extBut _ _ S.zi1 hz2))⟩
  have up : ∀ c o, p2.get? c = some o → (p2.push { cls := .type "tuple", data := .seq #[x1, x2] }).get? c = some o := fun c o e => Heap.get?_push_of_some _ e
  have hj1 : St1 (i + 1) p2 := D1.over sn1 hp2' S.sep2_1
  have res := hQ x1 x2 (p2.push { cls := .type "tuple", data := .seq #[x1, x2] }) tk2 hx1 hx2 hzz (D1.frame _ _ _ hj1 fun b _ o e => up b o e) (D2.frame _ _ _ sn2 fun b _ o e => up b o e)
  have e1 : IsTupOf2 (p2.push { cls := .type "tuple", data := .seq #[x1, x2] }) hp.objs.size x1 x2 := by
    rw [← hsz]
    exact Heap.get?_push_size _ rfl
  have res2 := res e1 (by rw [Heap.size_push, hsz]) (fun c o cz c1 c2 e => up c o (hp2'.extBut _ _ c2 (hp1'.extBut _ _ c1 (hs0'.extBut _ _ cz e))))
  show Q (.ref p2.objs.size) _
  rw [hsz]
  exact res2

theorem zipO_end {Q : Fin → Shared → Prop} (S : ZipSep2 z TI TO i1 i2 fp1 fp2) (D1 : Draws prog w A i1 fp1 n1 P1 St1) (D2 : Draws prog w A i2 fp2 n2 P2 St2)
    (hz : ZipO s.heap z TI TO T) (hT : s.heap.get? T = some oT) (hTI : IsTupOf2 s.heap TI (.ref i1) (.ref i2)) (st1 : St1 i s.heap) (st2 : St2 i s.heap) (hle1 : i ≤ n1) (hle2 : i ≤ n2) (hend : i = n1 ∨ i = n2)
    (hE : ∀ h' tk e, (∀ c o, c ≠ z → c ≠ i1 → c ≠ i2 → s.heap.get? c = some o → h'.get? c = some o) → (∃ o, h'.get? e = some o ∧ o.cls = .type "StopIteration") → E (.ref e) { s with heap := h', toks := tk }) :
    wpAny (model prog w) A (Builtin.«zip.__next__» ⟨[.ref z], []⟩) Q E s := by
  obtain ⟨hp, g, d, tk0, os⟩ := s
  obtain ⟨fl, hz0⟩ := id hz
  show wpAny _ _ (field (.ref z) 2 >>= _) _ _ _
  refine wpAny_bind (wpAny_field hz0 rfl (x := .bool false) rfl ?_)
  show wpAny _ _ (field (.ref z) 3 >>= _) _ _ _
  refine wpAny_bind (wpAny_field hz0 rfl (x := .ref TI) rfl ?_)
  refine wpAny_bind (wpAny_seqItems hTI rfl ?_)
  show wpAny _ _ (Builtin.SmallTypes.ownedTupleIsFree (.ref z) >>= _) _ _ _
  refine wpAny_bind (zipO_free hz hT fun g0 hz1 hs0 => ?_)
  simp only [Bool.false_eq_true, if_false]
  have hs0' : Heap.SameBut z hp g0 := hs0
  rw [← Array.forIn_toList]
  simp only [List.forIn_cons, List.forIn_nil]
  refine wpAny_bind (wpAny_bind (wpAny_bind (wpAny_holding ?_)))
  show wpAny _ _ (Builtin.SmallTypes.nextOf (.ref i1) >>= _) _ _ ⟨g0, g, d, tk0, os⟩
  by_cases hlt1 : i < n1
  · refine wpAny_bind (D1.item i _ _ _ hlt1 (D1.over st1 hs0' S.zf1) fun x1 p1 tk1 hx1 sn1 hp1 => wpAny_pure ?_)
    have hp1' : Heap.SameBut i1 g0 p1 := hp1
    have hi2 : i = n2 := by omega
    refine wpAny_pure ?_
    refine wpAny_bind (wpAny_bind (wpAny_holding ?_))
    show wpAny _ _ (Builtin.SmallTypes.nextOf (.ref i2) >>= _) _ _ ⟨p1, g, d, tk1, os⟩
    refine wpAny_bind (D2.done ⟨p1, g, d, tk1, os⟩ _ _ (by rw [← hi2]; exact D2.over (D2.over st2 hs0' S.zf2) hp1' S.sep1_2) fun q e hq he => ?_)
    exact hE q tk1 e (fun c o cz c1 c2 x => hq _ _ c2 (hp1'.extBut _ _ c1 (hs0'.extBut _ _ cz x))) he
  · have hi1 : i = n1 := by omega
    refine wpAny_bind (D1.done ⟨g0, g, d, tk0, os⟩ _ _ (by rw [← hi1]; exact D1.over st1 hs0' S.zf1) fun q e hq he => ?_)
    exact hE q tk0 e (fun c o cz c1 c2 x => hq _ _ c1 (hs0'.extBut _ _ cz x)) he
/-! ### next(zip), before and behind the first item -/
/-- nothing handed out yet, or the tuple T, which stands -/
def ZipS (h : Heap) (z TI TO : Addr) (lo : Addr) : Prop := (IsZip h z TI TO .none ∧ ∃ a b, IsTupOf2 h TO a b) ∨ ∃ T oT, ZipO h z TI TO T ∧ h.get? T = some oT ∧ lo < T
theorem zipS_item {lo : Addr} {Q : Option Value → Shared → Prop} (S : ZipSep2 z TI TO i1 i2 fp1 fp2) (D1 : Draws prog w A.in1 i1 fp1 n1 P1 St1) (D2 : Draws prog w A.in1 i2 fp2 n2 P2 St2)
    (hz : ZipS s.heap z TI TO lo) (hlo : lo < s.heap.objs.size) (hTI : IsTupOf2 s.heap TI (.ref i1) (.ref i2)) (st1 : St1 i s.heap) (st2 : St2 i s.heap) (hlt1 : i < n1) (hlt2 : i < n2) (lz : z ≤ lo) (l1 : i1 ≤ lo) (l2 : i2 ≤ lo)
    (hQ : ∀ x1 x2 h' tk, P1 i x1 → P2 i x2 → ZipS h' z TI TO lo → IsTupOf2 h' TI (.ref i1) (.ref i2) → St1 (i + 1) h' → St2 (i + 1) h' → IsTupOf2 h' s.heap.objs.size x1 x2 → h'.objs.size = s.heap.objs.size + 1 →
      (∀ c o, c ≠ z → c ≠ TO → c ≠ i1 → c ≠ i2 → s.heap.get? c = some o → h'.get? c = some o) → Q (some (.ref s.heap.objs.size)) { s with heap := h', toks := tk }) :
    wpAny (model prog w) A (pyNext (.ref z)) Q E s := by
  rcases hz with ⟨hz, a, b, hTO⟩ | ⟨T, oT, hz, hT, hl⟩
  · refine wpAny_pyNext_zipD2_item S D1 D2 hz hTI hTO st1 st2 hlt1 hlt2 fun x1 x2 h' tk p1 p2 hz' hTO' s1 s2 hn hsz hk => ?_
    refine hQ x1 x2 h' tk p1 p2 (.inr ⟨s.heap.objs.size, _, ⟨false, hz'⟩, hn, hlo⟩) (hk _ _ S.TIz S.TITO S.TIi1 S.TIi2 hTI) s1 s2 hn hsz hk
  · obtain ⟨fl, hz0⟩ := id hz
    have hTy : s.TypeIs (.ref z) "zip" := ⟨_, hz0, rfl⟩
    unfold pyNext
    refine wpAny_bind (wpAny_attempt (wpAny_callSpecial?_slot (name := Str.ofString "__next__") hTy F.slot_zip_next (wpAny_call_entry F.slot_zip_next hTy F.entry_zip_next
      (zipO_item S D1 D2 hz hT hTI st1 st2 hlt1 hlt2 fun x1 x2 h' tk p1 p2 hz' s1 s2 hn hsz hk => wpAny_pure ?_) (F.args_zip_next_1 _))))
    have nT : ∀ x, x ≤ lo → T ≠ x := fun x hx e => by rw [e] at hl; exact absurd (Nat.lt_of_lt_of_le hl hx) (Nat.lt_irrefl _)
    exact hQ x1 x2 h' tk p1 p2 (.inr ⟨T, oT, hz', hk T oT (nT z lz) (nT i1 l1) (nT i2 l2) hT, hl⟩) (hk _ _ S.TIz S.TIi1 S.TIi2 hTI) s1 s2 hn hsz fun c o cz _ c1 c2 e => hk c o cz c1 c2 e
theorem zipS_end {lo : Addr} {Q : Option Value → Shared → Prop} (S : ZipSep2 z TI TO i1 i2 fp1 fp2) (D1 : Draws prog w A.in1 i1 fp1 n1 P1 St1) (D2 : Draws prog w A.in1 i2 fp2 n2 P2 St2)
    (hz : ZipS s.heap z TI TO lo) (hTI : IsTupOf2 s.heap TI (.ref i1) (.ref i2)) (st1 : St1 i s.heap) (st2 : St2 i s.heap) (hle1 : i ≤ n1) (hle2 : i ≤ n2) (hend : i = n1 ∨ i = n2)
    (hQ : ∀ h' tk, (∀ c o, c ≠ z → c ≠ TO → c ≠ i1 → c ≠ i2 → s.heap.get? c = some o → h'.get? c = some o) → Q none { s with heap := h', toks := tk }) : wpAny (model prog w) A (pyNext (.ref z)) Q E s := by
  rcases hz with ⟨hz, a, b, hTO⟩ | ⟨T, oT, hz, hT, hl⟩
  · exact wpAny_pyNext_zipD2_end S D1 D2 hz hTI hTO st1 st2 hle1 hle2 hend hQ
  · obtain ⟨fl, hz0⟩ := id hz
    have hTy : s.TypeIs (.ref z) "zip" := ⟨_, hz0, rfl⟩
    unfold pyNext
    refine wpAny_bind (wpAny_attempt (wpAny_callSpecial?_slot (name := Str.ofString "__next__") hTy F.slot_zip_next (wpAny_call_entry F.slot_zip_next hTy F.entry_zip_next
      (zipO_end S D1 D2 hz hT hTI st1 st2 hle1 hle2 hend fun h' tk e hk he => ?_) (F.args_zip_next_1 _))))
    obtain ⟨o, ho, hc⟩ := he
    refine wpAny_bind (wpAny_isInstance (T := "StopIteration") (b := true) ⟨o, ho, hc⟩ isSubtype_stop ?_)
    exact wpAny_pure (hQ _ _ fun c o cz _ c1 c2 e => hk c o cz c1 c2 e)
end
end Ow

set_option Elab.async false
set_option linter.all false
set_option maxRecDepth 100000
set_option maxHeartbeats 4000000
namespace Ow
open PySem PySem.Spec PyProof.Rows
open Sem (wp)
theorem zip_nolen : typeLookup (.type "zip") "__len__" = pure none := by rw [typeLookup_type, builtinLookup_eq_fast]; kernel_rfl
theorem zip_nohint : typeLookup (.type "zip") "__length_hint__" = pure none := by rw [typeLookup_type, builtinLookup_eq_fast]; kernel_rfl
/-- the pairs made so far -/
structure ZG (xs ys : Array Value) (lo : Addr) (h : Heap) (as : List Addr) : Prop where
  rise : as.Pairwise (· < ·)
  above : ∀ a ∈ as, lo < a
  pairs : ∀ (j : Nat) (a : Addr), as[j]? = some a → ∃ x y, xs[j]? = some x ∧ ys[j]? = some y ∧ IsTupOf2 h a x y
theorem ZG.there {xs ys : Array Value} {lo : Addr} {h : Heap} {as : List Addr} (g : ZG xs ys lo h as) {a : Addr} (ha : a ∈ as) : a < h.objs.size := by
  obtain ⟨j, hj⟩ := List.mem_iff_getElem?.mp ha
  obtain ⟨_, _, _, _, e⟩ := g.pairs j a hj
  exact Heap.lt_size e
/-- where a zip over l1 and l2 stands, all below S -/
structure ZP (z TI TO i1 i2 l1 l2 S : Addr) : Prop where
  sep : ZipSep2 z TI TO i1 i2 [i1, l1] [i2, l2]
  n1 : l1 ≠ i1
  n2 : l2 ≠ i2
  bz : z < S
  bI : TI < S
  bO : TO < S
  b1 : i1 < S
  b2 : i2 < S
  c1 : l1 < S
  c2 : l2 < S
/-- the zip, its turn i being next -/
def ZSt (k1 k2 : SqK) (z TI TO i1 i2 l1 l2 S : Addr) (xs ys : Array Value) (i : Nat) (h : Heap) : Prop :=
  ZipS h z TI TO S ∧ IsTupOf2 h TI (.ref i1) (.ref i2) ∧ (k1.It h i1 l1 i ∧ k1.Is h l1 xs) ∧ k2.It h i2 l2 i ∧ k2.Is h l2 ys
theorem ZSt.keep {k1 k2 : SqK} {z TI TO i1 i2 l1 l2 S : Addr} {xs ys : Array Value} {i : Nat} {h h' : Heap} (p : ZP z TI TO i1 i2 l1 l2 S) (x : ZSt k1 k2 z TI TO i1 i2 l1 l2 S xs ys i h)
    (k : ∀ b o, b ≠ S → h.get? b = some o → h'.get? b = some o) : ZSt k1 k2 z TI TO i1 i2 l1 l2 S xs ys i h' := by
  obtain ⟨hz, hI, ⟨a1, a2⟩, a3, a4⟩ := x
  refine ⟨?_, k _ _ (Nat.ne_of_lt p.bI) hI, ⟨a1.keep fun o e => k _ o (Nat.ne_of_lt p.b1) e, a2.keep fun o e => k _ o (Nat.ne_of_lt p.c1) e⟩, a3.keep fun o e => k _ o (Nat.ne_of_lt p.b2) e, a4.keep fun o e => k _ o (Nat.ne_of_lt p.c2) e⟩
  rcases hz with ⟨hz, a, b, hTO⟩ | ⟨T, oT, ⟨fl, hz⟩, hT, hl⟩
  · exact .inl ⟨k _ _ (Nat.ne_of_lt p.bz) hz, a, b, k _ _ (Nat.ne_of_lt p.bO) hTO⟩
  · exact .inr ⟨T, oT, ⟨fl, k _ _ (Nat.ne_of_lt p.bz) hz⟩, k _ _ (Nat.ne_of_gt hl) hT, hl⟩
section
variable {prog : Program} {w : World} {A : Around} {s : Shared} {R : Result → Shared → Prop} {k1 k2 : SqK} {z TI TO i1 i2 l1 l2 S : Addr} {xs ys : Array Value}
theorem zip_loop (hh : A.handled = none) (p : ZP z TI TO i1 i2 l1 l2 S) (hn : min xs.size ys.size ≤ sizeLine) (res : Value) {h₁ : Heap}
    (hR : ∀ h' tk acc c as, (∀ b o, b ≠ S → b ≠ z → b ≠ TO → b ≠ i1 → b ≠ i2 → h₁.get? b = some o → h'.get? b = some o) → h'.get? S = some { cls := .type "list", dict := none, data := .seq acc c, slots := #[] } → as.length = min xs.size ys.size → ZG xs ys S h' as →
      acc.toList = as.map Value.ref → R (.ok (.ret res)) { s with heap := h', toks := tk }) :
    ∀ (k i : Nat) (h : Heap) (tk c : Nat) (acc : Array Value) (as : List Addr), min xs.size ys.size - i = k → i ≤ min xs.size ys.size → ZSt k1 k2 z TI TO i1 i2 l1 l2 S xs ys i h → (∀ b o, b ≠ S → b ≠ z → b ≠ TO → b ≠ i1 → b ≠ i2 → h₁.get? b = some o → h.get? b = some o) →
      h.get? S = some { cls := .type "list", dict := none, data := .seq acc c, slots := #[] } → acc.toList = as.map Value.ref → as.length = i → ZG xs ys S h as →
      codeAny (model prog w) A (.builtin "list.extend.loop" ⟨[.ref S, .ref z, res], []⟩) R { s with heap := h, toks := tk } := by
  have D1 : Draws prog w A.in1.in1 i1 [i1, l1] xs.size (fun i v => xs[i]? = some v) (fun i h => k1.It h i1 l1 i ∧ k1.Is h l1 xs) := SqK.draws (A := A.in1.in1) hh i1 l1 p.n1 xs
  have D2 : Draws prog w A.in1.in1 i2 [i2, l2] ys.size (fun i v => ys[i]? = some v) (fun i h => k2.It h i2 l2 i ∧ k2.Is h l2 ys) := SqK.draws (A := A.in1.in1) hh i2 l2 p.n2 ys
  intro k
  induction k with
  | zero =>
    intro i h tk c acc as hk hi hst hkeep hS hacc hal hG
    have hin : i = min xs.size ys.size := by omega
    refine codeAny_builtin PySem.F.entry_extend_loop ?_
    rw [Around.under_plainId PySem.F.plain_extend_loop _]
    show wpAny _ A.in1 (pyNext (.ref z) >>= _) _ _ _
    obtain ⟨hz, hI, a12, a34⟩ := hst
    refine wpAny_bind (zipS_end (s := { s with heap := h, toks := tk }) (A := A.in1) (i := i) p.sep D1 D2 hz hI a12 a34 (by omega) (by omega) (by omega) fun h' tk' he => ?_)
    refine wpAny_pure (hR h' tk' acc c as (fun b o n1 n2 n3 n4 n5 e => he b o n2 n3 n4 n5 (hkeep b o n1 n2 n3 n4 n5 e)) (he S _ (Nat.ne_of_gt p.bz) (Nat.ne_of_gt p.bO) (Nat.ne_of_gt p.b1) (Nat.ne_of_gt p.b2) hS) (by omega) ⟨hG.rise, hG.above, fun j a hj => ?_⟩ hacc)
    obtain ⟨x, y, e1, e2, e3⟩ := hG.pairs j a hj
    have ha := hG.above a (List.mem_of_getElem? hj)
    exact ⟨x, y, e1, e2, he a _ (Nat.ne_of_gt (Nat.lt_trans p.bz ha)) (Nat.ne_of_gt (Nat.lt_trans p.bO ha)) (Nat.ne_of_gt (Nat.lt_trans p.b1 ha)) (Nat.ne_of_gt (Nat.lt_trans p.b2 ha)) e3⟩
  | succ k ih =>
    intro i h tk c acc as hk hi hst hkeep hS hacc hal hG
    have hlt : i < min xs.size ys.size := by omega
    have hsz : acc.size = i := by rw [← Array.length_toList, hacc, List.length_map, hal]
    have hSl : S < h.objs.size := Heap.lt_size hS
    refine codeAny_builtin PySem.F.entry_extend_loop ?_
    rw [Around.under_plainId PySem.F.plain_extend_loop _]
    show wpAny _ A.in1 (pyNext (.ref z) >>= _) _ _ _
    obtain ⟨hz, hI, a12, a34⟩ := hst
    refine wpAny_bind (zipS_item (s := { s with heap := h, toks := tk }) (A := A.in1) (i := i) p.sep D1 D2 hz hSl hI a12 a34 (by omega) (by omega) (Nat.le_of_lt p.bz) (Nat.le_of_lt p.b1) (Nat.le_of_lt p.b2) fun x y h' tk' hx hy hz' hI' b12 b34 hT hsz' hkp => ?_)
    dsimp only at hT hsz' hkp ⊢
    have hS' := hkp S _ (Nat.ne_of_gt p.bz) (Nat.ne_of_gt p.bO) (Nat.ne_of_gt p.b1) (Nat.ne_of_gt p.b2) hS
    have up : ∀ b o, b ≠ S → h'.get? b = some o → (h'.update S (Obj.mapSeq (·.push (Value.ref h.objs.size)))).get? b = some o := fun b o hb e => (Heap.get?_update_other _ _ (Ne.symm hb)).trans e
    have st' : ZSt k1 k2 z TI TO i1 i2 l1 l2 S xs ys (i + 1) (h'.update S (Obj.mapSeq (·.push (Value.ref h.objs.size)))) := ZSt.keep p ⟨hz', hI', b12, b34⟩ up
    show wpAny _ A.in1 (updateSeq S (·.push (Value.ref h.objs.size)) >>= _) _ _ _
    refine wpAny_bind ?_
    refine wpAny_updateSeq hS' rfl (wpAny_pure ⟨plainId_quiet PySem.F.plain_extend_loop _, ih (i + 1) _ tk' _ (acc.push (Value.ref h.objs.size)) (as ++ [h.objs.size]) (by omega) hlt st'
      (fun b o n1 n2 n3 n4 n5 e => up b o n1 (hkp b o n2 n3 n4 n5 (hkeep b o n1 n2 n3 n4 n5 e))) (Heap.get?_update_self _ hS' rfl) (by rw [Array.toList_push, hacc, List.map_append]; rfl) (by rw [List.length_append, hal]; rfl) ⟨?_, ?_, ?_⟩⟩) (by rw [hsz]; omega) (by show (acc.push (Value.ref h.objs.size)).size ≤ sizeLine + 1; rw [Array.size_push, hsz]; omega)
    · refine List.pairwise_append.mpr ⟨hG.rise, List.pairwise_singleton _ _, fun a ha b hb => ?_⟩
      rw [List.mem_singleton.mp hb]
      exact hG.there ha
    · intro a ha
      rcases List.mem_append.mp ha with ha | ha
      · exact hG.above a ha
      · rw [List.mem_singleton.mp ha]; exact hSl
    · intro j b hj
      rcases Nat.lt_trichotomy j as.length with q | q | q
      · rw [List.getElem?_append_left q] at hj
        obtain ⟨x', y', e1, e2, e3⟩ := hG.pairs j b hj
        have hb := hG.above b (List.mem_of_getElem? hj)
        exact ⟨x', y', e1, e2, up b _ (Nat.ne_of_gt hb) (hkp b _ (Nat.ne_of_gt (Nat.lt_trans p.bz hb)) (Nat.ne_of_gt (Nat.lt_trans p.bO hb)) (Nat.ne_of_gt (Nat.lt_trans p.b1 hb)) (Nat.ne_of_gt (Nat.lt_trans p.b2 hb)) e3)⟩
      · subst q
        have hb : h.objs.size = b := by simpa using hj
        subst hb
        exact ⟨x, y, by rw [hal]; exact hx, by rw [hal]; exact hy, up _ _ (Nat.ne_of_gt hSl) hT⟩
      · have hnone : (as ++ [h.objs.size])[j]? = none := List.getElem?_eq_none (by rw [List.length_append, List.length_singleton]; omega)
        rw [hnone] at hj; cases hj
end
section
variable {prog : Program} {w : World} {A : Around} {E : Value → Shared → Prop} {s : Shared} {k1 k2 : SqK} {z TI TO i1 i2 l1 l2 : Addr} {xs ys : Array Value}
theorem zip_hint (hT : s.TypeIs (.ref z) "zip") {Q : Bool → Shared → Prop} (h : Q true s) : wpAny (model prog w) A (Builtin.List.listLengthHint (.ref z)) Q E s := by
  unfold Builtin.List.listLengthHint
  refine wpAny_bind (wpAny_specialOf hT zip_nolen ?_)
  first
    | exact wpAny_bind (wpAny_specialOf hT zip_nohint (wpAny_pure h))
    | (show wpAny _ _ (specialOf (Value.ref z) (Str.ofString "__length_hint__") >>= _) _ _ _
       exact wpAny_bind (wpAny_specialOf hT zip_nohint (wpAny_pure h)))

theorem zip_extend {R : Result → Shared → Prop} {S : Addr} (hh : A.handled = none) (p : ZP z TI TO i1 i2 l1 l2 S) (hn : min xs.size ys.size ≤ sizeLine) (hz : IsZip s.heap z TI TO .none) (hTO : IsTupOf2 s.heap TO .none .none)
    (st : IsTupOf2 s.heap TI (.ref i1) (.ref i2) ∧ (k1.It s.heap i1 l1 0 ∧ k1.Is s.heap l1 xs) ∧ k2.It s.heap i2 l2 0 ∧ k2.Is s.heap l2 ys) (res : Value) (c₀ : Nat) (hS : s.heap.get? S = some { cls := .type "list", data := .seq #[] c₀ })
    (hR : ∀ h' tk acc c as, (∀ b o, b ≠ S → b ≠ z → b ≠ TO → b ≠ i1 → b ≠ i2 → s.heap.get? b = some o → h'.get? b = some o) → h'.get? S = some { cls := .type "list", dict := none, data := .seq acc c, slots := #[] } → as.length = min xs.size ys.size → ZG xs ys S h' as →
      acc.toList = as.map Value.ref → R (.ok (.ret res)) { s with heap := h', toks := tk }) :
    wpAny (model prog w) A.in1 (Builtin.List.listExtendWith (.ref S) (.ref z) res)
      (fun fin s' => match fin with | .done f => R (.ok f) s' | .again c' => c'.quiet = true ∧ codeAny (model prog w) A c' R s') (fun e s' => R (.error e) s') s := by
  have hTy : s.TypeIs (.ref z) "zip" := ⟨_, hz, rfl⟩
  have key : ∀ (h : Heap) (c₁ tk : Nat), (∀ b o, b ≠ S → s.heap.get? b = some o → h.get? b = some o) → h.get? S = some { cls := .type "list", data := .seq #[] c₁ } →
      codeAny (model prog w) A (.builtin "list.extend.loop" ⟨[.ref S, .ref z, res], []⟩) R { s with heap := h, toks := tk } := by
    intro h c₁ tk hk hS₁
    have st0 : ZSt k1 k2 z TI TO i1 i2 l1 l2 S xs ys 0 s.heap := ⟨.inl ⟨hz, _, _, hTO⟩, st⟩
    exact zip_loop (s := s) (h₁ := s.heap) hh p hn res (fun h' tk' acc c as hk' hS' hl hG hacc => hR h' tk' acc c as hk' hS' hl hG hacc) (min xs.size ys.size) 0 h tk c₁ #[] [] (Nat.sub_zero _) (Nat.zero_le _) (st0.keep p hk)
      (fun b o n1 _ _ _ _ e => hk b o n1 e) hS₁ rfl rfl ⟨List.Pairwise.nil, (fun _ ha => nomatch ha), (fun j a hj => by simp at hj)⟩
  unfold Builtin.List.listExtendWith
  refine wpAny_bind (wpAny_typeOf (T := "zip") hTy ?_)
  have hSz : S ≠ z := Nat.ne_of_gt p.bz
  have h1 : Builtin.List.listSameRef (.ref S) (.ref z) = false := by simp [Builtin.List.listSameRef, hSz]
  have h2 : (Value.type "zip" == Value.type "list") = false := by decide
  have h3 : (Value.type "zip" == Value.type "tuple") = false := by decide
  simp only [h1, h2, h3, Bool.or_false, Bool.false_eq_true, if_false]
  refine wpAny_bind (wpAny_pyIter_zip hz ?_)
  refine wpAny_bind (wpAny_holding (zip_hint hTy ?_))
  refine wpAny_ite_split (fun _ => ?_) (fun _ => wpAny_pure ⟨plainId_quiet PySem.F.plain_extend_loop _, key _ c₀ _ (fun b o _ e => e) hS⟩)
  refine wpAny_bind (wpAny_rule ?_)
  refine wpAny_bind ?_
  show wpAny _ _ (updateSeq S (·.push .none) >>= fun _ => updateSeq S (·.pop)) _ _ _
  refine wpAny_bind (wpAny_updateSeq hS rfl ?_)
  have hS₂ := Heap.get?_update_self (Obj.mapSeq (·.push Value.none)) hS rfl
  refine wpAny_updateSeq (hz := by seq_fits) hS₂ rfl ?_
  have hS₃ := Heap.get?_update_self (Obj.mapSeq (·.pop)) hS₂ rfl
  refine wpAny_pure ⟨plainId_quiet PySem.F.plain_extend_loop _, key _ _ _ (fun b o hb e => ?_) hS₃⟩
  exact (Heap.get?_update_other _ _ (Ne.symm hb)).trans ((Heap.get?_update_other _ _ (Ne.symm hb)).trans e)
theorem zip_init {R : Result → Shared → Prop} {S : Addr} (hh : A.handled = none) (p : ZP z TI TO i1 i2 l1 l2 S) (hn : min xs.size ys.size ≤ sizeLine) (hz : IsZip s.heap z TI TO .none) (hTO : IsTupOf2 s.heap TO .none .none)
    (st : IsTupOf2 s.heap TI (.ref i1) (.ref i2) ∧ (k1.It s.heap i1 l1 0 ∧ k1.Is s.heap l1 xs) ∧ k2.It s.heap i2 l2 0 ∧ k2.Is s.heap l2 ys) (hS : s.heap.get? S = some { cls := .type "list", data := .seq #[] })
    (hR : ∀ h' tk acc c as, (∀ b o, b ≠ S → b ≠ z → b ≠ TO → b ≠ i1 → b ≠ i2 → s.heap.get? b = some o → h'.get? b = some o) → h'.get? S = some { cls := .type "list", dict := none, data := .seq acc c, slots := #[] } → as.length = min xs.size ys.size → ZG xs ys S h' as →
      acc.toList = as.map Value.ref → R (.ok (.ret .none)) { s with heap := h', toks := tk }) :
    wpAny (model prog w) A.in1 (Builtin.«list.__init__» ⟨[.ref S, .ref z], []⟩)
      (fun fin s' => match fin with | .done f => R (.ok f) s' | .again c' => c'.quiet = true ∧ codeAny (model prog w) A c' R s') (fun e s' => R (.error e) s') s := by
  show wpAny _ _ (do let old ← Builtin.List.listItems (.ref S); Builtin.List.listUpdate (.ref S) (fun _ => #[]); letGo old.toList.reverse; Builtin.List.listExtendWith (.ref S) (.ref z) .none) _ _ s
  refine wpAny_bind ?_
  unfold Builtin.List.listItems
  refine wpAny_bind (wpAny_seqItems hS rfl (wpAny_pure ?_))
  show wpAny _ _ (updateSeq S (fun _ => #[]) >>= fun _ => letGo (#[] : Array Value).toList.reverse >>= fun _ => Builtin.List.listExtendWith (.ref S) (.ref z) .none) _ _ s
  refine wpAny_bind (wpAny_updateSeq hS rfl ?_)
  have hS₂ := Heap.get?_update_self (Obj.mapSeq (fun _ => (#[] : Array Value))) hS rfl
  have oth : ∀ b o, b ≠ S → s.heap.get? b = some o → (s.heap.update S (Obj.mapSeq (fun _ => (#[] : Array Value)))).get? b = some o := fun b o hb e => (Heap.get?_update_other _ _ (Ne.symm hb)).trans e
  refine wpAny_bind (wpAny_letGo ?_)
  obtain ⟨hI, ⟨a1, a2⟩, a3, a4⟩ := st
  refine zip_extend hh p hn (oth _ _ (Nat.ne_of_lt p.bz) hz) (oth _ _ (Nat.ne_of_lt p.bO) hTO) ⟨oth _ _ (Nat.ne_of_lt p.bI) hI, ⟨a1.keep fun o e => oth _ o (Nat.ne_of_lt p.b1) e, a2.keep fun o e => oth _ o (Nat.ne_of_lt p.c1) e⟩, a3.keep fun o e => oth _ o (Nat.ne_of_lt p.b2) e, a4.keep fun o e => oth _ o (Nat.ne_of_lt p.c2) e⟩ .none _ hS₂ fun h' tk acc c as hk hS' hl hG hacc => ?_
  exact hR h' tk acc c as (fun b o n1 n2 n3 n4 n5 e => hk b o n1 n2 n3 n4 n5 (oth b o n1 e)) hS' hl hG hacc
theorem call_list_zip {Q : Value → Shared → Prop} (hh : A.handled = none) (p : ZP z TI TO i1 i2 l1 l2 s.heap.objs.size) (hn : min xs.size ys.size ≤ sizeLine) (hz : IsZip s.heap z TI TO .none) (hTO : IsTupOf2 s.heap TO .none .none)
    (st : IsTupOf2 s.heap TI (.ref i1) (.ref i2) ∧ (k1.It s.heap i1 l1 0 ∧ k1.Is s.heap l1 xs) ∧ k2.It s.heap i2 l2 0 ∧ k2.Is s.heap l2 ys)
    (hQ : ∀ h' tk acc c as, (∀ b o, b ≠ z → b ≠ TO → b ≠ i1 → b ≠ i2 → s.heap.get? b = some o → h'.get? b = some o) → h'.get? s.heap.objs.size = some { cls := .type "list", dict := none, data := .seq acc c, slots := #[] } → as.length = min xs.size ys.size → ZG xs ys s.heap.objs.size h' as →
      acc.toList = as.map Value.ref → Q (.ref s.heap.objs.size) { s with heap := h', toks := tk }) :
    wpAny (model prog w) A (call (.type "list") [.ref z]) Q E s := by
  refine callType_codes (Q₁ := fun obj s₁ => obj = .ref s.heap.objs.size ∧ s₁ = { s with heap := s.heap.push { cls := .type "list", data := .seq #[] } }) PySem.F.called_list (PySem.F.typeCall_list_1 _) PySem.F.entry_list_init (code_list_new _ ⟨rfl, rfl⟩) fun obj s₁ h₁ => ?_
  obtain ⟨rfl, rfl⟩ := h₁
  have hS : (s.heap.push { cls := .type "list", data := .seq #[] }).get? s.heap.objs.size = some { cls := .type "list", data := .seq #[] } := Heap.get?_push_size _ rfl
  obtain ⟨hI, ⟨a1, a2⟩, a3, a4⟩ := st
  have ps : ∀ b o, s.heap.get? b = some o → (s.heap.push { cls := .type "list", data := .seq #[] }).get? b = some o := fun b o e => Heap.get?_push_of_some _ e
  refine ⟨⟨_, hS, rfl⟩, PySem.F.args_list_init_2 _ _, zip_init (A := A.in1) hh p hn (ps _ _ hz) (ps _ _ hTO) ⟨ps _ _ hI, ⟨a1.keep fun o e => ps _ o e, a2.keep fun o e => ps _ o e⟩, a3.keep fun o e => ps _ o e, a4.keep fun o e => ps _ o e⟩ hS fun h' tk acc c as hk hS' hl hG hacc => ?_⟩
  exact ⟨rfl, hQ h' tk acc c as (fun b o n1 n2 n3 n4 e => hk b o (Nat.ne_of_lt (Heap.lt_size e)) n1 n2 n3 n4 (ps b o e)) hS' hl hG hacc⟩
end
end Ow

set_option Elab.async false
set_option linter.all false
set_option maxRecDepth 100000
set_option maxHeartbeats 4000000
namespace Ow
open PySem PySem.Spec PyProof.Rows L2
/-- pairs tracked at their addresses -/
def putP : Hp → List Addr → List (V × V) → Hp
  | H, a :: as, p :: ps => putP (upd H a (.tup [p.1, p.2])) as ps
  | H, _, _ => H
theorem putP_off {b : Addr} : ∀ (as : List Addr) (ps : List (V × V)) (H : Hp), b ∉ as → putP H as ps b = H b
  | [], _, _, _ => rfl
  | _ :: _, [], _, _ => rfl
  | a :: as, p :: ps, H, h => by
    show putP (upd H a (.tup [p.1, p.2])) as ps b = H b
    rw [putP_off as ps _ (fun z => h (List.mem_cons_of_mem _ z)), upd_ne (fun z => h (by rw [z]; exact List.mem_cons_self))]
theorem putP_at : ∀ (as : List Addr) (ps : List (V × V)) (H : Hp), as.length = ps.length → as.Nodup → ∀ (j : Nat) (t : Addr), as[j]? = some t → ∃ p, ps[j]? = some p ∧ putP H as ps t = some (.tup [p.1, p.2])
  | [], [], _, _, _, j, t, e => by simp at e
  | [], _ :: _, _, h, _, _, _, _ => by cases h
  | _ :: _, [], _, h, _, _, _, _ => by cases h
  | a :: as, p :: ps, H, h, hn, j, t, e => by
    have hn' := List.nodup_cons.mp hn
    cases j with
    | zero =>
      have e1 : a = t := by simpa using e
      subst e1
      refine ⟨p, rfl, ?_⟩
      show putP (upd H a (.tup [p.1, p.2])) as ps a = some (.tup [p.1, p.2])
      rw [putP_off as ps _ hn'.1, upd_same]
    | succ j => exact putP_at as ps (upd H a (.tup [p.1, p.2])) (Nat.succ.inj h) hn'.2 j t (by simpa using e)
theorem vals_addrs : ∀ as : List Addr, Vals (as.map V.ref) (as.map Value.ref)
  | [] => .nil
  | _ :: as => .cons rfl (vals_addrs as)
section
variable {X : Cx} {pins : List (Addr × Obj)} {σ : L2.St} {H : Hp} {s : Shared}
theorem zip_laid {h' : Heap} {tk c : Nat} {acc : Array Value} {as : List Addr} {xs ys : List V} {us ws : Array Value} {S : Addr} (I : Inv X pins σ H s) (hSs : s.heap.objs.size ≤ S) (hz : min us.size ws.size ≤ sizeLine) (rx : Vals xs us.toList) (ry : Vals ys ws.toList)
    (hk : ∀ b o, s.heap.get? b = some o → h'.get? b = some o) (hS : h'.get? S = some { cls := .type "list", dict := none, data := .seq acc c, slots := #[] }) (hl : as.length = min us.size ws.size) (hG : ZG us ws S h' as) (hacc : acc.toList = as.map Value.ref) :
    ∃ H' : Hp, Same H H' ∧ H S = none ∧ H' S = some (.lst (as.map V.ref)) ∧ (∀ (j : Nat) (t : Addr), as[j]? = some t → ∃ x y, xs[j]? = some x ∧ ys[j]? = some y ∧ H t = none ∧ H' t = some (.tup [x, y])) ∧ Inv X pins σ H' { s with heap := h', toks := tk } := by
  have hSn : S ∉ as := fun z => Nat.lt_irrefl _ (hG.above _ z)
  have nd : as.Nodup := List.Pairwise.imp (fun {a b} (h : a < b) => Nat.ne_of_lt h) hG.rise
  have above : ∀ t ∈ as, s.heap.objs.size ≤ t := fun t ht => Nat.le_of_lt (Nat.lt_of_le_of_lt hSs (hG.above t ht))
  have new : ∀ t ∈ as, H t = none := fun t ht => I.hok.fresh (above t ht)
  have newS : H S = none := I.hok.fresh hSs
  have lx : xs.length = us.size := by have := rx.length; rw [Array.length_toList] at this; exact this
  have ly : ys.length = ws.size := by have := ry.length; rw [Array.length_toList] at this; exact this
  have lz : (xs.zip ys).length = as.length := by rw [List.length_zip, lx, ly, hl]
  have atP := putP_at as (xs.zip ys) (upd H S (.lst (as.map V.ref))) lz.symm nd
  have off : ∀ b, b ∉ as → b ≠ S → putP (upd H S (.lst (as.map V.ref))) as (xs.zip ys) b = H b := fun b h1 h2 => by rw [putP_off as _ _ h1, upd_ne h2]
  have low : ∀ b o, s.heap.get? b = some o → b ∉ as ∧ b ≠ S := fun b o e => ⟨fun z => absurd (Heap.lt_size e) (Nat.not_lt.mpr (above b z)), fun z => absurd (Heap.lt_size e) (Nat.not_lt.mpr (by rw [z]; exact hSs))⟩
  have kp : ∀ b u, H b = some u → (putP (upd H S (.lst (as.map V.ref))) as (xs.zip ys)) b = some u := fun b u e => by
    rw [off b (fun z => by rw [new b z] at e; cases e) (fun z => by rw [z, newS] at e; cases e)]
    exact e
  have eS : putP (upd H S (.lst (as.map V.ref))) as (xs.zip ys) S = some (.lst (as.map V.ref)) := by rw [putP_off as _ _ hSn, upd_same]
  refine ⟨_, kp, newS, eS, fun j t e => ?_, ?_⟩
  · obtain ⟨p, e1, e2⟩ := atP j t e
    obtain ⟨e3, e4⟩ := List.getElem?_zip_eq_some.mp e1
    exact ⟨p.1, p.2, e3, e4, new t (List.mem_of_getElem? e), e2⟩
  refine I.call' (ch := []) rfl ⟨fun b o q _ _ _ => hk b o q, fun b o q _ _ _ => ⟨o.slots, hk b o q⟩, fun b o q n _ => ?_, fun b o q _ => ⟨o, hk b o q⟩, fun b xs q => kp b _ q, fun b o u q => kp b _ q, fun b ps q => ⟨#[], by rw [kp b _ q]; simp⟩⟩ (fun b u q => ?_) I.bare fun b z => by simp at z
  · obtain ⟨z1, z2⟩ := low b o q
    rw [off b z1 z2]
    exact n
  · by_cases hb : b ∈ as
    · obtain ⟨j, hj⟩ := List.mem_iff_getElem?.mp hb
      obtain ⟨p, e1, e2⟩ := atP j b hj
      rw [e2] at q
      cases q
      obtain ⟨e3, e4⟩ := List.getElem?_zip_eq_some.mp e1
      obtain ⟨x, y, f1, f2, f3⟩ := hG.pairs j b hj
      obtain ⟨x', g1, r1⟩ := rx.get e3
      obtain ⟨y', g2, r2⟩ := ry.get e4
      rw [Array.getElem?_toList, f1] at g1
      rw [Array.getElem?_toList, f2] at g2
      cases g1
      cases g2
      exact ⟨by show 2 ≤ sizeLine; decide, [x, y], .cons r1 (.cons r2 .nil), ⟨_, f3, rfl, _, rfl⟩⟩
    · by_cases hb2 : b = S
      · rw [hb2] at q ⊢
        rw [eS] at q
        cases q
        refine ⟨by rw [List.length_map]; omega, acc.toList, c, by rw [hacc]; exact vals_addrs as, ?_⟩
        rw [Array.toArray_toList]
        exact hS
      · rw [off b hb hb2] at q
        exact (I.hok b u q).stay (fun d v _ y => hk d v y) (fun d y => kp d _ y) fun d xs y => kp d _ y
/-- a list or a tuple of these, read -/
theorem sq_kind {a : Addr} {xs : List V} (I : Inv X pins σ H s) (h : SqL X.K H a xs ∨ SqT X.K H a xs) : ∃ (k : SqK) (its : List Value), k.Is s.heap a its.toArray ∧ Vals xs its ∧ xs.length ≤ sizeLine := by
  rcases h with h | h
  · obtain ⟨its, rv, pl, hz⟩ := I.list h
    exact ⟨.lst, its, pl.isList, rv, hz⟩
  · obtain ⟨its, rv, pl, hz⟩ := I.tuple h
    exact ⟨.tup, its, pl, rv, hz⟩
theorem zp_of (n a b : Nat) (la : a < n) (lb : b < n) : ZP (n + 4) (n + 2) (n + 3) n (n + 1) a b (n + 5) := by
  have m1 : ∀ x : Nat, x ≠ n → x ≠ a → x ∉ [n, a] := fun x h1 h2 => by simp [h1, h2]
  have m2 : ∀ x : Nat, x ≠ n + 1 → x ≠ b → x ∉ [n + 1, b] := fun x h1 h2 => by simp [h1, h2]
  exact ⟨⟨by show (n + 2 : Nat) ≠ n + 4; omega, by show (n + 3 : Nat) ≠ n + 4; omega, by show (n + 2 : Nat) ≠ n + 3; omega, by show (n + 2 : Nat) ≠ n; omega, by simp, m1 _ (by omega) (by omega), m1 _ (by omega) (by omega),
    by show (n + 2 : Nat) ≠ n + 1; omega, by simp, m2 _ (by omega) (by omega), m2 _ (by omega) (by omega), m2 _ (by omega) (by omega), m1 _ (by omega) (by omega)⟩,
    by show (a : Nat) ≠ n; omega, by show (b : Nat) ≠ n + 1; omega, by show (n + 4 : Nat) < n + 5; omega, by show (n + 2 : Nat) < n + 5; omega, by show (n + 3 : Nat) < n + 5; omega, by show (n : Nat) < n + 5; omega, by show (n + 1 : Nat) < n + 5; omega, by show (a : Nat) < n + 5; omega, by show (b : Nat) < n + 5; omega⟩
/-- list(zip(a, b)) -/
def tLZip (K : PySem.W.Frag) (t : TA) : TE := fun σ H Q => t σ H fun vs H1 => ∃ a b xs ys, vs = [.ref a, .ref b] ∧ (SqL K H1 a xs ∨ SqT K H1 a xs) ∧ (SqL K H1 b ys ∨ SqT K H1 b ys) ∧
  ∀ (H' : Hp) (p : Addr) (ts : List Addr), Same H1 H' → H1 p = none → H' p = some (.lst (ts.map V.ref)) → ts.length = min xs.length ys.length →
    (∀ (j : Nat) (t : Addr), ts[j]? = some t → ∃ x y, xs[j]? = some x ∧ ys[j]? = some y ∧ H1 t = none ∧ H' t = some (.tup [x, y])) → Q (.ref p) H'
theorem pe_lzip {e e2 : Expr} {t : TA} {p p2 pos pos2 : Pos} (hc : X.calm = true) (hg : Gl X "list") (hm : X.mg "list" = none) (hg2 : Gl X "zip") (hm2 : X.mg "zip" = none) (hv : bootBuiltins "list" = some (.type "list")) (ha : PA X [e, e2] t)
    (hs : starEach [.Call (.Name "zip" p2) [e, e2] [] pos2] X.env = (false, eval (.Call (.Name "zip" p2) [e, e2] [] pos2) X.env) :: starEach [] X.env := by rfl)
    (hs2 : starEach [e, e2] X.env = (false, eval e X.env) :: starEach [e2] X.env := by rfl) (hpl : (backTo pos2 (starEach [e2] X.env)).any (·.1) = false := by rfl) :
    PE X (.Call (.Name "list" p) [.Call (.Name "zip" p2) [e, e2] [] pos2] [] pos) (tLZip X.K t) := by
  refine ⟨fun pins s σ H Q I hq => ?_⟩
  refine wpAny_Call_Name_kw (ld_blt I hg hm hv ?_)
  refine PyProof.Rows.callWith_type1 ?_ hs rfl
  rw [hs]
  show wpAny _ _ (spliced ((false, eval (.Call (.Name "zip" p2) [e, e2] [] pos2) X.env) :: backTo pos (starEach [] X.env))) _ _ s
  refine Calls.spliced_cons ?_
  refine wpAny_Call_Name_kw (ld_blt I hg2 hm2 PyProof.Rows.boot_zip (PyProof.Rows.callWith_type1 (thn (ha.run pos2 pins s σ H _ I hq) fun us s1 ⟨vs, H1, I1, r1, q1⟩ => ?_) hs2 hpl))
  obtain ⟨a, b, xs, ys, ex, hxs, hys, q⟩ := q1
  subst ex
  cases r1 with
  | cons r rr =>
    cases rr with
    | cons r' rr =>
      cases rr
      cases r
      cases r'
      obtain ⟨k1, us, u1, ru, zu⟩ := sq_kind I1 hxs
      obtain ⟨k2, ws, w1, rw', zw⟩ := sq_kind I1 hys
      refine call_zipK u1 w1 fun h' hz hI hO st1 st2 hsz hk => ?_
      have I2 : Inv X pins σ H1 { s1 with heap := h' } := I1.kept (t' := s1.toks) hk
      have la := u1.lt
      have lb := w1.lt
      have p0 : ZP (s1.heap.objs.size + 4) (s1.heap.objs.size + 2) (s1.heap.objs.size + 3) s1.heap.objs.size (s1.heap.objs.size + 1) a b h'.objs.size := by
        rw [hsz]
        exact zp_of _ _ _ la lb
      refine Calls.spliced_nil ?_
      have lu := ru.length
      have lw := rw'.length
      refine call_list_zip (s := { s1 with heap := h' }) (k1 := k1) (k2 := k2) (xs := us.toArray) (ys := ws.toArray) (I1.ok.hd hc) p0 (by rw [List.size_toArray, List.size_toArray]; omega) hz hO ⟨hI, ⟨st1, u1.keep fun o e => hk _ o e⟩, st2, w1.keep fun o e => hk _ o e⟩ fun h2 tk acc c as hk2 hS hl hG hacc => ?_
      have hk3 : ∀ b o, s1.heap.get? b = some o → h2.get? b = some o := fun b o e => by
        have hb : (b : Nat) < s1.heap.objs.size := Heap.lt_size e
        exact hk2 b o (Nat.ne_of_lt (Nat.lt_of_lt_of_le hb (Nat.le_add_right _ _))) (Nat.ne_of_lt (Nat.lt_of_lt_of_le hb (Nat.le_add_right _ _))) (Nat.ne_of_lt hb) (Nat.ne_of_lt (Nat.lt_of_lt_of_le hb (Nat.le_add_right _ _))) (hk b o e)
      have hSs : s1.heap.objs.size ≤ h'.objs.size := by rw [hsz]; exact Nat.le_add_right _ _
      obtain ⟨H', k1', k2', k3', k4', J⟩ := zip_laid (tk := tk) (S := h'.objs.size) (us := us.toArray) (ws := ws.toArray) I1 hSs (by rw [List.size_toArray, List.size_toArray]; omega) (by simpa using ru) (by simpa using rw') hk3 hS hl hG hacc
      refine ⟨.ref _, H', J, rfl, q H' _ as k1' k2' k3' (by rw [hl, List.size_toArray, List.size_toArray, lu, lw]) k4'⟩
end
end Ow

set_option Elab.async false
set_option linter.all false
set_option maxRecDepth 100000
set_option maxHeartbeats 4000000
namespace Ow
open PySem PySem.Spec PyProof.Rows L2
/-! ### tuples: what comes is one that stands, new or not -/
theorem cutV_whole {xs : List V} {lo hi : Option Int} (h1 : HT.sIx xs.length 0 lo = 0) (h2 : HT.sIx xs.length xs.length hi = xs.length) : cutV xs lo hi = xs := by
  unfold cutV
  simp only [h1, h2]
  simp
def rTSl : V → Option Int → Option Int → Hp → VK → Prop := fun x lo hi H Q => ∃ a xs, x = .ref a ∧ H a = some (.tup xs) ∧ ∀ H' p, Same H H' → H' p = some (.tup (cutV xs lo hi)) → Q (.ref p) H'
def rTCat : R2 := fun x y H Q => ∃ a b xs ys, x = .ref a ∧ y = .ref b ∧ H a = some (.tup xs) ∧ H b = some (.tup ys) ∧ xs.length + ys.length ≤ 5000 ∧ ∀ H' p, Same H H' → H' p = some (.tup (xs ++ ys)) → Q (.ref p) H'
def rTRep : R2 := fun x y H Q => ∃ a k xs, x = .ref a ∧ y = .int k ∧ H a = some (.tup xs) ∧ xs ≠ [] ∧ 1 ≤ k ∧ k ≤ 1000 ∧ xs.length ≤ 1000 ∧ ∀ H' p, Same H H' → H' p = some (.tup (List.replicate k.toNat xs).flatten) → Q (.ref p) H'
section
variable {X : Cx}
theorem sl_tup : SlR X rTSl := by
  intro pins s σ H x v vl vu lo hi sl Q I rx hs pl pu h
  obtain ⟨a, xs, rfl, hx, q⟩ := h
  refine sl_tupA pins s σ H _ v vl vu lo hi sl Q I rx hs pl pu ⟨a, xs, rfl, .of hx, fun w => ?_, fun _ p np => q _ _ (same_new np) upd_same⟩
  refine q H a (Same.refl H) ?_
  rw [cutV_whole w.1 w.2]
  exact hx
theorem op_tcat : OpR X (binaryOp .Add) rTCat := by
  intro pins s σ H x y v u Q I rx ry h
  obtain ⟨a, b, xs, ys, rfl, rfl, ha, hb, hl, q⟩ := h
  refine op_catA pins s σ H _ _ v u Q I rx ry ⟨a, b, xs, ys, rfl, rfl, .of ha, .of hb, Nat.le_trans hl (by decide), fun e => ?_, fun _ e => ?_, fun _ _ p np => q _ _ (same_new np) upd_same⟩
  · refine q H b (Same.refl H) ?_
    rw [e, List.nil_append]
    exact hb
  · refine q H a (Same.refl H) ?_
    rw [e, List.append_nil]
    exact ha
theorem op_trep : OpR X (binaryOp .Mult) rTRep := by
  intro pins s σ H x y v u Q I rx ry h
  obtain ⟨a, k, xs, rfl, rfl, ha, hne, h1, h2, hz, q⟩ := h
  refine op_repA pins s σ H _ _ v u Q I rx ry ⟨a, k, xs, rfl, rfl, .of ha, hne, h1, h2, hz, fun e => ?_, fun _ p np => q _ _ (same_new np) upd_same⟩
  refine q H a (Same.refl H) ?_
  rw [e]
  show H a = some (HO.tup (List.replicate 1 xs).flatten)
  simpa using ha
end
/-! ### zip of tuples, walked -/
theorem walk_zipT {K : PySem.W.Frag} {a b : Addr} {xs ys : List V} {n : Nat} (hn : n = min xs.length ys.length) : Walk (RZ.ItzT K a b) n (fun H => SqT K H a xs ∧ SqT K H b ys) (YPair (fun i => xs[i]?) (fun i => ys[i]?)) := by
  subst hn
  refine ⟨fun i _ hi q => ?_, fun _ q => ⟨xs, ys, q.1, q.2, by omega⟩, fun i H v H' _ q y => ?_⟩
  · exact ⟨xs, ys, xs[i], ys[i], q.1, q.2, List.getElem?_eq_getElem (by omega), List.getElem?_eq_getElem (by omega)⟩
  · obtain ⟨T, x, z, h1, h2, h3, h4, h5⟩ := y
    exact ⟨T, x, z, h1, h2, h3, h4 xs q.1, h5 ys q.2⟩
/-! ### a statement, an expression that is never met -/
theorem ps_never {X : Cx} {st : Stmt} : PS X st (fun _ _ _ => False) := ⟨fun _ _ _ _ _ _ h => h.elim⟩
theorem pe_never {X : Cx} {e : Expr} : PE X e (fun _ _ _ => False) := ⟨fun _ _ _ _ _ _ h => h.elim⟩
/-! ### locks -/
theorem gw_lock {M : Addr → Prop} {H H' : Hp} {d : Addr} {u : HO} {od : Obj} (hd : H d = some u) (g : Gw M (upd H d (.frz od u)) H') : Gw M H (upd H' d u) := fun b o n e => by
  by_cases hb : b = d
  · rw [hb] at e ⊢
    rw [upd_same, ← hd]
    exact e
  · rw [upd_ne hb]
    exact g b o n (by rw [upd_ne hb]; exact e)
theorem same_lock {H H' : Hp} {d : Addr} {u : HO} {od : Obj} (hd : H d = some u) (g : Same (upd H d (.frz od u)) H') : Same H (upd H' d u) := Gw.toSame (gw_lock (M := No) hd (Gw.same g))
end Ow

set_option Elab.async false
set_option linter.all false
set_option maxRecDepth 100000
set_option maxHeartbeats 4000000
namespace Ow
open PySem PySem.Spec PyProof.Rows L2
/-- the inner walk of a comprehension of two clauses -/
def Inner (te : TE) (g1 : TG) (vs1 : List Nat) (D : Addr) (After : Hp → Prop) (σ2 : L2.St) (J1 : It) (H4 : Hp) : Prop :=
  ∃ (n1 : Nat) (G1 : Hp → Prop) (Y1 : Nat → Hp → V → Hp → Prop) (Pv1 : Nat → Hp → Prop), Walk J1 n1 G1 Y1 ∧ Pv1 0 H4 ∧ (∀ j H, j ≤ n1 → Pv1 j H → G1 H) ∧ (∀ H, Pv1 n1 H → After H) ∧
    ∀ j x H H', j < n1 → Pv1 j H → Y1 j H x H' → g1 x (wipe σ2 vs1) H' fun σ3 H5 => wipe σ3 vs1 = wipe σ2 vs1 ∧ te σ3 H5 fun y H7 => ∃ acc, H7 D = some (.lst acc) ∧ acc.length < sizeLine ∧ Pv1 (j + 1) (upd H7 D (.lst (acc ++ [y])))
theorem lc2_it {J : It} {n : Nat} {G : Hp → Prop} {Y : Nat → Hp → V → Hp → Prop} (w : Walk J n G Y) {g g1 : TG} {wi1 : TI} {te : TE} {vs vs1 : List Nat} {σ : L2.St} {H1 : Hp} {D : Addr} {Qd : Hp → Prop} (Pv : Nat → Hp → Prop)
    (h0 : Pv 0 (upd H1 D (.lst []))) (hG : ∀ i H, i ≤ n → Pv i H → G H)
    (hs : ∀ i x H H' (Kg : L2.St → Hp → Prop), i < n → Pv i H → Y i H x H' → (∀ σ2 H2, wipe σ2 vs = wipe σ vs → (∀ Ki : It → Hp → Prop, (∀ J1 H4, Inner te g1 vs1 D (Pv (i + 1)) σ2 J1 H4 → Ki J1 H4) → wi1 σ2 H2 Ki) → Kg σ2 H2) → g x (wipe σ vs) H' Kg)
    (hd : ∀ H, Pv n H → Qd H) :
    ∃ W : Nat → Nat → Hp → Prop, (∃ m, W 0 m (upd H1 D (.lst []))) ∧ ∀ i m H, W i m H →
      (J.stop i H ∧ Qd H) ∨ (J.go i H ∧ ∃ Nx : Hp → Prop, (∀ H', Nx H' → ∃ m', m' < m ∧ W (i + 1) m' H') ∧ ∀ x H', J.yld i H x H' → g x (wipe σ vs) H' fun σ2 H2 => wipe σ2 vs = wipe σ vs ∧ tYes σ2 H2 fun b H3 =>
        if b = true then wi1 σ2 H3 fun J1 H4 => ∃ W1 : Nat → Nat → Hp → Prop, (∃ m, W1 0 m H4) ∧ ∀ j k H, W1 j k H →
          (J1.stop j H ∧ Nx H) ∨ (J1.go j H ∧ ∃ Nx1 : Hp → Prop, (∀ H', Nx1 H' → ∃ k', k' < k ∧ W1 (j + 1) k' H') ∧ ∀ x H', J1.yld j H x H' → g1 x (wipe σ2 vs1) H' fun σ3 H5 => wipe σ3 vs1 = wipe σ2 vs1 ∧ tYes σ3 H5 fun b H6 =>
            if b = true then te σ3 H6 fun y H7 => ∃ acc, H7 D = some (.lst acc) ∧ acc.length < sizeLine ∧ Nx1 (upd H7 D (.lst (acc ++ [y]))) else Nx1 H6)
        else Nx H3) := by
  refine ⟨fun i m H => m = n - i ∧ i ≤ n ∧ Pv i H, ⟨n, by simp, Nat.zero_le _, h0⟩, ?_⟩
  rintro i m H ⟨rfl, hi, p⟩
  have q := hG i H hi p
  by_cases hlt : i < n
  · refine .inr ⟨w.goes i H hlt q, Pv (i + 1), fun H' p' => ⟨n - (i + 1), by omega, rfl, hlt, p'⟩, fun x H' y => hs i x H H' _ hlt p (w.yields i H x H' hlt q y) fun σ2 H2 hw hwi => ⟨hw, ?_⟩⟩
    refine hwi _ fun J1 H4 hin => ?_
    obtain ⟨n1, G1, Y1, Pv1, w1, s1, g1', a1, t1⟩ := hin
    refine ⟨fun j k H => k = n1 - j ∧ j ≤ n1 ∧ Pv1 j H, ⟨n1, by simp, Nat.zero_le _, s1⟩, ?_⟩
    rintro j k H ⟨rfl, hj, p1⟩
    have q1 := g1' j H hj p1
    by_cases hl1 : j < n1
    · exact .inr ⟨w1.goes j H hl1 q1, Pv1 (j + 1), fun H' p' => ⟨n1 - (j + 1), by omega, rfl, hl1, p'⟩, fun x H' y => t1 j x H H' hl1 p1 (w1.yields j H x H' hl1 q1 y)⟩
    · have e : j = n1 := by omega
      subst e
      exact .inl ⟨w1.stops H q1, a1 H p1⟩
  · have e : i = n := by omega
    subst e
    exact .inl ⟨w.stops H q, hd H p⟩
/-! ### rows of bits -/
def rowsN : Nat → List (List Int)
  | 0 => [[]]
  | n + 1 => (rowsN n).flatMap fun r => [r ++ [0], r ++ [1]]
theorem rowsN_len : ∀ n, (rowsN n).length = 2 ^ n
  | 0 => rfl
  | n + 1 => by
    have h : ∀ l : List (List Int), (l.flatMap fun r => [r ++ [0], r ++ [1]]).length = 2 * l.length := fun l => by
      induction l with
      | nil => rfl
      | cons a l ih => simp only [List.flatMap_cons, List.length_append, ih, List.length_cons, List.length_nil]; omega
    show ((rowsN n).flatMap _).length = _
    rw [h, rowsN_len n, Nat.pow_succ]
    omega
/-- the rows made of the first i ones -/
def grown (rs : List (List Int)) (i : Nat) : List (List Int) := (rs.take i).flatMap fun r => [r ++ [0], r ++ [1]]
theorem grown_next {rs : List (List Int)} {i : Nat} {r : List Int} (h : rs[i]? = some r) : grown rs (i + 1) = grown rs i ++ [r ++ [0], r ++ [1]] := by
  unfold grown
  rw [List.take_add_one, h, List.flatMap_append]
  show _ ++ (([r].flatMap _)) = _
  simp
theorem grown_all {rs : List (List Int)} {n : Nat} (h : n = rs.length) : grown rs n = rs.flatMap fun r => [r ++ [0], r ++ [1]] := by
  unfold grown
  rw [h, List.take_length]
theorem grown_len (rs : List (List Int)) (i : Nat) : (grown rs i).length ≤ 2 * rs.length := by
  unfold grown
  have h : ∀ l : List (List Int), (l.flatMap fun r => [r ++ [0], r ++ [1]]).length = 2 * l.length := fun l => by
    induction l with
    | nil => rfl
    | cons a l ih => simp only [List.flatMap_cons, List.length_append, ih, List.length_cons, List.length_nil]; omega
  rw [h, List.length_take]
  omega
end Ow

set_option Elab.async false
set_option linter.all false
set_option maxRecDepth 100000
set_option maxHeartbeats 4000000
set_option exponentiation.threshold 3000
namespace Ow
open PySem PySem.Spec PyProof.Rows L2
theorem scHasValues : FnScope ["value", "many"] ["value", "many"] (defScope dHasValues) := ⟨rfl, rfl, rfl, by decide +kernel, rfl, by decide +kernel, by decide +kernel⟩
theorem scAllRows : FnScope ["size", "found", "turn", "longer", "row"] ["size"] (defScope dAllRows) := ⟨rfl, rfl, rfl, by decide +kernel, rfl, by decide +kernel, by decide +kernel⟩
def bitsB (ns : List Int) : Bool := ns.all fun n => decide (n = 0) || decide (n = 1)
theorem bits_row {H : Hp} {a : Addr} {ns : List Int} (h : H a = some (.tup (ns.map V.int))) : rowB H (.ref a) = bitsB ns := by
  unfold rowB bitsB
  simp only [h, List.all_map]
  congr 1
  funext n
  show (decide (V.int n = V.int 0) || decide (V.int n = V.int 1)) = _
  simp
theorem vl_ints {H : Hp} {a : Addr} {ns : List Int} (h : H a = some (.tup (ns.map V.int))) (hl : ns.length ≤ 60) (hs : ∀ n ∈ ns, n.natAbs < 2 ^ 400) : Vl (a + 1) H (.ref a) :=
  .inr ⟨a, rfl, Nat.ne_of_lt (Nat.lt_succ_self a), .inl ⟨_, h, by rw [List.length_map]; exact hl, fun x hx => by
    obtain ⟨n, hn, rfl⟩ := List.mem_map.mp hx
    exact .inl (hs n hn)⟩⟩
section
variable {P : Program} {w : World} {K : PySem.W.Frag} {mg : Str → Option Value} {base : Heap}
def spHV : Sp := fun vs H Q _ => ∃ (a : Addr) (ns : List Int) (m : Int), vs = [.ref a, .int m] ∧ H a = some (.tup (ns.map V.int)) ∧ ns.length ≤ 60 ∧ (∀ n ∈ ns, n.natAbs < 2 ^ 400) ∧
  ∀ H', Same H H' → Q (.bl (bitsB ns && decide ((ns.length : Int) = m))) H'
theorem ok_hasvalues {f fV : Addr} {fd fdV : FuncData} (F : Fun K "has_values" "has_values" dHasValues f fd) (FV : FnOk P w K mg base CX0 3 fV fdV ["value"] (spB rowB))
    (kV : PySem.W.keepIn K (.ref fV) = true) (bV : Binds K fdV ["value"] []) (gV : mg "is_values" = some (.ref fV)) (ml : mg "len" = none) : FnOk P w K mg base CX0 4 f fd ["value", "many"] spHV := by
  refine F.ok scHasValues (fun vs H Q E h => ?_) (fun cdv A outer s H vs Q E hr h => ?_)
  · obtain ⟨a, ns, m, rfl, _⟩ := h
    rfl
  obtain ⟨a, ns, m, rfl, ha, hl, hs, q⟩ := h
  refine ⟨_, pss_one (ps_ret (pe_and (pe_call FV hr (by rfl) gV kV bV .nil pass0 (pa_cons (pv 0) pa_nil)) (pe_one (pe_cmpR op_eq (pe_callB call_len_seq (by rfl) ml PySem.boot_len (pa_cons (pv 0) pa_nil)) (pv 1) (nomark _))))), ?_⟩
  refine ⟨.ref a, rfl, .ref a, a + 1, rfl, vl_ints ha hl hs, fun H1 sm => ⟨_, rfl, ?_⟩⟩
  rw [bits_row ha]
  cases hb : bitsB ns with
  | true =>
    refine iteT ⟨.ref a, rfl, a, _, rfl, .inr (.of (sm _ _ ha)), .int m, rfl, rfl, ?_⟩
    have := q H1 sm
    rw [hb, Bool.true_and] at this
    rw [List.length_map]
    have e : decide (V.int (ns.length : Int) = V.int m) = decide ((ns.length : Int) = m) := by simp
    rw [e]
    exact this
  | false =>
    refine iteF ?_
    have := q H1 sm
    rw [hb, Bool.false_and] at this
    exact this
/-- all rows of so many bits, a new list of them -/
def spRowsL : Sp := fun vs H Q _ => ∃ n : Nat, vs = [.int n] ∧ n ≤ 6 ∧ ∀ H' p xs, Same H H' → H p = none → H' p = some (.lst xs) → All2 (IsRow H') xs (rowsN n) → Q (.ref p) H'
theorem pow6 {n : Nat} (h : n ≤ 6) : 2 ^ n ≤ 64 := Nat.pow_le_pow_right (by decide) h
theorem ok_allrows {f : Addr} {fd : FuncData} (F : Fun K "_law_all_rows" "_law_all_rows" dAllRows f fd) (mr : mg "range" = none) (mls : mg "list" = none) : FnOk P w K mg base CX0 1 f fd ["size"] spRowsL := by
  refine F.ok scAllRows (fun vs H Q E h => ?_) (fun cdv A outer s H vs Q E hr h => ?_)
  · obtain ⟨n, rfl, _⟩ := h
    rfl
  obtain ⟨n, rfl, hn, q⟩ := h
  refine ⟨_, pss_cons (ps_set (i := 1) scAllRows.nd rfl (.inl rfl) (pe_lst (pa_cons (pe_tup pa_nil) pa_nil)))
    (pss_cons (ps_for PassesOwn.never rfl (pi_range1 (by rfl) mr (pa_cons (pv 0) pa_nil)) (pg_name (i := 2) scAllRows.nd rfl (.inl rfl))
      (pss_cons (ps_set (i := 3) scAllRows.nd rfl (.inl rfl) (pe_lst pa_nil))
      (pss_cons (ps_for PassesOwn.never rfl (pi_list (pe_callTy call_list_of (by rfl) mls (by decide +kernel) (pa_cons (pv 1) pa_nil))) (pg_name (i := 4) scAllRows.nd rfl (.inl rfl))
        (pss_one (ps_expr (pe_bm PySem.F.plainAttrs_list PySem.F.slot_list_extend PySem.F.type_list_extend mt_extend (pv 3) (pa_cons
          (pe_lst (pa_cons (pe_op op_tcat (pv 4) (pe_tup (pa_cons pe_int pa_nil))) (pa_cons (pe_op op_tcat (pv 4) (pe_tup (pa_cons pe_int pa_nil))) pa_nil))) pa_nil)))))
      (pss_one (ps_set (i := 1) scAllRows.nd rfl (.inl rfl) (pv 3))))))
    (pss_one (ps_ret (pv 1)))), ?_⟩
  refine ⟨Nat.zero_le _, fun p1 n1 => ⟨(by show 1 ≤ sizeLine; decide), fun p2 n2 => ⟨.int n, rfl, n, rfl, by omega, by omega, ?_⟩⟩⟩
  have e2 : upd (upd H p1 (.tup [])) p2 (.lst [.ref p1]) p1 = some (.tup []) := by
    rw [upd_ne (ne_of_none upd_same n2)]
    exact upd_same
  have s2 : Same H (upd (upd H p1 (.tup [])) p2 (.lst [.ref p1])) := (same_new n1).trans (same_new n2)
  have n2' : H p2 = none := by
    by_cases h : p2 = p1
    · rw [h]; exact n1
    · rw [upd_ne h] at n2; exact n2
  refine for_range (lo := 0) (n := n) (fun i σ Hx => ∃ L xs y2 y3 y4, σ = [some (.int n), some (.ref L), y2, y3, y4] ∧ Same H Hx ∧ H L = none ∧ Hx L = some (.lst xs) ∧ All2 (IsRow Hx) xs (rowsN i))
    ⟨p2, [.ref p1], none, none, none, rfl, s2, n2', upd_same, .cons ⟨p1, rfl, e2⟩ .nil⟩ (fun i σ Hx hi hP => ?_) (fun σ Hx hP => ?_)
  · obtain ⟨L, xs, y2, y3, y4, rfl, sx, nL, eL, ax⟩ := hP
    have lx := ax.len
    rw [rowsN_len] at lx
    have p6 := pow6 (show i ≤ 6 by omega)
    refine ⟨Nat.zero_le _, fun p3 n3 => ⟨.ref L, rfl, L, xs, rfl, .inl (.of ?_), fun M nM => ?_⟩⟩
    · rw [upd_ne (ne_of_none eL n3)]
      exact eL
    have eM : upd (upd Hx p3 (.lst [])) M (.lst xs) M = some (.lst xs) := upd_same
    have n3M : p3 ≠ M := ne_of_none upd_same nM
    have sM : Same Hx (upd (upd Hx p3 (.lst [])) M (.lst xs)) := (same_new n3).trans (same_new nM)
    refine ⟨M, rfl, ⟨xs, .of eM⟩, ?_⟩
    refine for_list (K := K) (xs := xs) (fun j σ Hy => ∃ zs y4, σ = [some (.int n), some (.ref L), some (.int (0 + (i : Int))), some (.ref p3), y4] ∧ Same Hx Hy ∧ Hy M = some (.lst xs) ∧ Hy p3 = some (.lst zs) ∧ All2 (IsRow Hy) zs (grown (rowsN i) j))
      ⟨[], y4, rfl, sM, eM, ?_, .nil⟩ (fun j σ Hy _ hQ => ?_) (fun j x σ Hy hx hQ => ?_) (fun σ Hy hQ => ?_)
    · rw [upd_ne n3M]
      exact upd_same
    · obtain ⟨zs, y4, rfl, sy, em, e3, az⟩ := hQ
      exact .of em
    · obtain ⟨zs, y4, rfl, sy, em, e3, az⟩ := hQ
      obtain ⟨r, hr, ⟨a, rfl, ha⟩⟩ := ax.get hx
      have ha' : Hy a = some (.tup (r.map V.int)) := sy _ _ ha
      have lr : r.length ≤ 6 := by
        have : ∀ m, ∀ r ∈ rowsN m, r.length = m := fun m => by
          induction m with
          | zero => intro r hr; rw [List.mem_singleton.mp hr]; rfl
          | succ m ih =>
            intro r hr
            obtain ⟨q, hq, hr⟩ := List.mem_flatMap.mp hr
            have := ih q hq
            simp only [List.mem_cons, List.not_mem_nil, or_false] at hr
            rcases hr with rfl | rfl <;> rw [List.length_append, this] <;> rfl
        have := this i r (List.mem_of_getElem? hr)
        omega
      have lz := az.len
      have gl := grown_len (rowsN i) j
      rw [rowsN_len] at gl
      refine ⟨.ref p3, rfl, .inl ⟨rfl, _, .of e3⟩, .ref a, rfl, (by show 1 ≤ sizeLine; decide), fun t1 m1 => ?_⟩
      refine ⟨a, t1, r.map V.int, _, rfl, rfl, ?_, upd_same, ?_, fun H2 q1 s2 h1 => ?_⟩
      · rw [upd_ne (ne_of_none ha' m1)]
        exact ha'
      · rw [List.length_map]
        show r.length + 1 ≤ 5000
        omega
      have sa2 : Same Hy H2 := (same_new m1).trans s2
      refine ⟨.ref a, rfl, (by show 1 ≤ sizeLine; decide), fun t2 m2 => ?_⟩
      refine ⟨a, t2, r.map V.int, _, rfl, rfl, ?_, upd_same, ?_, fun H3 q2 s3 h2 => ?_⟩
      · rw [upd_ne (ne_of_none (sa2 _ _ ha') m2)]
        exact sa2 _ _ ha'
      · rw [List.length_map]
        show r.length + 1 ≤ 5000
        omega
      have sa3 : Same H2 H3 := (same_new m2).trans s3
      refine ⟨(by show 2 ≤ sizeLine; decide), fun b nb => ?_⟩
      have sb : Same H3 (upd H3 b (.lst [.ref q1, .ref q2])) := same_new nb
      have s4 : Same Hy (upd H3 b (.lst [.ref q1, .ref q2])) := (sa2.trans sa3).trans sb
      have e34 := s4 _ _ e3
      have nb3 : p3 ≠ b := ne_of_none (sa3 _ _ (sa2 _ _ e3)) nb
      refine ⟨p3, b, zs, [.ref q1, .ref q2], rfl, rfl, e34, upd_same, ?_, ?_⟩
      · show zs.length + 2 ≤ sizeLine
        exact Nat.le_of_lt (small60 (by omega))
      have t5 : Tk Hy (upd (upd H3 b (.lst [.ref q1, .ref q2])) p3 (.lst (zs ++ [.ref q1, .ref q2]))) := (Tk.same s4).trans (Tk.lst e34)
      have n3x : p3 ≠ M := n3M
      refine ⟨zs ++ [.ref q1, .ref q2], some (.ref a), rfl, fun c o ec => ?_, ?_, upd_same, ?_⟩
      · rw [upd_ne (ne_of_none ec n3)]
        exact s4 _ _ (sy _ _ ec)
      · rw [upd_ne n3M.symm]
        exact s4 _ _ em
      · rw [grown_next hr]
        refine (all_tk t5 az).app (.cons ?_ (.cons ?_ .nil))
        · refine ⟨q1, rfl, ?_⟩
          rw [upd_ne (ne_of e34 ((sa3.trans sb) _ _ h1) (by intro z; cases z)).symm]
          have := (sa3.trans sb) _ _ h1
          rw [List.map_append]
          exact this
        · refine ⟨q2, rfl, ?_⟩
          rw [upd_ne (ne_of e34 (sb _ _ h2) (by intro z; cases z)).symm]
          have := sb _ _ h2
          rw [List.map_append]
          exact this
    · obtain ⟨zs, y4, rfl, sy, em, e3, az⟩ := hQ
      refine ⟨.ref p3, rfl, ?_⟩
      refine ⟨p3, zs, _, _, y4, rfl, sx.trans sy, ?_, e3, ?_⟩
      · cases h : H p3 with
        | none => rfl
        | some o => rw [sx _ _ h] at n3; cases n3
      · rw [grown_all (by rw [lx, rowsN_len])] at az
        exact az
  · obtain ⟨L, xs, y2, y3, y4, rfl, sx, nL, eL, ax⟩ := hP
    exact ⟨.ref L, rfl, q Hx L xs sx nL eL ax⟩
end
end Ow

set_option Elab.async false
set_option linter.all false
set_option maxRecDepth 100000
set_option maxHeartbeats 4000000
namespace Ow
open PySem PySem.Spec PyProof.Rows L2
theorem scAsc : FnScope ["items", "one", "other"] ["items"] (defScope dAscending) := ⟨rfl, rfl, rfl, by decide +kernel, rfl, by decide +kernel, by decide +kernel⟩
theorem scSetNames : FnScope ["value", "item"] ["value"] (defScope dSetNames) := ⟨rfl, rfl, rfl, by decide +kernel, rfl, by decide +kernel, by decide +kernel⟩
theorem scIssues : FnScope ["value"] ["value"] (defScope dIssues) := ⟨rfl, rfl, rfl, by decide +kernel, rfl, by decide +kernel, by decide +kernel⟩
def ltS (a b : Str) : Bool := decide (a.cps.toList < b.cps.toList)
def ascB (zs : List Str) : Bool := ((zs.zip zs.tail).map fun p => ltS p.1 p.2).all id
theorem cut_tail (xs : List V) : cutV xs (some 1) none = xs.tail := by
  unfold cutV
  have e : HT.sIx xs.length 0 (some 1) = min 1 xs.length := by
    exact HT.sIx_nat xs.length 0 1
  rw [e]
  show (xs.drop (min 1 xs.length)).take (xs.length - min 1 xs.length) = xs.tail
  cases xs with
  | nil => rfl
  | cons x xs =>
    have : min 1 (x :: xs).length = 1 := by rw [List.length_cons]; omega
    rw [this, List.drop_one, List.tail_cons, List.take_of_length_le (by rw [List.length_cons]; omega)]
/-- the elements of a comprehension, known one by one, as a list -/
theorem list_eq {α : Type} {f : α → V} {ys : List V} {n : Nat} {zs : List α} (hl : ys.length = n) (hz : zs.length = n) (h : ∀ (i : Nat) y, ys[i]? = some y → ∃ z, zs[i]? = some z ∧ y = f z) : ys = zs.map f := by
  refine List.ext_getElem? fun i => ?_
  rw [List.getElem?_map]
  cases e : ys[i]? with
  | none =>
    have : zs[i]? = none := List.getElem?_eq_none (by have := List.getElem?_eq_none_iff.mp e; omega)
    rw [this]
    rfl
  | some y =>
    obtain ⟨z, hz, rfl⟩ := h i y e
    rw [hz]
    rfl
/-! ### tuples, their object known or not -/
theorem _root_.L2.Rd.same {H H' : Hp} {a : Addr} {u : HO} (s : Same H H') (h : Rd H a u) : Rd H' a u := by
  rcases h with h | ⟨o, h⟩
  · exact .inl (s _ _ h)
  · exact .inr ⟨o, s _ _ h⟩
theorem _root_.L2.Rd.tkT {H H' : Hp} {a : Addr} {xs : List V} (t : Tk H H') (h : Rd H a (.tup xs)) : Rd H' a (.tup xs) := by
  rcases h with h | ⟨o, h⟩
  · exact .inl (t.tup h)
  · exact .inr ⟨o, t _ _ (fun _ z => nomatch z) h⟩
theorem _root_.L2.Rd.ty {K : PySem.W.Frag} {H : Hp} {a : Addr} {xs : List V} (h : Rd H a (.tup xs)) : TyX K H (.ref a) (.type "tuple") := by
  rcases h with h | ⟨o, h⟩
  · exact .base (.tup h)
  · exact .fTuple h
def rTSlR : V → Option Int → Option Int → Hp → VK → Prop := fun x lo hi H Q => ∃ a xs, x = .ref a ∧ Rd H a (.tup xs) ∧ ∀ H' p, Same H H' → Rd H' p (.tup (cutV xs lo hi)) → Q (.ref p) H'
theorem sl_tupR {X : Cx} : SlR X rTSlR := by
  intro pins s σ H x v vl vu lo hi sl Q I rx hs pl pu h
  obtain ⟨a, xs, rfl, hx, q⟩ := h
  refine sl_tupA pins s σ H _ v vl vu lo hi sl Q I rx hs pl pu ⟨a, xs, rfl, .inl hx, fun w => ?_, fun _ p np => q _ _ (same_new np) (.inl upd_same)⟩
  refine q H a (Same.refl H) ?_
  rw [cutV_whole w.1 w.2]
  exact hx
section
variable {P : Program} {w : World} {K : PySem.W.Frag} {mg : Str → Option Value} {base : Heap}
def spAsc : Sp := fun vs H Q _ => ∃ (a : Addr) (zs : List Str), vs = [.ref a] ∧ Rd H a (.tup (zs.map V.str)) ∧ zs.length ≤ 100 ∧ ∀ H', Same H H' → Q (.bl (ascB zs)) H'
theorem ok_asc {f : Addr} {fd : FuncData} (F : Fun K "is_ascending" "is_ascending" dAscending f fd) (mz : mg "zip" = none) (ma : mg "all" = none) : FnOk P w K mg base CX0 1 f fd ["items"] spAsc := by
  refine F.ok scAsc (fun vs H Q E h => ?_) (fun cdv A outer s H vs Q E hr h => ?_)
  · obtain ⟨a, zs, rfl, _⟩ := h
    rfl
  obtain ⟨a, zs, rfl, ha, hl, q⟩ := h
  refine ⟨_, pss_one (ps_ret (pe_callB (cr_all rfl) (by rfl) ma boot_all (pa_cons
    (pe_lc (own := [("one", 1), ("other", 2)]) (g := gTup K 2 (gCons (gName 1) (gCons (gName 2) gNil))) (tt := tYes) rfl scAsc.nd
      (RZ.pi_zipA (by rfl) mz (pa_cons (pv 0) (pa_cons (pe_slice sl_tupR (pv 0) (po_some pe_int) po_none) pa_nil)))
      (blkOk_by (N := ["items", "one", "other"]) (sc := defScope dAscending) (by decide +kernel))
      (fun _ _ _ _ _ => pg_tup rfl (pgs_cons (pg_name (i := 1) scAsc.nd rfl (Or.inl rfl)) (pgs_cons (pg_name (i := 2) scAsc.nd rfl (Or.inl rfl)) pgs_nil)))
      (fun _ _ _ _ _ => pts_nil) (fun _ _ _ _ _ => pe_cmpR op_lt_str (pv 1) (pv 2) (nomark _))) pa_nil))), ?_⟩
  refine ⟨.ref a, rfl, .ref a, rfl, 1, rfl, a, zs.map V.str, rfl, ha, fun H1 b s1 hb => ?_⟩
  rw [cut_tail, ← List.map_tail] at hb
  refine ⟨a, b, zs.map V.str, zs.tail.map V.str, rfl, .inr ⟨.inl (ha.same s1), .inl hb, fun D nD => ?_⟩⟩
  refine lc_map (M := No) (walk_zipT (K := K) (a := a) (b := b) (xs := zs.map V.str) (ys := zs.tail.map V.str) rfl) (by rw [List.length_map, List.length_map, List.length_tail]; omega) Jg.no nD
    (fun i _ y => ∃ p, (zs.zip zs.tail)[i]? = some p ∧ y = .bl (ltS p.1 p.2)) (fun _ _ _ _ _ h => h) (fun Hx g _ => ⟨.inl ((ha.same s1).same g.toSame), .inl (hb.same g.toSame)⟩)
    (fun i x Hx Hx' Kk hi g _ hY hK => ?_) (fun Hx ys g _ eD hlen hp => ?_)
  · obtain ⟨T, x, y, rfl, nT, rfl, hx, hy⟩ := hY
    have hx : (zs.map V.str)[i]? = some x := hx
    have hy : (zs.tail.map V.str)[i]? = some y := hy
    rw [List.getElem?_map] at hx hy
    cases h1 : zs[i]? with
    | none => rw [h1] at hx; cases hx
    | some c =>
      cases h2 : zs.tail[i]? with
      | none => rw [h2] at hy; cases hy
      | some d =>
        rw [h1] at hx
        rw [h2] at hy
        cases hx
        cases hy
        refine ⟨T, [.str c, .str d], rfl, .of upd_same, rfl, _, _, rfl, _, _, rfl, rfl, rfl, .str c, rfl, .str d, rfl, c, d, rfl, rfl, hK _ _ (Gw.new nT) Jg.no ⟨(c, d), List.getElem?_zip_eq_some.mpr ⟨h1, h2⟩, rfl⟩⟩
  · have e : ys = ((zs.zip zs.tail).map fun p => ltS p.1 p.2).map V.bl := by
      rw [List.map_map]
      exact list_eq (f := V.bl ∘ fun p : Str × Str => ltS p.1 p.2) hlen (by rw [List.length_zip, List.length_map, List.length_map]) hp
    rw [e] at eD
    refine ⟨D, _, rfl, .of eD, q _ ?_⟩
    exact s1.trans g.toSame
end
end Ow

set_option Elab.async false
set_option linter.all false
set_option maxRecDepth 100000
set_option maxHeartbeats 4000000
namespace Ow
open PySem PySem.Spec PyProof.Rows L2
def namesB (zs : List Str) : Bool := (zs.all fun z => nameB (.str z)) && ascB zs
def issuesB (zs : List Str) : Bool := namesB zs && (decide (1 ≤ zs.length) && decide (zs.length ≤ 6))
/-- texts of plain signs -/
def Plain (zs : List Str) : Prop := ∀ z ∈ zs, z.length ≤ 4000 ∧ ∀ c ∈ z.cps.toList, c < 128
section
variable {P : Program} {w : World} {K : PySem.W.Frag} {mg : Str → Option Value} {base : Heap}
def spTexts (g : List Str → Bool) : Sp := fun vs H Q _ => ∃ (a : Addr) (zs : List Str), vs = [.ref a] ∧ Rd H a (.tup (zs.map V.str)) ∧ zs.length ≤ 60 ∧ Plain zs ∧ ∀ H', Same H H' → Q (.bl (g zs)) H'
theorem ok_setnames {f fN fA : Addr} {fd fdN fdA : FuncData} (F : Fun K "is_set_of_names" "is_set_of_names" dSetNames f fd) (FN : FnOk P w K mg base CX0 1 fN fdN ["value"] (spB fun _ => nameB)) (kN : PySem.W.keepIn K (.ref fN) = true) (bN : Binds K fdN ["value"] []) (gN : mg "is_name" = some (.ref fN))
    (FA : FnOk P w K mg base CX0 1 fA fdA ["items"] spAsc) (kA : PySem.W.keepIn K (.ref fA) = true) (bA : Binds K fdA ["items"] []) (gA : mg "is_ascending" = some (.ref fA)) (mi : mg "isinstance" = none) (mt : mg "tuple" = none) (ma : mg "all" = none) :
    FnOk P w K mg base CX0 2 f fd ["value"] (spTexts namesB) := by
  refine F.ok scSetNames (fun vs H Q E h => ?_) (fun cdv A outer s H vs Q E hr h => ?_)
  · obtain ⟨a, zs, rfl, _⟩ := h
    rfl
  obtain ⟨a, zs, rfl, ha, hl, hp, q⟩ := h
  refine ⟨_, pss_one (ps_ret (pe_and (pe_isi (T := "tuple") (by rfl) mi (pv 0) (by rfl) mt boot_tup)
    (pe_and (pe_callB (cr_all rfl) (by rfl) ma boot_all (pa_cons
      (pe_lc (own := [("item", 1)]) (g := gName 1) (tt := tYes) rfl scSetNames.nd (pi_tup (pv 0)) (blkOk_by (N := ["value", "item"]) (sc := defScope dSetNames) (by decide +kernel))
        (fun _ _ _ _ _ => pg_name (i := 1) scSetNames.nd rfl (Or.inl rfl)) (fun _ _ _ _ _ => pts_nil)
        (fun _ _ _ _ _ => pe_call FN hr (by rfl) gN kN bN .nil pass0 (pa_cons (pv 1) pa_nil))) pa_nil))
      (pe_one (pe_call FA hr (by rfl) gA kA bA .nil pass0 (pa_cons (pv 0) pa_nil)))))), ?_⟩
  refine isi_at "tuple" rfl ha.ty (b := true) (by decide +kernel) ⟨true, rfl, iteT ?_⟩
  refine ⟨.ref a, rfl, a, rfl, ⟨_, .inl ha⟩, fun D nD => ?_⟩
  refine lc_map (M := No) (walk_tup (K := K) (a := a) (xs := zs.map V.str)) (by rw [List.length_map]; omega) Jg.no nD (fun i _ y => ∃ z, zs[i]? = some z ∧ y = .bl (nameB (.str z))) (fun _ _ _ _ _ h => h) (fun Hx g _ => .inl (ha.same g.toSame))
    (fun i x Hx Hx' Kk hi g _ hY hK => ?_) (fun Hx ys g _ eD hlen hq => ?_)
  · obtain ⟨rfl, hx⟩ := hY
    rw [List.getElem?_map] at hx
    cases h1 : zs[i]? with
    | none => rw [h1] at hx; cases hx
    | some c =>
      rw [h1] at hx
      cases hx
      have hc := hp c (List.mem_of_getElem? h1)
      refine ⟨rfl, .str c, rfl, .str c, 0, rfl, .inl hc, fun H2 s2 => hK _ _ (Gw.same s2) Jg.no ⟨c, h1, rfl⟩⟩
  · have e : ys = (zs.map fun z => nameB (.str z)).map V.bl := by
      rw [List.map_map]
      exact list_eq (f := V.bl ∘ fun z : Str => nameB (.str z)) hlen (by rw [List.length_map]) hq
    rw [e] at eD
    refine ⟨D, _, rfl, .of eD, _, rfl, ?_⟩
    have e2 : (zs.map fun z => nameB (.str z)).all id = zs.all fun z => nameB (.str z) := by rw [List.all_map]; rfl
    rw [e2]
    cases hb : zs.all fun z => nameB (.str z) with
    | true =>
      refine iteT ⟨.ref a, rfl, a, zs, rfl, ha.same g.toSame, by omega, fun H2 s2 => ?_⟩
      have := q H2 (g.toSame.trans s2)
      unfold namesB at this
      rw [hb, Bool.true_and] at this
      exact this
    | false =>
      refine iteF ?_
      have := q Hx g.toSame
      unfold namesB at this
      rw [hb, Bool.false_and] at this
      exact this
theorem ok_issues {f fS : Addr} {fd fdS : FuncData} {t : Tok} (F : Fun K "is_issues" "is_issues" dIssues f fd) (FS : FnOk P w K mg base CX0 2 fS fdS ["value"] (spTexts namesB)) (kS : PySem.W.keepIn K (.ref fS) = true) (bS : Binds K fdS ["value"] []) (gS : mg "is_set_of_names" = some (.ref fS))
    (ml : mg "len" = none) (mM : mg "MAX_ISSUES" = some (.int 6 t)) : FnOk P w K mg base CX0 3 f fd ["value"] (spTexts issuesB) := by
  refine F.ok scIssues (fun vs H Q E h => ?_) (fun cdv A outer s H vs Q E hr h => ?_)
  · obtain ⟨a, zs, rfl, _⟩ := h
    rfl
  obtain ⟨a, zs, rfl, ha, hl, hp, q⟩ := h
  refine ⟨_, pss_one (ps_ret (pe_and (pe_call FS hr (by rfl) gS kS bS .nil pass0 (pa_cons (pv 0) pa_nil))
    (pe_one (pe_chain op_le op_le pe_int (pe_callB call_len_seq (by rfl) ml PySem.boot_len (pa_cons (pv 0) pa_nil)) (pe_glob (v := .int 6) (by rfl) mM ⟨_, rfl⟩))))), ?_⟩
  refine ⟨.ref a, rfl, a, zs, rfl, ha, hl, hp, fun H1 s1 => ⟨_, rfl, ?_⟩⟩
  have fin : ∀ b, b = issuesB zs → Q (.bl b) H1 := fun b e => by rw [e]; exact q H1 s1
  cases hb : namesB zs with
  | true =>
    refine iteT ⟨.ref a, rfl, a, _, rfl, .inr (.inl (ha.same s1)), 1, _, rfl, rfl, _, rfl, ?_⟩
    rw [List.length_map]
    by_cases h1 : (1 : Int) ≤ (zs.length : Int)
    · rw [decide_eq_true h1]
      refine iteT ⟨_, _, rfl, rfl, fin _ ?_⟩
      unfold issuesB
      rw [hb, decide_eq_true (show 1 ≤ zs.length by omega), Bool.true_and, Bool.true_and]
      by_cases h6 : zs.length ≤ 6
      · rw [decide_eq_true h6, decide_eq_true (show (zs.length : Int) ≤ 6 by omega)]
      · rw [decide_eq_false h6, decide_eq_false (show ¬ (zs.length : Int) ≤ 6 by omega)]
    · rw [decide_eq_false h1]
      refine iteF (fin _ ?_)
      unfold issuesB
      rw [decide_eq_false (show ¬ 1 ≤ zs.length by omega), Bool.false_and, Bool.and_false]
  | false =>
    refine iteF (fin _ ?_)
    unfold issuesB
    rw [hb, Bool.false_and]
end
end Ow

set_option Elab.async false
set_option linter.all false
set_option maxRecDepth 100000
set_option maxHeartbeats 4000000
namespace Ow
open PySem PySem.Spec PyProof.Rows L2
/-- the signs of a text, each a text -/
def signsV (z : Str) : List V := z.cps.toList.map fun c => .str ⟨#[c]⟩
def rListS : List V → Hp → VK → Prop := fun xs H Q => ∃ z, xs = [.str z] ∧ z.length ≤ 5000 ∧ ∀ p, H p = none → Q (.ref p) (upd H p (.lst (signsV z)))
theorem call_listS {X : Cx} (hc : X.calm = true) : CallR X (.type "list") rListS := by
  intro pins s σ H xs us Q I r h
  obtain ⟨z, rfl, hz, q⟩ := h
  obtain ⟨u, rfl, rx⟩ := vals1 r
  obtain ⟨t, rfl⟩ := rx
  have hsz : z.cps.size ≤ sizeLine := Nat.le_trans hz (by decide)
  refine call_list_str (I.ok.hd hc) z t (fun h' tk acc' c' hk hS hacc => ?_) hsz
  refine ⟨.ref s.heap.objs.size, _, I.laid (t' := tk) hk (Nat.le_refl _) (show ObjOk X.prog X.w _ h' _ (.lst (signsV z)) from ?_), rfl, q _ (I.hok.fresh (Nat.le_refl _))⟩
  refine ⟨by unfold signsV; rw [List.length_map, Array.length_toList]; exact hsz, acc'.toList, c', ?_, by rw [Array.toArray_toList]; exact hS⟩
  refine vals_of_at (by unfold signsV; rw [List.length_map, Array.length_toList, Array.length_toList]; exact hacc.1.symm) fun j x v hx hv => ?_
  obtain ⟨c, u, hc2, rfl⟩ := hacc.2 j v (by rw [Array.getElem?_toList] at hv; exact hv)
  unfold signsV at hx
  rw [List.getElem?_map, Array.getElem?_toList, hc2] at hx
  cases hx
  exact ⟨_, rfl⟩
end Ow

set_option Elab.async false
set_option linter.all false
set_option maxRecDepth 100000
set_option maxHeartbeats 4000000
set_option exponentiation.threshold 3000
namespace Ow
open PySem PySem.Spec PyProof.Rows L2
theorem scJumbled : FnScope ["jug", "items", "waits", "turn"] ["jug", "items"] (defScope dJumbled) := ⟨rfl, rfl, rfl, by decide +kernel, rfl, by decide +kernel, by decide +kernel⟩
/-- what a list is made of: a list, or a text's signs -/
def Src (H : Hp) (J : Addr) (x : V) (xs : List V) : Prop := (∃ L, x = .ref L ∧ L ≠ J ∧ H L = some (.lst xs)) ∨ ∃ z : Str, x = .str z ∧ z.length ≤ 60 ∧ xs = signsV z
def rListA (K : PySem.W.Frag) : List V → Hp → VK → Prop := fun xs H Q => (∃ p ys, xs = [.ref p] ∧ (SqL K H p ys ∨ SqT K H p ys) ∧ ∀ l, H l = none → Q (.ref l) (upd H l (.lst ys))) ∨ rListS xs H Q
theorem call_listA {X : Cx} (hc : X.calm = true) : CallR X (.type "list") (rListA X.K) := CallR.or call_list_of (call_listS hc)
theorem Src.call {K : PySem.W.Frag} {H : Hp} {J : Addr} {x : V} {xs : List V} {Q : VK} (h : Src H J x xs) (q : ∀ l, H l = none → Q (.ref l) (upd H l (.lst xs))) : rListA K [x] H Q := by
  rcases h with ⟨L, rfl, _, hL⟩ | ⟨z, rfl, hz, rfl⟩
  · exact .inl ⟨L, xs, rfl, .inl (.of hL), q⟩
  · exact .inr ⟨z, rfl, Nat.le_trans hz (by decide), q⟩
theorem Src.same {H H' : Hp} {J : Addr} {x : V} {xs : List V} (h : Src H J x xs) (s : Same H H') : Src H' J x xs := by
  rcases h with ⟨L, e, n, hL⟩ | h
  · exact .inl ⟨L, e, n, s _ _ hL⟩
  · exact .inr h
theorem perm_erase {α : Type} : ∀ (ws : List α) (k : Nat) (h : k < ws.length), (ws[k] :: ws.eraseIdx k).Perm ws
  | w :: ws, 0, _ => .refl _
  | w :: ws, k + 1, h => by
    show (ws[k]'(Nat.lt_of_succ_lt_succ h) :: w :: ws.eraseIdx k).Perm (w :: ws)
    exact (List.Perm.swap w _ _).trans ((perm_erase ws k (Nat.lt_of_succ_lt_succ h)).cons w)
theorem yes_of' {σ : L2.St} {H : Hp} {A B : Hp → Prop} (h : A H) : tYes σ H (fun b H3 => if b = true then A H3 else B H3) := by
  show if true = true then A H else B H
  rw [if_pos rfl]
  exact h
section
variable {P : Program} {w : World} {K : PySem.W.Frag} {mg : Str → Option Value} {base : Heap}
/-- the items in some order, a new list -/
def spJum : Sp := fun vs H Q _ => ∃ (J : Addr) (x0 : V) (xs : List V), vs = [.ref J, x0] ∧ Jug H J ∧ Src H J x0 xs ∧ xs.length ≤ 100 ∧ ∀ H' p ys, Sb J H H' → Jug H' J → H p = none → H' p = some (.lst ys) → ys.Perm xs → Q (.ref p) H'
theorem ok_jumbled {f fD : Addr} {fd fdD : FuncData} (F : Fun K "_law_jumbled" "_law_jumbled" dJumbled f fd)
    (FD : FnOk P w K mg base CX0 1 fD fdD ["jug", "total"] spDip) (kD : PySem.W.keepIn K (.ref fD) = true) (bD : Binds K fdD ["jug", "total"] []) (gD : mg "_law_dip" = some (.ref fD))
    (mls : mg "list" = none) (ml : mg "len" = none) : FnOk P w K mg base CX0 2 f fd ["jug", "items"] spJum := by
  refine F.ok scJumbled (fun vs H Q E h => ?_) (fun cdv A outer s H vs Q E hr h => ?_)
  · obtain ⟨J, x0, xs, rfl, _⟩ := h
    rfl
  obtain ⟨J, x0, xs, rfl, hJ, hL, hl, q⟩ := h
  refine ⟨_, pss_cons (ps_set (i := 2) scJumbled.nd rfl (.inr rfl) (pe_callTy (call_listA rfl) (by rfl) mls (by decide +kernel) (pa_cons (pv 1) pa_nil)))
    (pss_one (ps_ret (pe_lc (te := tBM K "list" rPopAt (tVar 2) (tCons (tCall spDip [] E0 (tCons (tVar 0) (tCons (tCB (fun xs H Q => ∃ p ys, xs = [.ref p] ∧ (SqL K H p ys ∨ SqT K H p ys) ∧ Q (.int ys.length) H) (tCons (tVar 2) tNil)) tNil))) tNil)) (own := [("turn", 3)]) (g := gName 3) (tt := tYes) rfl scJumbled.nd
      (pi_list (pe_callTy (call_listA rfl) (by rfl) mls (by decide +kernel) (pa_cons (pv 1) pa_nil))) (blkOk_by (N := ["jug", "items", "waits", "turn"]) (sc := defScope dJumbled) (by decide +kernel))
      (fun _ _ _ _ _ => pg_name (i := 3) scJumbled.nd rfl (Or.inl rfl)) (fun _ _ _ _ _ => pts_nil)
      (fun _ _ _ _ _ => pe_bm PySem.F.plainAttrs_list PySem.F.slot_list_pop PySem.F.type_list_pop mt_popAt (pv 2) (pa_cons (pe_call FD hr (by rfl) gD kD bD .nil pass0 (pa_cons (pv 0) (pa_cons (pe_callB call_len_seq (by rfl) ml PySem.boot_len (pa_cons (pv 2) pa_nil)) pa_nil))) pa_nil))))), ?_⟩
  refine ⟨x0, rfl, ?_⟩
  dsimp only [tNil]
  refine hL.call (K := K) fun W nW => ?_
  have sW := same_new (o := .lst xs) nW
  have eW : upd H W (.lst xs) W = some (.lst xs) := upd_same
  have hL1 := hL.same sW
  have j1 := jug_same sW hJ
  have WJ : W ≠ J := jug_none hJ nW
  have keep1 : ∀ b o, H b = some o → b ≠ W := fun b o e => ne_of_none e nW
  generalize upd H W (.lst xs) = H1 at sW eW hL1 j1 ⊢
  refine ⟨x0, rfl, ?_⟩
  dsimp only [tNil]
  refine hL1.call (K := K) fun T nT => ⟨T, rfl, ⟨xs, .of upd_same⟩, fun D nD => ?_⟩
  have sT := same_new (o := .lst xs) nT
  have eW2 := sT _ _ eW
  have TJ : T ≠ J := jug_none j1 nT
  have TW : T ≠ W := (ne_of_none eW nT).symm
  have j2 := jug_same sT j1
  have eT : upd H1 T (.lst xs) T = some (.lst xs) := upd_same
  have keep2 : ∀ b o, H b = some o → upd H1 T (.lst xs) b = some o := fun b o e => sT _ _ (sW _ _ e)
  have nD0 : H D = none := by
    cases e : H D with
    | none => rfl
    | some o => rw [keep2 D o e] at nD; cases nD
  generalize upd H1 T (.lst xs) = H2 at eW2 j2 eT keep2 nD ⊢
  have DJ : D ≠ J := jug_none j2 nD
  have DW : D ≠ W := (ne_of_none eW2 nD).symm
  have DT : D ≠ T := (ne_of_none eT nD).symm
  refine lc_it (walk_list (K := K) (a := T) (xs := xs)) (fun i Hx => (∀ b o, b ≠ J → b ≠ W → b ≠ D → H2 b = some o → Hx b = some o) ∧ Jug Hx J ∧ ∃ ws ys, Hx W = some (.lst ws) ∧ Hx D = some (.lst ys) ∧ (ys ++ ws).Perm xs ∧ ys.length = i)
    ⟨fun b o _ _ n e => by rw [upd_ne n]; exact e, jug_keep j2 DJ, xs, [], by rw [upd_ne DW.symm]; exact eW2, upd_same, .refl _, rfl⟩ (fun i Hx _ h => .of (h.1 _ _ TJ TW DT.symm eT)) (fun i x Hx Hx' hi h hY => ?_) (fun Hx h => ?_)
  · obtain ⟨rfl, hx⟩ := hY
    obtain ⟨kp, jx, ws, ys, ew, ed, pm, ly⟩ := h
    have lw : ys.length + ws.length = xs.length := by rw [← List.length_append]; exact pm.length_eq
    have pos : 0 < ws.length := by omega
    refine ⟨rfl, yes_of' ?_⟩
    refine ⟨.ref W, rfl, .inl ⟨rfl, _, .of ew⟩, .ref J, rfl, .ref W, rfl, W, ws, rfl, .inl (.of ew), J, ws.length, rfl, by omega, ?_, jx, fun H3 k sb3 j3 k0 kl => ?_⟩
    · exact Nat.lt_of_lt_of_le (by omega : ((ws.length : Nat) : Int).natAbs < 2 ^ 7) (Nat.pow_le_pow_right (by decide) (by decide))
    have ew3 := sb3 _ _ WJ ew
    have ed3 := sb3 _ _ DJ ed
    have kn : k.toNat < ws.length := by omega
    refine ⟨W, ws, k, k.toNat, ws[k.toNat], rfl, rfl, ew3, by omega, by omega, seqIndex_of k0 kl, List.getElem?_eq_getElem kn, ys, ?_, small60 (by omega), fun b o n1 n2 n3 e => ?_, ?_, ws.eraseIdx k.toNat, ys ++ [ws[k.toNat]], ?_, upd_same, ?_, by rw [List.length_append, ly]; rfl⟩
    · rw [upd_ne DW]
      exact ed3
    · rw [upd_ne n3, upd_ne n2]
      exact sb3 _ _ n1 (kp b o n1 n2 n3 e)
    · exact jug_keep (jug_keep j3 WJ) DJ
    · rw [upd_ne DW.symm]
      exact upd_same
    · have p1 : (ws[k.toNat] :: ws.eraseIdx k.toNat).Perm ws := perm_erase _ _ kn
      have : (ys ++ [ws[k.toNat]] ++ ws.eraseIdx k.toNat) = ys ++ (ws[k.toNat] :: ws.eraseIdx k.toNat) := by simp
      rw [this]
      exact (List.Perm.append_left ys p1).trans pm
  · obtain ⟨kp, jx, ws, ys, ew, ed, pm, ly⟩ := h
    have lw : ys.length + ws.length = xs.length := by rw [← List.length_append]; exact pm.length_eq
    have e0 : ws = [] := List.length_eq_zero_iff.mp (by omega)
    rw [e0, List.append_nil] at pm
    exact q Hx D ys (fun b o n e => kp b o n (keep1 b o e) (fun z => by rw [z, nD0] at e; cases e) (keep2 b o e)) jx nD0 ed pm
end
end Ow

set_option Elab.async false
set_option linter.all false
set_option maxRecDepth 100000
set_option maxHeartbeats 4000000
set_option exponentiation.threshold 3000
namespace Ow
open PySem PySem.Spec PyProof.Rows L2
theorem rowsN_size : ∀ n, ∀ r ∈ rowsN n, r.length = n
  | 0, r, hr => by rw [List.mem_singleton.mp hr]; rfl
  | n + 1, r, hr => by
    obtain ⟨q, hq, hr⟩ := List.mem_flatMap.mp hr
    have := rowsN_size n q hq
    simp only [List.mem_cons, List.not_mem_nil, or_false] at hr
    rcases hr with rfl | rfl <;> rw [List.length_append, this] <;> rfl
theorem same_none {H H' : Hp} {p : Addr} (s : Same H H') (n : H' p = none) : H p = none := by
  cases h : H p with
  | none => rfl
  | some o => rw [s _ _ h] at n; cases n
theorem same_newer {H H' : Hp} {p : Addr} {o : HO} (s : Same H H') (n : H p = none) : Same H (upd H' p o) := fun b x e => by
  rw [upd_ne (ne_of_none e n)]
  exact s b x e
def rowD (ns : List Int) : PyData := .tuple (ns.map .int)
def rowsD (rs : List (List Int)) : PyData := .tuple (rs.map rowD)
theorem dp_ints {K : PySem.W.Frag} {H : Hp} : ∀ ns : List Int, DpAll K H (ns.map V.int) (ns.map .int)
  | [] => .nil
  | n :: ns => .cons (.int n) (dp_ints ns)
theorem dp_row {K : PySem.W.Frag} {H : Hp} {v : V} {ns : List Int} (h : IsRow H v ns) : Dp K H v (rowD ns) := by
  obtain ⟨a, rfl, h⟩ := h
  exact .tup (.of h) (dp_ints ns)
theorem dp_all {K : PySem.W.Frag} {H : Hp} {xs : List V} {rs : List (List Int)} (h : All2 (IsRow H) xs rs) : DpAll K H xs (rs.map rowD) := by
  induction h with
  | nil => exact .nil
  | cons r _ ih => exact .cons (dp_row r) ih
theorem dp_rows {K : PySem.W.Frag} {H : Hp} {v : V} {rs : List (List Int)} (h : IsRows H v rs) : Dp K H v (rowsD rs) := by
  obtain ⟨a, xs, rfl, h, g⟩ := h
  exact .tup (.of h) (dp_all g)
theorem eqv_ints : ∀ ns ms : List Int, PyData.eqvAll (ns.map .int) (ms.map .int) = decide (ns = ms)
  | [], [] => rfl
  | [], m :: ms => rfl
  | n :: ns, [] => rfl
  | n :: ns, m :: ms => by
    show ((n == m) && PyData.eqvAll (ns.map .int) (ms.map .int)) = _
    rw [eqv_ints ns ms]
    by_cases h : n = m
    · subst h
      by_cases g : ns = ms
      · subst g
        simp
      · simp [g]
    · simp [h]
theorem eqv_row (ns ms : List Int) : PyData.eqv (rowD ns) (rowD ms) = decide (ns = ms) := eqv_ints ns ms
theorem eqv_alls : ∀ rs ts : List (List Int), PyData.eqvAll (rs.map rowD) (ts.map rowD) = decide (rs = ts)
  | [], [] => rfl
  | [], m :: ms => rfl
  | n :: ns, [] => rfl
  | n :: ns, m :: ms => by
    show (PyData.eqv (rowD n) (rowD m) && PyData.eqvAll (ns.map rowD) (ms.map rowD)) = _
    rw [eqv_alls ns ms, eqv_row]
    by_cases h : n = m
    · subst h
      by_cases g : ns = ms
      · subst g
        simp
      · simp [g]
    · simp [h]
theorem eqv_rows (rs ts : List (List Int)) : PyData.eqv (rowsD rs) (rowsD ts) = decide (rs = ts) := eqv_alls rs ts
theorem lay_ints : ∀ ns : List Int, PyData.canLayAll0 (ns.map .int) = true
  | [] => rfl
  | n :: ns => by
    show (true && PyData.canLayAll0 (ns.map .int)) = true
    rw [lay_ints ns]
    rfl
theorem depth_ints : ∀ ns : List Int, PyData.depthAll (ns.map .int) = 0
  | [] => rfl
  | n :: ns => by
    show max 0 (PyData.depthAll (ns.map .int)) = 0
    rw [depth_ints ns]
    rfl
theorem lay_row (ns : List Int) : PyData.canLay0 (rowD ns) = true := lay_ints ns
theorem depth_row (ns : List Int) : PyData.depth (rowD ns) = 1 := by
  show PyData.depthAll (ns.map .int) + 1 = 1
  rw [depth_ints]
theorem shaped_row (ns : List Int) : SeqAt.shaped (rowD ns) = true := by
  unfold SeqAt.shaped
  rw [lay_row, depth_row]
  rfl
theorem lay_alls : ∀ rs : List (List Int), PyData.canLayAll0 (rs.map rowD) = true
  | [] => rfl
  | n :: ns => by
    show (PyData.canLay0 (rowD n) && PyData.canLayAll0 (ns.map rowD)) = true
    rw [lay_alls ns, lay_row]
    rfl
theorem depth_alls : ∀ rs : List (List Int), PyData.depthAll (rs.map rowD) ≤ 1
  | [] => Nat.zero_le _
  | n :: ns => by
    show max (PyData.depth (rowD n)) (PyData.depthAll (ns.map rowD)) ≤ 1
    have := depth_alls ns
    rw [depth_row]
    omega
theorem shaped_rows (rs : List (List Int)) : SeqAt.shaped (rowsD rs) = true := by
  unfold SeqAt.shaped
  have h : PyData.canLay0 (rowsD rs) = true := lay_alls rs
  have g : PyData.depth (rowsD rs) ≤ 64 := by
    show PyData.depthAll (rs.map rowD) + 1 ≤ 64
    have := depth_alls rs
    omega
  rw [h, decide_eq_true g]
  rfl
theorem hu64 {A : Around} {k : Nat} (hr : Room k A) : A.units + 64 < cLine := hr.units
theorem in_strs {z : Str} : ∀ {ys : List Str}, z ∈ ys → inV (.str z) (ys.map V.str) = true
  | y :: ys, h => by
    unfold inV
    rw [List.map_cons, List.any_cons]
    rcases List.mem_cons.mp h with rfl | h
    · have : eqV (.str z) (.str z) = true := by show (z == z) = true; simp
      rw [this]
      rfl
    · have := in_strs h
      unfold inV at this
      rw [this, Bool.or_true]
theorem flat_strs (ys : List Str) : (ys.map V.str).all flatV = true := by
  rw [List.all_eq_true]
  intro x hx
  obtain ⟨z, _, rfl⟩ := List.mem_map.mp hx
  rfl
theorem all_rep {α β : Type} {R : α → β → Prop} {x : α} {y : β} (h : R x y) : ∀ n, All2 R (List.replicate n x) (List.replicate n y)
  | 0 => .nil
  | n + 1 => .cons h (all_rep h n)
theorem ltCps_tri : ∀ a b : List Nat, ltCps a b = false → ltCps b a = false → a = b
  | [], [], _, _ => rfl
  | [], _ :: _, h, _ => nomatch h
  | _ :: _, [], _, h => nomatch h
  | a :: r, b :: t, h, g => by
    unfold ltCps at h g
    have e : a = b := by
      by_cases h1 : a < b
      · simp [h1] at h
      · by_cases h2 : b < a
        · simp [h2] at g
        · omega
    subst e
    simp only [Nat.lt_irrefl, decide_false, Bool.false_or, beq_self_eq_true, Bool.true_and] at h g
    rw [ltCps_tri r t h g]
theorem str_ext {a b : Str} (h : a.cps.toList = b.cps.toList) : a = b := by
  cases a
  cases b
  congr 1
  exact Array.toList_inj.mp h
theorem risingS_all : ∀ (r : List Str) (p : Str), risingS p r = true → ∀ z ∈ r, ltCps z.cps.toList p.cps.toList = false
  | [], _, _, _, h => nomatch h
  | x :: r, p, h, z, hz => by
    unfold risingS at h
    rw [Bool.and_eq_true] at h
    have h1 : ltCps x.cps.toList p.cps.toList = false := by
      have := h.1
      cases q : ltCps x.cps.toList p.cps.toList with
      | true => rw [q] at this; cases this
      | false => rfl
    rcases List.mem_cons.mp hz with rfl | hz
    · exact h1
    · have h2 := risingS_all r x h.2 z hz
      cases q : ltCps x.cps.toList z.cps.toList with
      | false =>
        have e := ltCps_tri _ _ q h2
        rw [← e]
        exact h1
      | true =>
        rw [ltCps_eq] at h1 q ⊢
        exact decide_eq_false fun a3 => of_decide_eq_false h1 (List.lt_trans (of_decide_eq_true q) a3)
theorem sorted_unique : ∀ {ys zs : List Str}, ys.Perm zs → ys.Nodup → sortedS ys = true → sortedS zs = true → ys = zs
  | [], zs, p, _, _, _ => (List.nil_perm.mp p).symm
  | y :: ys, [], p, _, _, _ => absurd p.length_eq (by simp)
  | y :: ys, z :: zs, p, nd, h1, h2 => by
    have e : y = z := by
      have m1 : y ∈ z :: zs := p.mem_iff.mp List.mem_cons_self
      have m2 : z ∈ y :: ys := p.mem_iff.mpr List.mem_cons_self
      rcases List.mem_cons.mp m1 with e | m1
      · exact e
      · rcases List.mem_cons.mp m2 with e | m2
        · exact e.symm
        · exact str_ext (ltCps_tri _ _ (risingS_all zs z h2 y m1) (risingS_all ys y h1 z m2))
    subst e
    have nx : ∀ {p : Str} {l : List Str}, risingS p l = true → sortedS l = true := fun {p l} h => by
      cases l with
      | nil => rfl
      | cons x r =>
        unfold risingS at h
        rw [Bool.and_eq_true] at h
        exact h.2
    rw [sorted_unique (List.Perm.cons_inv p) (List.nodup_cons.mp nd).2 (nx h1) (nx h2)]
theorem nodup_take {ys : List Str} (h : ys.Nodup) {i : Nat} {z : Str} (e : ys[i]? = some z) : z ∉ ys.take i := by
  intro m
  obtain ⟨hi, e⟩ := List.getElem?_eq_some_iff.mp e
  obtain ⟨j, hj, ej⟩ := List.mem_take_iff_getElem.mp m
  exact List.pairwise_iff_getElem.mp h j i (by omega) hi (by omega) (ej.trans e.symm)
theorem yes_of {σ : L2.St} {H : Hp} {A B : Hp → Prop} (h : A H) : tYes σ H (fun b H3 => if b = true then A H3 else B H3) := by
  show if true = true then A H else B H
  rw [if_pos rfl]
  exact h
end Ow

set_option Elab.async false
set_option linter.all false
set_option maxRecDepth 100000
set_option maxHeartbeats 4000000
/-! set(t), t a tuple of anything: by what is known of the set after i items -/
namespace HS
open PySem PySem.Spec PyProof.Rows L2
abbrev newSet0 (w : World) : Obj := { cls := .type "set", dict := none, data := .set #[] 0 (.fresh 0 0 (!w.params.followText "set-order")) }
/-- what is known of the set at S, item by item; h0 is the heap before -/
structure Grows (P : Program) (w : World) (A : Around) (S : Addr) (h0 : Heap) (n : Nat) (Pv : Nat → Value → Prop) (Sp : Nat → Heap → Prop) : Prop where
  first : ∀ h, h.get? S = some (newSet0 w) → (∀ b o, h0.get? b = some o → h.get? b = some o) → Sp 0 h
  stay : ∀ i h h', Sp i h → (∀ o, h.get? S = some o → h'.get? S = some o) → (∀ b o, h0.get? b = some o → h.get? b = some o → h'.get? b = some o) → Sp i h'
  more : ∀ i v (s : Shared) (E : Value → Shared → Prop) (Q : Bool → Shared → Prop), i < n → Pv i v → Sp i s.heap →
    (∀ h' tk b, s.toks ≤ tk → Heap.SameBut S s.heap h' → Sp (i + 1) h' → Q b { s with heap := h', toks := tk }) → wpAny (model P w) A (setAdd S v) Q E s
section
variable {P : Program} {w : World} {A : Around} {E : Value → Shared → Prop} {s : Shared}
theorem Grows.walk {I : Addr} {fp wr : List Addr} {G : Array GenState → Array GenState → Prop} {n : Nat} {Pv : Nat → Value → Prop} {St : Nat → Shared → Prop} {R : Result → Shared → Prop} {S : Addr} {h0 : Heap} {Sp : Nat → Heap → Prop}
    (g : Grows P w A.in1 S h0 n Pv Sp) (W : WalksS P w A.in1 I fp wr G n Pv St) (out : S ∉ fp) (nS : h0.get? S = none) (nw : ∀ b ∈ wr, h0.get? b = none) :
    ∀ (left i : Nat) (s : Shared), n - i = left → i ≤ n → St i s → Sp i s.heap → (∀ s', Moved (S :: wr) G s s' → Sp n s'.heap → R (.ok (.ret .none)) s') →
      codeAny (model P w) A (.builtin "set.update.loop" ⟨[.ref S, .ref I], []⟩) R s := by
  have wide : ∀ b ∈ wr, b ∈ S :: wr := fun b hb => List.mem_cons_of_mem _ hb
  have old : ∀ {i : Nat} {s s' : Shared}, Moved wr G s s' → Sp i s.heap → Sp i s'.heap := fun hm hp =>
    g.stay _ _ _ hp (fun o e => hm.heap S o (fun z => out (W.sub _ z)) e) fun b o e0 e => hm.heap b o (fun z => by rw [nw b z] at e0; cases e0) e
  intro left
  induction left with
  | zero =>
    intro i s hl hi hst hp hR
    obtain rfl : i = n := by omega
    refine codeAny_builtin PyProof.Rows.F.entry_set_update_loop ?_
    rw [Around.under_plainId PyProof.Rows.F.plain_set_update_loop _]
    show wpAny _ A.in1 (pyNext (.ref I) >>= _) _ _ s
    refine wpAny_bind (W.done s _ _ hst fun s' hm => ?_)
    exact wpAny_pure (hR s' (hm.mono wide) (old hm hp))
  | succ left ih =>
    intro i s hl hi hst hp hR
    have lt : i < n := by omega
    refine codeAny_builtin PyProof.Rows.F.entry_set_update_loop ?_
    rw [Around.under_plainId PyProof.Rows.F.plain_set_update_loop _]
    show wpAny _ A.in1 (pyNext (.ref I) >>= _) _ _ s
    refine wpAny_bind (W.item i s _ _ lt hst fun v s' hv hst' hm => ?_)
    show wpAny _ A.in1 (holding [v] (setAdd S v) >>= _) _ _ s'
    refine wpAny_bind (wpAny_holding (g.more i v s' _ _ lt hv (old hm hp) fun h' tk b ht sb hp' => ?_))
    refine wpAny_pure ⟨plainId_quiet PyProof.Rows.F.plain_set_update_loop _, ih (i + 1) _ (by omega) lt (W.frame _ s' _ _ hst' ht fun c hc o e => ?_) hp' fun s'' hm' hq => ?_⟩
    · exact (sb.2 c fun z : c = S => out (by rw [← z]; exact hc)).trans e
    · refine hR s'' (Moved.trans W.gtrans ((hm.mono wide).then_heap ht fun c o hc e => ?_) hm') hq
      exact (sb.2 c fun z : c = S => hc (by rw [z]; exact List.mem_cons_self)).trans e
set_option maxHeartbeats 3200000 in
/-- set(t) -/
theorem call_set_any {l : Addr} {items : Array Value} {Sp : Nat → Heap → Prop} {Q : Value → Shared → Prop} (hh : A.handled = none) (hl : s.heap.IsTuple l items)
    (g : ∀ A', A'.units ≤ A.units + 4 → Grows P w A' s.heap.objs.size s.heap items.size (fun i v => items[i]? = some v) Sp)
    (h : ∀ (h' : Heap) (tk : Nat), Sp items.size h' → (∀ b o, s.heap.get? b = some o → h'.get? b = some o) → Q (.ref s.heap.objs.size) { s with heap := h', toks := tk }) :
    wpAny (model P w) A (call (.type "set") [.ref l]) Q E s := by
  obtain ⟨c, tl, hmro⟩ := PySem.F.called_set.mro
  have made := PySem.F.called_set.made
  have sub := PySem.F.called_set.sub
  refine wpAny_call (codeAny_of_tree ?_)
  show wpAny _ _ (callAny (.type "set") _) _ _ _
  refine wpAny_pure ⟨Code.quiet_builtin _ (by decide +kernel), codeAny_builtin PySem.F.entry_type_call ?_⟩
  rw [Around.under_plain (weight_type_call_type "set" [.ref l] []) rfl]
  have f1 := PySem.F.called_set.notType
  have f2 := PySem.F.called_set.canCreate
  have f3 := PySem.F.typeCall_set_1 (.ref l)
  repeat (any_goals (first | assumption | wp_step))

  refine codeAny_mono (code_set_led1 (.ref l) (E := E) (Q₁ := fun obj s₁ => obj = .ref s.heap.objs.size ∧ s₁ = { s with heap := s.heap.push (newSet0 w) }) ⟨rfl, rfl⟩) fun r s₁ hr => ?_
  cases r with
  | error e => exact hr
  | ok fl =>
    cases fl with
    | ret obj =>
      obtain ⟨rfl, rfl⟩ := hr
      have at0 : (s.heap.push (newSet0 w)).get? s.heap.objs.size = some (newSet0 w) := Heap.get?_push_size _ rfl
      have ty0 : Shared.TypeIs { s with heap := s.heap.push (newSet0 w) } (.ref s.heap.objs.size) "set" := ⟨_, at0, rfl⟩
      have i1 := PySem.F.called_set.init.lookup
      have i2 := PySem.F.called_set.init.bind (.ref s.heap.objs.size)
      repeat (any_goals (first | assumption | wp_step))

      refine codeAny_mono (codeAny_call_builtin (R := wants (fun r s₂ => r = .none ∧ ∃ h' tk, s₂ = { s with heap := h', toks := tk } ∧ Sp items.size h' ∧ (∀ b o, s.heap.get? b = some o → h'.get? b = some o)) E)
        PySem.F.called_set.init.plain PySem.F.entry_set_init (check_set_init_1 ty0 ?_)) fun r₂ s₂ hr₂ => ?_
      · obtain ⟨ol, hol, hcl, nl, hdl⟩ := hl
        obtain ⟨ocls, odict, odata, oslots⟩ := ol
        simp only at hcl hdl
        subst hcl hdl
        have hol' : (s.heap.push (newSet0 w)).get? l = some { cls := .type "tuple", dict := odict, data := .seq items nl, slots := oslots } := Heap.get?_push_of_some _ hol
        have g1 := PySem.F.sub_tuple_set
        have g2 := PySem.F.sub_tuple_frozenset
        have g3 : (Value.type "tuple" == Value.type "dict") = false := by decide
        have il : (s.heap.push (newSet0 w)).IsTuple l items := ⟨_, hol', rfl, nl, rfl⟩
        unfold Builtin.«set.__init__» noKeywords Builtin.Frozenset.updateFrom
        generalize hPI : pyIter = PI
        wp_walk
        subst hPI

        refine wpAny_pyIter_tuple il ?_
        refine wpAny_bind (wpAny_runValue ?_)
        have lt : l < s.heap.objs.size := Heap.lt_size hol
        have h3 : A.in1.in1.in1.handled = none := by simp [hh]
        have ne : l ≠ (s.heap.push (newSet0 w)).objs.size := by
          rw [Heap.size_push]; exact Nat.ne_of_lt (Nat.lt_succ_of_lt lt)
        have none_of : ∀ b, s.heap.objs.size ≤ b → s.heap.get? b = none := fun b hb => by
          cases q : s.heap.get? b with
          | none => rfl
          | some o => exact absurd (Heap.lt_size q) (Nat.not_lt.mpr hb)
        refine (g A.in1.in1.in1 (by simp [Around.in1_units])).walk ((Walks.tuple h3 _ l ne items).toS) ?_ (none_of _ (Nat.le_refl _)) (fun b hb => none_of b ?_) (items.size - 0) 0 _ (by omega) (Nat.zero_le _)
          ⟨⟨_, Heap.get?_push_size _ rfl, rfl, rfl⟩, (il.push _)⟩ ((g A.in1.in1.in1 (by simp [Around.in1_units])).first _ (Heap.get?_push_of_some _ at0) fun b o e => Heap.get?_push_of_some _ (Heap.get?_push_of_some _ e)) ?_
        · rw [Heap.size_push]
          intro z
          rcases List.mem_cons.mp z with z | z
          · exact absurd z (Nat.ne_of_lt (Nat.lt_succ_self _))
          · rw [List.mem_singleton] at z; exact absurd z.symm (Nat.ne_of_lt lt)
        · rw [List.mem_singleton.mp hb, Heap.size_push]
          exact Nat.le_succ _
        · intro s' hm hp
          obtain ⟨h', g2, d', tk', os'⟩ := s'
          have eg : g2 = s.gens := hm.gens
          have ed : d' = s.drawn := hm.drawn
          have eo : os' = s.os := hm.os
          subst eg ed eo
          show wpAny _ _ _ _ _ _
          refine wpAny_pure ?_
          show wpAny _ _ (ret Value.none) _ _ _
          refine wpAny_pure ⟨rfl, h', tk', rfl, hp, fun b o e => ?_⟩
          have lb : b < s.heap.objs.size := Heap.lt_size e
          refine hm.heap b o (fun z => ?_) (Heap.get?_push_of_some _ (Heap.get?_push_of_some _ e))
          rcases List.mem_cons.mp z with z | z
          · exact absurd z (Nat.ne_of_lt lb)
          · rw [List.mem_singleton, Heap.size_push] at z; exact absurd z (Nat.ne_of_lt (Nat.lt_succ_of_lt lb))

      · cases r₂ with
        | error e => exact hr₂
        | ok fl₂ =>
          cases fl₂ with
          | ret r =>
            obtain ⟨rfl, h', tk, rfl, hp, kept⟩ := hr₂
            repeat (any_goals (first | assumption | wp_step))
            exact h _ _ hp kept
          | _ => exact hr₂.elim
    | _ => exact hr.elim
end
end HS

set_option Elab.async false
set_option linter.all false
set_option maxRecDepth 100000
set_option maxHeartbeats 4000000
/-! what a set asks of its keys, where they are nested tuples -/
namespace HS
open PySem PySem.Spec PyProof.Rows L2
/-- the tuple at b is the key k -/
abbrev KIs (P : Program) (w : World) (h : Heap) (k : NestedKey) (b : Addr) : Prop := (nestedKind P w).is h k b
abbrev kh (P : Program) (w : World) (k : NestedKey) : Int := (nestedKind P w).hash k
theorem all_mem {h : Heap} : ∀ (ks : List NestedKey) (vs : List Value), NestedAll h ks vs → ∀ v ∈ vs, ∃ k, NestedIs h k v ∧ k.depth ≤ NestedKey.depthAll ks
  | [], _, x, v, hv => by cases x; cases hv
  | k :: ks, _, x, v, hv => by
    cases x with
    | cons x1 x2 =>
      simp only [NestedKey.depthAll]
      rcases List.mem_cons.mp hv with rfl | hv
      · exact ⟨k, x1, by omega⟩
      · obtain ⟨k', a, b⟩ := all_mem ks _ x2 v hv
        exact ⟨k', a, by omega⟩
theorem KIs.move {P : Program} {w : World} {h h' : Heap} {k : NestedKey} {b : Addr} (x : KIs P w h k b) (m : ∀ a o vs n, h.get? a = some o → o.data = .seq vs n → h'.get? a = some o) : KIs P w h' k b :=
  ⟨NestedIs.at m _ _ x.1, x.2⟩
/-- a change of the set alone leaves the key -/
theorem KIs.beside {P : Program} {w : World} {h h' : Heap} {k : NestedKey} {a b : Addr} {o : Obj} {es : Array (Int × Value)} {ep : Nat} {t : SetTable} (x : KIs P w h k b) (ho : h.get? a = some o) (hd : o.data = .set es ep t) (sb : Heap.SameBut a h h') : KIs P w h' k b :=
  x.move fun c u vs n hc hs => (sb.2 c fun e => by
    subst e
    rw [ho] at hc
    cases hc
    rw [hd] at hs
    cases hs).trans hc
section
variable {P : Program} {w : World} {A : Around} {E : Value → Shared → Prop}
theorem noClass : ∀ (n : Nat) (k : NestedKey) (v : Value) (s : Shared) (Q : Bool → Shared → Prop), NestedIs s.heap k v → k.depth ≤ n → Q false s → wpAny (model P w) A (ofAClassStatement n v) Q E s := by
  intro n
  induction n with
  | zero =>
    intro k v s Q x hn q
    cases x with
    | tup => simp [NestedKey.depth] at hn
    | _ => exact wpAny_pure q
  | succ n ih =>
    intro k v s Q x hn q
    cases x with
    | @tup b o vs m ks ho hc hd hk =>
      simp only [NestedKey.depth] at hn
      unfold ofAClassStatement
      refine wpAny_bind (wpAny_typeOf ⟨o, ho, hc⟩ ?_)
      dsimp only
      simp only [show (("tuple" : String) == "tuple") = true by decide, if_true, Bool.not_true, Bool.false_eq_true, if_false]
      try refine wpAny_bind (wpAny_pure ?_)
      try simp only [Bool.not_true, Bool.false_eq_true, if_false]
      show wpAny _ _ (seqItems? (.ref b) >>= _) _ _ s
      refine wpAny_bind (wpAny_seqItems ho hd (wpAny_bind ?_))
      show wpAny _ _ (forIn vs _ _) _ _ s
      rw [← Array.forIn_toList]
      refine wpAny_forIn_list _ (fun left r s1 => s1 = s ∧ r.1 = none ∧ ∀ y ∈ left, ∃ k', NestedIs s.heap k' y ∧ k'.depth ≤ n) _ (fun y left r s1 hh => ?_) (fun r s1 hh => ?_) _ _ ⟨rfl, rfl, fun y hy => ?_⟩
      · obtain ⟨rfl, hr, all⟩ := hh
        obtain ⟨k', x', d'⟩ := all y List.mem_cons_self
        refine wpAny_bind (ih k' y s1 _ x' d' ?_)
        simp only [Bool.false_eq_true, if_false]
        exact wpAny_pure ⟨rfl, rfl, fun z hz => all z (List.mem_cons_of_mem _ hz)⟩
      · obtain ⟨r1, r2⟩ := r
        obtain ⟨rfl, hr, _⟩ := hh
        simp only at hr
        subst hr
        exact wpAny_pure q
      · obtain ⟨k', x', d'⟩ := all_mem ks _ hk y hy
        exact ⟨k', x', by omega⟩
    | _ => exact wpAny_pure q
theorem someHash : ∀ (n : Nat) (k : NestedKey) (v : Value) (s : Shared) (Q : Bool → Shared → Prop), NestedIs s.heap k v → (∀ b, Q b s) → wpAny (model P w) A (hashByValue n v) Q E s := by
  intro n
  induction n with
  | zero =>
    intro k v s Q x q
    cases x <;> exact wpAny_pure (q _)
  | succ n ih =>
    intro k v s Q x q
    cases x with
    | @tup b o vs m ks ho hc hd hk =>
      unfold hashByValue
      refine wpAny_bind (wpAny_specialOf ⟨o, ho, hc⟩ PySem.F.slot_tuple_hash.lookup ?_)
      show wpAny _ _ (seqItems? (.ref b) >>= _) _ _ s
      refine wpAny_bind (wpAny_seqItems ho hd (wpAny_bind ?_))
      show wpAny _ _ (forIn vs _ _) _ _ s
      rw [← Array.forIn_toList]
      refine wpAny_forIn_list _ (fun left r s1 => s1 = s ∧ ∀ y ∈ left, ∃ k', NestedIs s.heap k' y) _ (fun y left r s1 hh => ?_) (fun r s1 hh => ?_) _ _ ⟨rfl, fun y hy => ?_⟩
      · obtain ⟨rfl, all⟩ := hh
        obtain ⟨k', x'⟩ := all y List.mem_cons_self
        refine wpAny_bind (ih k' y s1 _ x' fun b => ?_)
        cases b
        · simp only [Bool.not_false, if_true]
          refine wpAny_pure ?_
          first
            | exact wpAny_pure (q _)
            | (dsimp only; exact wpAny_pure (q _))
        · simp only [Bool.not_true, Bool.false_eq_true, if_false]
          exact wpAny_pure ⟨rfl, fun z hz => all z (List.mem_cons_of_mem _ hz)⟩
      · obtain ⟨r1, r2⟩ := r
        obtain ⟨rfl, _⟩ := hh
        cases r1 <;> exact wpAny_pure (q _)
      · obtain ⟨k', x', _⟩ := all_mem ks _ hk y hy
        exact ⟨k', x'⟩
    | _ => exact wpAny_pure (q _)
/-- a search for a key among keys shows nothing -/
theorem unseen {s : Shared} {k : NestedKey} {b : Addr} {ys : List Value} {Q : Bool → Shared → Prop} (x : KIs P w s.heap k b) (hy : ∀ y ∈ ys, ∃ k' c, y = Value.ref c ∧ KIs P w s.heap k' c) (q : Q false s) :
    wpAny (model P w) A (searchCouldBeSeen (.ref b) ys) Q E s := by
  unfold searchCouldBeSeen
  refine wpAny_bind (wpAny_forIn_list _ (fun left r s1 => s1 = s ∧ r.1 = none ∧ ∀ y ∈ left, ∃ k' c, y = Value.ref c ∧ KIs P w s.heap k' c) _ (fun y left r s1 hh => ?_) (fun r s1 hh => ?_) _ _ ⟨rfl, rfl, hy⟩)
  · obtain ⟨rfl, hr, all⟩ := hh
    obtain ⟨k', c, rfl, x'⟩ := all y List.mem_cons_self
    have go : ∀ z ∈ left, ∃ k' c, z = Value.ref c ∧ KIs P w s1.heap k' c := fun z hz => all z (List.mem_cons_of_mem _ hz)
    dsimp only
    split
    · exact wpAny_pure ⟨rfl, rfl, go⟩
    · refine wpAny_bind ((nestedKind P w).quiet x ?_)
      simp only [Bool.not_true, Bool.false_eq_true, if_false]
      refine wpAny_bind ((nestedKind P w).quiet x' ?_)
      simp only [Bool.not_true, Bool.false_eq_true, if_false]
      refine wpAny_bind (noClass 8 k _ s1 _ x.1 x.2 ?_)
      simp only [Bool.false_eq_true, if_false]
      refine wpAny_bind (noClass 8 k' _ s1 _ x'.1 x'.2 ?_)
      simp only [Bool.false_eq_true, if_false]
      exact wpAny_pure ⟨rfl, rfl, go⟩
  · obtain ⟨r1, r2⟩ := r
    obtain ⟨rfl, hr, _⟩ := hh
    simp only at hr
    subst hr
    exact wpAny_pure q
end
/-! ### the set -/
abbrev KL := List (Addr × NestedKey)
def entries (P : Program) (w : World) (L : KL) : List (Int × Value) := L.map fun p => (kh P w p.2, Value.ref p.1)
def hashes (P : Program) (w : World) (L : KL) : List Int := L.map fun p => kh P w p.2
/-- a set of keys, without the keys themselves -/
structure Body (P : Program) (w : World) (L : KL) (es : Array (Int × Value)) (t : SetTable) : Prop where
  ent : es.toList = entries P w L
  tab : TabOk t (hashes P w L)
  nd : (L.map (·.2)).Nodup
  led : w.params.followText "set-order" = true ∨ t.led = true
  few : L.length < 76
structure KSet (P : Program) (w : World) (h : Heap) (a : Addr) (L : KL) : Prop where
  ex : ∃ es ep t, (∃ o, h.get? a = some o ∧ o.ExactSet ∧ o.data = .set es ep t) ∧ Body P w L es t ∧ L.length * 5 < t.mask * 3
  keys : ∀ p ∈ L, KIs P w h p.2 p.1
section
variable {P : Program} {w : World} {L : KL} {es : Array (Int × Value)} {t : SetTable}
theorem hashes_len : (hashes P w L).length = L.length := List.length_map ..
theorem Body.size (B : Body P w L es t) : es.size = L.length := by
  have e := congrArg List.length B.ent
  rwa [Array.length_toList, entries, List.length_map] at e
theorem Body.at (B : Body P w L es t) (i : Nat) : es[i]? = (L[i]?).map fun p => (kh P w p.2, Value.ref p.1) := by
  rw [← Array.getElem?_toList, B.ent, entries, List.getElem?_map]
theorem Body.fits (B : Body P w L es t) (room : L.length ≤ t.mask) : t.fits es.size = true := by
  have e := B.tab.sz
  rw [hashes_len] at e
  unfold SetTable.fits SetTable.fill
  rw [B.tab.dm, B.size, Bool.and_eq_true, beq_iff_eq, decide_eq_true_eq]
  show t.place.size = L.length ∧ t.place.size + 0 ≤ t.mask
  omega
theorem Body.noGap (B : Body P w L es t) : ¬ t.gaveWay = true := by
  unfold SetTable.gaveWay
  rw [mask_odd B.tab.mok]
  decide
end
end HS

set_option Elab.async false
set_option linter.all false
set_option maxRecDepth 100000
set_option maxHeartbeats 4000000
/-! the search in a set of keys -/
namespace HS
open PySem PySem.Spec PyProof.Rows L2
abbrev startP (m : Nat) (h : Int) : SetTable.Probe := runAt m (SetTable.bits h % (m + 1)) (SetTable.bits h)
theorem nth_plain (m : Nat) : ∀ (n : Nat) (p : SetTable.Probe), p.dummy = none → (nth m p n).dummy = none
  | 0, _, e => e
  | n + 1, p, e => nth_plain m n (adv m p) (by unfold adv; split <;> exact e)
section
variable {P : Program} {w : World} {A : Around} {E : Value → Shared → Prop} {s : Shared} {a : Addr} {L : KL} {es : Array (Int × Value)} {ep : Nat} {t : SetTable}
theorem hunt {o : Obj} (ho : s.heap.get? a = some o) (hd : o.data = .set es ep t) (B : Body P w L es t) (room : L.length ≤ t.mask) (keys : ∀ p ∈ L, KIs P w s.heap p.2 p.1)
    {x : Addr} {k : NestedKey} (hx : KIs P w s.heap k x) (hu : A.units + 16 < cLine) {K : Nat} (hf : K < 10 * SetTable.turns t.mask) (hK : way t.mask (kh P w k) K ∉ t.place.toList) (hb : ∀ c, c < K → way t.mask (kh P w k) c ∈ t.place.toList)
    {Q : SetFound → Shared → Prop} (yes : k ∈ L.map (·.2) → Q (.there none) s) (no : k ∉ L.map (·.2) → Q (.free (way t.mask (kh P w k) K) false) s) :
    ∀ (f c : Nat) (stand : Option SetTable.Probe), stand.getD (t.probeStart (kh P w k)) = nth t.mask (startP t.mask (kh P w k)) c → c ≤ K → K - c < f →
      (∀ (c' i : Nat) (p : Addr × NestedKey), c' < c → L[i]? = some p → t.place.toList[i]? = some (way t.mask (kh P w k) c') → p.2 ≠ k) →
      wpAny (model P w) A (setSearchFrom a (.ref x) (kh P w k) true f stand) Q E s := by
  have st : ∀ {Q' : Array (Int × Value) × Nat × SetTable → Shared → Prop}, Q' (es, ep, t) s → wpAny (model P w) A (setState a) Q' E s := fun q => wpAny_setState_of ho hd (B.fits room) q
  have len : t.place.toList.length = L.length := by rw [Array.length_toList, B.tab.sz, hashes_len]
  intro f
  induction f with
  | zero => intro c stand _ _ h; exact absurd h (Nat.not_lt_zero _)
  | succ f ih =>
    intro c stand hst hc hfc past
    rw [setSearchFrom_succ]
    refine wpAny_bind (st ?_)
    dsimp only
    refine wp_if_neg B.noGap ?_
    try refine wpAny_bind (wpAny_pure ?_)
    have shift : ∀ q, nth t.mask (nth t.mask (startP t.mask (kh P w k)) c) q = nth t.mask (startP t.mask (kh P w k)) (c + q) := fun q => (nth_add t.mask c _ q).symm
    have js : ∀ q, (nth t.mask (nth t.mask (startP t.mask (kh P w k)) c) q).j = way t.mask (kh P w k) (c + q) := fun q => congrArg SetTable.Probe.j (shift q)
    have at_ : ∀ (i : Nat) (p : Addr × NestedKey), L[i]? = some p → (fun i => ((es[i]? : Option (Int × Value)).map (·.1)).getD 0) i = kh P w p.2 := fun i p e => by
      show ((es[i]? : Option (Int × Value)).map (·.1)).getD 0 = _
      rw [B.at i, e] <;> rfl
    have met := go_spec t B.tab.ris B.tab.dm (fun i => ((es[i]? : Option (Int × Value)).map (·.1)).getD 0) (kh P w k) (10 * SetTable.turns t.mask) (K - c) (nth t.mask (startP t.mask (kh P w k)) c) (nth_plain _ _ _ rfl) (by omega)
      (fun q hq => by rw [js]; exact hb _ (by omega)) (by rw [js, show c + (K - c) = K by omega]; exact hK)
    rcases met with ⟨q, i, hq, hi, _, before, hp⟩ | ⟨before, hp⟩
    · have hp' : t.probe (fun i => ((es[i]? : Option (Int × Value)).map (·.1)).getD 0) (kh P w k) (stand.getD (t.probeStart (kh P w k))) = some (.candidate (way t.mask (kh P w k) (c + q)) i (nth t.mask (startP t.mask (kh P w k)) (c + (q + 1)))) := by
        rw [hst, ← js, ← shift]
        exact hp
      rw [hp']
      dsimp only
      rw [js] at hi
      have li : i < L.length := by rw [← len]; exact (List.getElem?_eq_some_iff.mp hi).1
      obtain ⟨p, ep'⟩ : ∃ p, L[i]? = some p := ⟨_, List.getElem?_eq_getElem li⟩
      have pm : p ∈ L := List.mem_of_getElem? ep'
      have live : t.slot (way t.mask (kh P w k) (c + q)) = .live i := slot_live B.tab.ris hi
      have ei : es[i]? = some (kh P w p.2, Value.ref p.1) := by rw [B.at i, ep'] <;> rfl
      have onward : wpAny (model P w) A (searchRest a (.ref x) (kh P w k) true f es t (way t.mask (kh P w k) (c + q)) i (nth t.mask (startP t.mask (kh P w k)) (c + (q + 1)))) Q E s := by
        unfold searchRest
        rw [ei]
        dsimp only
        refine wpAny_bind (wpAny_holding ((nestedKind P w).eqBool (show A.units + 8 < cLine by omega) (keys p pm) hx ?_))
        refine wpAny_bind (st ?_)
        dsimp only
        by_cases same : p.2 = k
        · refine wp_if_pos (by simp [same]) ?_
          exact wpAny_pure (yes (List.mem_map.mpr ⟨p, pm, same⟩))
        · refine wp_if_neg (by simp [same]) ?_
          try refine wpAny_bind (wpAny_pure ?_)
          rw [sameMem]
          dsimp only
          simp only [if_true, live, ei]
          refine wpAny_bind (wpAny_isSame_ref_self (wpAny_bind (wpAny_pure ?_)))
          simp only [if_true]
          refine wp_if_neg (by simp [same]) ?_
          refine ih (c + (q + 1)) _ rfl (by omega) (by omega) fun c' i' p' lt e1 e2 => ?_
          rcases Nat.lt_trichotomy c' (c + q) with z | z | z
          · rcases Nat.lt_or_ge c' c with y | y
            · exact past c' i' p' y e1 e2
            · intro e
              refine before (c' - c) i' (by omega) (by rw [js, show c + (c' - c) = c' by omega]; exact e2) ?_
              exact (at_ i' p' e1).trans (congrArg (kh P w) e)
          · rw [z] at e2
            have l2 := slot_live B.tab.ris e2
            rw [live] at l2
            injection l2 with l2
            rw [← l2, ep'] at e1
            cases e1
            exact same
          · omega
      by_cases hl : t.led = true
      · refine wp_if_neg (by simp [hl]) ?_
        try refine wpAny_bind (wpAny_pure ?_)
        exact onward
      · refine wp_if_pos (by simp [hl]) ?_
        refine wpAny_bind (unseen hx (fun y hy => ?_) ?_)
        · obtain ⟨e, he, ee⟩ := List.mem_map.mp hy
          have m1 : e ∈ es ∧ e.1 = kh P w k := by simpa using he
          have m2 : e ∈ es.toList := by simpa using m1.1
          rw [B.ent] at m2
          obtain ⟨u, hu2, eu⟩ := List.mem_map.mp m2
          exact ⟨u.2, u.1, by rw [← ee, ← eu], keys u hu2⟩
        · refine wp_if_neg (by decide) ?_
          try refine wpAny_bind (wpAny_pure ?_)
          exact onward
    · have hp' : t.probe (fun i => ((es[i]? : Option (Int × Value)).map (·.1)).getD 0) (kh P w k) (stand.getD (t.probeStart (kh P w k))) = some (.empty (way t.mask (kh P w k) K) none) := by
        rw [hst, show way t.mask (kh P w k) K = (nth t.mask (nth t.mask (startP t.mask (kh P w k)) c) (K - c)).j by rw [js, show c + (K - c) = K by omega]]
        exact hp
      rw [hp']
      dsimp only
      refine wpAny_pure (no fun hm => ?_)
      obtain ⟨p, pm, pk⟩ := List.mem_map.mp hm
      obtain ⟨i, li, ei⟩ := List.getElem_of_mem pm
      have e1 : L[i]? = some p := by rw [List.getElem?_eq_getElem li, ei]
      have lj : i < t.place.toList.length := by rw [len]; exact li
      have hj := List.getElem?_eq_getElem lj
      have hh : (hashes P w L)[i]? = some (kh P w k) := by
        rw [hashes, List.getElem?_map, e1, ← pk] <;> rfl
      obtain ⟨c', lt, ew⟩ := B.tab.before hK hh hj
      rw [← ew] at hj
      rcases Nat.lt_or_ge c' c with y | y
      · exact past c' i p y e1 hj pk
      · refine before (c' - c) i (by omega) (by rw [js, show c + (c' - c) = c' by omega]; exact hj) ?_
        exact (at_ i p e1).trans (congrArg (kh P w) pk)
/-- the search that adding asks for -/
theorem find_at {o : Obj} (ho : s.heap.get? a = some o) (hd : o.data = .set es ep t) (B : Body P w L es t) (room : L.length ≤ t.mask) (keys : ∀ p ∈ L, KIs P w s.heap p.2 p.1)
    {x : Addr} {k : NestedKey} (hx : KIs P w s.heap k x) (hu : A.units + 16 < cLine) {Q : SetFound → Shared → Prop} (yes : k ∈ L.map (·.2) → Q (.there none) s)
    (no : ∀ K, k ∉ L.map (·.2) → way t.mask (kh P w k) K ∉ t.place.toList → (∀ c, c < K → way t.mask (kh P w k) c ∈ t.place.toList) → Q (.free (way t.mask (kh P w k) K) false) s) :
    wpAny (model P w) A (setSearch a (.ref x) (kh P w k) true) Q E s := by
  obtain ⟨K, hf, hK, hb⟩ := B.tab.first (by rw [hashes_len]; exact room) (kh P w k)
  have small : 10 * SetTable.turns t.mask ≤ 1420 := by
    unfold SetTable.turns
    rcases B.tab.mok with e | e | e <;> omega
  exact hunt ho hd B room keys hx hu hf hK hb yes (fun n => no K n hK hb) 100000 0 none rfl (Nat.zero_le _) (by omega) fun c' i p z => absurd z (Nat.not_lt_zero _)
end
end HS

set_option Elab.async false
set_option linter.all false
set_option maxRecDepth 100000
set_option maxHeartbeats 4000000
/-! adding to a set of keys -/
namespace HS
open PySem PySem.Spec PyProof.Rows L2
theorem fm_all {α : Type} : ∀ (L : List α), (List.range L.length).filterMap (fun i => L[i]?) = L
  | [] => rfl
  | x :: L => by
    rw [List.length_cons, List.range_succ_eq_map, List.filterMap_cons, List.filterMap_map]
    show x :: (List.range L.length).filterMap (fun i => (x :: L)[i + 1]?) = x :: L
    simp only [List.getElem?_cons_succ]
    rw [fm_all L]
theorem fm_map {α β : Type} {L : List α} {f : α → β} {g : Nat → β} (h : ∀ i p, L[i]? = some p → f p = g i) : ∀ l : List Nat, (∀ i ∈ l, i < L.length) → (l.filterMap fun i => L[i]?).map f = l.map g
  | [], _ => rfl
  | i :: l, hl => by
    have e := List.getElem?_eq_getElem (hl i List.mem_cons_self)
    rw [List.filterMap_cons_some e, List.map_cons, List.map_cons, h i _ e, fm_map h l fun j hj => hl j (List.mem_cons_of_mem _ hj)]
section
variable {P : Program} {w : World} {A : Around} {E : Value → Shared → Prop} {s : Shared} {a : Addr} {L : KL} {es : Array (Int × Value)} {ep : Nat} {t : SetTable}
theorem relay_set {o : Obj} (ho : s.heap.get? a = some o) (hex : o.ExactSet) (hd : o.data = .set es ep t) (B : Body P w L es t) (room : L.length ≤ t.mask) (keys : ∀ p ∈ L, KIs P w s.heap p.2 p.1) {wanted M : Nat}
    (hw : SetTable.sizeAbove wanted - 1 = M) (hM : MaskOk M) (big : SetTable.sizeAbove wanted ≤ 128) (hn : L.length * 5 < M * 3) {Q : Unit → Shared → Prop}
    (hQ : ∀ h' L', Heap.SameBut a s.heap h' → KSet P w h' a L' → L'.Perm L → Q () { s with heap := h' }) : wpAny (model P w) A (setRelay a wanted) Q E s := by
  have few := B.few
  obtain ⟨t2, order, e, hp, T, em, el, _, _⟩ := relaid_ok t (hs := es.map (·.1)) (wanted := wanted) hw hM (by rw [Array.size_map, B.size]; omega)
  rw [Array.size_map, B.size] at hp
  have lt : ∀ i ∈ order.toList, i < L.length := fun i hi => List.mem_range.mp (hp.mem_iff.mp hi)
  have pm : (order.toList.filterMap fun i => L[i]?).Perm L := (hp.filterMap _).trans (by rw [fm_all])
  have h1 : hashes P w (order.toList.filterMap fun i => L[i]?) = order.toList.map fun i => (es.map (·.1)).getD i 0 := fm_map (fun i p e => by
    have q : (es.map (·.1))[i]? = some (kh P w p.2) := by rw [Array.getElem?_map, B.at i, e] <;> rfl
    simp [Array.getD_eq_getD_getElem?, q]) _ lt
  have h2 : (order.filterMap (es[·]?)).toList = entries P w (order.toList.filterMap fun i => L[i]?) := by
    rw [Array.toList_filterMap, entries, List.map_filterMap]
    exact congrArg (fun f => List.filterMap f order.toList) (funext fun i => B.at i)
  generalize (order.toList.filterMap fun i => L[i]?) = L2 at pm h1 h2
  rw [← h1] at T
  have hs : (order.filterMap (es[·]?)).size = L.length := by
    have q := congrArg List.length h2
    rwa [Array.length_toList, entries, List.length_map, pm.length_eq] at q
  rw [setRelay_eq]
  refine wpAny_bind (wpAny_setState_of ho hd (B.fits room) ?_)
  dsimp only
  refine wp_if_neg (by rw [sizeLine_eq]; omega) ?_
  try refine wpAny_bind (wpAny_pure ?_)
  rw [e]
  dsimp only
  refine wpAny_bind ?_
  refine wp_if_neg (by rw [hs, B.size]; simp) ?_
  try refine wpAny_bind (wpAny_pure ?_)
  refine wpAny_pure ?_
  dsimp only
  refine wpAny_storeSet_of ho hd ?_ (by rw [hs, sizeLine_eq]; omega)
  have sb : Heap.SameBut a s.heap (s.heap.update a (Obj.putSet (order.filterMap (es[·]?)) t2)) := Heap.SameBut.update ..
  refine hQ _ L2 sb ⟨⟨_, ep + 1, t2, ⟨_, store_at ho hd, ⟨hex.1, hex.2.1, hex.2.2⟩, rfl⟩, ⟨h2, T, (pm.map (·.2)).nodup_iff.mpr B.nd, B.led.imp id fun z => by rw [el]; exact z, by rw [pm.length_eq]; exact few⟩, by rw [pm.length_eq, em]; exact hn⟩,
    fun p hp => (keys p (pm.mem_iff.mp hp)).beside ho hd sb⟩ pm
theorem add_key (R : KSet P w s.heap a L) {x : Addr} {k : NestedKey} (hx : KIs P w s.heap k x) (hu : A.units + 16 < cLine) (few : L.length + 1 < 76) {Q : Bool → Shared → Prop}
    (hQ : ∀ b h' L', Heap.SameBut a s.heap h' → KSet P w h' a L' → (k ∈ L.map (·.2) → L' = L) → (k ∉ L.map (·.2) → L'.Perm ((x, k) :: L)) → Q b { s with heap := h' }) :
    wpAny (model P w) A (setAddHashed a (.ref x) (kh P w k)) Q E s := by
  obtain ⟨es, ep, t, ⟨o, ho, hex, hd⟩, B, space⟩ := R.ex
  have room : L.length ≤ t.mask := by omega
  unfold setAddHashed
  refine wpAny_holding ?_
  rw [show (100000 : Nat) = 99999 + 1 from rfl, setAddHashedIn_succ]
  refine wpAny_bind (wpAny_setState_of ho hd (B.fits room) ?_)
  dsimp only
  refine wp_if_neg (by simp [byScan, Value.scannable]) ?_
  try refine wpAny_bind (wpAny_pure ?_)
  refine wpAny_bind (find_at ho hd B room R.keys hx hu (fun hm => ?_) fun K hm hK hb => ?_)
  · exact wpAny_pure (hQ false s.heap L (Heap.SameBut.refl a s.heap) R (fun _ => rfl) fun z => absurd hm z)
  · dsimp only
    refine wpAny_bind (wpAny_setState_of ho hd (B.fits room) ?_)
    dsimp only
    obtain ⟨q1, q2, q3, q4, q5, q6, q7, q8, q9⟩ := B.tab.put hK hb
    rw [hashes_len] at q2 q9
    generalize t.put (way t.mask (kh P w k) K) = pt at q1 q3 q4 q5 q6 q7 q8 q9 ⊢
    obtain ⟨t1, p⟩ := pt
    dsimp only at q1 q3 q4 q5 q6 q7 q8 q9 ⊢
    subst q1
    have e1 : (SetTable.insertAt es (SetTable.below t.place (way t.mask (kh P w k) K)) (kh P w k, Value.ref x)).toList = entries P w (L.take (SetTable.below t.place (way t.mask (kh P w k) K)) ++ (x, k) :: L.drop (SetTable.below t.place (way t.mask (kh P w k) K))) := by
      rw [SetTable.toList_insertAt, B.ent]
      unfold entries
      rw [List.map_append, List.map_cons, List.map_take, List.map_drop]
    have e2 : hashes P w (L.take (SetTable.below t.place (way t.mask (kh P w k) K)) ++ (x, k) :: L.drop (SetTable.below t.place (way t.mask (kh P w k) K))) =
        (hashes P w L).take (SetTable.below t.place (way t.mask (kh P w k) K)) ++ kh P w k :: (hashes P w L).drop (SetTable.below t.place (way t.mask (kh P w k) K)) := by
      unfold hashes
      rw [List.map_append, List.map_cons, List.map_take, List.map_drop]
    rw [← e2] at q3
    have pm := put_perm L (SetTable.below t.place (way t.mask (kh P w k) K)) (x, k)
    generalize SetTable.insertAt es (SetTable.below t.place (way t.mask (kh P w k) K)) (kh P w k, Value.ref x) = es1 at e1 ⊢
    generalize L.take (SetTable.below t.place (way t.mask (kh P w k) K)) ++ (x, k) :: L.drop (SetTable.below t.place (way t.mask (kh P w k) K)) = L1 at pm q3 e1
    have len1 : L1.length = L.length + 1 := pm.length_eq
    have nd1 : (L1.map (·.2)).Nodup := (pm.map (·.2)).nodup_iff.mpr (List.nodup_cons.mpr ⟨hm, B.nd⟩)
    -- whatever the table says of its hashes
    have go : ∀ t3 : SetTable, t3.place = t1.place → t3.dummies = t1.dummies → t3.mask = t1.mask → t3.led = t1.led →
        wpAny (model P w) A (do
          storeSet a es1 t3
          if (!false && t3.tooFull) = true then do
              setRelay a (SetTable.grown (es.size + 1))
              pure true
            else pure true) Q E s := by
      intro t3 p1 p2 p3 p4
      have T3 : TabOk t3 (hashes P w L1) := by
        obtain ⟨a1, a2, a3, a4, a5, a6⟩ := q3
        exact ⟨by rw [p1]; exact a1, by rw [p2]; exact a2, by rw [p1]; exact a3, by rw [p3]; exact a4, by rw [p1, p3]; exact a5, by rw [p1, p3]; exact a6⟩
      have B3 : Body P w L1 es1 t3 := ⟨e1, T3, nd1, B.led.imp id fun z => by rw [p4, q5]; exact z, by rw [len1]; exact few⟩
      have fill3 : t3.fill = L.length + 1 := by
        unfold SetTable.fill at q9 ⊢
        rw [p1, p2]
        exact q9
      refine wpAny_bind (wpAny_storeSet_of ho hd ?_ (by rw [B3.size, len1, sizeLine_eq]; omega))
      have sb : Heap.SameBut a s.heap (s.heap.update a (Obj.putSet es1 t3)) := Heap.SameBut.update ..
      have ho1 := store_at (es' := es1) (t' := t3) ho hd
      generalize s.heap.update a (Obj.putSet es1 t3) = h1 at sb ho1 ⊢
      have keys1 : ∀ p ∈ L1, KIs P w h1 p.2 p.1 := fun p hp => by
        rcases List.mem_cons.mp (pm.mem_iff.mp hp) with e | hp
        · rw [e]; exact hx.beside ho hd sb
        · exact (R.keys p hp).beside ho hd sb
      have m3 : t3.mask = t.mask := p3.trans q4
      by_cases full : t3.tooFull = true
      · refine wp_if_pos (by simp [full]) ?_
        have much : (L.length + 1) * 5 ≥ t3.mask * 3 := by
          have h := full
          unfold SetTable.tooFull at h
          rw [decide_eq_true_eq, fill3] at h
          exact h
        rw [m3] at much
        have which : (t.mask = 7 ∧ L.length = 4) ∨ (t.mask = 31 ∧ L.length = 18) := by
          rcases B.tab.mok with e | e | e <;> rw [e] at much space <;> omega
        have relay : ∀ M, SetTable.sizeAbove (SetTable.grown (L.length + 1)) - 1 = M → MaskOk M → SetTable.sizeAbove (SetTable.grown (L.length + 1)) ≤ 128 → (L.length + 1) * 5 < M * 3 →
            wpAny (model P w) A (setRelay a (SetTable.grown (L.length + 1))) (fun _ s' => wpAny (model P w) A (pure true) Q E s') E { s with heap := h1 } := fun M r1 r2 r3 r4 =>
          relay_set (s := { s with heap := h1 }) ho1 ⟨hex.1, hex.2.1, hex.2.2⟩ rfl B3 (by rw [len1, m3]; rcases which with ⟨e, e2⟩ | ⟨e, e2⟩ <;> omega) keys1 r1 r2 r3 (by rw [len1]; exact r4) fun h2 L2 sb2 R2 pm2 =>
            wpAny_pure (hQ true h2 L2 (sb.trans sb2) R2 (fun z => absurd z hm) fun _ => pm2.trans pm)
        rw [B.size]
        refine wpAny_bind ?_
        rcases which with ⟨_, e⟩ | ⟨_, e⟩
        · exact relay 31 (by rw [e, size_20]) (.inr (.inl rfl)) (by rw [e, size_20]; decide) (by omega)
        · exact relay 127 (by rw [e, size_76]) (.inr (.inr rfl)) (by rw [e, size_76]; decide) (by omega)
      · refine wp_if_neg (by simp [full]) ?_
        refine wpAny_pure (hQ true h1 L1 sb ⟨⟨es1, ep + 1, t3, ⟨_, ho1, ⟨hex.1, hex.2.1, hex.2.2⟩, rfl⟩, B3, ?_⟩, keys1⟩ (fun z => absurd z hm) fun _ => pm)
        have h := full
        unfold SetTable.tooFull at h
        rw [decide_eq_true_eq, fill3] at h
        rw [len1]
        omega
    have tail : ∀ b : Bool, wpAny (model P w) A (do
          storeSet a es1 (if b = true then t1 else { t1 with plain := false })
          if (!false && (if b = true then t1 else { t1 with plain := false }).tooFull) = true then do
              setRelay a (SetTable.grown (es.size + 1))
              pure true
            else pure true) Q E s := fun b => by
      cases b
      · exact go { t1 with plain := false } rfl rfl rfl rfl
      · exact go t1 rfl rfl rfl rfl
    by_cases pl : t1.plain = true
    · first
        | (refine wpAny_bind ?_; refine wp_if_pos pl ?_; refine someHash 8 k _ s _ hx.1 fun b => ?_; exact tail b)
        | (refine wp_if_pos pl (wpAny_bind (someHash 8 k _ s _ hx.1 fun b => ?_)); exact tail b)
    · first
        | (refine wpAny_bind ?_; refine wp_if_neg pl ?_; refine wpAny_pure ?_; exact tail true)
        | (refine wp_if_neg pl (wpAny_bind (wpAny_pure ?_)); exact tail true)
end
end HS

set_option Elab.async false
set_option linter.all false
set_option maxRecDepth 100000
set_option maxHeartbeats 4000000
/-! dicts whose keys are tuples of pairs (text, int) -/
namespace Ow
open PySem PySem.Spec PyProof.Rows L2
abbrev PK := List (Str × Int)
def nkA (a : Str × Int) : NestedKey := .tup [.text a.1, .num a.2]
def nk (p : PK) : NestedKey := .tup (p.map nkA)
theorem nkA_inj {a b : Str × Int} (h : nkA a = nkA b) : a = b := by
  unfold nkA at h
  injection h with h
  injection h with h1 h2
  injection h2 with h2 _
  injection h1 with h1
  injection h2 with h2
  exact Prod.ext h1 h2
theorem nk_inj {p q : PK} (h : nk p = nk q) : p = q := by
  unfold nk at h
  injection h with h
  exact (List.map_inj_right fun x y z => nkA_inj z).mp h
theorem nk_depth (p : PK) : (nk p).depth ≤ 8 := by
  have : ∀ l : PK, NestedKey.depthAll (l.map nkA) ≤ 1 := fun l => by
    induction l with
    | nil => unfold NestedKey.depthAll; exact Nat.zero_le _
    | cons a l ih =>
      rw [List.map_cons]
      unfold NestedKey.depthAll
      have e : (nkA a).depth = 1 := by
        unfold nkA
        simp [NestedKey.depth, NestedKey.depthAll]
      rw [e]
      exact Nat.max_le.mpr ⟨Nat.le_refl _, ih⟩
  unfold nk NestedKey.depth
  have := this p
  omega
/-- an answer, a tuple of answers -/
def AnsT (H : Hp) (v : V) (a : Str × Int) : Prop := ∃ b, v = .ref b ∧ H b = some (.tup [.str a.1, .int a.2])
def PartT (H : Hp) (v : V) (p : PK) : Prop := ∃ a xs, v = .ref a ∧ H a = some (.tup xs) ∧ All2 (AnsT H) xs p
theorem AnsT.tk {H H' : Hp} {v : V} {a : Str × Int} (t : Tk H H') (h : AnsT H v a) : AnsT H' v a := by
  obtain ⟨b, e, q⟩ := h
  exact ⟨b, e, t.tup q⟩
theorem PartT.tk {H H' : Hp} {v : V} {p : PK} (t : Tk H H') (h : PartT H v p) : PartT H' v p := by
  obtain ⟨a, xs, e, q, r⟩ := h
  exact ⟨a, xs, e, t.tup q, r.imp fun _ _ z => z.tk t⟩
/-- whatever is not at d stays -/
def Bt (d : Addr) (H H' : Hp) : Prop := ∀ b o, b ≠ d → H b = some o → H' b = some o
theorem AnsT.bt {H H' : Hp} {d : Addr} {u : HO} (hd : H d = some u) (nt : ∀ xs, u ≠ .tup xs) (t : Bt d H H') {v : V} {a : Str × Int} (h : AnsT H v a) : AnsT H' v a := by
  obtain ⟨b, e, q⟩ := h
  exact ⟨b, e, t b _ (fun z => nt _ (by rw [z, hd] at q; exact Option.some.inj q)) q⟩
theorem PartT.bt {H H' : Hp} {d : Addr} {u : HO} (hd : H d = some u) (nt : ∀ xs, u ≠ .tup xs) (t : Bt d H H') {v : V} {p : PK} (h : PartT H v p) : PartT H' v p := by
  obtain ⟨a, xs, e, q, r⟩ := h
  exact ⟨a, xs, e, t a _ (fun z => nt _ (by rw [z, hd] at q; exact Option.some.inj q)) q, r.imp fun _ _ z => z.bt hd nt t⟩
section
variable {X : Cx} {pins : List (Addr × Obj)} {σ : L2.St} {H : Hp} {s : Shared}
theorem ans_is (I : Inv X pins σ H s) : ∀ {xs : List V} {p : PK} {us : List Value}, All2 (AnsT H) xs p → Vals xs us → NestedAll s.heap (p.map nkA) us
  | _, _, _, .nil, .nil => .nil
  | _, a :: p, _, .cons h t, .cons r rt => by
    obtain ⟨b, rfl, hb⟩ := h
    cases r
    obtain ⟨_, its, rv, o, ho, hc, n, hd⟩ := (show ObjOk X.prog X.w H s.heap b (.tup [.str a.1, .int a.2]) from I.hok b _ hb)
    obtain ⟨u1, u2, rfl, ⟨t1, rfl⟩, ⟨t2, rfl⟩⟩ := vals2 rv
    exact .cons (.tup ho hc hd (.cons (.text _ _) (.cons (.int _ _) .nil))) (ans_is I t rt)
theorem nk_is (I : Inv X pins σ H s) {a : Addr} {p : PK} (h : PartT H (.ref a) p) : (nestedKind X.prog X.w).is s.heap (nk p) a := by
  obtain ⟨a', xs, e, ha, hx⟩ := h
  cases e
  obtain ⟨_, its, rv, o, ho, hc, n, hd⟩ := (show ObjOk X.prog X.w H s.heap a (.tup xs) from I.hok a _ ha)
  exact ⟨.tup ho hc hd (by simpa using ans_is I hx rv), nk_depth p⟩
end
/-! ### the dict as what is tracked -/
abbrev DL := List (PK × Addr × V)
def DNR : DL → List (NestedKey × Addr × Value) → Prop := Paired fun p q => nk p.1 = q.1 ∧ p.2.1 = q.2.1 ∧ RelV p.2.2 q.2.2
def DNphi (P : Program) (w : World) (d : Addr) (L : DL) (h : Heap) : Prop := L.length ≤ sizeLine ∧ (d == sysModules) = false ∧ ∃ xs, DNR L xs ∧ ∃ o es ep, h.get? d = some o ∧ o.ExactDict ∧ o.data = .dict es ep ∧ es.toList = xs.map (entryOfKey (nestedKind P w)) ∧ (xs.map (·.1)).Nodup
def DN (P : Program) (w : World) (d : Addr) (L : DL) : HO := .ext (DNphi P w d L)
def KeysOk (H : Hp) (L : DL) : Prop := ∀ p ∈ L, PartT H (.ref p.2.1) p.1
theorem dn_ne {P : Program} {w : World} {d : Addr} {L : DL} (xs : List V) : DN P w d L ≠ .tup xs := fun z => by
  unfold DN at z
  cases z
theorem dn_ok {P : Program} {w : World} {H : Hp} {h : Heap} {d : Addr} {L : DL} (φ : DNphi P w d L h) : ObjOk P w H h d (DN P w d L) := by
  obtain ⟨_, _, xs, _, o, es, ep, ho, _⟩ := id φ
  refine ⟨φ, ⟨o, ho⟩, fun h1 h2 q k => ?_⟩
  obtain ⟨a, b, xs', c, o', es', ep', ho', r⟩ := q
  exact ⟨a, b, xs', c, o', es', ep', k _ ho', r⟩
def valN (L : DL) (k : PK) : Option V := (L.find? fun p => decide (p.1 = k)).map (·.2.2)
def putN (L : DL) (k : PK) (b : Addr) (v : V) : DL := if (valN L k).isSome then L.map (fun p => if p.1 = k then (p.1, p.2.1, v) else p) else L ++ [(k, b, v)]
theorem DNR.val {L : DL} {xs : List (NestedKey × Addr × Value)} (r : DNR L xs) (k : PK) : RelO (valN L k) ((atKey xs (nk k)).map (·.2)) := by
  induction r with
  | nil => exact True.intro
  | @cons p q ps qs h t ih =>
    obtain ⟨h1, _, h2⟩ := h
    unfold valN atKey at ih ⊢
    by_cases e : p.1 = k
    · have e' : q.1 = nk k := h1.symm.trans (congrArg nk e)
      rw [List.find?_cons_of_pos (by exact decide_eq_true e), List.find?_cons_of_pos (by exact decide_eq_true e')]
      exact h2
    · have e' : ¬ q.1 = nk k := fun z => e (nk_inj (h1.trans z))
      rw [List.find?_cons_of_neg (by rw [decide_eq_false e]; decide), List.find?_cons_of_neg (by rw [decide_eq_false e']; decide)]
      exact ih
theorem DNR.isSome {L : DL} {xs : List (NestedKey × Addr × Value)} (r : DNR L xs) (k : PK) : (valN L k).isSome = (atKey xs (nk k)).isSome := by
  rw [(r.val k).isSome_eq, Option.isSome_map]
theorem DNR.put {L : DL} {xs : List (NestedKey × Addr × Value)} (r : DNR L xs) (k : PK) (b : Addr) {v : V} {u : Value} (rv : RelV v u) : DNR (putN L k b v) (storedH xs (nk k) b u) := by
  unfold putN storedH
  rw [← r.isSome k]
  by_cases e : (valN L k).isSome = true
  · rw [if_pos e, if_pos e]
    have : ∀ {L : DL} {xs : List (NestedKey × Addr × Value)}, DNR L xs → DNR (L.map fun p => if p.1 = k then (p.1, p.2.1, v) else p) (xs.map (putAt (nk k) u)) := by
      intro L xs r
      induction r with
      | nil => exact .nil
      | @cons p q ps qs h t ih =>
        refine .cons ?_ ih
        obtain ⟨h1, h2, h3⟩ := h
        unfold putAt
        dsimp only
        by_cases e : p.1 = k
        · rw [if_pos e, if_pos (h1.symm.trans (congrArg nk e))]
          exact ⟨h1, h2, rv⟩
        · rw [if_neg e, if_neg fun z => e (nk_inj (h1.trans z))]
          exact ⟨h1, h2, h3⟩
    exact this r
  · rw [if_neg e, if_neg e]
    exact Paired.snoc r ⟨rfl, rfl, rv⟩
theorem putN_len (L : DL) (k : PK) (b : Addr) (v : V) : (putN L k b v).length ≤ L.length + 1 := by
  unfold putN
  split
  · rw [List.length_map]; exact Nat.le_succ _
  · rw [List.length_append]; exact Nat.le_refl _
theorem putN_keys {H : Hp} {L : DL} {k : PK} {b : Addr} {v : V} (h : KeysOk H L) (hb : PartT H (.ref b) k) : KeysOk H (putN L k b v) := fun p hp => by
  unfold putN at hp
  split at hp
  · obtain ⟨q, hq, rfl⟩ := List.mem_map.mp hp
    have := h q hq
    split
    · exact this
    · exact this
  · rcases List.mem_append.mp hp with hp | hp
    · exact h p hp
    · rw [List.mem_singleton.mp hp]
      exact hb
section
variable {X : Cx} {pins : List (Addr × Obj)} {σ : L2.St} {H : Hp} {s : Shared}
theorem dn_of (I : Inv X pins σ H s) {d : Addr} {L : DL} (e : H d = some (DN X.prog X.w d L)) (ks : KeysOk H L) : L.length ≤ sizeLine ∧ (d == sysModules) = false ∧ ∃ xs, DNR L xs ∧ s.heap.DictOfH (nestedKind X.prog X.w) d xs := by
  have φ : DNphi X.prog X.w d L s.heap := (I.hok d _ e).1
  obtain ⟨z, hd, xs, r, o, es, ep, h1, h2, h3, h4, h5⟩ := φ
  refine ⟨z, hd, xs, r, o, es, ep, h1, h2, h3, h4, fun x hx => ?_, h5⟩
  have all : ∀ {l : DL} {m : List (NestedKey × Addr × Value)}, DNR l m → KeysOk H l → ∀ x ∈ m, (nestedKind X.prog X.w).is s.heap x.1 x.2.1 := by
    intro l m q
    induction q with
    | nil => exact fun _ x hx => nomatch hx
    | @cons p q ps qs hq t ih =>
      intro ks x hx
      rcases List.mem_cons.mp hx with rfl | hx
      · rw [← hq.1, ← hq.2.1]
        exact nk_is I (ks p List.mem_cons_self)
      · exact ih (fun p hp => ks p (List.mem_cons_of_mem _ hp)) x hx
  exact all r ks x hx
theorem dn_empty {P : Program} {w : World} {H : Hp} (h : Heap) (hb : sysModules < h.objs.size) : ObjOk P w H (h.push { cls := .type "dict", data := .dict #[] }) h.objs.size (DN P w h.objs.size []) :=
  dn_ok ⟨Nat.zero_le _, beq_eq_false_iff_ne.mpr (Ne.symm (Nat.ne_of_lt hb)), [], .nil, _, #[], 0, Heap.get?_push_size _ rfl, ⟨rfl, rfl, rfl⟩, rfl, rfl, List.nodup_nil⟩
theorem dn_phi {d : Addr} {L : DL} {xs : List (NestedKey × Addr × Value)} {h : Heap} {P : Program} {w : World} (z : L.length ≤ sizeLine) (hd : (d == sysModules) = false) (r : DNR L xs) (m : h.DictOfH (nestedKind P w) d xs) : DNphi P w d L h := by
  obtain ⟨o, es, ep, h1, h2, h3, h4, _, h5⟩ := m
  exact ⟨z, hd, xs, r, o, es, ep, h1, h2, h3, h4, h5⟩
end
/-! ### the operations -/
section
variable {X : Cx} {o i value f : Expr} {td ty tv tx : TE} {pos pos' apos cpos : Pos}
/-- {} -/
def tNewN (P : Program) (w : World) : TE := fun _ H Q => ∀ p, H p = none → Q (.ref p) (upd H p (DN P w p []))
theorem pe_newN {pos : Pos} : PE X (.Dict [] [] pos) (tNewN X.prog X.w) :=
  ⟨fun pins s σ H Q I h => wpAny_Dict_empty ⟨.ref s.heap.objs.size, _, I.laid (a := s.heap.objs.size) (o := DN X.prog X.w s.heap.objs.size []) (t' := s.toks) (fun _ _ q => Heap.get?_push_of_some _ q) (Nat.le_refl _) (dn_empty s.heap I.big), rfl, h _ (I.hok.fresh (Nat.le_refl _))⟩⟩
/-- d[k] -/
def tGetN (P : Program) (w : World) (td ty : TE) : TE := fun σ H Q => td σ H fun x H1 => ty σ H1 fun y H2 => ∃ d b L k v, x = .ref d ∧ y = .ref b ∧ H2 d = some (DN P w d L) ∧ KeysOk H2 L ∧ PartT H2 (.ref b) k ∧ valN L k = some v ∧ Q v H2
theorem pe_getN (hu : X.A.units + 64 < cLine) (ho : PE X o td) (hi : PE X i ty) (hs : NoSl i) : PE X (.Subscript o i pos) (tGetN X.prog X.w td ty) := by
  refine ⟨fun pins s σ H Q I h => ?_⟩
  refine subD_of PySem.F.slot_dict_getitem.lookup hs (thn (ho.run pins s σ H _ I h) fun u s1 ⟨x, H1, I1, rx, q1⟩ => thn (hi.run pins s1 σ H1 _ I1 q1) fun iv s2 ⟨y, H2, I2, ry, d, b, L, k, v, ex, ey, hd, hk, hb, hv, q2⟩ => ?_)
  subst ex ey
  obtain rfl : u = Value.ref d := rx
  obtain rfl : iv = Value.ref b := ry
  obtain ⟨z, lo, xs, r, dd⟩ := dn_of I2 hd hk
  obtain ⟨u', hu', ru'⟩ := RelO.some_of (v := v) (o := (atKey xs (nk k)).map (·.2)) (by rw [← hv]; exact r.val k)
  obtain ⟨p, hp, hp2⟩ := Option.map_eq_some_iff.mp hu'
  refine ⟨dd.typeIs, wpAny_getItem_heap (show _ < cLine from by rw [Around.in1_units]; omega) (nk_is I2 hb) dd hp ?_⟩
  rw [hp2]
  exact ⟨v, H2, I2.tok _, ru', q2⟩
/-- d.get(k, x) -/
def tGetOrN (P : Program) (w : World) (td ty tx : TE) : TE := fun σ H Q => td σ H fun x H1 => ∃ d L, x = .ref d ∧ H1 d = some (DN P w d L) ∧ KeysOk H1 L ∧ ty σ H1 fun y H2 => tx σ H2 fun z H3 => ∃ b k, y = .ref b ∧ H3 d = some (DN P w d L) ∧ KeysOk H3 L ∧ PartT H3 (.ref b) k ∧ Q ((valN L k).getD z) H3
theorem pe_getOrN (hu : X.A.units + 64 < cLine) (ho : PE X o td) (he : PE X i ty) (hf : PE X f tx) (m : M2 X o "get" apos i f cpos) : PE X (.Call (.Attribute o "get" apos) [i, f] [] cpos) (tGetOrN X.prog X.w td ty tx) := by
  refine ⟨fun pins s σ H Q I h => ?_⟩
  refine wpAny_Call_method m.base m.few m.line PySem.F.plainAttrs_dict PySem.F.slot_dict_get PySem.F.type_dict_get (thn (ho.run pins s σ H _ I h) fun u s1 ⟨x, H1, I1, rx, d, L, ex, hd, hk, q1⟩ => ?_)
  subst ex
  obtain rfl : u = Value.ref d := rx
  obtain ⟨_, _, xs, _, dd⟩ := dn_of I1 hd hk
  obtain ⟨od, es, ep, g1, g2, g3, _⟩ := id dd
  refine ⟨dd.typeIs, fun a e => ?_, ?_⟩
  · cases e
    exact ⟨od, g1, g2.2.1⟩
  rw [m.trees]
  refine Calls.callWith_builtin rfl (Calls.evalArgs_plain (Calls.spliced_cons (thn (he.run pins s1 σ H1 _ I1 q1) fun iv s2 ⟨y, H2, I2, ry, q2⟩ =>
    Calls.spliced_cons (thn (hf.run pins s2 σ H2 _ I2 q2) fun fv s3 ⟨z, H3, I3, rz, b, k, ey, hd3, hk3, hb, q3⟩ => Calls.spliced_nil ?_))))
  subst ey
  obtain rfl : iv = Value.ref b := ry
  obtain ⟨_, lo, xs3, r3, dd3⟩ := dn_of I3 hd3 hk3
  refine getOr_keyed (knd := nestedKind X.prog X.w) (k := nk k) (show _ < cLine from by rw [Around.in1_units]; omega) (nk_is I3 hb) lo ⟨xs3, dd3, rfl⟩ ?_
  rw [valueAt_pairsH]
  have rel := r3.val k
  cases e : valN L k with
  | none =>
    rw [e] at rel q3
    cases e2 : (atKey xs3 (nk k)).map (·.2) with
    | none =>
      exact ⟨z, H3, I3.tok _, rz, q3⟩
    | some u =>
      rw [e2] at rel
      exact rel.elim
  | some v =>
    rw [e] at rel q3
    cases e2 : (atKey xs3 (nk k)).map (·.2) with
    | none =>
      rw [e2] at rel
      exact rel.elim
    | some u =>
      rw [e2] at rel
      exact ⟨v, H3, I3.tok _, rel, q3⟩
/-- k not in d -/
def rNotInN (P : Program) (w : World) : R2 := fun y x H Q => ∃ d b L k, x = .ref d ∧ y = .ref b ∧ H d = some (DN P w d L) ∧ KeysOk H L ∧ PartT H (.ref b) k ∧ Q (.bl (!(valN L k).isSome)) H
theorem op_notInN (hu : X.A.units + 64 < cLine) : OpR X (compareOp .NotIn) (rNotInN X.prog X.w) := by
  intro pins s σ H y x v u Q I ry rx h
  obtain ⟨d, b, L, k, rfl, rfl, hd, hk, hb, q⟩ := h
  cases rx
  cases ry
  obtain ⟨_, lo, xs, r, dd⟩ := dn_of I hd hk
  refine wpAny_notIn_heap (knd := nestedKind X.prog X.w) (k := nk k) (show _ < cLine from by rw [Around.in1_units]; omega) (nk_is I hb) lo dd ?_
  rw [← r.isSome k]
  exact ⟨.bl _, H, I.tok _, rfl, q⟩
/-- d[k] = v -/
def sPutN (P : Program) (w : World) (td ty tv : TE) : TS := fun D σ H => tv σ H fun v H1 => td σ H1 fun x H2 => ty σ H2 fun y H3 => ∃ d b L k, x = .ref d ∧ y = .ref b ∧ H3 d = some (DN P w d L) ∧ KeysOk H3 L ∧ PartT H3 (.ref b) k ∧ L.length < 16000000 ∧ D.nx σ (upd H3 d (DN P w d (putN L k b v)))
theorem ps_putN (hu : X.A.units + 64 < cLine) (ho : PE X o td) (hi : PE X i ty) (hv : PE X value tv) (hs : swapsWith value (some (.Subscript o i pos')) pos.line X.env = pure false) :
    PS X (.Assign [.Subscript o i pos'] value pos) (sPutN X.prog X.w td ty tv) := by
  refine ⟨fun pins s σ H D I h => ?_⟩
  refine wpAny_Assign_Subscript (thn (hv.run pins s σ H _ I h) fun r s1 ⟨v, H1, I1, rv, q1⟩ => thn (ho.run pins s1 σ H1 _ I1 q1) fun u s2 ⟨x, H2, I2, rx, q2⟩ => thn (hi.run pins s2 σ H2 _ I2 q2) fun iv s3 ⟨y, H3, I3, ry, d, b, L, k, ex, ey, hd, hk, hb, few, q3⟩ => ?_) hs
  subst ex ey
  obtain rfl : u = Value.ref d := rx
  obtain rfl : iv = Value.ref b := ry
  obtain ⟨z, lo, xs, rel, dd⟩ := dn_of I3 hd hk
  have lx := Paired.length rel
  have lp := putN_len L k b v
  refine wpAny_setItem_heap (knd := nestedKind X.prog X.w) (k := nk k) (hsz := by rw [← lx]; exact z) (show _ < cLine from by rw [Around.in1_units]; omega) (nk_is I3 hb) dd fun h' dd' hs' => ?_
  have he : ∃ q, h'.get? d = some q := let ⟨q, _, _, hq, _⟩ := dd'; ⟨q, hq⟩
  exact ⟨σ, _, d_write I3 (by rw [hd]; exact True.intro) hs' he (dn_ok (dn_phi (by rw [sizeLine_eq]; omega) lo (rel.put k b rv) dd')), q3⟩
end
end Ow

set_option Elab.async false
set_option linter.all false
set_option maxRecDepth 100000
set_option maxHeartbeats 4000000
namespace Ow
open PySem PySem.Spec PyProof.Rows L2
/-! ### {k: v} -/
def tDisp1N (P : Program) (w : World) (tk tv : TE) : TE := fun σ H Q => ∀ d, H d = none → tPairs [(tk, tv)] σ (upd H d (DN P w d [])) fun ps H2 => ∃ v b k, ps = [(.ref b, v)] ∧ H2 d = some (DN P w d []) ∧ PartT H2 (.ref b) k ∧ Q (.ref d) (upd H2 d (DN P w d [(k, b, v)]))
theorem pe_disp1N {X : Cx} {pos : Pos} {ke ve : Expr} {tk tv : TE} (hu : X.A.units + 64 < cLine) (hk : PE X ke tk) (hv : PE X ve tv) : PE X (.Dict [some ke] [ve] pos) (tDisp1N X.prog X.w tk tv) := by
  refine ⟨fun pins s σ H Q I q => ?_⟩
  have hn := I.hok.fresh (Nat.le_refl s.heap.objs.size)
  have I1 := I.laid (a := s.heap.objs.size) (o := DN X.prog X.w s.heap.objs.size []) (h' := s.heap.push { cls := .type "dict", data := .dict #[] }) (t' := s.toks) (fun _ _ q => Heap.get?_push_of_some _ q) (Nat.le_refl _) (dn_empty s.heap I.big)
  have hlen : (pairTrees [some ke] [ve] X.env pos).length = 1 := pairTrees_length [some ke] [ve] X.env pos rfl rfl
  rw [arm_eval_Dict, zip_pairTrees [some ke] [ve] X.env pos rfl rfl, dictDisplay_pairs (pairTrees [some ke] [ve] X.env pos) (fun e => by rw [e] at hlen; cases hlen) (by rw [hlen]; decide)]
  refine wpAny_bind (wpAny_standAt (wpAny_bind (wpAny_subDictH (knd := nestedKind X.prog X.w) (show _ < cLine from by omega) (by rw [hlen]; decide)
    (wpAny_mono ((pps_cons (pos := pos) hk hv pps_nil).run pins _ σ _ _ I1 (q _ hn)) (fun vs s1 got => ?_) fun _ _ e => e))))
  obtain ⟨ps, H2, I2, rel, v, b, k, rfl, hd, hb, q2⟩ := got
  cases rel with
  | @cons _ p0 _ ws r t =>
    cases t
    obtain ⟨u1, u2⟩ := p0
    obtain ⟨r1, r2⟩ := r
    obtain rfl : u1 = Value.ref b := r1
    obtain ⟨z, lo, xs, r0, dd⟩ := dn_of I2 hd (fun _ h => nomatch h)
    cases r0
    refine ⟨[(nk k, b, u2)], ⟨rfl, rfl, nk_is I2 hb, True.intro⟩, dd, fun h' tk' dd' hs => wpAny_pure ⟨.ref s.heap.objs.size, _, ?_, rfl, q2⟩⟩
    have he : ∃ q, h'.get? s.heap.objs.size = some q := let ⟨q, _, _, hq, _⟩ := dd'; ⟨q, hq⟩
    exact d_write I2 (by rw [hd]; exact True.intro) hs he (dn_ok (dn_phi (by show 1 ≤ sizeLine; decide) lo (Paired.cons ⟨rfl, rfl, r2⟩ .nil) dd'))
/-! ### the walk over d.items(), the dict locked -/
def Itn (P : Program) (w : World) (d : Addr) (o : Obj) (L : DL) : It :=
  ⟨fun i H => H d = some (.frz o (DN P w d L)) ∧ i < L.length, fun i H x H' => ∃ T p, L[i]? = some p ∧ x = .ref T ∧ H T = none ∧ H' = upd H T (.tup [.ref p.2.1, p.2.2]), fun i H => H d = some (.frz o (DN P w d L)) ∧ L.length ≤ i⟩
section
variable {X : Cx} {pins : List (Addr × Obj)} {σ : L2.St} {H : Hp} {s : Shared} {d : Addr} {o : Obj} {L : DL}
theorem frzN (I : Inv X pins σ H s) (h : H d = some (.frz o (DN X.prog X.w d L))) :
    (d == sysModules) = false ∧ s.heap.get? d = some o ∧ o.ExactDict ∧ ∃ (es : Array DictEntry) (ep : Nat), o.data = .dict es ep ∧ es.size = L.length ∧
      ∀ (i : Nat) (p : PK × Addr × V), L[i]? = some p → ∃ hi : i < es.size, es[i].key = .ref p.2.1 ∧ RelV p.2.2 es[i].val := by
  obtain ⟨hd, ⟨z, hs, xs, pr, o', es, ep, ho, hx, hdt, he, _⟩, _⟩ := I.hok d _ h
  rw [hd] at ho
  cases ho
  have l1 : es.size = xs.length := size_of_entries he
  have l2 : L.length = xs.length := Paired.length pr
  refine ⟨hs, hd, hx, es, ep, hdt, by omega, fun i p e => ?_⟩
  obtain ⟨b, hb, e1, e2, e3⟩ := paired_get pr e
  have lt : i < es.size := by
    have := (List.getElem?_eq_some_iff.mp hb).1
    omega
  have q := entry_at he i
  rw [hb, Array.getElem?_eq_getElem lt] at q
  have q' := Option.some.inj q
  refine ⟨lt, ?_, ?_⟩
  · rw [q', e2]
    rfl
  · rw [q']
    exact e3
theorem turn_itemsN {P : Program} {w : World} {K : PySem.W.Frag} {es : Array DictEntry} {ep : Nat} {elts : List Expr} {kk : Nat} {tpos : Pos} (it : Addr) (hod : o.data = .dict es ep) :
    Turn P w K (.Tuple elts kk tpos) (Itn P w d o L) [it] it (fun i h => ∃ ok ov, IsItemIter h it d i L.length ep ok ov) where
  mem := by simp
  obj := fun i h st b hb => by
    have e : b = it := by simpa using hb
    subst e
    obtain ⟨ok, ov, e⟩ := st
    exact ⟨_, e, fun v z => nomatch z⟩
  keep := fun i h h' st k => let ⟨ok, ov, e⟩ := st; ⟨ok, ov, k it (by simp) _ e⟩
  item := by
    intro X hP hw hK hc i pins s σ H E I hf st hg
    subst hP hw hK
    obtain ⟨hd, hi⟩ := hg
    obtain ⟨hs, hgd, hx, es', ep', hdt, hsz, ent⟩ := frzN I hd
    obtain ⟨rfl, rfl⟩ := dict_ep hod hdt
    obtain ⟨p, hp⟩ : ∃ p, L[i]? = some p := ⟨L[i], List.getElem?_eq_getElem hi⟩
    obtain ⟨lt, hk, rv⟩ := ent i p hp
    obtain ⟨ok, ov, he⟩ := st
    rw [← hsz] at he
    have hlt : it < s.heap.objs.size := Heap.lt_size he
    refine wpAny_pyNext_items_item_raw he ⟨o, hgd, hx, hdt⟩ lt fun h' ho hT hz hkp => ?_
    refine ⟨_, rfl, wpAny_letOwnedTupleGo_items (s := { s with heap := h' }) ho fun h'' he' sb => ?_⟩
    have hT2 : h''.get? s.heap.objs.size = some { cls := .type "tuple", data := .seq #[es'[i].key, es'[i].val] } := (sb.2 _ (Nat.ne_of_gt hlt)).trans hT
    have new : ObjOk X.prog X.w (upd H s.heap.objs.size (.tup [.ref p.2.1, p.2.2])) h'' s.heap.objs.size (.tup [.ref p.2.1, p.2.2]) :=
      ⟨by show 2 ≤ sizeLine; decide, [es'[i].key, es'[i].val], .cons (by rw [hk]; exact rfl) (.cons rv .nil), ⟨_, hT2, rfl, _, rfl⟩⟩
    have I1 : Inv X pins σ (upd H s.heap.objs.size (.tup [.ref p.2.1, p.2.2])) { s with heap := h'' } :=
      I.turnedNew (t' := s.toks) (ch := [it]) (fun b ob hb e => (sb.2 b (by simpa using hb)).trans (hkp b ob (by simpa using hb) e)) hf (Nat.le_refl _) new
    refine ⟨.ref s.heap.objs.size, _, I1, rfl, ⟨_, p, hp, rfl, I.hok.fresh (Nat.le_refl _), rfl⟩, ⟨es'[i].key, es'[i].val, ?_⟩, fun b hb => ?_⟩
    · rw [← hsz]; exact he'
    · have e : b = it := by simpa using hb
      rw [e, upd_ne (Nat.ne_of_lt hlt)]
      exact (hf it (by simp)).1
  done := by
    intro X hP hw hK hc i pins s σ H E I hf st hg
    subst hP hw hK
    obtain ⟨hd, hi⟩ := hg
    obtain ⟨f0, f1, f2, f3, f4, f5⟩ := hf it (by simp)
    obtain ⟨hs, hgd, hx, es', ep', hdt, hsz, ent⟩ := frzN I hd
    obtain ⟨rfl, rfl⟩ := dict_ep hod hdt
    obtain ⟨ok, ov, he⟩ := st
    rw [← hsz] at he
    exact wpAny_pyNext_items_end_raw (I.ok.hd hc) he ⟨o, hgd, hx, hdt⟩ (by omega) fun h' eb => ⟨rfl, I.turned (t' := s.toks) (fun b ob hb e => eb b ob hb e) f0 f1 f3 f4 f5⟩
  self := fun A i s Q E st h => let ⟨_, _, e⟩ := st; PySem.W.kcp_self e h
theorem walk_itemsN {P : Program} {w : World} : Walk (Itn P w d o L) L.length (fun H => H d = some (.frz o (DN P w d L))) (YPair (fun i => L[i]?.map fun p => .ref p.2.1) (fun i => L[i]?.map fun p => p.2.2)) := by
  refine ⟨fun _ _ hi q => ⟨q, hi⟩, fun _ q => ⟨q, Nat.le_refl _⟩, fun i H x H' _ _ y => ?_⟩
  obtain ⟨T, p, h1, h2, h3, h4⟩ := y
  exact ⟨T, _, _, h2, h3, h4, by simp [h1], by simp [h1]⟩
end
def iItemsN (P : Program) (w : World) (td : TE) : TI := fun σ H R => td σ H fun x H1 => ∃ d o L, x = .ref d ∧ H1 d = some (.frz o (DN P w d L)) ∧ R (Itn P w d o L) H1
theorem pi_itemsN {X : Cx} {e : Expr} {td : TE} {apos cpos : Pos} {elts : List Expr} {kk : Nat} {tpos : Pos} (he : PE X e td) (hbase : attributeBase e "items" X.env (eval e X.env) = eval e X.env := by rfl) (hline : (apos.endLine == cpos.line) = true := by rfl) :
    PI X (.Tuple elts kk tpos) (.Call (.Attribute e "items" apos) [] [] cpos) (iItemsN X.prog X.w td) := by
  refine ⟨fun pins s σ H R I h => ?_⟩
  refine wpAny_Call_method (T := "dict") (id := "dict.items") hbase rfl hline PySem.F.plainAttrs_dict PySem.F.slot_dict_items PySem.F.type_dict_items (thn (he.run pins s σ H _ I h) fun u s1 ⟨x, H1, I1, rx, d, o, L, ex, hd, q⟩ => ?_)
  subst ex
  obtain rfl : u = Value.ref d := rx
  obtain ⟨hs, hgd, hx, es, ep, hdt, hsz, ent⟩ := frzN I1 hd
  have raw : s1.heap.DictRaw d es ep := ⟨o, hgd, hx, hdt⟩
  refine ⟨raw.typeIs, fun a e => ?_, ?_⟩
  · cases e
    exact ⟨o, hgd, hx.2.1⟩
  have I2 : Inv X pins σ H1 { s1 with heap := s1.heap.push { cls := .type "dict_items", data := .fields #[.ref d] } } := I1.kept (t' := s1.toks) fun b ob q => Heap.get?_push_of_some _ q
  have fin : wpAny (model X.prog X.w) X.A (pyIter (.ref s1.heap.objs.size)) (PIE X pins σ (.Tuple elts kk tpos) R) X.xe { s1 with heap := s1.heap.push { cls := .type "dict_items", data := .fields #[.ref d] } } := by
    refine wpAny_pyIter_items_raw (d := d) (es := es) (ep := ep) ⟨_, Heap.get?_push_size _ rfl, rfl, rfl⟩ (raw.at fun o e => Heap.get?_push_of_some _ e) (pi_one (tk := s1.toks) I2 _ (turn_itemsN _ hdt) ⟨.none, .none, ?_⟩ q)
    rw [← hsz]
    exact Heap.get?_push_size _ rfl
  show wpAny _ _ (callWith cpos (.builtin "dict.items") [.ref d] [] []) _ X.xe s1
  exact method_meetsIn PySem.F.slot_dict_items PySem.F.entry_dict_items rfl (PySem.evalArgs_none ⟨rfl, raw.typeIs, PySem.F.args_dict_items_1 _, _, meets_dict_items_raw d hs, ⟨es, ep, raw⟩, fin⟩)
end Ow

set_option Elab.async false
set_option linter.all false
set_option maxRecDepth 100000
set_option maxHeartbeats 4000000
namespace Ow
open PySem PySem.Spec PyProof.Rows L2
/-! ### the order of parts -/
def encA (a : Str × Int) : PyData := .tuple [.str a.1, .int a.2]
def encP (p : PK) : PyData := .tuple (p.map encA)
theorem alikeA (a b : Str × Int) : PySem.W.alike (encA a) (encA b) = true := by
  unfold encA
  simp [PySem.W.alike, PySem.W.alikeAll]
theorem alikeP : ∀ p q : PK, PySem.W.alikeAll (p.map encA) (q.map encA) = true
  | [], _ => by simp [PySem.W.alikeAll]
  | _ :: _, [] => by simp [PySem.W.alikeAll]
  | a :: p, b :: q => by
    show PySem.W.alikeAll (encA a :: p.map encA) (encA b :: q.map encA) = true
    rw [PySem.W.alikeAll, alikeP p q, alikeA a b]
    rfl
theorem depthA : ∀ p : PK, PyData.depthAll (p.map encA) ≤ 1
  | [] => by simp [PyData.depthAll]
  | a :: p => by
    rw [List.map_cons, PyData.depthAll]
    have e : (encA a).depth = 1 := by
      unfold encA
      simp [PyData.depth, PyData.depthAll]
    rw [e]
    exact Nat.max_le.mpr ⟨Nat.le_refl _, depthA p⟩
theorem depthP (p : PK) : (encP p).depth ≤ 2 := by
  unfold encP
  rw [PyData.depth]
  have := depthA p
  omega
theorem dpA {K : PySem.W.Frag} {H : Hp} {v : V} {a : Str × Int} (h : AnsT H v a) : Dp K H v (encA a) := by
  obtain ⟨b, rfl, hb⟩ := h
  exact .tup (.of hb) (.cons (.str _) (.cons (.int _) .nil))
theorem dpAs {K : PySem.W.Frag} {H : Hp} : ∀ {xs : List V} {p : PK}, All2 (AnsT H) xs p → DpAll K H xs (p.map encA)
  | _, _, .nil => .nil
  | _, _, .cons h t => .cons (dpA h) (dpAs t)
theorem dpP {K : PySem.W.Frag} {H : Hp} {v : V} {p : PK} (h : PartT H v p) : Dp K H v (encP p) := by
  obtain ⟨a, xs, rfl, ha, hx⟩ := h
  exact .tup (.of ha) (dpAs hx)
/-- the parts in Python's order -/
def srt (ps : List PK) : List PK := ps.mergeSort (PySem.W.dataLe false encP)
theorem srt_perm (ps : List PK) : (srt ps).Perm ps := List.mergeSort_perm ps _
open PySem.W in
theorem each_of {X : Cx} {pins : List (Addr × Obj)} {σ : L2.St} {H : Hp} {s : Shared} (I : Inv X pins σ H s) : ∀ {xs : List V} {ps : List PK} {us : List Value}, All2 (PartT H) xs ps → Vals xs us →
    EachIs (fun (v : Value) (p : PK) => ∃ a : Addr, v = Value.ref a ∧ PartT H (.ref a) p) us ps ∧ EachIs (fun (v : Value) (p : PK) => ∃ as, Reads s.heap v (encP p) as) us ps
  | _, _, _, .nil, .nil => ⟨.nil, .nil⟩
  | _, _, _, .cons h t, .cons r rt => by
    obtain ⟨g1, g2⟩ := each_of I t rt
    obtain ⟨as, hr⟩ := Dp.reads I _ _ _ (dpP (K := X.K) h) r
    obtain ⟨a, xs, rfl, ha, hx⟩ := h
    cases r
    exact ⟨.cons ⟨a, rfl, a, xs, rfl, ha, hx⟩ g1, .cons ⟨as, hr⟩ g2⟩
open PySem.W in
theorem of_each {H : Hp} : ∀ {us : List Value} {ps : List PK}, EachIs (fun (v : Value) (p : PK) => ∃ a : Addr, v = Value.ref a ∧ PartT H (.ref a) p) us ps → ∃ xs : List V, Vals xs us ∧ All2 (PartT H) xs ps
  | _, _, .nil => ⟨[], .nil, .nil⟩
  | _, _, .cons ⟨a, e, h⟩ t => by
    obtain ⟨xs, g1, g2⟩ := of_each t
    subst e
    exact ⟨.ref a :: xs, .cons rfl g1, .cons h g2⟩
theorem sortableP {ps : List PK} (ne : ∀ p ∈ ps, p ≠ []) : PySem.W.Sortable (ps.map encP) := .inl fun d hd => by
  obtain ⟨p, hp, rfl⟩ := List.mem_map.mp hd
  cases p with
  | nil => exact absurd rfl (ne _ hp)
  | cons a r => exact ⟨_, _, rfl⟩
/-- sorted(xs), xs a list of parts -/
def rSortP (K : PySem.W.Frag) : List V → Hp → VK → Prop := fun vs H Q => ∃ (a : Addr) (xs : List V) (ps : List PK), vs = [V.ref a] ∧ SqL K H a xs ∧ All2 (PartT H) xs ps ∧ (∀ p ∈ ps, p ≠ []) ∧
  ∀ ys p, All2 (PartT H) ys (srt ps) → H p = none → Q (.ref p) (upd H p (.lst ys))
theorem cr_sortP {X : Cx} (hu : X.A.units + 64 < cLine) : CallR X (.builtin "sorted") (rSortP X.K) := by
  intro pins s σ H vs us Q I r h
  obtain ⟨a, xs, ps, rfl, hs, hx, ne, q⟩ := h
  obtain ⟨its, rv, pl, room⟩ := I.list hs
  rw [Vals.ref1 r]
  have lx := hx.len
  obtain ⟨e1, e2⟩ := each_of I hx rv
  refine PySem.W.sorted_data (enc := encP) pl.isList e1 e2 (PySem.W.AllAlike.of fun b b' => alikeP b b') (sortableP ne) (by rw [← lx]; exact room) (fun b _ => ?_) fun out lo eo => ?_
  · have := depthP b
    omega
  · obtain ⟨ys, g1, g2⟩ := of_each eo
    obtain ⟨ep, he⟩ := PyProof.Rows.sortedAll_at s.heap its out.toArray
    have ly : ys.length ≤ sizeLine := by
      rw [g1.length, lo, ← lx]
      exact room
    exact ⟨.ref _, upd H (s.heap.objs.size + 1) (.lst ys), I.laid (t' := s.toks) (fun b o e => PyProof.Rows.sortedAll_old e) (Nat.le_add_right _ 1) ⟨ly, out, ep, g1, he⟩, rfl, q ys _ g2 (I.hok.fresh (Nat.le_add_right _ 1))⟩
end Ow

set_option Elab.async false
set_option linter.all false
set_option maxRecDepth 100000
set_option maxHeartbeats 4000000
namespace Ow
open PySem PySem.Spec PyProof.Rows L2
theorem reads_two {h : Heap} {x : Str} {n : Int} : ∀ {vs : List Value} {as : List Addr}, ReadsAll h vs [.str x, .int n] as → as = [] := by
  intro vs as r
  cases r with
  | cons h1 t =>
    cases h1
    cases t with
    | cons h2 t2 =>
      cases h2
      cases t2
      rfl
theorem readsA_nil {h : Heap} {v : Value} {a : Str × Int} {as : List Addr} (r : Reads h v (encA a) as) : as = [] := by
  unfold encA at r
  cases r with
  | tuple _ _ _ h4 => exact reads_two h4
theorem readsAs_nil {h : Heap} : ∀ {p : PK} {vs : List Value} {as : List Addr}, ReadsAll h vs (p.map encA) as → as = []
  | [], _, _, r => by
    cases r
    rfl
  | a :: p, _, _, r => by
    cases r with
    | cons h1 t => rw [readsA_nil h1, readsAs_nil (p := p) t]; rfl
theorem readsP_nil {h : Heap} {v : Value} {p : PK} {as : List Addr} (r : Reads h v (encP p) as) : as = [] := by
  unfold encP at r
  cases r with
  | tuple _ _ _ h4 => exact readsAs_nil h4
open PySem.W in
theorem each_noas {h : Heap} {a : Addr} : ∀ {us : List Value} {ps : List PK}, EachIs (fun (v : Value) (p : PK) => ∃ as, Reads h v (encP p) as) us ps → EachIs (fun (v : Value) (p : PK) => ∃ as, Reads h v (encP p) as ∧ a ∉ as) us ps
  | _, _, .nil => .nil
  | _, _, .cons ⟨as, r⟩ t => .cons ⟨as, r, by rw [readsP_nil r]; exact fun z => nomatch z⟩ (each_noas t)
/-- sorted(d), d's keys parts -/
def rSortDN (P : Program) (w : World) : List V → Hp → VK → Prop := fun vs H Q => ∃ (d : Addr) (L : DL), vs = [V.ref d] ∧ H d = some (DN P w d L) ∧ KeysOk H L ∧ (∀ p ∈ L, p.1 ≠ []) ∧
  ∀ ys p, All2 (PartT H) ys (srt (L.map (·.1))) → H p = none → Q (.ref p) (upd H p (.lst ys))
theorem cr_sortDN {X : Cx} (hc : X.calm = true) (hu : X.A.units + 64 < cLine) : CallR X (.builtin "sorted") (rSortDN X.prog X.w) := by
  intro pins s σ H vs us Q I r h
  obtain ⟨d, L, rfl, hd, ks, ne, q⟩ := h
  obtain ⟨u, rfl, rx⟩ := vals1 r
  cases rx
  obtain ⟨z, lo, xs, rel, dd⟩ := dn_of I hd ks
  have lx := Paired.length rel
  obtain ⟨es, ep, raw, es1, es2⟩ := dd.raw
  refine Calls.call_function_entry kind_sorted plain_sorted entry_sorted (args_sorted1 _) ?_
  unfold Builtin.«sorted»
  refine wpAny_bind (m := checkCount "sorted" 1 1 _) (wpAny_pure ?_)
  refine wpAny_bind (PySem.W.kdu_collect (A := X.A.in1) (PySem.KdlSrc.rawDict (es := es) (ep := ep) lo) (I.ok.hd hc) raw (by rw [es1, ← lx]; exact z) fun h' tk acc kept items => ?_)
  have I1 : Inv X pins σ H { s with heap := h', toks := tk } := I.kept kept
  have la : acc.toList.length = L.length := by rw [Array.length_toList, items.1, es1, lx]
  have item : ∀ (i : Nat) (v : Value), acc.toList[i]? = some v → ∃ p : PK × Addr × V, L[i]? = some p ∧ v = Value.ref p.2.1 := fun i v e => by
    obtain ⟨hi, ev⟩ := items.2 i v (by rw [← Array.getElem?_toList]; exact e)
    obtain ⟨y, e1, e2, _, _⟩ := es2 i hi
    have lt := (List.getElem?_eq_some_iff.mp e1).1
    obtain ⟨p, hp⟩ : ∃ p, L[i]? = some p := ⟨L[i]'(by omega), List.getElem?_eq_getElem (by omega)⟩
    obtain ⟨b, hb, g1, g2, g3⟩ := paired_get rel hp
    rw [e1] at hb
    cases hb
    exact ⟨p, hp, by rw [ev, e2, g2]⟩
  have all : ∀ (L0 : DL) (vs : List Value), vs.length = L0.length → (∀ (i : Nat) (v : Value), vs[i]? = some v → ∃ p : PK × Addr × V, L0[i]? = some p ∧ v = Value.ref p.2.1) → KeysOk H L0 → ∃ ws : List V, Vals ws vs ∧ All2 (PartT H) ws (L0.map (·.1)) := by
    intro L0
    induction L0 with
    | nil =>
      intro vs hl _ _
      rw [List.length_eq_zero_iff.mp hl]
      exact ⟨[], .nil, .nil⟩
    | cons p L0 ih =>
      intro vs hl hv hk
      cases vs with
      | nil => cases hl
      | cons v vs =>
        obtain ⟨ws, g1, g2⟩ := ih vs (by simpa using hl) (fun i v e => hv (i + 1) v e) fun x hx => hk x (List.mem_cons_of_mem _ hx)
        obtain ⟨p', e1, rfl⟩ := hv 0 v rfl
        cases e1
        exact ⟨.ref p.2.1 :: ws, .cons rfl g1, .cons (hk p List.mem_cons_self) g2⟩
  obtain ⟨ws, g1, g2⟩ := all L acc.toList la item ks
  have bound : acc.toList.length ≤ sizeLine := by rw [la]; exact z
  refine wpAny_bind (wpAny_newList ?_ bound)
  have hoL : (h'.push (seqObj "list" acc.toList.toArray 0)).get? h'.objs.size = some (seqObj "list" acc.toList.toArray 0) := Heap.get?_push_size _ rfl
  have I2 : Inv X pins σ H { s with heap := h'.push (seqObj "list" acc.toList.toArray 0), toks := tk } := I1.kept (t' := tk) fun b o e => Heap.get?_push_of_some _ e
  obtain ⟨e1, e2⟩ := each_of I2 g2 g1
  show wpAny _ _ _ _ _ { s with heap := h'.push (seqObj "list" acc.toList.toArray 0), toks := tk }
  refine wpAny_bind (wpAny_holding (PySem.W.list_sort_data (enc := encP) hoL e1 (each_noas e2) (PySem.W.AllAlike.of fun b b' => alikeP b b') (sortableP fun p hp => ?_) (by rw [List.length_map]; exact z) (fun b _ => ?_) fun out lo2 eo => ?_))
  · obtain ⟨x, hx, rfl⟩ := List.mem_map.mp hp
    exact ne x hx
  · have := depthP b
    rw [Around.in1_units]
    omega
  · obtain ⟨ys, k1, k2⟩ := of_each eo
    obtain ⟨e', he'⟩ := sortedHeap_at (vs := acc.toList) (out := out.toArray) hoL
    have ly : ys.length ≤ sizeLine := by
      rw [k1.length, lo2, List.length_map]
      exact z
    refine wpAny_pure ⟨_, rfl, .ref h'.objs.size, upd H h'.objs.size (.lst ys), I1.laid (t' := tk) (fun b u e => ?_) (Nat.le_refl _) (show ObjOk X.prog X.w _ _ _ (.lst ys) from ⟨ly, out, e', k1, he'⟩), rfl, q ys _ k2 (I1.hok.fresh (Nat.le_refl _))⟩
    have low : b < h'.objs.size := Heap.lt_size e
    rw [sortedHeap_old (Nat.ne_of_lt low) (by rw [size_push']; exact Nat.lt_succ_of_lt low)]
    exact Heap.get?_push_of_some _ e
/-! ### dict(pairs) -/
def mergeN (L more : DL) : DL := more.foldl (fun acc p => putN acc p.1 p.2.1 p.2.2) L
theorem DNR.merge : ∀ {more : DL} {rs : List (NestedKey × Addr × Value)} {L : DL} {xs : List (NestedKey × Addr × Value)}, DNR more rs → DNR L xs → DNR (mergeN L more) (storedAllH xs rs) := by
  intro more rs L xs r
  induction r generalizing L xs with
  | nil => exact fun h => h
  | @cons p q ps qs h t ih =>
    intro k
    obtain ⟨e, hb, rv⟩ := h
    obtain ⟨q1, q2, q3⟩ := q
    dsimp only at e hb rv
    subst e hb
    exact ih (k.put p.1 p.2.1 rv)
theorem mergeN_len : ∀ (more L : DL), (mergeN L more).length ≤ L.length + more.length
  | [], _ => Nat.le_refl _
  | p :: more, L => by
    have a := mergeN_len more (putN L p.1 p.2.1 p.2.2)
    have b := putN_len L p.1 p.2.1 p.2.2
    show (mergeN (putN L p.1 p.2.1 p.2.2) more).length ≤ _
    rw [List.length_cons]
    omega
theorem mergeN_keys {H : Hp} : ∀ {more L : DL}, KeysOk H L → KeysOk H more → KeysOk H (mergeN L more)
  | [], _, h, _ => h
  | p :: more, L, h, g => mergeN_keys (more := more) (L := putN L p.1 p.2.1 p.2.2) (putN_keys h (g p List.mem_cons_self)) fun x hx => g x (List.mem_cons_of_mem _ hx)
/-- t is the pair (key, value) -/
def PairN (H : Hp) (v : V) (p : PK × Addr × V) : Prop := ∃ t, v = .ref t ∧ H t = some (.tup [.ref p.2.1, p.2.2]) ∧ PartT H (.ref p.2.1) p.1
theorem PairN.tk {H H' : Hp} {v : V} {p : PK × Addr × V} (t : Tk H H') (h : PairN H v p) : PairN H' v p := by
  obtain ⟨a, e, h1, h2⟩ := h
  exact ⟨a, e, t.tup h1, h2.tk t⟩
theorem pairs_keys {H : Hp} : ∀ {xs : List V} {ps : DL}, All2 (PairN H) xs ps → KeysOk H ps
  | _, _, .nil => fun _ h => nomatch h
  | _, p :: ps, .cons h t => fun x hx => by
    rcases List.mem_cons.mp hx with rfl | hx
    · exact h.choose_spec.2.2
    · exact pairs_keys t x hx
section
variable {X : Cx} {pins : List (Addr × Obj)} {σ : L2.St} {H : Hp} {s : Shared}
theorem prsN_raw (I : Inv X pins σ H s) : ∀ {xs : List V} {rs : DL} {us : List Value}, All2 (PairN H) xs rs → Vals xs us →
    ∃ ps : List (NestedKey × Addr × Value), DNR rs ps ∧ ps.length = rs.length ∧ (∀ (j : Nat) (k : NestedKey) (b : Addr) (v : Value), ps[j]? = some (k, b, v) → ∃ T : Addr, us[j]? = some (Value.ref T) ∧ PairAt s.heap T (Value.ref b) v) ∧ ∀ x ∈ ps, (nestedKind X.prog X.w).is s.heap x.1 x.2.1
  | _, _, _, .nil, .nil => ⟨[], .nil, rfl, fun j k b v e => by simp at e, fun _ h => nomatch h⟩
  | _, r :: rs, _, .cons h t, .cons rx rt => by
    obtain ⟨p, rfl, h1, h2⟩ := h
    cases rx
    obtain ⟨ps, k1, k2, k3, k4⟩ := prsN_raw I t rt
    obtain ⟨_, its, rv, o, ho, hc, n, hd⟩ := (show ObjOk X.prog X.w H s.heap p (.tup [.ref r.2.1, r.2.2]) from I.hok p _ h1)
    obtain ⟨u1, u2, rfl, r1, r2⟩ := vals2 rv
    cases r1
    refine ⟨(nk r.1, r.2.1, u2) :: ps, .cons ⟨rfl, rfl, r2⟩ k1, by rw [List.length_cons, k2]; rfl, fun j k b' v e => ?_, fun x hx => ?_⟩
    · cases j with
      | zero =>
        have e : (nk r.1, r.2.1, u2) = (k, b', v) := Option.some.inj e
        cases e
        exact ⟨p, rfl, .inl ⟨o, ho, hc, n, hd⟩⟩
      | succ j => exact k3 j k b' v e
    · rcases List.mem_cons.mp hx with rfl | hx
      · exact nk_is I h2
      · exact k4 x hx
def rDictN (K : PySem.W.Frag) (P : Program) (w : World) : List V → Hp → VK → Prop := fun vs H Q => ∃ (l : Addr) (xs : List V) (rs : DL), vs = [.ref l] ∧ SqL K H l xs ∧ All2 (PairN H) xs rs ∧ ∀ d, H d = none → Q (.ref d) (upd H d (DN P w d (mergeN [] rs)))
theorem cr_dictN {X : Cx} (hc : X.calm = true) (hu : X.A.units + 64 < cLine) : CallR X (.type "dict") (rDictN X.K X.prog X.w) := by
  intro pins s σ H vs us Q I r h
  obtain ⟨l, xs, rs, rfl, hl, hx, q⟩ := h
  obtain ⟨u, rfl, rx⟩ := vals1 r
  cases rx
  obtain ⟨its, rv, pl, hz⟩ := I.list hl
  obtain ⟨ps, k1, k2, k3, k4⟩ := prsN_raw I hx rv
  obtain ⟨o, n, ho, hcl, hd, hdat⟩ := pl
  have lx := hx.len
  have li := rv.length
  let f : NestedKey × Addr × Value → Value × Value := fun p => (Value.ref p.2.1, p.2.2)
  refine call_dict_pairsH (knd := nestedKind X.prog X.w) (ps := ps) (PairArg.list l its.toArray (fun j => match its[j]? with | some (.ref t) => t | _ => 0) (ps.map f)) (I.ok.hd hc) (show _ < cLine from by rw [Around.in1_units, Around.in1_units]; omega)
    ⟨⟨o, n, ho, hcl, hd, hdat⟩, by simp; omega, fun j k v e => ?_⟩ ⟨by simp, fun i ky v e => ?_⟩ (fun h' hk x hx => ?_) (by rw [List.length_map]; omega) fun h' tk made kept => ?_
  · rw [List.getElem?_map] at e
    cases e1 : ps[j]? with
    | none => rw [e1] at e; cases e
    | some p =>
      rw [e1] at e
      obtain ⟨k0, b0, v0⟩ := p
      have e := Option.some.inj e
      cases e
      obtain ⟨T, g1, g2⟩ := k3 j k0 b0 v0 e1
      have : (match its[j]? with | some (.ref t) => t | _ => (0 : Nat)) = T := by rw [g1]
      dsimp only
      rw [this]
      exact ⟨by simpa using g1, g2⟩
  · have e : (ps.map f)[i]? = some (ky, v) := e
    rw [List.getElem?_map] at e
    cases e1 : ps[i]? with
    | none => rw [e1] at e; cases e
    | some p =>
      rw [e1] at e
      obtain ⟨k0, b0, v0⟩ := p
      have e := Option.some.inj e
      cases e
      exact ⟨k0, b0, rfl, rfl⟩
  · exact nestedKind_stays.stays (fun b ob vs m e eq => hk b ob (Nat.ne_of_lt (Heap.lt_size e)) (by simp) e) (k4 x hx)
  · have hm : (s.heap.objs.size == sysModules) = false := beq_eq_false_iff_ne.mpr (Nat.ne_of_gt I.big)
    have hf : H s.heap.objs.size = none := I.hok.fresh (Nat.le_refl _)
    have hlen : (mergeN [] rs).length ≤ sizeLine := by
      have := mergeN_len rs []
      simp at this
      omega
    exact ⟨.ref s.heap.objs.size, upd H s.heap.objs.size (DN X.prog X.w s.heap.objs.size (mergeN [] rs)), I.laid (t' := tk) (fun b o e => kept b o (by simp) e) (Nat.le_refl _) (dn_ok (dn_phi hlen hm (DNR.merge k1 .nil) made)), rfl, q _ hf⟩
end
end Ow

set_option Elab.async false
set_option linter.all false
set_option maxRecDepth 100000
set_option maxHeartbeats 4000000
namespace Ow
open PySem PySem.Spec PyProof.Rows L2
/-! ### sorted of tuples of ints, of unlike lengths -/
/-- the rank: the ints one up, and places without one 0 -/
def rk (B : Int) : Nat → List Int → Int
  | 0, _ => 0
  | k + 1, [] => 0
  | k + 1, n :: r => (n + 1) * B ^ k + rk B k r
def Fits (B : Int) (ns : List Int) : Prop := ∀ m ∈ ns, 0 ≤ m ∧ m + 1 < B
theorem Fits.tl {B n : Int} {r : List Int} (h : Fits B (n :: r)) : Fits B r := fun m hm => h m (List.mem_cons_of_mem _ hm)
theorem rk_nil {B : Int} : ∀ k, rk B k [] = 0
  | 0 => rfl
  | _ + 1 => rfl
theorem rk_bd {B : Int} (hB : 1 ≤ B) : ∀ (k : Nat) (ns : List Int), ns.length ≤ k → Fits B ns → 0 ≤ rk B k ns ∧ rk B k ns < B ^ k
  | 0, ns, _, _ => ⟨Int.le_refl _, by show (0 : Int) < B ^ 0; rw [Int.pow_zero]; decide⟩
  | k + 1, [], _, _ => ⟨Int.le_refl _, Int.pow_pos (by omega)⟩
  | k + 1, n :: r, hl, h => by
    have hl' : r.length ≤ k := by simpa using hl
    obtain ⟨a, b⟩ := rk_bd hB k r hl' h.tl
    obtain ⟨c, d⟩ := h n List.mem_cons_self
    have z := TS.num1 (P := B ^ k) (d := n + 1) (B := B) a b (by omega) d
    rw [← Int.pow_succ] at z
    exact z
theorem rk_lt {B : Int} (hB : 1 ≤ B) : ∀ (k : Nat) (ns ms : List Int), ns.length ≤ k → ms.length ≤ k → Fits B ns → Fits B ms → decide (rk B k ns < rk B k ms) = HT.lexLt ns ms
  | 0, [], [], _, _, _, _ => rfl
  | 0, _ :: _, _, h, _, _, _ => absurd h (by simp)
  | 0, _, _ :: _, _, h, _, _ => absurd h (by simp)
  | k + 1, [], [], _, _, _, _ => decide_eq_false (Int.lt_irrefl _)
  | k + 1, [], m :: q, _, h2, _, g2 => by
    have hl : q.length ≤ k := by simpa using h2
    obtain ⟨a, _⟩ := rk_bd hB k q hl g2.tl
    obtain ⟨c, _⟩ := g2 m List.mem_cons_self
    have p : 0 < (m + 1) * B ^ k := Int.mul_pos (by omega) (Int.pow_pos (by omega))
    refine decide_eq_true ?_
    show (0 : Int) < (m + 1) * B ^ k + rk B k q
    omega
  | k + 1, n :: r, [], h1, _, g1, _ => by
    have hl : r.length ≤ k := by simpa using h1
    obtain ⟨a, _⟩ := rk_bd hB k r hl g1.tl
    obtain ⟨c, _⟩ := g1 n List.mem_cons_self
    have p : 0 < (n + 1) * B ^ k := Int.mul_pos (by omega) (Int.pow_pos (by omega))
    refine decide_eq_false ?_
    show ¬ ((n + 1) * B ^ k + rk B k r < 0)
    omega
  | k + 1, n :: r, m :: q, h1, h2, g1, g2 => by
    have l1 : r.length ≤ k := by simpa using h1
    have l2 : q.length ≤ k := by simpa using h2
    obtain ⟨a, b⟩ := rk_bd hB k r l1 g1.tl
    obtain ⟨c, d⟩ := rk_bd hB k q l2 g2.tl
    show decide ((n + 1) * B ^ k + rk B k r < (m + 1) * B ^ k + rk B k q) = _
    rw [HT.lexLt_cons]
    by_cases e : n = m
    · subst e
      rw [if_pos rfl, ← rk_lt hB k r q l1 l2 g1.tl g2.tl]
      exact decide_eq_decide.mpr ⟨fun z => by omega, fun z => by omega⟩
    · rw [if_neg e]
      refine decide_eq_decide.mpr ⟨fun z => ?_, fun z => TS.num2 a b c (by omega)⟩
      rcases Int.lt_trichotomy n m with y | y | y
      · exact y
      · exact absurd y e
      · have := TS.num2 (P := B ^ k) (d := m + 1) (e := n + 1) c d a (by omega)
        omega
theorem lex_ne : ∀ {ns ms : List Int}, ns ≠ ms → HT.lexLt ns ms = false → HT.lexLt ms ns = true
  | [], [], h, _ => absurd rfl h
  | [], _ :: _, _, h => nomatch h
  | _ :: _, [], _, _ => rfl
  | n :: r, m :: q, h, g => by
    rw [HT.lexLt_cons] at g ⊢
    by_cases e : n = m
    · subst e
      rw [if_pos rfl] at g ⊢
      exact lex_ne (fun z => h (by rw [z])) g
    · rw [if_neg e] at g
      rw [if_neg (fun z => e z.symm)]
      have := of_decide_eq_false g
      exact decide_eq_true (by omega)
section
variable {prog : Program} {w : World} {A : Around} {E : Value → Shared → Prop} {s : Shared}
/-- one tuple of ints against another one, as a sort of tuples does it where one of them is () -/
theorem one_tups {x y : Value} {ns ms : List Int} {Q : Bool → Shared → Prop} (hu : A.units < cLine) (hx : TS.TupInts s.heap x ns) (hy : TS.TupInts s.heap y ms) (h : Q (HT.lexLt ns ms) s) : wpAny (model prog w) A (keyLt' oneType' x y) Q E s := by
  obtain ⟨a, xs, rfl, ⟨⟨cls, dd, data, sl⟩, ho, hc, n, hd⟩, hi⟩ := hx
  obtain ⟨b, ys, rfl, ⟨⟨cls2, dd2, data2, sl2⟩, ho2, hc2, n2, hd2⟩, hj⟩ := hy
  simp only at hc hd hc2 hd2
  subst hc hd hc2 hd2
  rw [keyLt'_oneType, oneLt'_eq]
  simp only [if_true]
  refine wpAny_bind (wpAny_cRoomFor hu (wpAny_bind (wpAny_callSpecialIfBound?_slot (T := "tuple") ⟨_, ho, rfl⟩ PySem.F.slot_tuple_lt ?_)))
  refine call_meets PySem.F.slot_tuple_lt ⟨_, ho, rfl⟩ PySem.F.entry_tuple_lt (PySem.F.args_tuple_lt_2 _ _) (HT.tuple_lt_ints a b xs ys n n2 dd dd2 sl sl2 ns ms hi hj) ⟨ho, ho2, ?_⟩
  exact wpAny_truthy_bool h
/-- .. where none is () -/
theorem lexes {b : Bool} {xs ys : List Value} {ns ms : List Int} {Q : Bool → Shared → Prop} (i : Nat) (hx : IntsAre xs ns) (hy : IntsAre ys ms) (h : Q (HT.lexLt ns ms) s) : PySem.W.KatLex prog w A b (decide (xs.length < ys.length)) Q (xs.zip ys) i s := by
  induction hx generalizing ys ms i with
  | nil =>
    cases hy with
    | nil => exact PySem.W.kat_nil h
    | cons q u hy => exact PySem.W.kat_nil h
  | @cons p t xs ns hx ih =>
    cases hy with
    | nil => exact PySem.W.kat_nil h
    | @cons q u ys ms hy =>
      refine PySem.W.kat_cons (wpAny_eqBool_int ?_)
      rw [HT.lexLt_cons] at h
      by_cases e : p = q
      · rw [beq_iff_eq.mpr e]
        rw [if_pos e] at h
        have e2 : decide ((Value.int p t :: xs).length < (Value.int q u :: ys).length) = decide (xs.length < ys.length) := decide_eq_decide.mpr (by simp)
        rw [e2]
        exact PySem.W.kat_yes (ih (i + 1) hy h)
      · rw [beq_eq_false_iff_ne.mpr e]
        rw [if_neg e] at h
        exact PySem.W.kat_no (TS.oneLt_ints _ h)
theorem two_tups {b : Bool} {x y : Value} {ns ms : List Int} {Q : Bool → Shared → Prop} (hx : TS.TupInts s.heap x ns) (hy : TS.TupInts s.heap y ms) (h : Q (HT.lexLt ns ms) s) : wpAny (model prog w) A (keyLt' (tuples' b) x y) Q E s := by
  obtain ⟨a, xs, rfl, ⟨o, ho, hc, n, hd⟩, hi⟩ := hx
  obtain ⟨c, ys, rfl, ⟨o2, ho2, hc2, n2, hd2⟩, hj⟩ := hy
  refine PySem.W.kat_lt ho hd ho2 hd2 ?_
  have e : decide (xs.size < ys.size) = decide (xs.toList.length < ys.toList.length) := by rw [Array.length_toList, Array.length_toList]
  rw [e]
  exact lexes 0 hi hj h
end
end Ow

set_option Elab.async false
set_option linter.all false
set_option maxRecDepth 100000
set_option maxHeartbeats 4000000
namespace Ow
open PySem PySem.Spec PyProof.Rows L2
section
variable {M : Model} {A : Around} {E : Value → Shared → Prop} {s : Shared}
theorem mapM_fn {α β : Type} {f : α → Sem β} {g : α → β} : ∀ (l : List α) {R : List β → Shared → Prop}, (∀ v ∈ l, ∀ R' : β → Shared → Prop, R' (g v) s → wpAny M A (f v) R' E s) → R (l.map g) s → wpAny M A (l.mapM f) R E s
  | [], _, _, k => by
    rw [List.mapM_nil]
    exact wpAny_pure k
  | z :: l, R, hf, k => by
    rw [List.mapM_cons]
    refine wpAny_bind (hf z List.mem_cons_self _ (wpAny_bind ?_))
    exact mapM_fn l (R := fun ys s' => wpAny M A (pure (g z :: ys)) R E s') (fun v hv => hf v (List.mem_cons_of_mem _ hv)) (wpAny_pure k)
end
/-- the first item of a tuple, if it has one -/
def headOf (h : Heap) : Value → Option Value
  | .ref a => (h.get? a).bind fun o => match o.data with
    | .seq xs _ => xs[0]?
    | _ => none
  | _ => none
theorem headOf_at {h : Heap} {a : Addr} {o : Obj} {xs : Array Value} {n : Nat} (ho : h.get? a = some o) (hd : o.data = .seq xs n) : headOf h (.ref a) = xs[0]? := by
  show ((h.get? a).bind _) = _
  rw [ho, Option.bind_some, hd]
section
variable {M : Model} {A : Around} {E : Value → Shared → Prop} {s : Shared}
theorem first_tup {v : Value} {ns : List Int} {R : Option Value → Shared → Prop} (h : TS.TupInts s.heap v ns) (k : R (headOf s.heap v) s) : wpAny M A (firstOfTuple' v) R E s := by
  obtain ⟨a, xs, rfl, ⟨o, ho, hc, n, hd⟩, hi⟩ := h
  rw [headOf_at ho hd] at k
  rw [PySem.W.kas_first_eq]
  refine wpAny_bind (PySem.W.Looks.here (show PySem.W.Looks M s.heap (typeOf (.ref a)) o.cls from (PySem.W.Looks.ld ho).andThen .now) ?_)
  rw [hc, if_neg (by decide)]
  exact wpAny_bind (listItems_at ho hd (wpAny_pure k))
theorem head_nil {v : Value} (h : TS.TupInts s.heap v []) : headOf s.heap v = none := by
  obtain ⟨a, xs, rfl, ⟨o, ho, hc, n, hd⟩, hi⟩ := h
  rw [headOf_at ho hd]
  have l := hi.length
  rw [Array.length_toList] at l
  exact Array.getElem?_eq_none (by simpa using Nat.le_of_eq l)
theorem type_tup {v : Value} {ns : List Int} (h : TS.TupInts s.heap v ns) : PySem.W.Looks M s.heap (typeOf v) (.type "tuple") := by
  obtain ⟨a, xs, rfl, ⟨o, ho, hc, n, hd⟩, hi⟩ := h
  rw [← hc]
  exact (PySem.W.Looks.ld ho).andThen .now
/-- the kind of a sort of tuples whose first one is () -/
theorem kind_nil {v u : Value} {r : List Value} {R : SortKind → Shared → Prop} (hv : TS.TupInts s.heap v []) (hr : ∀ x ∈ u :: r, ∃ ns, TS.TupInts s.heap x ns) (k : R oneType' s) : wpAny M A (keyKind' (v :: u :: r).toArray) R E s := by
  have all : ∀ x ∈ v :: u :: r, ∃ ns, TS.TupInts s.heap x ns := fun x hx => by
    rcases List.mem_cons.mp hx with rfl | hx
    · exact ⟨[], hv⟩
    · exact hr x hx
  rw [keyKind'_eq, List.mapM_toArray, map_eq_pure_bind]
  refine wpAny_bind (wpAny_bind (mapM_fn (g := headOf s.heap) _ (fun x hx R' q => ?_) (wpAny_pure ?_)))
  · obtain ⟨ns, t⟩ := all x hx
    exact first_tup t q
  · have e : (v :: u :: r).map (headOf s.heap) = none :: (u :: r).map (headOf s.heap) := by rw [List.map_cons, head_nil hv]
    rw [e, if_neg (by simp), if_neg (by simp)]
    rw [oneTypeOnly'_eq, List.mapM_toArray, map_eq_pure_bind]
    refine wpAny_bind (wpAny_bind (wpAny_bind (mapM_fn (g := fun _ => Value.type "tuple") _ (fun x hx R' q => ?_) (wpAny_pure ?_))))
    · obtain ⟨ns, t⟩ := all x hx
      exact (type_tup t).here q
    · have a0 : (List.map (fun _ => Value.type "tuple") (v :: u :: r)).toArray[0]? = some (Value.type "tuple") := by simp
      have a1 : ((List.map (fun _ => Value.type "tuple") (v :: u :: r)).toArray.all fun x => x == Value.type "tuple") = true := by
        rw [List.all_toArray, List.all_map, List.all_eq_true]
        intro _ _
        rfl
      rw [a0]
      simp only [a1, if_true]
      exact wpAny_pure (wpAny_pure k)
/-- .. of which none is () -/
theorem firsts_ne {h : Heap} : ∀ vs : List Value, (∀ v ∈ vs, ∃ ns, TS.TupInts h v ns ∧ ns ≠ []) → ∃ fs, PySem.W.KatTups h vs fs ∧ fs.length = vs.length ∧ ∀ f ∈ fs, ∃ n t, f = Value.int n t
  | [], _ => ⟨[], .nil, rfl, fun _ z => nomatch z⟩
  | v :: vs, x => by
    obtain ⟨fs, k1, k2, k3⟩ := firsts_ne vs fun u hu => x u (List.mem_cons_of_mem _ hu)
    obtain ⟨ns, ⟨a, xs, rfl, ⟨o, ho, hc, n, hd⟩, hi⟩, hn⟩ := x v List.mem_cons_self
    have l := hi.length
    cases q : xs.toList with
    | nil =>
      rw [q] at l
      exact absurd (List.eq_nil_of_length_eq_zero l.symm) hn
    | cons y ys =>
      obtain ⟨m, t, hy⟩ := hi.all y (by rw [q]; exact List.mem_cons_self)
      have h0 : xs[0]? = some y := by
        have z := congrArg (fun l : List Value => l[0]?) q
        simpa using z
      refine ⟨y :: fs, .cons ho hc hd h0 k1, by rw [List.length_cons, List.length_cons, k2], fun f hf => ?_⟩
      rcases List.mem_cons.mp hf with rfl | hf
      · exact ⟨m, t, hy⟩
      · exact k3 f hf
theorem kind_ne {vs : List Value} {R : SortKind → Shared → Prop} (h2 : 2 ≤ vs.length) (hv : ∀ v ∈ vs, ∃ ns, TS.TupInts s.heap v ns ∧ ns ≠ []) (k : ∀ b, R (tuples' b) s) : wpAny M A (keyKind' vs.toArray) R E s := by
  obtain ⟨fs, k1, k2, k3⟩ := firsts_ne vs hv
  refine PySem.W.kat_kind (T := Value.type "int") k1 (by omega) (fun f hf => ?_) rfl (k _)
  obtain ⟨n, t, rfl⟩ := k3 f hf
  exact PySem.W.Looks.of_pure rfl
end
/-- what such a sort is given -/
def TupsS (h : Heap) (vs : List Value) : Prop := (∀ v ∈ vs, ∃ ns, TS.TupInts h v ns) ∧ ((∀ v ∈ vs, ∃ ns, TS.TupInts h v ns ∧ ns ≠ []) ∨ ∃ v r, vs = v :: r ∧ TS.TupInts h v [])
section
variable {prog : Program} {w : World} {A : Around} {E : Value → Shared → Prop} {s : Shared}
theorem kind_tupsS {vs : List Value} {B : Int} {k : Nat} (hB : 1 ≤ B) (hu : A.units < cLine) (h2 : 2 ≤ vs.length) (x : TupsS s.heap vs) (hf : ∀ v ∈ vs, ∀ ns, TS.TupInts s.heap v ns → ns.length ≤ k ∧ Fits B ns) (r : Value → Int) (hr : ∀ v ∈ vs, ∀ ns, TS.TupInts s.heap v ns → r v = rk B k ns)
    (R : SortKind → Shared → Prop) (h : ∀ κ, TS.Cmp prog w A s κ (pairsOf vs) r → R κ s) : wpAny (model prog w) A (keyKind' vs.toArray) R E s := by
  have cmp : ∀ κ, (κ = oneType' ∨ ∃ b, κ = tuples' b) → TS.Cmp prog w A s κ (pairsOf vs) r := fun κ hκ p q hp hq R' E' hR => by
    rw [pairsOf_toList] at hp hq
    have mp := (mem_zip_self hp).2
    have mq := (mem_zip_self hq).2
    obtain ⟨ns, tp⟩ := x.1 _ mp
    obtain ⟨ms, tq⟩ := x.1 _ mq
    obtain ⟨l1, f1⟩ := hf _ mp _ tp
    obtain ⟨l2, f2⟩ := hf _ mq _ tq
    rw [hr _ mp _ tp, hr _ mq _ tq, rk_lt hB k ns ms l1 l2 f1 f2] at hR
    rcases hκ with rfl | ⟨b, rfl⟩
    · exact one_tups hu tp tq hR
    · exact two_tups tp tq hR
  rcases x.2 with hn | ⟨v, t, rfl, hv⟩
  · exact kind_ne h2 hn fun b => h _ (cmp _ (.inr ⟨b, rfl⟩))
  · cases t with
    | nil => exact absurd h2 (by simp)
    | cons u t => exact kind_nil hv (fun z hz => x.1 z (List.mem_cons_of_mem _ hz)) (h _ (cmp _ (.inl rfl)))
end
end Ow

set_option Elab.async false
set_option linter.all false
set_option maxRecDepth 100000
set_option maxHeartbeats 4000000
/-! a sort of tuples of data the first of which is () -/
namespace Ow
open PySem PySem.Spec PyProof.Rows L2
open PySem.W PySem.SeqAt in
theorem one_data {prog : Program} {w : World} {A : Around} {E : Value → Shared → Prop} {s : Shared} {xs ys : List PyData} {a b : Value} {as bs : List Addr} {Q : Bool → Shared → Prop} (ra : Reads s.heap a (.tuple xs) as) (rb : Reads s.heap b (.tuple ys) bs) (hal : alikeAll xs ys = true)
    (hu : A.units + min (PyData.tuple xs).depth (PyData.tuple ys).depth < cLine) (hq : Q (dataLt (.tuple xs) (.tuple ys)) s) : wpAny (model prog w) A (oneLt' true a b) Q E s := by
  cases ra with
  | @tuple l o vs n _ as1 h1 h2 h3 h4 =>
    cases rb with
    | @tuple l' o' vs' n' _ bs1 k1 k2 k3 k4 =>
      have n1 : vs.size = xs.length := by simpa using ReadsAll.length _ _ _ h4
      have n2 : vs'.size = ys.length := by simpa using ReadsAll.length _ _ _ k4
      rw [dataLt_tuple, ← firstLt_toks xs ys hal, ← n1, ← n2] at hq
      rw [oneLt'_eq]
      simp only [if_true]
      refine wpAny_bind (wpAny_cRoomFor (room_here hu) ?_)
      obtain ⟨c1, dd, data, sl⟩ := o
      obtain ⟨c2, dd2, data2, sl2⟩ := o'
      simp only at h2 h3 k2 k3
      subst h2 h3 k2 k3
      refine wpAny_bind (wpAny_callSpecialIfBound?_slot (T := "tuple") ⟨_, h1, rfl⟩ PySem.F.slot_tuple_lt ?_)
      refine call_meets PySem.F.slot_tuple_lt ⟨_, h1, rfl⟩ PySem.F.entry_tuple_lt (PySem.F.args_tuple_lt_2 _ _) (tuple_ltAt _ _ vs vs' n n' dd dd2 sl sl2 (pairEq xs ys) fun j => dataLt (xs.getD j .none) (ys.getD j .none)) ⟨h1, k1, fun j j1 j2 => ?_, fun j j1 j2 hj => ?_, ?_⟩
      · have := eqAt_alikeAll xs ys A.in1 s vs.toList vs'.toList _ _ h4 k4 hal (room_in hu) j (by simpa using j1) (by simpa using j2)
        simpa using this
      · have := rcLt_alikeAll xs ys A.in1 s vs.toList vs'.toList _ _ h4 k4 hal (room_in hu) j (by simpa using j1) (by simpa using j2) hj
        simpa using this
      · exact wpAny_truthy_bool hq
section
variable {M : Model} {A : Around} {E : Value → Shared → Prop} {s : Shared}
theorem first_data {v : Value} {ds : List PyData} {as : List Addr} {R : Option Value → Shared → Prop} (h : Reads s.heap v (.tuple ds) as) (k : R (headOf s.heap v) s) : wpAny M A (firstOfTuple' v) R E s := by
  cases h with
  | @tuple l o xs n _ as1 ho hc hd h4 =>
    rw [headOf_at ho hd] at k
    rw [PySem.W.kas_first_eq]
    refine wpAny_bind (PySem.W.Looks.here (show PySem.W.Looks M s.heap (typeOf (.ref l)) o.cls from (PySem.W.Looks.ld ho).andThen .now) ?_)
    rw [hc, if_neg (by decide)]
    exact wpAny_bind (listItems_at ho hd (wpAny_pure k))
theorem headD_nil {v : Value} {as : List Addr} (h : Reads s.heap v (.tuple []) as) : headOf s.heap v = none := by
  cases h with
  | @tuple l o xs n _ as1 ho hc hd h4 =>
    rw [headOf_at ho hd]
    have e := SeqAt.ReadsAll.length _ _ _ h4
    rw [Array.length_toList] at e
    exact Array.getElem?_eq_none (Nat.le_of_eq e)
theorem kind_dataE {v u : Value} {r : List Value} {as : List Addr} {R : SortKind → Shared → Prop} (hv : Reads s.heap v (.tuple []) as) (hr : ∀ x ∈ u :: r, ∃ ds as, Reads s.heap x (.tuple ds) as) (k : R oneType' s) : wpAny M A (keyKind' (v :: u :: r).toArray) R E s := by
  have all : ∀ x ∈ v :: u :: r, ∃ ds as, Reads s.heap x (.tuple ds) as := fun x hx => by
    rcases List.mem_cons.mp hx with rfl | hx
    · exact ⟨[], as, hv⟩
    · exact hr x hx
  rw [keyKind'_eq, List.mapM_toArray, map_eq_pure_bind]
  refine wpAny_bind (wpAny_bind (mapM_fn (g := headOf s.heap) _ (fun x hx R' q => ?_) (wpAny_pure ?_)))
  · obtain ⟨ds, as', t⟩ := all x hx
    exact first_data t q
  · have e : (v :: u :: r).map (headOf s.heap) = none :: (u :: r).map (headOf s.heap) := by rw [List.map_cons, headD_nil hv]
    rw [e, if_neg (by simp), if_neg (by simp)]
    rw [oneTypeOnly'_eq, List.mapM_toArray, map_eq_pure_bind]
    refine wpAny_bind (wpAny_bind (wpAny_bind (mapM_fn (g := fun _ => Value.type "tuple") _ (fun x hx R' q => ?_) (wpAny_pure ?_))))
    · obtain ⟨ds, as', t⟩ := all x hx
      exact (PySem.W.looks_reads t).here q
    · have a0 : (List.map (fun _ => Value.type "tuple") (v :: u :: r)).toArray[0]? = some (Value.type "tuple") := by simp
      have a1 : ((List.map (fun _ => Value.type "tuple") (v :: u :: r)).toArray.all fun x => x == Value.type "tuple") = true := by
        rw [List.all_toArray, List.all_map, List.all_eq_true]
        intro _ _
        rfl
      rw [a0]
      simp only [a1, if_true]
      exact wpAny_pure (wpAny_pure k)
end
open PySem.W in
/-- tuples of data, the first one (), can be sorted -/
theorem sortsE {prog : Program} {w : World} {A : Around} {s : Shared} {v : Value} {vs : List Value} {ds : List PyData} (e : EachIs (fun v d => ∃ as, Reads s.heap v d as) (v :: vs) (.tuple [] :: ds)) (hal : AllAlike (.tuple [] :: ds)) (ht : ∀ d ∈ ds, ∃ xs, d = .tuple xs)
    (hu : ∀ d, d ∈ (PyData.tuple [] :: ds) → A.units + d.depth < cLine) : SortsAt prog w A s (dataKind s.heap (.tuple [] :: ds)) (v :: vs) := by
  have tup : ∀ d ∈ (PyData.tuple [] :: ds), ∃ xs, d = .tuple xs := fun d hd => by
    rcases List.mem_cons.mp hd with rfl | hd
    · exact ⟨[], rfl⟩
    · exact ht d hd
  refine ⟨fun x hx => ?_, oneType', ?_, fun h2 E Q hq => ?_⟩
  · obtain ⟨d, hd, as, r⟩ := e.left x hx
    exact ⟨_, dataKind_some hal hd r⟩
  · intro E x y a b Q ha hb hq
    obtain ⟨d, as, hd, ra, rfl⟩ := dataKind_inv ha
    obtain ⟨d', as', hd', rb, rfl⟩ := dataKind_inv hb
    obtain ⟨xs, rfl⟩ := tup d hd
    obtain ⟨ys, rfl⟩ := tup d' hd'
    rw [keyLt'_oneType]
    have al := hal _ hd _ hd'
    exact one_data ra rb (by simpa [alike] using al) (Nat.lt_of_le_of_lt (Nat.add_le_add_left (Nat.min_le_left _ _) _) (hu _ hd)) hq
  · cases vs with
    | nil => exact absurd h2 (by simp)
    | cons u r =>
      cases e with
      | cons h t =>
        obtain ⟨as, r1⟩ := h
        refine kind_dataE r1 (fun x hx => ?_) hq
        obtain ⟨d, hd, as', r2⟩ := t.left x hx
        obtain ⟨xs, rfl⟩ := ht d hd
        exact ⟨xs, as', r2⟩
/-- sorted(xs), xs a list of parts that begins with () -/
def rSortE (K : PySem.W.Frag) : List V → Hp → VK → Prop := fun vs H Q => ∃ (a : Addr) (xs : List V) (ps : List PK), vs = [V.ref a] ∧ SqL K H a xs ∧ All2 (PartT H) xs ([] :: ps) ∧
  ∀ ys p, All2 (PartT H) ys (srt ([] :: ps)) → H p = none → Q (.ref p) (upd H p (.lst ys))
open PySem.W in
theorem cr_sortE {X : Cx} (hu : X.A.units + 64 < cLine) : CallR X (.builtin "sorted") (rSortE X.K) := by
  intro pins s σ H vs us Q I r h
  obtain ⟨a, xs, ps, rfl, hs, hx, q⟩ := h
  obtain ⟨its, rv, pl, room⟩ := I.list hs
  rw [Vals.ref1 r]
  have lx := hx.len
  obtain ⟨e1, e2⟩ := each_of I hx rv
  have hal : AllAlike (([] :: ps : List PK).map encP) := PySem.W.AllAlike.of fun b b' => alikeP b b'
  have ei := e1.length
  have er' : EachIs (fun v b => ∃ as, Reads (sortingHeap (copyHeap s.heap its) (s.heap.objs.size + 1) its) v (encP b) as) its ([] :: ps) := e2.mono fun _ _ ⟨as, r⟩ => ⟨as, PyProof.Rows.Reads.keeps (fun _ _ => sorting_copy_old) r⟩
  have S : SortsAt X.prog X.w X.A.in1.in1 { s with heap := sortingHeap (copyHeap s.heap its) (s.heap.objs.size + 1) its } (dataKind (sortingHeap (copyHeap s.heap its) (s.heap.objs.size + 1) its) (([] :: ps : List PK).map encP)) its := by
    have em := each_map (R := fun v d => ∃ as, Reads (sortingHeap (copyHeap s.heap its) (s.heap.objs.size + 1) its) v d as) encP er'
    cases its with
    | nil => exact absurd ei (by simp)
    | cons v vs =>
      refine sortsE (s := { s with heap := sortingHeap (copyHeap s.heap (v :: vs)) (s.heap.objs.size + 1) (v :: vs) }) em hal (fun d hd => ?_) (fun d hd => ?_)
      · obtain ⟨p, _, rfl⟩ := List.mem_map.mp hd
        exact ⟨_, rfl⟩
      · have : ∃ p : PK, encP p = d := by
          rcases List.mem_cons.mp hd with rfl | hd
          · exact ⟨[], rfl⟩
          · obtain ⟨p, _, e⟩ := List.mem_map.mp hd
            exact ⟨p, e⟩
        obtain ⟨p, rfl⟩ := this
        have := depthP p
        rw [Around.in1_units, Around.in1_units]
        omega
  refine sorted_vals pl.isList S (by rw [e1.length, ← lx]; exact room) ?_
  have eo := sortVals_data (rev := false) e1 er' hal
  generalize sortVals (dataKind (sortingHeap (copyHeap s.heap its) (s.heap.objs.size + 1) its) (([] :: ps : List PK).map encP)) false its its = out at eo ⊢
  obtain ⟨ys, g1, g2⟩ := of_each eo
  obtain ⟨ep, he⟩ := PyProof.Rows.sortedAll_at s.heap its out.toArray
  have ly : ys.length ≤ sizeLine := by
    have h1 : ys.length = (srt ([] :: ps)).length := g2.len
    have h2 : (srt ([] :: ps)).length = ([] :: ps : List PK).length := (srt_perm _).length_eq
    rw [h1, h2, ← lx]
    exact room
  exact ⟨.ref _, upd H (s.heap.objs.size + 1) (.lst ys), I.laid (t' := s.toks) (fun b o e => PyProof.Rows.sortedAll_old e) (Nat.le_add_right _ 1) ⟨ly, out, ep, g1, he⟩, rfl, q ys _ g2 (I.hok.fresh (Nat.le_add_right _ 1))⟩
end Ow

set_option Elab.async false
set_option linter.all false
set_option maxRecDepth 100000
set_option maxHeartbeats 4000000
/-! sorted(set(t)), t a tuple of nested tuples; α is what a key is, in plain words -/
namespace HS
open PySem PySem.Spec PyProof.Rows L2
theorem perm_map_inv {α β : Type} [DecidableEq α] {f : α → β} : ∀ {vs : List β} {M : List α}, vs.Perm (M.map f) → ∃ M' : List α, M'.Perm M ∧ vs = M'.map f
  | [], M, h => by
    cases M with
    | nil => exact ⟨[], .nil, rfl⟩
    | cons q M => exact absurd h.length_eq (by simp)
  | v :: vs, M, h => by
    obtain ⟨q, hq, e⟩ := List.mem_map.mp (h.mem_iff.mp List.mem_cons_self)
    have pm := List.perm_cons_erase hq
    have h2 : (v :: vs).Perm (f q :: (M.erase q).map f) := h.trans (pm.map f)
    rw [← e] at h2
    obtain ⟨M', p', e'⟩ := perm_map_inv (List.Perm.cons_inv h2)
    exact ⟨q :: M', (p'.cons q).trans pm.symm, by rw [List.map_cons, ← e', e]⟩
theorem nodup_few {α : Type} [DecidableEq α] : ∀ (ks us : List α), ks.Nodup → (∀ z ∈ ks, z ∈ us) → ks.length ≤ us.length
  | [], _, _, _ => Nat.zero_le _
  | k :: ks, us, nd, h => by
    obtain ⟨n1, n2⟩ := List.nodup_cons.mp nd
    have hk := h k List.mem_cons_self
    have ih := nodup_few ks (us.erase k) n2 fun z hz => (List.mem_erase_of_ne fun e => n1 (by rw [← e]; exact hz)).mpr (h z (List.mem_cons_of_mem _ hz))
    rw [List.length_erase_of_mem hk] at ih
    have : 0 < us.length := List.length_pos_of_mem hk
    rw [List.length_cons]
    omega
/-- how a thing is a key, and data -/
structure Way (α : Type) where
  nk : α → NestedKey
  enc : α → PyData
  inj : ∀ {a b : α}, nk a = nk b → a = b
  deep : ∀ a, (nk a).depth ≤ 8
  alike : ∀ a b, PySem.W.alike (enc a) (enc b) = true
  flat : ∀ a, (enc a).depth ≤ 3
variable {α : Type} [DecidableEq α] {W : Way α}
/-- at b stands c -/
structure Stands (W : Way α) (h : Heap) (c : α) (b : Addr) : Prop where
  is : NestedIs h (W.nk c) (.ref b)
  reads : Reads h (.ref b) (W.enc c) []
theorem Stands.keeps {h h' : Heap} {c : α} {b : Addr} (x : Stands W h c b) (k : ∀ a o, h.get? a = some o → h'.get? a = some o) : Stands W h' c b :=
  ⟨NestedIs.at (fun a o _ _ e _ => k a o e) _ _ x.is, PyProof.Rows.Reads.keeps k x.reads⟩
theorem Stands.key {P : Program} {w : World} {h : Heap} {c : α} {b : Addr} (x : Stands W h c b) : KIs P w h (W.nk c) b := ⟨x.is, W.deep c⟩
def kW (W : Way α) (q : Addr × α) : Addr × NestedKey := (q.1, W.nk q.2)
theorem keyW_mem {M : List (Addr × α)} {c : α} : W.nk c ∈ (M.map (kW W)).map (·.2) ↔ c ∈ M.map (·.2) := by
  rw [List.map_map, List.mem_map, List.mem_map]
  constructor
  · rintro ⟨q, hq, e⟩
    exact ⟨q, hq, W.inj e⟩
  · rintro ⟨q, hq, e⟩
    exact ⟨q, hq, congrArg W.nk e⟩
theorem nodupW {M : List (Addr × α)} (h : ((M.map (kW W)).map (·.2)).Nodup) : (M.map (·.2)).Nodup := by
  have h2 : ((M.map (·.2)).map W.nk).Nodup := by
    rw [List.map_map] at h ⊢
    exact h
  rw [List.Nodup, List.pairwise_map] at h2
  exact h2.imp fun ne e => ne (congrArg W.nk e)
theorem eachW {h : Heap} {a : Addr} : ∀ (N : List (Addr × α)), (∀ q ∈ N, Stands W h q.2 q.1) → PySem.W.EachIs (fun (v : Value) (q : Addr × α) => v = Value.ref q.1) (N.map fun q => Value.ref q.1) N ∧
    PySem.W.EachIs (fun (v : Value) (q : Addr × α) => ∃ as, Reads h v (W.enc q.2) as ∧ a ∉ as) (N.map fun q => Value.ref q.1) N
  | [], _ => ⟨.nil, .nil⟩
  | q :: N, x => by
    obtain ⟨r1, r2⟩ := eachW N fun z hz => x z (List.mem_cons_of_mem _ hz)
    exact ⟨.cons rfl r1, .cons ⟨[], (x q List.mem_cons_self).reads, List.not_mem_nil⟩ r2⟩
theorem of_refsW : ∀ {out : List Value} {N : List (Addr × α)}, PySem.W.EachIs (fun (v : Value) (q : Addr × α) => v = Value.ref q.1) out N → out = N.map fun q => Value.ref q.1
  | _, _, .nil => rfl
  | _, _, .cons e t => by
    rw [List.map_cons, ← of_refsW t, e]
/-- what is known of the set after i items of ks -/
def SpW (P : Program) (w : World) (W : Way α) (h0 : Heap) (S : Addr) (ks : List (Addr × α)) (i : Nat) (h : Heap) : Prop :=
  (∀ b o, h0.get? b = some o → h.get? b = some o) ∧ ∃ (L : KL) (M : List (Addr × α)), KSet P w h S L ∧ L.Perm (M.map (kW W)) ∧ (∀ q ∈ M, q ∈ ks) ∧ ∀ c, c ∈ M.map (·.2) ↔ c ∈ (ks.take i).map (·.2)
section
variable {P : Program} {w : World} {A : Around} {E : Value → Shared → Prop} {s : Shared}
theorem growsW {h0 : Heap} {S : Addr} {ks : List (Addr × α)} {its : Array Value} {us : List α} (it : its.toList = ks.map fun q => Value.ref q.1) (is0 : ∀ q ∈ ks, Stands W h0 q.2 q.1) (few : us.length < 75) (sub : ∀ q ∈ ks, q.2 ∈ us) (hu : A.units + 16 < cLine) (nS : h0.get? S = none) :
    Grows P w A S h0 its.size (fun i v => its[i]? = some v) (SpW P w W h0 S ks) where
  first := fun h hS k => ⟨k, [], [], ⟨⟨#[], 0, _, ⟨_, hS, ⟨rfl, rfl, rfl⟩, rfl⟩, ⟨rfl, ⟨List.Pairwise.nil, rfl, rfl, .inl rfl, fun x hx => (by cases hx), fun i h j hi => (by simp [hashes] at hi)⟩, List.nodup_nil, by
    show _ ∨ (!w.params.followText "set-order") = true
    cases w.params.followText "set-order"
    · exact .inr rfl
    · exact .inl rfl, by decide⟩, by
    show 0 * 5 < 7 * 3
    decide⟩, fun p hp => (by cases hp)⟩, .nil, fun q hq => (by cases hq), fun c => by simp⟩
  stay := fun i h h' ⟨k, L, M, R, pm, sb, mem⟩ kS k0 => by
    have k' : ∀ b o, h0.get? b = some o → h'.get? b = some o := fun b o e => k0 b o e (k b o e)
    obtain ⟨es, ep, t, ⟨o, ho, r⟩, q⟩ := R.ex
    refine ⟨k', L, M, ⟨⟨es, ep, t, ⟨o, kS o ho, r⟩, q⟩, fun p hp => ?_⟩, pm, sb, mem⟩
    obtain ⟨q, hq, e⟩ := List.mem_map.mp (pm.mem_iff.mp hp)
    rw [← e]
    exact ((is0 q (sb q hq)).keeps k').key
  more := fun i v s E Q lt hv ⟨k, L, M, R, pm, sb, mem⟩ hQ => by
    have hi : its.toList[i]? = some v := by rw [Array.getElem?_toList]; exact hv
    rw [it, List.getElem?_map] at hi
    obtain ⟨⟨x, c⟩, hk, rfl⟩ := Option.map_eq_some_iff.mp hi
    have mk : (x, c) ∈ ks := List.mem_of_getElem? hk
    have ix : KIs P w s.heap (W.nk c) x := ((is0 _ mk).keeps k).key
    have tk1 : ks.take (i + 1) = ks.take i ++ [(x, c)] := by rw [List.take_add_one, hk]; rfl
    have lenL : L.length ≤ us.length := by
      have nd : (L.map (·.2)).Nodup := by
        obtain ⟨_, _, _, _, B, _⟩ := R.ex
        exact B.nd
      have nm : (M.map (·.2)).Nodup := nodupW ((pm.map (·.2)).nodup_iff.mp nd)
      rw [pm.length_eq, List.length_map, ← List.length_map (f := (·.2)) (as := M)]
      exact nodup_few _ us nm fun z hz => by
        obtain ⟨q, hq, rfl⟩ := List.mem_map.mp hz
        exact sub q (sb q hq)
    unfold setAdd
    refine wpAny_holding ?_
    refine wpAny_bind ((nestedKind P w).pyHash (show A.units + 8 < cLine by omega) ix ?_)
    refine add_key (s := { s with toks := s.toks + (nestedKind P w).draws (W.nk c) }) R ix hu (by omega) fun b h' L' same R' c1 c2 => ?_
    refine hQ h' _ b (Nat.le_add_right _ _) same ⟨fun b o e => (same.2 b fun z => by rw [z, nS] at e; cases e).trans (k b o e), ?_⟩
    by_cases c0 : c ∈ M.map (·.2)
    · have e := c1 (((pm.map (·.2)).mem_iff).mpr (keyW_mem.mpr c0))
      refine ⟨L', M, R', by rw [e]; exact pm, sb, fun z => ?_⟩
      rw [mem z, tk1, List.map_append, List.mem_append]
      refine ⟨.inl, fun h => h.elim id fun h => ?_⟩
      rw [← mem z, List.mem_singleton.mp h]
      exact c0
    · have e := c2 fun z => c0 (keyW_mem.mp (((pm.map (·.2)).mem_iff).mp z))
      refine ⟨L', (x, c) :: M, R', e.trans (pm.cons _), fun q hq => ?_, fun z => ?_⟩
      · rcases List.mem_cons.mp hq with rfl | hq
        · exact mk
        · exact sb q hq
      · rw [tk1, List.map_append, List.mem_append, List.map_cons, List.mem_cons, mem z]
        show _ ↔ _ ∨ z ∈ [c]
        rw [List.mem_singleton]
        exact Or.comm
/-- what may be sorted: no (), or one thing alone -/
def CanSort (W : Way α) (l : List α) : Prop := (∀ c ∈ l, ∃ x r, W.enc c = .tuple (x :: r)) ∨ ∃ c, l = [c] ∧ W.enc c = .tuple []
theorem sorted_setW {a : Addr} {L : KL} {M : List (Addr × α)} {Q : Value → Shared → Prop} (R : KSet P w s.heap a L) (pm : L.Perm (M.map (kW W))) (is0 : ∀ q ∈ M, Stands W s.heap q.2 q.1) (can : CanSort W (M.map (·.2))) (hh : A.handled = none) (hu : A.units + 16 < cLine)
    (hQ : ∀ s' p (out : Array Value) (c : Nat) (M' : List (Addr × α)), (∀ b o, s.heap.get? b = some o → s'.heap.get? b = some o) → s'.gens = s.gens → s'.os = s.os → s.heap.objs.size ≤ p →
      s'.heap.get? p = some (seqObj "list" out c) → out.toList = M'.map (fun q => Value.ref q.1) → M'.Perm M → (M'.map (·.2)).Nodup → (M'.map (·.2)).Pairwise (fun c d => PySem.W.dataLe false W.enc c d = true) → Q (.ref p) s') :
    wpAny (model P w) A (call (.builtin "sorted") [.ref a]) Q E s := by
  obtain ⟨es, ep, t, ⟨o, ho, hex, hd⟩, B, space⟩ := R.ex
  have few := B.few
  refine Calls.call_function_entry PyProof.Rows.kind_sorted PyProof.Rows.plain_sorted PyProof.Rows.entry_sorted (PyProof.Rows.args_sorted1 _) ?_
  unfold Builtin.«sorted»
  refine wpAny_bind (m := checkCount "sorted" 1 1 _) (wpAny_pure ?_)
  refine wpAny_bind (collect_set (A := A.in1) hh ⟨o, ho, hex.1, hd⟩ (B.fits (by omega)) (by rw [B.size]; unfold scanBound; omega) B.tab.ris B.led fun s1 vs k1 hz g1 o1 pv => ?_)
  have pv2 : vs.Perm (M.map fun q => Value.ref q.1) := by
    refine pv.trans ?_
    rw [B.ent, entries, List.map_map]
    have h1 := pm.map (fun q : Addr × NestedKey => Value.ref q.1)
    rw [List.map_map] at h1
    exact h1
  obtain ⟨N, pN, rfl⟩ := perm_map_inv pv2
  have lN : N.length < 76 := by
    rw [pN.length_eq]
    have e := pm.length_eq
    rw [List.length_map] at e
    omega
  refine wpAny_bind (wpAny_newList ?_ (by rw [List.length_map, sizeLine_eq]; omega))
  have hoL : (s1.heap.push (seqObj "list" (N.map fun q => Value.ref q.1).toArray 0)).get? s1.heap.objs.size = some (seqObj "list" (N.map fun q => Value.ref q.1).toArray 0) := Heap.get?_push_size _ rfl
  have isN : ∀ q ∈ N, Stands W (s1.heap.push (seqObj "list" (N.map fun q => Value.ref q.1).toArray 0)) q.2 q.1 := fun q hq => (is0 q (pN.mem_iff.mp hq)).keeps fun b o e => Heap.get?_push_of_some _ (k1 b o e)
  obtain ⟨r1, r2⟩ := eachW (a := s1.heap.objs.size) N isN
  have nd0 : (N.map (·.2)).Nodup := ((pN.map (·.2)).nodup_iff).mpr (nodupW ((pm.map (·.2)).nodup_iff.mp B.nd))
  have fin : ∀ (out : List Value) (M' : List (Addr × α)), M'.Perm N → PySem.W.EachIs (fun (v : Value) (q : Addr × α) => v = Value.ref q.1) out M' → (M'.Pairwise fun c d => PySem.W.dataLe false (fun q : Addr × α => W.enc q.2) c d = true) →
      Q (.ref s1.heap.objs.size) { s1 with heap := sortedHeap (s1.heap.push (seqObj "list" (N.map fun q => Value.ref q.1).toArray 0)) s1.heap.objs.size (N.map fun q => Value.ref q.1) out.toArray } := fun out M' pS eo so => by
    obtain ⟨c, hc⟩ := PyProof.Rows.sortedHeap_at (vs := N.map fun q => Value.ref q.1) (out := out.toArray) hoL
    refine hQ _ s1.heap.objs.size _ c M' (fun b u e => ?_) g1 o1 hz hc (by simpa using of_refsW eo) (pS.trans pN) (((pS.map (·.2)).nodup_iff).mpr nd0) (List.pairwise_map.mpr so)
    have q := k1 b u e
    have hlt := Heap.lt_size q
    show (sortedHeap (s1.heap.push (seqObj "list" (N.map fun q => Value.ref q.1).toArray 0)) s1.heap.objs.size (N.map fun q => Value.ref q.1) out.toArray).get? b = some u
    rw [PyProof.Rows.sortedHeap_old (Nat.ne_of_lt hlt) (by rw [size_push']; exact Nat.lt_succ_of_lt hlt)]
    exact Heap.get?_push_of_some _ q
  rcases can with can | can
  · refine wpAny_bind (wpAny_holding (PySem.W.list_sort_data (s := { s1 with heap := s1.heap.push (seqObj "list" (N.map fun q => Value.ref q.1).toArray 0) }) (enc := fun q : Addr × α => W.enc q.2) hoL r1 r2 (PySem.W.AllAlike.of fun b b' => W.alike b.2 b'.2)
      (.inl fun d hd => ?_) (by rw [sizeLine_eq]; omega) (fun b _ => ?_) fun out lo eo => ?_))
    · obtain ⟨q, hq, rfl⟩ := List.mem_map.mp hd
      exact can _ (List.mem_map.mpr ⟨q, pN.mem_iff.mp hq, rfl⟩)
    · have := W.flat b.2
      rw [Around.in1_units]
      omega
    · exact wpAny_pure ⟨_, rfl, fin out _ (List.mergeSort_perm ..) eo (PySem.W.sort_pairwise (le := PySem.W.dataLe false fun q : Addr × α => W.enc q.2) (PySem.W.sortLe_total _ _ _) N)⟩
  · obtain ⟨c, hc, ec⟩ := can
    have hN : ∃ q : Addr × α, N = [q] ∧ W.enc q.2 = .tuple [] := by
      have h1 := pN.map (·.2)
      rw [hc] at h1
      have h2 := List.perm_singleton.mp h1
      match N, h2 with
      | [q], h2 => exact ⟨q, rfl, by rw [show q.2 = c from (List.cons.inj h2).1]; exact ec⟩
    obtain ⟨q, rfl, eq⟩ := hN
    generalize eH : PySem.W.sortingHeap (s1.heap.push (seqObj "list" ([q].map fun q => Value.ref q.1).toArray 0)) s1.heap.objs.size ([q].map fun q => Value.ref q.1) = hX
    have hk : ∀ b o, b ≠ s1.heap.objs.size → (s1.heap.push (seqObj "list" ([q].map fun q => Value.ref q.1).toArray 0)).get? b = some o → hX.get? b = some o := fun b o hb z => by
      rw [← eH]
      exact PySem.W.sortingHeap_old hb z
    have er : PySem.W.EachIs (fun (v : Value) (q : Addr × α) => ∃ as, Reads hX v (W.enc q.2) as) ([q].map fun q => Value.ref q.1) [q] :=
      PySem.W.each_keepBut (enc := fun q : Addr × α => W.enc q.2) hk (fun o z => by rw [hoL] at z; rw [← Option.some.inj z]) (PySem.W.AllAlike.of fun b b' => W.alike b.2 b'.2) r2
    have em := PySem.W.each_map (R := fun v d => ∃ as, Reads hX v d as) (fun q : Addr × α => W.enc q.2) er
    have em2 : PySem.W.EachIs (fun v d => ∃ as, Reads hX v d as) [Value.ref q.1] [.tuple []] := by
      rw [← eq]
      exact em
    have S := Ow.sortsE (prog := P) (w := w) (A := A.in1.in1) (s := { s1 with heap := hX }) em2
      (fun d hd d' hd' => by rw [List.mem_singleton.mp hd, List.mem_singleton.mp hd']; simp [PySem.W.alike, PySem.W.alikeAll]) (fun d hd => nomatch hd) (fun d hd => by
        rw [List.mem_singleton.mp hd, Around.in1_units, Around.in1_units]
        simp only [PyData.depth, PyData.depthAll]
        omega)
    rw [← eH] at S
    refine wpAny_bind (wpAny_holding (wpAny_call_entry slot_list_sort ⟨_, hoL, rfl⟩ entry_list_sort (PySem.W.list_sort_vals (s := { s1 with heap := s1.heap.push (seqObj "list" ([q].map fun q => Value.ref q.1).toArray 0) }) hoL S (by rw [List.length_map, List.length_singleton, sizeLine_eq]; decide) ⟨.none, rfl, ?_⟩) (args_list_sort _)))
    have so := PySem.W.sortVals_data (rev := false) r1 er (PySem.W.AllAlike.of fun b b' => W.alike b.2 b'.2)
    rw [show ([q].map fun q : Addr × α => W.enc q.2) = [.tuple []] from by rw [List.map_cons, eq]; rfl] at so
    rw [← eH] at so
    exact wpAny_pure ⟨_, rfl, fin _ _ (List.mergeSort_perm ..) so (PySem.W.sort_pairwise (le := PySem.W.dataLe false fun q : Addr × α => W.enc q.2) (PySem.W.sortLe_total _ _ _) _)⟩
end
end HS

set_option Elab.async false
set_option linter.all false
set_option maxRecDepth 100000
set_option maxHeartbeats 4000000
namespace HS
open PySem PySem.Spec PyProof.Rows L2
variable {α : Type} [DecidableEq α] {W : Way α} {T : Hp → V → α → Prop}
/-- things as what is tracked -/
structure WayH (W : Way α) (T : Hp → V → α → Prop) : Prop where
  at_ : ∀ {H : Hp} {v : V} {c : α}, T H v c → ∃ b, v = .ref b
  stand : ∀ {X : Cx} {pins : List (Addr × Obj)} {σ : L2.St} {H : Hp} {s : Shared}, Inv X pins σ H s → ∀ {b : Addr} {c : α}, T H (.ref b) c → Stands W s.heap c b
theorem pairsW (wh : WayH W T) {X : Cx} {pins : List (Addr × Obj)} {σ : L2.St} {H : Hp} {s : Shared} (I : Inv X pins σ H s) : ∀ {xs : List V} {p : List α} {us : List Value}, Ow.All2 (T H) xs p → Vals xs us →
    ∃ ks : List (Addr × α), us = ks.map (fun q => Value.ref q.1) ∧ ks.map (·.2) = p ∧ (∀ q ∈ ks, Stands W s.heap q.2 q.1) ∧ ∀ q ∈ ks, T H (.ref q.1) q.2
  | _, _, _, .nil, .nil => ⟨[], rfl, rfl, fun q hq => (by cases hq), fun q hq => (by cases hq)⟩
  | _, _, _, .cons (y := c) h t, .cons r rt => by
    obtain ⟨ks, e1, e2, e3, e4⟩ := pairsW wh I t rt
    obtain ⟨b, rfl⟩ := wh.at_ h
    cases r
    refine ⟨(b, c) :: ks, by rw [e1]; rfl, by rw [← e2]; rfl, fun q hq => ?_, fun q hq => ?_⟩
    · rcases List.mem_cons.mp hq with rfl | hq
      · exact wh.stand I h
      · exact e3 q hq
    · rcases List.mem_cons.mp hq with rfl | hq
      · exact h
      · exact e4 q hq
theorem refsW {H : Hp} : ∀ (ks : List (Addr × α)), (∀ q ∈ ks, T H (.ref q.1) q.2) → Ow.All2 (T H) (ks.map fun q => V.ref q.1) (ks.map (·.2))
  | [], _ => .nil
  | q :: ks, h => .cons (h q List.mem_cons_self) (refsW ks fun z hz => h z (List.mem_cons_of_mem _ hz))
theorem valsW : ∀ (ks : List (Addr × α)), Vals (ks.map fun q => V.ref q.1) (ks.map fun q => Value.ref q.1)
  | [] => .nil
  | q :: ks => .cons rfl (valsW ks)
theorem sort_setWI {X : Cx} {pins : List (Addr × Obj)} {σ : L2.St} {H : Hp} {s : Shared} {a : Addr} {L : KL} {M : List (Addr × α)} {Q : VK} (I2 : Inv X pins σ H s) (R : KSet X.prog X.w s.heap a L) (pm : L.Perm (M.map (kW W))) (is0 : ∀ q ∈ M, Stands W s.heap q.2 q.1)
    (can : CanSort W (M.map (·.2))) (calm : X.calm = true) (hu : X.A.units + 16 < cLine)
    (q : ∀ (M' : List (Addr × α)) (b : Addr), M'.Perm M → (M'.map (·.2)).Nodup → ((M'.map (·.2)).Pairwise fun c d => PySem.W.dataLe false W.enc c d = true) → H b = none → Q (.ref b) (upd H b (.lst (M'.map fun q => V.ref q.1)))) :
    wpAny (model X.prog X.w) X.A (call (.builtin "sorted") [.ref a]) (EP X pins σ Q) X.xe s := by
  refine sorted_setW R pm is0 can (I2.ok.hd calm) hu fun s' b out c M' k g o hb hg hout pM nd so => ?_
  have lM : M'.length < 76 := by
    obtain ⟨_, _, _, _, B, _⟩ := R.ex
    have f := B.few
    have e := pm.length_eq
    rw [List.length_map] at e
    rw [pM.length_eq]
    omega
  have hlen : (M'.map fun q => V.ref q.1).length ≤ sizeLine := by rw [List.length_map, sizeLine_eq]; omega
  have hn : H b = none := I2.hok.fresh hb
  have hv : Vals (M'.map fun q => V.ref q.1) out.toList := by rw [hout]; exact valsW M'
  have J : Inv X pins σ (upd H b (.lst (M'.map fun q => V.ref q.1))) { s with heap := s'.heap, gens := s'.gens, drawn := s'.drawn, toks := s'.toks } :=
    I2.call (ch := []) (Un.laid k hb hn) (I2.hok.laid k hb ⟨hlen, out.toList, c, hv, hg⟩) (by rw [g]; exact I2.bare) (fun _ z => nomatch z)
  have e : s' = { s with heap := s'.heap, gens := s'.gens, drawn := s'.drawn, toks := s'.toks } := by
    cases s'
    cases s
    cases o
    rfl
  rw [e]
  exact ⟨.ref b, _, J, rfl, q M' b pM nd so hn⟩
/-- sorted(set(t)), t a tuple of things -/
def tSortSetW (K : PySem.W.Frag) (W : Way α) (T : Hp → V → α → Prop) (ta : TE) : TE := fun σ H Q => ta σ H fun x H1 => ∃ (l : Addr) (xs : List V) (p : List α), x = V.ref l ∧ SqT K H1 l xs ∧ Ow.All2 (T H1) xs p ∧ (∃ us : List α, us.length < 75 ∧ ∀ z ∈ p, z ∈ us) ∧
  ((∀ c ∈ p, ∃ x r, W.enc c = .tuple (x :: r)) ∨ ∃ c, c ∈ p ∧ (∀ z ∈ p, z = c) ∧ W.enc c = .tuple []) ∧
  ∀ (r : List α) (ys : List V) (b : Addr), r.Nodup → (∀ z, z ∈ r ↔ z ∈ p) → (r.Pairwise fun c d => PySem.W.dataLe false W.enc c d = true) → Ow.All2 (T H1) ys r → H1 b = none → Q (.ref b) (upd H1 b (.lst ys))
theorem pe_sortSetW {X : Cx} {a : Expr} {ta : TE} {p p2 q pos : Pos} (wh : WayH W T) (calm : X.calm = true) (hu : X.A.units + 64 < cLine) (gl : Gl X "sorted") (ml : X.mg "sorted" = none) (gs : Gl X "set") (ms : X.mg "set" = none) (ha : PE X a ta)
    (na : starEach [a] X.env = (false, eval a X.env) :: starEach [] X.env := by rfl) : PE X (.Call (.Name "sorted" p) [.Call (.Name "set" p2) [a] [] q] [] pos) (tSortSetW X.K W T ta) := by
  refine ⟨fun pins s σ H Q I h => Call_ (ld_blt I gl ml (show bootBuiltins "sorted" = some (.builtin "sorted") by decide +kernel) ?_)⟩
  refine callWith_builtin1 (args_cons (Call_ (ld_blt I gs ms boot_set ?_)) rfl) rfl rfl
  refine callWith_type1 (args_cons (thn (ha.run pins s σ H _ I h) fun v s1 got => args_nil ?_) na) na rfl
  obtain ⟨x, H1, I1, r1, l, xs, pk, rfl, hq, hp, ⟨us, lu, sub⟩, can, q1⟩ := got
  cases r1
  obtain ⟨its, rv, pl, _⟩ := I1.tuple hq
  obtain ⟨ks, e1, e2, e3, e4⟩ := pairsW wh I1 hp rv
  have none_of : s1.heap.get? s1.heap.objs.size = none := by
    cases z : s1.heap.get? s1.heap.objs.size with
    | none => rfl
    | some o => exact absurd (Heap.lt_size z) (Nat.lt_irrefl _)
  have mem_us : ∀ q ∈ ks, q.2 ∈ us := fun q hq => sub _ (by rw [← e2]; exact List.mem_map.mpr ⟨q, hq, rfl⟩)
  refine call_set_any (items := its.toArray) (Sp := SpW X.prog X.w W s1.heap s1.heap.objs.size ks) (I1.ok.hd calm) pl (fun A' hA => growsW (us := us) (by simpa using e1) e3 lu mem_us (by omega) none_of) fun h' tk sp kept => ?_
  obtain ⟨_, L, M, R, pm, sb, mem⟩ := sp
  have lk : its.toArray.size = ks.length := by rw [List.size_toArray, e1, List.length_map]
  rw [lk, List.take_length, e2] at mem
  have I2 : Inv X pins σ H1 { s1 with heap := h', toks := tk } := I1.kept fun b o e => kept b o e
  have nd : (M.map (·.2)).Nodup := by
    obtain ⟨_, _, _, _, B, _⟩ := R.ex
    exact nodupW ((pm.map (·.2)).nodup_iff.mp B.nd)
  have can2 : CanSort W (M.map (·.2)) := can.imp (fun h c hc => h c ((mem c).mp hc)) fun ⟨c, hc, only, ec⟩ => ⟨c, by
    have h1 : c ∈ M.map (·.2) := (mem c).mpr hc
    have h2 : ∀ z ∈ M.map (·.2), z = c := fun z hz => only z ((mem z).mp hz)
    generalize M.map (·.2) = l at h1 h2 nd
    match l, nd, h1, h2 with
    | [z], _, _, h2 => rw [h2 z List.mem_cons_self]
    | z :: y :: l, nd, _, h2 => exact absurd ((h2 z List.mem_cons_self).trans (h2 y (List.mem_cons_of_mem _ List.mem_cons_self)).symm) fun e => (List.nodup_cons.mp nd).1 (by rw [e]; exact List.mem_cons_self), ec⟩
  refine args_nil (sort_setWI I2 R pm (fun q hq => (e3 q (sb q hq)).keeps kept) can2 calm (by omega) fun M' b pM nd' so hn => ?_)
  refine q1 (M'.map (·.2)) _ b nd' (fun z => ?_) so (refsW M' fun q hq => e4 q (sb q (pM.mem_iff.mp hq))) hn
  rw [(pM.map (·.2)).mem_iff]
  exact mem z
end HS

set_option Elab.async false
set_option linter.all false
set_option maxRecDepth 100000
set_option maxHeartbeats 4000000
/-! set(t), t a tuple of anything: by what is known of the set after i items -/
namespace HS
open PySem PySem.Spec PyProof.Rows L2
section
variable {P : Program} {w : World} {A : Around} {E : Value → Shared → Prop} {s : Shared}
set_option maxHeartbeats 3200000 in
/-- set(l), l a list -/
theorem call_set_anyL {l : Addr} {items : Array Value} {Sp : Nat → Heap → Prop} {Q : Value → Shared → Prop} (hh : A.handled = none) (hl : s.heap.IsList l items)
    (g : ∀ A', A'.units ≤ A.units + 4 → Grows P w A' s.heap.objs.size s.heap items.size (fun i v => items[i]? = some v) Sp)
    (h : ∀ (h' : Heap) (tk : Nat), Sp items.size h' → (∀ b o, s.heap.get? b = some o → h'.get? b = some o) → Q (.ref s.heap.objs.size) { s with heap := h', toks := tk }) :
    wpAny (model P w) A (call (.type "set") [.ref l]) Q E s := by
  obtain ⟨c, tl, hmro⟩ := PySem.F.called_set.mro
  have made := PySem.F.called_set.made
  have sub := PySem.F.called_set.sub
  refine wpAny_call (codeAny_of_tree ?_)
  show wpAny _ _ (callAny (.type "set") _) _ _ _
  refine wpAny_pure ⟨Code.quiet_builtin _ (by decide +kernel), codeAny_builtin PySem.F.entry_type_call ?_⟩
  rw [Around.under_plain (weight_type_call_type "set" [.ref l] []) rfl]
  have f1 := PySem.F.called_set.notType
  have f2 := PySem.F.called_set.canCreate
  have f3 := PySem.F.typeCall_set_1 (.ref l)
  repeat (any_goals (first | assumption | wp_step))

  refine codeAny_mono (code_set_led1 (.ref l) (E := E) (Q₁ := fun obj s₁ => obj = .ref s.heap.objs.size ∧ s₁ = { s with heap := s.heap.push (newSet0 w) }) ⟨rfl, rfl⟩) fun r s₁ hr => ?_
  cases r with
  | error e => exact hr
  | ok fl =>
    cases fl with
    | ret obj =>
      obtain ⟨rfl, rfl⟩ := hr
      have at0 : (s.heap.push (newSet0 w)).get? s.heap.objs.size = some (newSet0 w) := Heap.get?_push_size _ rfl
      have ty0 : Shared.TypeIs { s with heap := s.heap.push (newSet0 w) } (.ref s.heap.objs.size) "set" := ⟨_, at0, rfl⟩
      have i1 := PySem.F.called_set.init.lookup
      have i2 := PySem.F.called_set.init.bind (.ref s.heap.objs.size)
      repeat (any_goals (first | assumption | wp_step))

      refine codeAny_mono (codeAny_call_builtin (R := wants (fun r s₂ => r = .none ∧ ∃ h' tk, s₂ = { s with heap := h', toks := tk } ∧ Sp items.size h' ∧ (∀ b o, s.heap.get? b = some o → h'.get? b = some o)) E)
        PySem.F.called_set.init.plain PySem.F.entry_set_init (check_set_init_1 ty0 ?_)) fun r₂ s₂ hr₂ => ?_
      · obtain ⟨ol, hol, hcl, nl, hdl⟩ := hl
        obtain ⟨ocls, odict, odata, oslots⟩ := ol
        simp only at hcl hdl
        subst hcl hdl
        have hol' : (s.heap.push (newSet0 w)).get? l = some { cls := .type "list", dict := odict, data := .seq items nl, slots := oslots } := Heap.get?_push_of_some _ hol
        have g1 := PySem.F.sub_list_set
        have g2 := PySem.F.sub_list_frozenset
        have g3 : (Value.type "list" == Value.type "dict") = false := by decide
        have il : (s.heap.push (newSet0 w)).IsList l items := ⟨_, hol', rfl, nl, rfl⟩
        unfold Builtin.«set.__init__» noKeywords Builtin.Frozenset.updateFrom
        generalize hPI : pyIter = PI
        wp_walk
        subst hPI

        refine wpAny_pyIter_list il ?_
        refine wpAny_bind (wpAny_runValue ?_)
        have lt : l < s.heap.objs.size := Heap.lt_size hol
        have h3 : A.in1.in1.in1.handled = none := by simp [hh]
        have ne : l ≠ (s.heap.push (newSet0 w)).objs.size := by
          rw [Heap.size_push]; exact Nat.ne_of_lt (Nat.lt_succ_of_lt lt)
        have none_of : ∀ b, s.heap.objs.size ≤ b → s.heap.get? b = none := fun b hb => by
          cases q : s.heap.get? b with
          | none => rfl
          | some o => exact absurd (Heap.lt_size q) (Nat.not_lt.mpr hb)
        refine (g A.in1.in1.in1 (by simp [Around.in1_units])).walk ((Walks.list h3 _ l ne items).toS) ?_ (none_of _ (Nat.le_refl _)) (fun b hb => none_of b ?_) (items.size - 0) 0 _ (by omega) (Nat.zero_le _)
          ⟨⟨_, Heap.get?_push_size _ rfl, rfl, rfl⟩, (il.push _)⟩ ((g A.in1.in1.in1 (by simp [Around.in1_units])).first _ (Heap.get?_push_of_some _ at0) fun b o e => Heap.get?_push_of_some _ (Heap.get?_push_of_some _ e)) ?_
        · rw [Heap.size_push]
          intro z
          rcases List.mem_cons.mp z with z | z
          · exact absurd z (Nat.ne_of_lt (Nat.lt_succ_self _))
          · rw [List.mem_singleton] at z; exact absurd z.symm (Nat.ne_of_lt lt)
        · rw [List.mem_singleton.mp hb, Heap.size_push]
          exact Nat.le_succ _
        · intro s' hm hp
          obtain ⟨h', g2, d', tk', os'⟩ := s'
          have eg : g2 = s.gens := hm.gens
          have ed : d' = s.drawn := hm.drawn
          have eo : os' = s.os := hm.os
          subst eg ed eo
          show wpAny _ _ _ _ _ _
          refine wpAny_pure ?_
          show wpAny _ _ (ret Value.none) _ _ _
          refine wpAny_pure ⟨rfl, h', tk', rfl, hp, fun b o e => ?_⟩
          have lb : b < s.heap.objs.size := Heap.lt_size e
          refine hm.heap b o (fun z => ?_) (Heap.get?_push_of_some _ (Heap.get?_push_of_some _ e))
          rcases List.mem_cons.mp z with z | z
          · exact absurd z (Nat.ne_of_lt lb)
          · rw [List.mem_singleton, Heap.size_push] at z; exact absurd z (Nat.ne_of_lt (Nat.lt_succ_of_lt lb))

      · cases r₂ with
        | error e => exact hr₂
        | ok fl₂ =>
          cases fl₂ with
          | ret r =>
            obtain ⟨rfl, h', tk, rfl, hp, kept⟩ := hr₂
            repeat (any_goals (first | assumption | wp_step))
            exact h _ _ hp kept
          | _ => exact hr₂.elim
    | _ => exact hr.elim
end
end HS

set_option Elab.async false
set_option linter.all false
set_option maxRecDepth 100000
set_option maxHeartbeats 4000000
namespace Ow
open PySem PySem.Spec PyProof.Rows L2
theorem TupsS.mono {h h' : Heap} {vs : List Value} (x : TupsS h vs) (k : ∀ b o, h.get? b = some o → o.cls = .type "tuple" → h'.get? b = some o) : TupsS h' vs := by
  refine ⟨fun v hv => ?_, ?_⟩
  · obtain ⟨ns, t⟩ := x.1 v hv
    exact ⟨ns, t.keeps k⟩
  · rcases x.2 with q | ⟨v, r, e, t⟩
    · refine .inl fun v hv => ?_
      obtain ⟨ns, t, n⟩ := q v hv
      exact ⟨ns, t.keeps k, n⟩
    · exact .inr ⟨v, r, e, t.keeps k⟩
abbrev rkOf (h : Heap) (B : Int) (k : Nat) (v : Value) : Int := rk B k (TS.intsOf h v)
section
variable {prog : Program} {w : World} {A : Around} {E : Value → Shared → Prop} {s : Shared}
theorem sort_inS {h0 : Heap} {a : Addr} {vs : List Value} {n k : Nat} {B : Int} {P : PySem.Fin → Shared → Prop} (hB : 1 ≤ B) (hu : A.units < cLine) (ho : s.heap.get? a = some (seqObj "list" vs.toArray n)) (few : vs.length < 64)
    (x : TupsS h0 vs) (hf : ∀ v ∈ vs, ∀ ns, TS.TupInts h0 v ns → ns.length ≤ k ∧ Fits B ns) (kp : ∀ b o, h0.get? b = some o → o.cls = .type "tuple" → s.heap.get? b = some o)
    (q : ∀ out : Array Value, out.toList.Perm vs → out.toList.Pairwise (fun u v => rkOf h0 B k u ≤ rkOf h0 B k v) → P (.done (.ret .none)) { s with heap := sortedHeap s.heap a vs out }) :
    wpAny (model prog w) A (Builtin.«list.sort» ⟨[.ref a], []⟩) P E s := by
  have kp2 : ∀ b o, h0.get? b = some o → o.cls = .type "tuple" → (TS.midHeap s.heap a vs).get? b = some o := fun b o e hc => by
    have e2 := kp b o e hc
    refine TS.midHeap_old (fun z => ?_) e2
    rw [z, ho] at e2
    rw [← Option.some.inj e2] at hc
    exact absurd (Value.type.inj (show Value.type "list" = Value.type "tuple" from hc)) (by decide)
  have same : ∀ v ∈ vs, ∀ ns, TS.TupInts (TS.midHeap s.heap a vs) v ns → TS.TupInts h0 v ns := fun v hv ns t => by
    obtain ⟨ms, t0⟩ := x.1 v hv
    have e : ns = ms := t.ints.symm.trans (t0.keeps kp2).ints
    rw [e]
    exact t0
  refine SK.plain_sort (r := rkOf h0 B k) ho few (fun two R hR => ?_) fun ps out e pm so => ?_
  · exact kind_tupsS (s := { s with heap := TS.midHeap s.heap a vs }) hB hu two (x.mono kp2) (fun v hv ns t => hf v hv ns (same v hv ns t)) _ (fun v hv ns t => by rw [rkOf, (same v hv ns t).ints]) R hR
  · obtain ⟨p1, p2⟩ := TS.out_rank e pm so
    exact q out p1 p2
/-- sorted(xs), xs a list of tuples of ints -/
theorem sorted_raw {l : Addr} {vs : List Value} {k : Nat} {B : Int} {R : Value → Shared → Prop} (hB : 1 ≤ B) (hu : A.units + 4 < cLine) (hl : s.heap.IsList l vs.toArray) (few : vs.length < 64) (x : TupsS s.heap vs)
    (hf : ∀ v ∈ vs, ∀ ns, TS.TupInts s.heap v ns → ns.length ≤ k ∧ Fits B ns)
    (q : ∀ out : Array Value, out.toList.Perm vs → out.toList.Pairwise (fun u v => rkOf s.heap B k u ≤ rkOf s.heap B k v) → R (.ref (s.heap.objs.size + 1)) { s with heap := sortedAll s.heap vs out }) :
    wpAny (model prog w) A (call (.builtin "sorted") [.ref l]) R E s := by
  have room : vs.length ≤ sizeLine := by
    rw [sizeLine_eq]
    omega
  refine Calls.call_function_entry (b := Builtin.«sorted») kind_sorted plain_sorted entry_sorted (args_sorted1 (.ref l)) ?_
  unfold Builtin.«sorted»
  refine wpAny_bind (m := checkCount "sorted" 1 1 _) (wpAny_pure (wpAny_bind (collect_list hl ?_ (by simpa using room))))
  refine wpAny_bind (wpAny_newList ?_ room)
  generalize hg : (s.heap.push (seqObj "list" #[] 0)).update s.heap.objs.size (Obj.mapSeq (· ++ vs.toArray)) = g
  have gs : g.objs.size = s.heap.objs.size + 1 := by rw [← hg, Heap.size_update, size_push']
  have at_ : (g.push (seqObj "list" vs.toArray 0)).get? (s.heap.objs.size + 1) = some (seqObj "list" vs.toArray 0) := by
    rw [← gs]
    exact Heap.get?_push_size g rfl
  have old : ∀ b o, s.heap.get? b = some o → o.cls = .type "tuple" → (g.push (seqObj "list" vs.toArray 0)).get? b = some o := fun b o e _ => by
    have lt := Heap.lt_size e
    have n1 : b ≠ s.heap.objs.size := Nat.ne_of_lt lt
    have n2 : b ≠ g.objs.size := gs ▸ Nat.ne_of_lt (Nat.lt_succ_of_lt lt)
    rw [Heap.get?_push_ne _ _ _ n2, ← hg, Heap.get?_update_ne _ _ _ _ n1, Heap.get?_push_ne _ _ _ n1]
    exact e
  show wpAny _ _ _ _ _ { s with heap := g.push (seqObj "list" vs.toArray 0) }
  have eg : (g.objs.size : Nat) = s.heap.objs.size + 1 := gs
  rw [eg]
  refine wpAny_bind (wpAny_holding (wpAny_call_entry slot_list_sort ⟨_, at_, rfl⟩ entry_list_sort ?_ (args_list_sort _)))
  refine sort_inS (h0 := s.heap) hB (show _ < cLine from ?_) at_ few x hf old fun out p1 p2 => ?_
  · rw [Around.in1_units, Around.in1_units]
    omega
  refine ⟨_, rfl, wpAny_pure ⟨_, rfl, ?_⟩⟩
  rw [← hg]
  exact q out p1 p2
end
end Ow

set_option Elab.async false
set_option linter.all false
set_option maxRecDepth 100000
set_option maxHeartbeats 4000000
namespace Ow
open PySem PySem.Spec PyProof.Rows L2
/-! ### sorted of a list of tuples of ints: the one result -/
/-- x is a tuple of these ints -/
def TpI (K : PySem.W.Frag) (H : Hp) (x : V) (ns : List Int) : Prop := ∃ t, x = .ref t ∧ H t = some (.tup (ns.map V.int))
inductive AllT (K : PySem.W.Frag) (H : Hp) : List V → List (List Int) → Prop
  | nil : AllT K H [] []
  | cons {x : V} {xs : List V} {ns : List Int} {nss : List (List Int)} : TpI K H x ns → AllT K H xs nss → AllT K H (x :: xs) (ns :: nss)
theorem AllT.len {K : PySem.W.Frag} {H : Hp} {xs : List V} {nss : List (List Int)} (h : AllT K H xs nss) : xs.length = nss.length := by
  induction h with
  | nil => rfl
  | cons _ _ ih => rw [List.length_cons, List.length_cons, ih]
theorem AllT.mem {K : PySem.W.Frag} {H : Hp} {xs : List V} {nss : List (List Int)} (h : AllT K H xs nss) : ∀ x ∈ xs, ∃ ns ∈ nss, TpI K H x ns := by
  induction h with
  | nil => exact fun _ z => nomatch z
  | cons t _ ih =>
    intro x hx
    rcases List.mem_cons.mp hx with rfl | hx
    · exact ⟨_, List.mem_cons_self, t⟩
    · obtain ⟨ns, m, t⟩ := ih x hx
      exact ⟨ns, List.mem_cons_of_mem _ m, t⟩
/-- ascending in Python's order of tuples -/
def AscT (nss : List (List Int)) : Prop := nss.Pairwise fun a b => lexB a b = true
where lexB (a b : List Int) : Bool := HT.lexLt a b || decide (a = b)
theorem lex_irr : ∀ a : List Int, HT.lexLt a a = false
  | [] => rfl
  | x :: r => by rw [HT.lexLt_cons, if_pos rfl]; exact lex_irr r
theorem lex_asym {B : Int} {k : Nat} (hB : 1 ≤ B) {a b : List Int} (l1 : a.length ≤ k) (l2 : b.length ≤ k) (f1 : Fits B a) (f2 : Fits B b) (h : rk B k a ≤ rk B k b) : AscT.lexB a b = true := by
  unfold AscT.lexB
  by_cases e : a = b
  · rw [decide_eq_true e, Bool.or_true]
  · have : HT.lexLt b a = false := by
      rw [← rk_lt hB k b a l2 l1 f2 f1]
      exact decide_eq_false (by omega)
    rw [lex_ne (fun z => e z.symm) this]
    rfl
/-- the texts read off -/
theorem AllT.raw {X : Cx} {pins : List (Addr × Obj)} {σ : L2.St} {H : Hp} {s : Shared} (I : Inv X pins σ H s) {x : V} {u : Value} {ns : List Int} (r : RelV x u) (h : TpI X.K H x ns) : TS.TupInts s.heap u ns := by
  obtain ⟨t, rfl, ht⟩ := h
  cases r
  obtain ⟨its, rv, pl, hz⟩ := I.tuple (.of ht)
  exact ⟨t, its.toArray, rfl, pl, by simpa using rv.ints⟩
theorem AllT.raws {X : Cx} {pins : List (Addr × Obj)} {σ : L2.St} {H : Hp} {s : Shared} (I : Inv X pins σ H s) : ∀ {xs : List V} {us : List Value} {nss : List (List Int)}, Vals xs us → AllT X.K H xs nss → us.map (TS.intsOf s.heap) = nss
  | [], [], _, _, .nil => rfl
  | x :: xs, u :: us, _, .cons r rs, .cons t ts => by
    rw [List.map_cons, (AllT.raw I r t).ints, AllT.raws I rs ts]
theorem AllT.rawM {X : Cx} {pins : List (Addr × Obj)} {σ : L2.St} {H : Hp} {s : Shared} (I : Inv X pins σ H s) : ∀ {xs : List V} {us : List Value} {nss : List (List Int)}, Vals xs us → AllT X.K H xs nss → ∀ u ∈ us, ∃ ns ∈ nss, TS.TupInts s.heap u ns ∧ TpI X.K H (bkV u) ns
  | [], [], _, _, .nil, _, m => nomatch m
  | x :: xs, u :: us, _, .cons r rs, .cons t ts, v, m => by
    rcases List.mem_cons.mp m with rfl | m
    · refine ⟨_, List.mem_cons_self, AllT.raw I r t, ?_⟩
      obtain ⟨b, rfl, hb⟩ := t
      cases r
      exact ⟨b, rfl, hb⟩
    · obtain ⟨ns, a, b⟩ := AllT.rawM I rs ts v m
      exact ⟨ns, List.mem_cons_of_mem _ a, b⟩
def rSortS (K : PySem.W.Frag) : List V → Hp → VK → Prop := fun vs H Q => ∃ (a : Addr) (xs : List V) (nss : List (List Int)) (B : Int) (k : Nat), vs = [.ref a] ∧ SqL K H a xs ∧ xs.length < 64 ∧ AllT K H xs nss ∧ 1 ≤ B ∧ (∀ ns ∈ nss, ns.length ≤ k ∧ Fits B ns) ∧ ((∀ ns ∈ nss, ns ≠ []) ∨ ∃ r, nss = [] :: r) ∧
  ∀ ys mss p, AllT K H ys mss → mss.Perm nss → AscT mss → H p = none → Q (.ref p) (upd H p (.lst ys))
theorem allT_map {K : PySem.W.Frag} {H : Hp} {f : Value → V} {g : Value → List Int} : ∀ {us : List Value}, (∀ u ∈ us, TpI K H (f u) (g u)) → AllT K H (us.map f) (us.map g)
  | [], _ => .nil
  | u :: us, h => .cons (h u List.mem_cons_self) (allT_map fun v hv => h v (List.mem_cons_of_mem _ hv))
theorem cr_sortS {X : Cx} (hu : X.A.units + 4 < cLine) : CallR X (.builtin "sorted") (rSortS X.K) := by
  intro pins s σ H vs us Q I r h
  obtain ⟨a, xs, nss, B, k, rfl, hs, few, ht, hB, hf, alt, q⟩ := h
  obtain ⟨its, rv, pl, room⟩ := I.list hs
  rw [Vals.ref1 r]
  have lx := rv.length
  have mem := AllT.rawM I rv ht
  have whole := AllT.raws I rv ht
  obtain ⟨e1, e2⟩ := bkV_refs rv fun x m => by
    obtain ⟨ns, _, t, e, _⟩ := ht.mem x m
    exact ⟨t, e⟩
  have ok : TupsS s.heap its := by
    refine ⟨fun v hv => ?_, ?_⟩
    · obtain ⟨ns, _, t, _⟩ := mem v hv
      exact ⟨ns, t⟩
    · rcases alt with n | ⟨t, e⟩
      · refine .inl fun v hv => ?_
        obtain ⟨ns, m, t, _⟩ := mem v hv
        exact ⟨ns, t, n ns m⟩
      · cases its with
        | nil =>
          rw [e] at whole
          cases whole
        | cons v vs =>
          refine .inr ⟨v, vs, rfl, ?_⟩
          obtain ⟨ns, _, t, _⟩ := mem v List.mem_cons_self
          rw [e, List.map_cons] at whole
          have z := (List.cons.inj whole).1
          rw [t.ints] at z
          rw [← z]
          exact t
  refine sorted_raw (k := k) (B := B) hB hu pl.isList (by omega) ok (fun v hv ns t => ?_) fun out p1 p2 => ?_
  · obtain ⟨ms, m, t2, _⟩ := mem v hv
    have e : ns = ms := t.ints.symm.trans t2.ints
    rw [e]
    exact hf ms m
  · obtain ⟨ep, he⟩ := PyProof.Rows.sortedAll_at s.heap its out
    have sub : ∀ u ∈ out.toList, u ∈ its := fun u hu => p1.mem_iff.mp hu
    have hT : ∀ u ∈ out.toList, TpI X.K H (bkV u) (TS.intsOf s.heap u) := fun u hu => by
      obtain ⟨ns, _, t, t2⟩ := mem u (sub u hu)
      rw [t.ints]
      exact t2
    have lo : (out.toList.map bkV).length ≤ sizeLine := by
      rw [List.length_map, p1.length_eq, ← lx]
      exact room
    refine ⟨.ref _, upd H (s.heap.objs.size + 1) (.lst (out.toList.map bkV)), I.laid (t' := s.toks) (fun b o e => PyProof.Rows.sortedAll_old e) (Nat.le_add_right _ 1) ⟨lo, out.toList, ep, bkV_vals fun u hu => e2 u (sub u hu), he⟩, rfl, ?_⟩
    refine q _ (out.toList.map (TS.intsOf s.heap)) _ (allT_map hT) ?_ ?_ (I.hok.fresh (Nat.le_add_right _ 1))
    · rw [← whole]
      exact p1.map _
    · unfold AscT
      rw [List.pairwise_map]
      refine List.Pairwise.imp_of_mem (fun {u v} hu hv le => ?_) p2
      obtain ⟨ns, m1, t1, _⟩ := mem u (sub u hu)
      obtain ⟨ms, m2, t2, _⟩ := mem v (sub v hv)
      have l1 := hf ns m1
      have l2 := hf ms m2
      unfold rkOf at le
      rw [t1.ints, t2.ints] at le ⊢
      exact lex_asym hB l1.1 l2.1 l1.2 l2.2 le
theorem lex_no : ∀ {a b : List Int}, HT.lexLt b a = true → HT.lexLt a b = false
  | [], [], h => nomatch h
  | [], _ :: _, h => nomatch h
  | _ :: _, [], _ => rfl
  | x :: r, y :: q, h => by
    rw [HT.lexLt_cons] at h ⊢
    by_cases e : x = y
    · rw [if_pos e.symm] at h
      rw [if_pos e]
      exact lex_no h
    · rw [if_neg fun z => e z.symm] at h
      rw [if_neg e]
      have := of_decide_eq_true h
      exact decide_eq_false (by omega)
/-- ascending lists of the same tuples are one -/
theorem lexB_anti {a b : List Int} (h : AscT.lexB a b = true) (g : AscT.lexB b a = true) : a = b := by
  by_cases e : a = b
  · exact e
  · unfold AscT.lexB at h g
    rw [decide_eq_false e, Bool.or_false] at h
    rw [decide_eq_false (fun z => e z.symm), Bool.or_false] at g
    exact absurd h (by rw [lex_no g]; decide)
theorem asc_unique : ∀ {l m : List (List Int)}, l.Perm m → AscT l → AscT m → l = m
  | [], m, p, _, _ => (List.nil_perm.mp p).symm
  | a :: l, [], p, _, _ => absurd p.length_eq (by simp)
  | a :: l, b :: m, p, h, g => by
    have h1 := List.pairwise_cons.mp h
    have g1 := List.pairwise_cons.mp g
    have e : a = b := by
      rcases List.mem_cons.mp (p.mem_iff.mp List.mem_cons_self) with e | m1
      · exact e
      · rcases List.mem_cons.mp (p.mem_iff.mpr List.mem_cons_self) with e | m2
        · exact e.symm
        · exact lexB_anti (h1.1 b m2) (g1.1 a m1)
    subst e
    rw [asc_unique (List.Perm.cons_inv p) h1.2 g1.2]
end Ow

set_option Elab.async false
set_option linter.all false
set_option maxRecDepth 100000
set_option maxHeartbeats 4000000
/-! dicts whose keys are rows of ints, each value True: dict(pairs), d.update(d2), sorted(d) -/
namespace Ow
open PySem PySem.Spec PyProof.Rows L2
abbrev kRow (r : List Int) : List Key := r.map Sum.inl
def rowKs (ks : List (List Int)) : List (List Key × V) := ks.map fun k => (kRow k, V.bl true)
def addK (ks : List (List Int)) (k : List Int) : List (List Int) := if k ∈ ks then ks else ks ++ [k]
theorem kRow_V (r : List Int) : (kRow r).map kV = r.map V.int := by
  unfold kRow
  rw [List.map_map]
  rfl
theorem kRow_inj {a b : List Int} (h : kRow a = kRow b) : a = b := by
  unfold kRow at h
  exact (List.map_inj_right fun x y z => Sum.inl.inj z).mp h
theorem rowKs_len (ks : List (List Int)) : (rowKs ks).length = ks.length := List.length_map _
theorem rowKs_put (ks : List (List Int)) (k : List Int) : putK (rowKs ks) (kRow k) (.bl true) = rowKs (addK ks k) := by
  unfold putK addK
  have e : ((rowKs ks).any fun kv => decide (kv.1 = kRow k)) = decide (k ∈ ks) := by
    unfold rowKs
    rw [List.any_map]
    rcases hb : ks.any ((fun kv : List Key × V => decide (kv.1 = kRow k)) ∘ fun k => (kRow k, V.bl true)) with _ | _
    · refine (decide_eq_false fun m => ?_).symm
      have := List.any_eq_false.mp hb k m
      exact this (decide_eq_true rfl)
    · obtain ⟨j, hj, ej⟩ := List.any_eq_true.mp hb
      have ej : kRow j = kRow k := of_decide_eq_true ej
      rw [← kRow_inj ej]
      exact (decide_eq_true hj).symm
  rw [e]
  by_cases m : k ∈ ks
  · rw [if_pos (decide_eq_true m), if_pos m]
    unfold rowKs
    rw [List.map_map]
    refine List.map_congr_left fun j _ => ?_
    show (if kRow j = kRow k then (kRow j, V.bl true) else (kRow j, V.bl true)) = _
    split <;> rfl
  · rw [if_neg (by rw [decide_eq_false m]; exact Bool.false_ne_true), if_neg m]
    unfold rowKs
    rw [List.map_append]
    rfl
def mergeT (kvs more : List (List Key × V)) : List (List Key × V) := more.foldl (fun acc kv => putK acc kv.1 kv.2) kvs
theorem rowKs_merge : ∀ (ms ks : List (List Int)), mergeT (rowKs ks) (rowKs ms) = rowKs (ms.foldl addK ks)
  | [], _ => rfl
  | m :: ms, ks => by
    show mergeT (putK (rowKs ks) (kRow m) (.bl true)) (rowKs ms) = _
    rw [rowKs_put, rowKs_merge ms]
    rfl
theorem addK_len (ks : List (List Int)) (k : List Int) : (addK ks k).length ≤ ks.length + 1 := by
  unfold addK
  split
  · omega
  · rw [List.length_append]
    exact Nat.le_refl _
theorem fold_len : ∀ (ms ks : List (List Int)), (ms.foldl addK ks).length ≤ ks.length + ms.length
  | [], _ => Nat.le_refl _
  | m :: ms, ks => by
    have a := fold_len ms (addK ks m)
    have b := addK_len ks m
    rw [List.foldl_cons, List.length_cons]
    omega
theorem KT.merge {H : Hp} : ∀ {more : List (List Key × V)} {rs : List (List Key × Addr × Value)} {kvs : List (List Key × V)} {vs : List (List Key × Addr × Value)}, KT H more rs → KT H kvs vs → KT H (mergeT kvs more) (storedAllH vs rs) := by
  intro more rs kvs vs r
  induction r generalizing kvs vs with
  | nil => exact fun h => h
  | @cons p q ps qs h t ih =>
    intro k
    obtain ⟨e, hb, rv⟩ := h
    obtain ⟨q1, q2, q3⟩ := q
    dsimp only at e hb rv
    subst e
    exact ih (k.put p.1 hb rv)
/-- t is the pair (b, True), b the row r -/
def PairR (H : Hp) (v : V) (r : List Int) : Prop := ∃ t b, v = .ref t ∧ H t = some (.tup [.ref b, .bl true]) ∧ H b = some (.tup (r.map V.int))
theorem PairR.tk {H H' : Hp} {v : V} {r : List Int} (t : Tk H H') (h : PairR H v r) : PairR H' v r := by
  obtain ⟨p, b, e, h1, h2⟩ := h
  exact ⟨p, b, e, t.tup h1, t.tup h2⟩
section
variable {X : Cx} {pins : List (Addr × Obj)} {σ : L2.St} {H : Hp} {s : Shared}
/-- the pairs, as the heap has them -/
theorem prs_raw (I : Inv X pins σ H s) : ∀ {xs : List V} {rs : List (List Int)} {us : List Value}, All2 (PairR H) xs rs → Vals xs us →
    ∃ ps : List (List Key × Addr × Value), KT H (rowKs rs) ps ∧ ps.length = rs.length ∧ ∀ (j : Nat) (k : List Key) (b : Addr) (v : Value), ps[j]? = some (k, b, v) → ∃ T : Addr, us[j]? = some (Value.ref T) ∧ PairAt s.heap T (Value.ref b) v
  | _, _, _, .nil, .nil => ⟨[], .nil, rfl, fun j k b v e => by simp at e⟩
  | _, r :: rs, _, .cons h t, .cons rx rt => by
    obtain ⟨p, b, rfl, h1, h2⟩ := h
    cases rx
    obtain ⟨ps, k1, k2, k3⟩ := prs_raw I t rt
    obtain ⟨_, its, rv, o, ho, hc, n, hd⟩ := (show ObjOk X.prog X.w H s.heap p (.tup [.ref b, .bl true]) from I.hok p _ h1)
    obtain ⟨u1, u2, rfl, r1, r2⟩ := vals2 rv
    cases r1
    refine ⟨(kRow r, b, u2) :: ps, .cons ⟨rfl, by rw [kRow_V]; exact h2, r2⟩ k1, by rw [List.length_cons, k2]; rfl, fun j k b' v e => ?_⟩
    cases j with
    | zero =>
      have e : (kRow r, b, u2) = (k, b', v) := Option.some.inj e
      cases e
      exact ⟨p, rfl, .inl ⟨o, ho, hc, n, hd⟩⟩
    | succ j => exact k3 j k b' v e
/-- dict(l), l a list of pairs (row, True) -/
def rDictT (K : PySem.W.Frag) : List V → Hp → VK → Prop := fun vs H Q => ∃ (l : Addr) (xs : List V) (rs : List (List Int)), vs = [.ref l] ∧ SqL K H l xs ∧ All2 (PairR H) xs rs ∧ ∀ d, H d = none → Q (.ref d) (upd H d (.dT (rowKs (rs.foldl addK []))))
theorem cr_dictT {X : Cx} (hc : X.calm = true) (hu : X.A.units + 64 < cLine) : CallR X (.type "dict") (rDictT X.K) := by
  intro pins s σ H vs us Q I r h
  obtain ⟨l, xs, rs, rfl, hl, hx, q⟩ := h
  obtain ⟨u, rfl, rx⟩ := vals1 r
  cases rx
  obtain ⟨its, rv, pl, hz⟩ := I.list hl
  obtain ⟨ps, k1, k2, k3⟩ := prs_raw I hx rv
  obtain ⟨o, n, ho, hcl, hd, hdat⟩ := pl
  have lx := hx.len
  have li := rv.length
  let f : List Key × Addr × Value → Value × Value := fun p => (Value.ref p.2.1, p.2.2)
  have key : ∀ x ∈ ps, H x.2.1 = some (.tup (x.1.map kV)) := fun x hx => by
    have : ∀ {a : List (List Key × V)} {b : List (List Key × Addr × Value)}, KT H a b → ∀ x ∈ b, H x.2.1 = some (.tup (x.1.map kV)) := by
      intro a b r
      induction r with
      | nil => exact fun _ z => nomatch z
      | @cons p q ps qs h t ih =>
        intro x hx
        rcases List.mem_cons.mp hx with rfl | hx
        · rw [← h.1]; exact h.2.1
        · exact ih x hx
    exact this k1 x hx
  refine call_dict_pairsH (knd := tupleKind (mixKind X.prog X.w)) (ps := ps) (PairArg.list l its.toArray (fun j => match its[j]? with | some (.ref t) => t | _ => 0) (ps.map f)) (I.ok.hd hc) (show _ < cLine from by rw [Around.in1_units, Around.in1_units]; omega)
    ⟨⟨o, n, ho, hcl, hd, hdat⟩, by simp; omega, fun j k v e => ?_⟩ ⟨by simp, fun i ky v e => ?_⟩ (fun h' hk x hx => ?_) (by rw [List.length_map]; omega) fun h' tk made kept => ?_
  · rw [List.getElem?_map] at e
    cases e1 : ps[j]? with
    | none => rw [e1] at e; cases e
    | some p =>
      rw [e1] at e
      obtain ⟨k0, b0, v0⟩ := p
      have e := Option.some.inj e
      cases e
      obtain ⟨T, g1, g2⟩ := k3 j k0 b0 v0 e1
      have : (match its[j]? with | some (.ref t) => t | _ => (0 : Nat)) = T := by rw [g1]
      dsimp only
      rw [this]
      exact ⟨by simpa using g1, g2⟩
  · have e : (ps.map f)[i]? = some (ky, v) := e
    rw [List.getElem?_map] at e
    cases e1 : ps[i]? with
    | none => rw [e1] at e; cases e
    | some p =>
      rw [e1] at e
      obtain ⟨k0, b0, v0⟩ := p
      have e := Option.some.inj e
      cases e
      exact ⟨k0, b0, rfl, rfl⟩
  · obtain ⟨o2, its2, n2, g1, g2, g3, g4⟩ := key_of I.hok (key x hx)
    exact ⟨o2, its2, n2, hk _ _ (Nat.ne_of_lt (Heap.lt_size g1)) (by simp) g1, g2, g3, g4⟩
  · have hm : (s.heap.objs.size == sysModules) = false := beq_eq_false_iff_ne.mpr (Nat.ne_of_gt I.big)
    have hf : H s.heap.objs.size = none := I.hok.fresh (Nat.le_refl _)
    have kt : KT H (rowKs (rs.foldl addK [])) (storedAllH [] ps) := by
      rw [← rowKs_merge rs []]
      exact KT.merge k1 .nil
    have hlen : (rowKs (rs.foldl addK [])).length ≤ sizeLine := by
      have := fold_len rs []
      rw [rowKs_len]
      simp at this
      omega
    obtain ⟨od, es, ep, d1, d2, d3, d4, d5, d6⟩ := made
    exact ⟨.ref s.heap.objs.size, upd H s.heap.objs.size (.dT (rowKs (rs.foldl addK []))), I.laid (t' := tk) (fun b o e => kept b o (by simp) e) (Nat.le_refl _)
      (show ObjOk X.prog X.w _ _ _ (.dT (rowKs (rs.foldl addK []))) from ⟨hlen, hm, _, kt.keeps (fun c ys ec => by rw [upd_ne (ne_of_none ec hf)]; exact ec), od, es, ep, d1, d2, d3, d4, d6⟩), rfl, q _ hf⟩
/-- d.update(d2) -/
def rUpdT : V → List V → Hp → VK → Prop := fun x xs H Q => ∃ (d o : Addr) (ks ms : List (List Int)), x = .ref d ∧ xs = [.ref o] ∧ d ≠ o ∧ H d = some (.dT (rowKs ks)) ∧ H o = some (.dT (rowKs ms)) ∧ ks ≠ [] ∧ ks.length + ms.length ≤ 5000 ∧ Q .non (upd H d (.dT (rowKs (ms.foldl addK ks))))
theorem mt_updT {X : Cx} (hu : X.A.units + 1 < cLine) : MtR X "dict.update" rUpdT := by
  intro pins s σ H x xs v us Q I rx rxs h
  obtain ⟨d, o, ks, ms, rfl, rfl, hdo, hd, ho, hne, few, q⟩ := h
  cases rx
  obtain ⟨u, rfl, ru⟩ := vals1 rxs
  cases ru
  obtain ⟨z1, d1, xs1, rel1, dd1⟩ := dt_of I.hok hd
  obtain ⟨z2, d2, xs2, rel2, dd2⟩ := dt_of I.hok ho
  have l1 := Paired.length rel1
  have l2 := Paired.length rel2
  rw [rowKs_len] at l1 l2
  refine call_update_dictH (knd := tupleKind (mixKind X.prog X.w)) (tupleKind_room_in1 hu) hdo d2 dd1 dd2 (.inl fun z => ?_) (by rw [← l1, ← l2, sizeLine_eq]; omega) fun h' made _ hs => ?_
  · rw [z, List.length_nil] at l1
    exact hne (List.length_eq_zero_iff.mp l1)
  · have kt : KT H (rowKs (ms.foldl addK ks)) (storedAllH xs1 xs2) := by
      rw [← rowKs_merge]
      exact KT.merge rel2 rel1
    have hlen : (rowKs (ms.foldl addK ks)).length ≤ sizeLine := by
      have := fold_len ms ks
      rw [rowKs_len, sizeLine_eq]
      omega
    obtain ⟨od, es, ep, e1, e2, e3, e4, e5, e6⟩ := made
    exact ⟨.non, _, d_write (t' := s.toks) I (by rw [hd]; exact True.intro) hs ⟨od, e1⟩ (show ObjOk X.prog X.w _ _ _ (.dT (rowKs (ms.foldl addK ks))) from ⟨hlen, d1, _, kt.keeps (fun c ys ec => by rw [upd_ne (ne_of ec hd (fun z => nomatch z))]; exact ec), od, es, ep, e1, e2, e3, e4, e6⟩), rfl, q⟩
end
end Ow

set_option Elab.async false
set_option linter.all false
set_option maxRecDepth 100000
set_option maxHeartbeats 4000000
namespace Ow
open PySem PySem.Spec PyProof.Rows L2
/-! ### {x for .. for ..}, x an int -/
abbrev sc2 (elt t0 i0 t1 i1 : Expr) (scope : Scope) (pos : Pos) : Expr := .SetComp elt [⟨t0, i0, [], 0⟩, ⟨t1, i1, [], 0⟩] scope pos
theorem turn_out (elt t0 i0 t1 i1 : Expr) (scope : Scope) (pos : Pos) (it acc : Value) (env : Env) : compTurn (sc2 elt t0 i0 t1 i1 scope pos) 0 it acc env = (do
    standAt i0.pos
    let got ← pyNext it
    match got with
    | none => pure (.done .next)
    | some v => do
      letOwnedTupleGo t0 it v
      assign t0 env v
      let src ← eval i1 env
      standAt i1.pos
      let src ← foldedSetIterable i1 env src
      let _ ← runOwn (.compStart (sc2 elt t0 i0 t1 i1 scope pos) 1 (← holding [src] (pyIter src)) acc env) env
      again (.compLoop (sc2 elt t0 i0 t1 i1 scope pos) 0 it acc env)) := by rfl
theorem turn_in (elt t0 i0 t1 i1 : Expr) (scope : Scope) (pos : Pos) (it acc : Value) (env : Env) : compTurn (sc2 elt t0 i0 t1 i1 scope pos) 1 it acc env = (do
    standAt i1.pos
    let got ← pyNext it
    match got with
    | none => pure (.done .next)
    | some v => do
      letOwnedTupleGo t1 it v
      assign t1 env v
      (do let y ← eval elt env; standAt elt.pos; let _ ← call (.builtin "set.add") [acc, y])
      again (.compLoop (sc2 elt t0 i0 t1 i1 scope pos) 1 it acc env)) := by rfl
abbrev no : Value → Shared → Prop := fun _ _ => False
section
variable {prog : Program} {w : World} {A : Around} {R : Result → Shared → Prop} {s : Shared} {elt t0 i0 t1 i1 : Expr} {scope : Scope} {pos : Pos} {it acc : Value} {env : Env}
theorem bnd {α β : Type} {M : Model} {m : Sem α} {f : α → Sem β} {P : β → Shared → Prop} {E : Value → Shared → Prop} (h : wpAny M A m (fun a s' => wpAny M A (f a) P E s') no s) : wpAny M A (m >>= f) P E s := wpAny_bind (thnF h fun _ _ z => z)
/-- the loop over the second source -/
theorem sc2_inner (J : Nat → Shared → Prop) (turn : ∀ n s, J n s → wpAny (model prog w) A (pyNext it) (fun got s1 => match got with
      | none => R (.ok .next) s1
      | some v => wpAny (model prog w) A (letOwnedTupleGo t1 it v) (fun _ s2 => wpAny (model prog w) A (assign t1 env v) (fun _ s3 => wpAny (model prog w) A (eval elt env) (fun y s4 =>
          wpAny (model prog w) A (call (.builtin "set.add") [acc, y]) (fun _ s5 => ∃ m, m < n ∧ J m s5) no s4) no s3) no s2) no s1) no s)
    (n : Nat) (h : J n s) : codeAny (model prog w) A (.compLoop (sc2 elt t0 i0 t1 i1 scope pos) 1 it acc env) R s := by
  refine codeAny_loop rfl J (fun n s hJ => ?_) n h
  show wpAny _ A ((compTurn (sc2 elt t0 i0 t1 i1 scope pos) 1 it acc env).onRaise _) _ _ s
  refine wpAny_noted ?_
  rw [turn_in]
  refine wpAny_bind (wpAny_standAt (bnd (thn (turn n s hJ) fun got s1 hg => ?_)))
  cases got with
  | none => exact wpAny_pure hg
  | some v => exact bnd (thn hg fun _ s2 h2 => bnd (thn h2 fun _ s3 h3 => wpAny_bind (bnd (thn h3 fun y s4 h4 => wpAny_bind (wpAny_standAt (bnd (thn h4 fun _ s5 h5 => wpAny_pure (wpAny_pure ⟨rfl, h5⟩)))))))) 
/-- the loop over the first one -/
theorem sc2_outer (hs : ∀ x, foldedSetIterable i1 env x = pure x) (I : Nat → Shared → Prop) (turn : ∀ n s, I n s → wpAny (model prog w) A (pyNext it) (fun got s1 => match got with
      | none => R (.ok .next) s1
      | some v => wpAny (model prog w) A (letOwnedTupleGo t0 it v) (fun _ s2 => wpAny (model prog w) A (assign t0 env v) (fun _ s3 => wpAny (model prog w) A (eval i1 env) (fun x s4 => wpAny (model prog w) A (pyIter x) (fun it1 s5 =>
          codeAny (model prog w) A (.compStart (sc2 elt t0 i0 t1 i1 scope pos) 1 it1 acc env) (fun r s6 => match r with
            | .ok _ => ∃ m, m < n ∧ I m s6
            | .error _ => False) s5) no s4) no s3) no s2) no s1) no s)
    (n : Nat) (h : I n s) : codeAny (model prog w) A (.compLoop (sc2 elt t0 i0 t1 i1 scope pos) 0 it acc env) R s := by
  refine codeAny_loop rfl I (fun n s hI => ?_) n h
  show wpAny _ A ((compTurn (sc2 elt t0 i0 t1 i1 scope pos) 0 it acc env).onRaise _) _ _ s
  refine wpAny_noted ?_
  rw [turn_out]
  refine wpAny_bind (wpAny_standAt (bnd (thn (turn n s hI) fun got s1 hg => ?_)))
  cases got with
  | none => exact wpAny_pure hg
  | some v =>
    refine bnd (thn hg fun _ s2 h2 => bnd (thn h2 fun _ s3 h3 => bnd (thn h3 fun x s4 h4 => wpAny_bind (wpAny_standAt (wpAny_bind (wpAny_of_eq (hs x) ?_))))))
    refine wpAny_bind (wpAny_holding (thnF h4 fun it1 s5 h5 => wpAny_bind (wpAny_runOwn ?_)))
    rw [Around.mark_none]
    refine codeAny_mono h5 fun r s6 h6 => ?_
    cases r with
    | ok f => exact wpAny_pure ⟨rfl, h6⟩
    | error e => exact h6.elim
/-- the second source's begin -/
theorem sc2_start (h0 : codeAny (model prog w) A (.compLoop (sc2 elt t0 i0 t1 i1 scope pos) 1 it acc env) R s)
    (h : wpAny (model prog w) A (pyIter it) (fun it' s' => codeAny (model prog w) A (.compLoop (sc2 elt t0 i0 t1 i1 scope pos) 1 it' acc env) R s') (notedBy (model prog w) A env fun x s' => R (.error x) s') s) :
    codeAny (model prog w) A (.compStart (sc2 elt t0 i0 t1 i1 scope pos) 1 it acc env) R s := by
  refine codeAny_of_tree ?_
  show wpAny _ _ ((compStart (sc2 elt t0 i0 t1 i1 scope pos) 1 it acc env).onRaise _) _ _ s
  refine wpAny_notedAt ?_
  unfold compStart
  show wpAny _ _ (ask >>= _) _ _ s
  refine wpAny_bind (wpAny_askSetting (wpAny_ite ?_))
  split
  · exact wpAny_pure (And.intro rfl h0)
  · refine wpAny_bind (wpAny_rule ?_)
    show wpAny _ _ (standAt i1.pos >>= _) _ _ s
    exact wpAny_bind (wpAny_standAt (wpAny_bind (thn h fun it' s' q => wpAny_pure (And.intro rfl q))))
end
end Ow


set_option Elab.async false
set_option linter.all false
set_option maxRecDepth 100000
set_option maxHeartbeats 4000000
namespace Ow
open PySem PySem.Spec PyProof.Rows L2 PpSet
section
variable {X : Cx}
/-- set.add of an int -/
theorem addI {pins : List (Addr × Obj)} {σ : L2.St} {H : Hp} {s : Shared} {E : Value → Shared → Prop} {D : Addr} {S : Int → Bool} {n : Nat} {c : Int} {u : Value} {P : Value → Shared → Prop} (I : Inv X pins σ H s) (r : RelV (.int c) u) (hD : H D = some (SetO X.w D S n)) (few : n + 1 < scanBound)
    (k : ∀ s', Inv X pins σ (upd H D (SetO X.w D (fun j => S j || decide (j = c)) (if S c = true then n else n + 1))) s' → P .none s') : wpAny (model X.prog X.w) X.A (call (.builtin "set.add") [.ref D, u]) P E s := by
  obtain ⟨t, rfl⟩ := r
  refine setR_add (setO_get I hD) few fun g sb new => ?_
  obtain ⟨o, _, _, _, at_, _⟩ := id new
  exact k _ (I.write (e := D) (t' := s.toks + 1) (by rw [hD]; trivial) (.inl rfl) (fun b z hb hz => (sb.2 b hb).trans hz) ⟨o, at_⟩ (setO_new new))
/-- {y for tg in iter for tg1 in iter1}: D the new set -/
def tSc2 (w : World) (wi : TI) (g : TG) (wi1 : TI) (g1 : TG) (te : TE) (vs vs1 : List Nat) : TE := fun σ H Q => wi σ H fun J H1 => ∀ D, H1 D = none → ∃ W : Nat → Nat → Hp → Prop, (∃ m, W 0 m (upd H1 D (SetO w D (fun _ => false) 0))) ∧ ∀ i m H, W i m H →
  (J.stop i H ∧ Q (.ref D) H) ∨ (J.go i H ∧ ∃ Nx : Hp → Prop, (∀ H', Nx H' → ∃ m', m' < m ∧ W (i + 1) m' H') ∧ ∀ x H', J.yld i H x H' → g x (wipe σ vs) H' fun σ2 H2 => wipe σ2 vs = wipe σ vs ∧
    wi1 σ2 H2 fun J1 H4 => ∃ W1 : Nat → Nat → Hp → Prop, (∃ m, W1 0 m H4) ∧ ∀ j k H, W1 j k H →
      (J1.stop j H ∧ Nx H) ∨ (J1.go j H ∧ ∃ Nx1 : Hp → Prop, (∀ H', Nx1 H' → ∃ k', k' < k ∧ W1 (j + 1) k' H') ∧ ∀ x H', J1.yld j H x H' → g1 x (wipe σ2 vs1) H' fun σ3 H5 => wipe σ3 vs1 = wipe σ2 vs1 ∧
        te σ3 H5 fun y H7 => ∃ (c : Int) (S : Int → Bool) (n : Nat), y = .int c ∧ H7 D = some (SetO w D S n) ∧ n + 1 < scanBound ∧ Nx1 (upd H7 D (SetO w D (fun j => S j || decide (j = c)) (if S c = true then n else n + 1)))))
/-- what the block's clauses and its value are -/
structure Blk2 (X : Cx) (scope : Scope) (tg tg1 iter1 elt : Expr) (g : TG) (wi1 : TI) (g1 : TG) (te : TE) : Prop where
  g : ∀ (s : Shared) (H : Hp) (C : Addr) (cl : List (Str × Addr)) (fp : List Addr), PG (X.blk s H scope (compEnvC scope cl C X.env) fp) tg g
  i : ∀ (s : Shared) (H : Hp) (C : Addr) (cl : List (Str × Addr)) (fp : List Addr), PI (X.blk s H scope (compEnvC scope cl C X.env) fp) tg1 iter1 wi1
  g1 : ∀ (s : Shared) (H : Hp) (C : Addr) (cl : List (Str × Addr)) (fp : List Addr), PG (X.blk s H scope (compEnvC scope cl C X.env) fp) tg1 g1
  e : ∀ (s : Shared) (H : Hp) (C : Addr) (cl : List (Str × Addr)) (fp : List Addr), PE (X.blk s H scope (compEnvC scope cl C X.env) fp) elt te
abbrev newS (w : World) : Obj := { cls := .type "set", dict := none, data := .set #[] 0 (.fresh 0 0 (!w.params.followText "set-order")) }
theorem sc2_core {pins : List (Addr × Obj)} {s : Shared} {σ : L2.St} {H : Hp} {Q : VK} {elt tg iter tg1 iter1 : Expr} {scope : Scope} {own : List (Str × Nat)} {vs1 : List Nat} {pos pos2 : Pos} {wi wi1 : TI} {g g1 : TG} {te : TE} {use : Option (Value → Sem Unit)} {Qf : Value → Shared → Prop}
    (calm : X.calm = true) (nd : X.N.Nodup) (I0 : Inv X pins σ H s) (src : PI X tg iter wi) (ok : BlkOk X.N X.env.scope scope own) (sub : ∀ i ∈ vs1, i ∈ own.map (·.2)) (B : Blk2 X scope tg tg1 iter1 elt g wi1 g1 te)
    (f0 : ∀ x, foldedSetIterable iter X.env x = pure x) (f1 : ∀ env x, foldedSetIterable iter1 env x = pure x) (h : tSc2 X.w wi g wi1 g1 te (own.map (·.2)) vs1 σ H Q)
    (fin : ∀ D C s' m H', Inv X pins σ H' s' → Q (.ref D) H' → s'.heap.Ns C m → FpOk X pins H' C → compPost (model X.prog X.w) X.A X.xe use Qf (.ref D) C (.ok .next) s') :
    wpAny (model X.prog X.w) X.A (comprehension (sc2 elt tg iter tg1 iter1 scope pos) scope X.env pos2 (newSet (.type "set")) false (eval iter X.env) use) Qf X.xe s := by
  have cells : ∀ y ∈ scope.names, y.2 = .free → ∃ c, X.env.cells.lookup y.1 = some c := fun y my e => (ok.free y my e).elim (fun z => I0.ok.has _ (.inl z)) fun z => I0.ok.has _ (.inr z)
  refine wpAny_comprehension_free (use := use) rfl f0 (closure_ok cells) ok.kind (fun y my e => (ok.uniq y my).trans (congrArg some e)) (thn (src.run pins s σ H _ I0 h) fun xv sa ha => thn ha fun itv sb hb => ?_)
  obtain ⟨it, fp, tn, J, H1, rfl, I1, T, st1, fo, loopQ⟩ := hb
  refine newSet_ok (newEnv_comp ?_)
  generalize eD : sb.heap.objs.size = D
  obtain ⟨W, ⟨m0, w0⟩, go_on⟩ := loopQ D (I1.hok.fresh (Nat.le_of_eq eD))
  -- the set is laid
  generalize es : ({ sb with heap := sb.heap.push (newS X.w) } : Shared) = sc
  have hc : sc.heap = sb.heap.push (newS X.w) := by rw [← es]
  have I2 : Inv X pins σ (upd H1 D (SetO X.w D (fun _ => false) 0)) sc := by
    subst es
    refine I1.laid (t' := sb.toks) (fun b o z => Heap.get?_push_of_some _ z) (Nat.le_of_eq eD) ?_
    subst eD
    exact setO_new (setR_fresh X.w)
  have low : ∀ b ∈ fp, b < sb.heap.objs.size := fun b mb => by
    obtain ⟨o, z, _⟩ := T.obj _ _ st1 b mb
    exact Heap.lt_size z
  have fo2 : ∀ b ∈ fp, FpOk X pins (upd H1 D (SetO X.w D (fun _ => false) 0)) b ∧ b < sc.heap.objs.size := fun b mb => by
    have lt := low b mb
    have ne : b ≠ D := fun z => Nat.lt_irrefl _ (by rw [← eD] at z; exact z ▸ lt)
    exact ⟨⟨(upd_ne ne).trans (fo b mb).1, (fo b mb).2⟩, by rw [hc, Heap.size_push]; exact Nat.lt_succ_of_lt lt⟩
  have st2 : tn 0 sc.heap := T.keep _ _ _ st1 fun b _ o z => by
    rw [hc]
    exact Heap.get?_push_of_some _ z
  have I3 := block_start I2 ok nd fo2
  generalize eH : upd H1 D (SetO X.w D (fun _ => false) 0) = H2 at I2 I3 w0 fo2
  generalize eC : cellsFrom (sc.heap.objs.size + 1) scope.names (cloFrom X.env.cells scope.names []) = cl at I3 ⊢
  have pg := B.g sc H2 sc.heap.objs.size cl fp
  have pi := B.i sc H2 sc.heap.objs.size cl fp
  have pg1 := B.g1 sc H2 sc.heap.objs.size cl fp
  have pe := B.e sc H2 sc.heap.objs.size cl fp
  have gone : ∀ b ∈ fp, H2 b = none := fun b mb => (fo2 b mb).1.1
  show codeAny _ _ (.compStart (sc2 elt tg iter tg1 iter1 scope pos) 0 (.ref it) (.ref D) (compEnvC scope cl sc.heap.objs.size X.env)) (compPost (model X.prog X.w) X.A X.xe use Qf (.ref D) sc.heap.objs.size) { sc with heap := pushCells (sc.heap.push { cls := .type "dict", data := .dict #[] }) scope.names }
  generalize eE : compEnvC scope cl sc.heap.objs.size X.env = ce at I3 pg pi pg1 pe ⊢
  have loc : ce.locals = sc.heap.objs.size := by rw [← eE]; rfl
  generalize ed : ({ sc with heap := pushCells (sc.heap.push { cls := .type "dict", data := .dict #[] }) scope.names } : Shared) = sd at I3 ⊢
  have st3 : tn 0 sd.heap := T.keep _ _ _ st2 fun b _ o z => by
    rw [← ed]
    exact pushCells_keeps _ _ _ _ (Heap.get?_push_of_some _ z)
  have stat : ∀ {σ' : L2.St} {H' : Hp} {s' : Shared}, Inv (X.blk sc H2 scope ce fp) [] σ' H' s' → (∀ b ∈ fp, H' b = none) → ∀ b ∈ fp, FpOk (X.blk sc H2 scope ce fp) [] H' b := fun {σ' H' s'} K n b mb =>
    ⟨n b mb, (K.ok.exf b mb).1, K.ok.exfs b mb, .inl mb, (K.ok.exf b mb).2, fun p mp => absurd (show p ∈ ([] : List (Addr × Obj)) from mp) (fun z => nomatch z)⟩
  have loop : codeAny (model X.prog X.w) X.A (.compLoop (sc2 elt tg iter tg1 iter1 scope pos) 0 (.ref it) (.ref D) ce) (compPost (model X.prog X.w) X.A X.xe use Qf (.ref D) sc.heap.objs.size) sd := by
    refine sc2_outer (f1 ce) (fun n s' => ∃ i H', Inv (X.blk sc H2 scope ce fp) [] (wipe σ (own.map (·.2))) H' s' ∧ tn i s'.heap ∧ (∀ b ∈ fp, H' b = none) ∧ W i n H') (fun n se ⟨i, H5, I5, st5, n5, w5⟩ => ?_) m0 ⟨0, H2, I3, st3, gone, w0⟩
    rcases go_on i n H5 w5 with ⟨stop, done⟩ | ⟨more, Nx, down, step⟩
    · -- nothing left: back in the def
      refine thnF (T.done (X.blk sc H2 scope ce fp) rfl rfl rfl calm i [] se _ H5 no I5 (stat I5 n5) st5 stop) fun r sf ⟨er, I6⟩ => ?_
      subst er
      have I7 : Inv X pins σ H5 sf := I2.call' (ch := fp) I6.os I6.base I6.hok I6.bare fun b mb => let z := (fo2 b mb).1.2; ⟨z.2.2.1, z.1, z.2.2.2.1, z.2.2.2.2⟩
      have unC : H5 sc.heap.objs.size = none := loc ▸ (show H5 ce.locals = none from I6.free)
      obtain ⟨m, ns, _⟩ := I6.loc
      exact fin D sc.heap.objs.size sf m H5 I7 done (loc ▸ (show sf.heap.Ns ce.locals m from ns)) (I2.fpOk (Nat.le_refl _) unC)
    · refine thnF (T.item (X.blk sc H2 scope ce fp) rfl rfl rfl calm i [] se _ H5 no I5 (stat I5 n5) st5 more) fun r sf ⟨u, er, h6⟩ => ?_
      subst er
      refine thnF h6 fun _ sg ⟨x, H7, I7, r7, y7, st7, n7⟩ => ?_
      have P7 := I7.pinned (stat I7 n7) (T.obj _ _ st7)
      refine thnF (pg.run _ sg _ H7 x u _ P7 r7 (step x H7 y7)) fun _ sh ⟨σ8, H8, I8, e8, q8⟩ => ?_
      have len8 : (wipe σ (own.map (·.2))).length = σ8.length := (congrArg List.length e8).symm.trans (wipe_length _ _)
      have know : ∀ (j : Nat) v, (wipe σ (own.map (·.2)))[j]? = some (some v) → (wipe σ8 vs1)[j]? = some (some v) := fun j v z => by
        rw [← e8] at z
        obtain ⟨z1, z2⟩ := wipe_some z
        rw [wipe_out fun mj => z2 (sub j mj)]
        exact z1
      -- the end of a turn
      have turned : ∀ {s' : Shared} {H' : Hp}, Inv (X.blk sc H2 scope ce fp) ([] ++ pinsAt fp sg.heap) (wipe σ8 vs1) H' s' → Nx H' → ∃ m, m < n ∧ ∃ i H', Inv (X.blk sc H2 scope ce fp) [] (wipe σ (own.map (·.2))) H' s' ∧ tn i s'.heap ∧ (∀ b ∈ fp, H' b = none) ∧ W i m H' := fun {s' H'} K nx => by
        obtain ⟨m', lt, w'⟩ := down H' nx
        have held : ∀ b ∈ fp, ∀ o, sg.heap.get? b = some o → s'.heap.get? b = some o ∧ H' b = none := fun b mb o z =>
          have y := K.pin (b, o) (List.mem_append_right _ (List.mem_append_right _ (mem_pinsAt mb z)))
          ⟨y.1, y.2.1⟩
        refine ⟨m', lt, i + 1, H', (K.unpinned (pins := [])).weak (len8.trans (wipe_length _ _).symm) know, T.keep _ _ _ st7 fun b mb o z => (held b mb o z).1, fun b mb => ?_, w'⟩
        obtain ⟨o, z, _⟩ := T.obj _ _ st7 b mb
        exact (held b mb o z).2
      refine thnF (pi.run _ sh σ8 H8 _ I8 q8) fun xv1 si hx => thnF hx fun itv1 sj ⟨it1, fp1, tn1, J1, H11, e11, I11, T1, st11, fo1, W1, ⟨m1, w1⟩, turn1⟩ => ?_
      subst e11
      have stat1 : ∀ {H' : Hp}, (∀ b ∈ fp1, H' b = none) → ∀ b ∈ fp1, FpOk (X.blk sc H2 scope ce fp) ([] ++ pinsAt fp sg.heap) H' b := fun n b mb => ⟨n b mb, (fo1 b mb).2⟩
      have inner : codeAny (model X.prog X.w) X.A (.compLoop (sc2 elt tg iter tg1 iter1 scope pos) 1 (.ref it1) (.ref D) ce) (fun r s6 => match r with
          | .ok _ => ∃ m, m < n ∧ ∃ i H', Inv (X.blk sc H2 scope ce fp) [] (wipe σ (own.map (·.2))) H' s6 ∧ tn i s6.heap ∧ (∀ b ∈ fp, H' b = none) ∧ W i m H'
          | .error _ => False) sj := by
        refine sc2_inner (fun k s' => ∃ j H', Inv (X.blk sc H2 scope ce fp) ([] ++ pinsAt fp sg.heap) (wipe σ8 vs1) H' s' ∧ tn1 j s'.heap ∧ (∀ b ∈ fp1, H' b = none) ∧ W1 j k H') (fun k sk ⟨j, H12, I12, st12, n12, w12⟩ => ?_) m1
          ⟨0, H11, I11.weak (wipe_length _ _) (fun j v z => (wipe_some z).1), st11, fun b mb => (fo1 b mb).1, w1⟩
        rcases turn1 j k H12 w12 with ⟨stop1, nx1⟩ | ⟨more1, Nx1, down1, step1⟩
        · refine thnF (T1.done (X.blk sc H2 scope ce fp) rfl rfl rfl calm j _ sk (wipe σ8 vs1) H12 no I12 (stat1 n12) st12 stop1) fun r sl ⟨er, I13⟩ => ?_
          subst er
          exact turned I13 nx1
        · refine thnF (T1.item (X.blk sc H2 scope ce fp) rfl rfl rfl calm j _ sk (wipe σ8 vs1) H12 no I12 (stat1 n12) st12 more1) fun r sl ⟨u1, er, h13⟩ => ?_
          subst er
          refine thnF h13 fun _ sm ⟨x1, H14, I14, r14, y14, st14, n14⟩ => ?_
          have P14 := I14.pinned (stat1 n14) (T1.obj _ _ st14)
          refine thnF (pg1.run _ sm (wipe σ8 vs1) H14 x1 u1 _ P14 r14 (step1 x1 H14 y14)) fun _ sn ⟨σ15, H15, I15, e15, q15⟩ => ?_
          refine thnF (pe.run _ sn σ15 H15 _ I15 q15) fun z so ⟨yv, H16, I16, r16, c, S, cnt, ey, hD, few, nx⟩ => ?_
          subst ey
          refine addI (X := X.blk sc H2 scope ce fp) I16 r16 hD few fun sp I17 => ?_
          obtain ⟨m', lt, w'⟩ := down1 _ nx
          have held : ∀ b ∈ fp1, ∀ o, sm.heap.get? b = some o → sp.heap.get? b = some o ∧ _ = none := fun b mb o z =>
            have y := I17.pin (b, o) (List.mem_append_right _ (List.mem_append_right _ (mem_pinsAt mb z)))
            ⟨y.1, y.2.1⟩
          refine ⟨m', lt, j + 1, _, I17.unpinned.weak ((wipe_length _ _).trans ?_) (fun a v z => ?_), T1.keep _ _ _ st14 fun b mb o z => (held b mb o z).1, fun b mb => ?_, w'⟩
          · rw [← wipe_length σ15 vs1, e15, wipe_length]
          · rw [← e15] at z
            exact (wipe_some z).1
          · obtain ⟨o, z, _⟩ := T1.obj _ _ st14 b mb
            exact (held b mb o z).2
      exact sc2_start inner (T1.self X.A 0 _ _ _ st11 inner)
  exact codeAny_compStart_set loop (T.self X.A 0 _ _ _ st3 loop)
end
end Ow

set_option Elab.async false
set_option linter.all false
set_option maxRecDepth 100000
set_option maxHeartbeats 4000000
namespace Ow
open PySem PySem.Spec PyProof.Rows L2 PpSet
/-! ### {x for .. in ..}, x an int -/
abbrev sc1 (elt t0 i0 : Expr) (scope : Scope) (pos : Pos) : Expr := .SetComp elt [⟨t0, i0, [], 0⟩] scope pos
theorem turn_one (elt t0 i0 : Expr) (scope : Scope) (pos : Pos) (it acc : Value) (env : Env) : compTurn (sc1 elt t0 i0 scope pos) 0 it acc env = (do
    standAt i0.pos
    let got ← pyNext it
    match got with
    | none => pure (.done .next)
    | some v => do
      letOwnedTupleGo t0 it v
      assign t0 env v
      (do let y ← eval elt env; standAt elt.pos; let _ ← call (.builtin "set.add") [acc, y])
      again (.compLoop (sc1 elt t0 i0 scope pos) 0 it acc env)) := by rfl
section
variable {prog : Program} {w : World} {A : Around} {R : Result → Shared → Prop} {s : Shared} {elt t0 i0 : Expr} {scope : Scope} {pos : Pos} {it acc : Value} {env : Env}
theorem sc1_loop (J : Nat → Shared → Prop) (turn : ∀ n s, J n s → wpAny (model prog w) A (pyNext it) (fun got s1 => match got with
      | none => R (.ok .next) s1
      | some v => wpAny (model prog w) A (letOwnedTupleGo t0 it v) (fun _ s2 => wpAny (model prog w) A (assign t0 env v) (fun _ s3 => wpAny (model prog w) A (eval elt env) (fun y s4 =>
          wpAny (model prog w) A (call (.builtin "set.add") [acc, y]) (fun _ s5 => ∃ m, m < n ∧ J m s5) no s4) no s3) no s2) no s1) no s)
    (n : Nat) (h : J n s) : codeAny (model prog w) A (.compLoop (sc1 elt t0 i0 scope pos) 0 it acc env) R s := by
  refine codeAny_loop rfl J (fun n s hJ => ?_) n h
  show wpAny _ A ((compTurn (sc1 elt t0 i0 scope pos) 0 it acc env).onRaise _) _ _ s
  refine wpAny_noted ?_
  rw [turn_one]
  refine wpAny_bind (wpAny_standAt (bnd (thn (turn n s hJ) fun got s1 hg => ?_)))
  cases got with
  | none => exact wpAny_pure hg
  | some v => exact bnd (thn hg fun _ s2 h2 => bnd (thn h2 fun _ s3 h3 => wpAny_bind (bnd (thn h3 fun y s4 h4 => wpAny_bind (wpAny_standAt (bnd (thn h4 fun _ s5 h5 => wpAny_pure (wpAny_pure ⟨rfl, h5⟩))))))))
end
section
variable {X : Cx}
def tSc1 (w : World) (wi : TI) (g : TG) (te : TE) (vs : List Nat) : TE := fun σ H Q => wi σ H fun J H1 => ∀ D, H1 D = none → ∃ W : Nat → Nat → Hp → Prop, (∃ m, W 0 m (upd H1 D (SetO w D (fun _ => false) 0))) ∧ ∀ i m H, W i m H →
  (J.stop i H ∧ Q (.ref D) H) ∨ (J.go i H ∧ ∃ Nx : Hp → Prop, (∀ H', Nx H' → ∃ m', m' < m ∧ W (i + 1) m' H') ∧ ∀ x H', J.yld i H x H' → g x (wipe σ vs) H' fun σ2 H2 => wipe σ2 vs = wipe σ vs ∧
    te σ2 H2 fun y H7 => ∃ (c : Int) (S : Int → Bool) (n : Nat), y = .int c ∧ H7 D = some (SetO w D S n) ∧ n + 1 < scanBound ∧ Nx (upd H7 D (SetO w D (fun j => S j || decide (j = c)) (if S c = true then n else n + 1))))
theorem pe_sc1 {elt tg iter : Expr} {scope : Scope} {own : List (Str × Nat)} {pos : Pos} {wi : TI} {g : TG} {te : TE} (calm : X.calm = true) (nd : X.N.Nodup) (src : PI X tg iter wi) (ok : BlkOk X.N X.env.scope scope own)
    (bg : ∀ (s : Shared) (H : Hp) (C : Addr) (cl : List (Str × Addr)) (fp : List Addr), PG (X.blk s H scope (compEnvC scope cl C X.env) fp) tg g) (be : ∀ (s : Shared) (H : Hp) (C : Addr) (cl : List (Str × Addr)) (fp : List Addr), PE (X.blk s H scope (compEnvC scope cl C X.env) fp) elt te)
    (f0 : ∀ x, foldedSetIterable iter X.env x = pure x := by intro _; rfl) : PE X (.SetComp elt [⟨tg, iter, [], 0⟩] scope pos) (tSc1 X.w wi g te (own.map (·.2))) := by
  refine ⟨fun pins s σ H Q I0 h => ?_⟩
  rw [eval_SetComp]
  have cells : ∀ y ∈ scope.names, y.2 = .free → ∃ c, X.env.cells.lookup y.1 = some c := fun y my e => (ok.free y my e).elim (fun z => I0.ok.has _ (.inl z)) fun z => I0.ok.has _ (.inr z)
  refine wpAny_comprehension_free rfl f0 (closure_ok cells) ok.kind (fun y my e => (ok.uniq y my).trans (congrArg some e)) (thn (src.run pins s σ H _ I0 h) fun xv sa ha => thn ha fun itv sb hb => ?_)
  obtain ⟨it, fp, tn, J, H1, rfl, I1, T, st1, fo, loopQ⟩ := hb
  refine newSet_ok (newEnv_comp ?_)
  generalize eD : sb.heap.objs.size = D
  obtain ⟨W, ⟨m0, w0⟩, go_on⟩ := loopQ D (I1.hok.fresh (Nat.le_of_eq eD))
  generalize es : ({ sb with heap := sb.heap.push (newS X.w) } : Shared) = sc
  have hc : sc.heap = sb.heap.push (newS X.w) := by rw [← es]
  have I2 : Inv X pins σ (upd H1 D (SetO X.w D (fun _ => false) 0)) sc := by
    subst es
    refine I1.laid (t' := sb.toks) (fun b o z => Heap.get?_push_of_some _ z) (Nat.le_of_eq eD) ?_
    subst eD
    exact setO_new (setR_fresh X.w)
  have low : ∀ b ∈ fp, b < sb.heap.objs.size := fun b mb => by
    obtain ⟨o, z, _⟩ := T.obj _ _ st1 b mb
    exact Heap.lt_size z
  have fo2 : ∀ b ∈ fp, FpOk X pins (upd H1 D (SetO X.w D (fun _ => false) 0)) b ∧ b < sc.heap.objs.size := fun b mb => by
    have lt := low b mb
    have ne : b ≠ D := fun z => Nat.lt_irrefl _ (by rw [← eD] at z; exact z ▸ lt)
    exact ⟨⟨(upd_ne ne).trans (fo b mb).1, (fo b mb).2⟩, by rw [hc, Heap.size_push]; exact Nat.lt_succ_of_lt lt⟩
  have st2 : tn 0 sc.heap := T.keep _ _ _ st1 fun b _ o z => by
    rw [hc]
    exact Heap.get?_push_of_some _ z
  have I3 := block_start I2 ok nd fo2
  generalize eH : upd H1 D (SetO X.w D (fun _ => false) 0) = H2 at I2 I3 w0 fo2
  generalize eC : cellsFrom (sc.heap.objs.size + 1) scope.names (cloFrom X.env.cells scope.names []) = cl at I3 ⊢
  have pg := bg sc H2 sc.heap.objs.size cl fp
  have pe := be sc H2 sc.heap.objs.size cl fp
  have gone : ∀ b ∈ fp, H2 b = none := fun b mb => (fo2 b mb).1.1
  show codeAny _ _ (.compStart (sc1 elt tg iter scope pos) 0 (.ref it) (.ref D) (compEnvC scope cl sc.heap.objs.size X.env)) (compPost (model X.prog X.w) X.A X.xe _ _ (.ref D) sc.heap.objs.size) { sc with heap := pushCells (sc.heap.push { cls := .type "dict", data := .dict #[] }) scope.names }
  generalize eE : compEnvC scope cl sc.heap.objs.size X.env = ce at I3 pg pe ⊢
  have loc : ce.locals = sc.heap.objs.size := by rw [← eE]; rfl
  generalize ed : ({ sc with heap := pushCells (sc.heap.push { cls := .type "dict", data := .dict #[] }) scope.names } : Shared) = sd at I3 ⊢
  have st3 : tn 0 sd.heap := T.keep _ _ _ st2 fun b _ o z => by
    rw [← ed]
    exact pushCells_keeps _ _ _ _ (Heap.get?_push_of_some _ z)
  have stat : ∀ {σ' : L2.St} {H' : Hp} {s' : Shared}, Inv (X.blk sc H2 scope ce fp) [] σ' H' s' → (∀ b ∈ fp, H' b = none) → ∀ b ∈ fp, FpOk (X.blk sc H2 scope ce fp) [] H' b := fun {σ' H' s'} K n b mb =>
    ⟨n b mb, (K.ok.exf b mb).1, K.ok.exfs b mb, .inl mb, (K.ok.exf b mb).2, fun p mp => absurd (show p ∈ ([] : List (Addr × Obj)) from mp) (fun z => nomatch z)⟩
  refine codeAny_compStart_set ?loop (T.self X.A 0 _ _ _ st3 ?loop)
  refine sc1_loop (fun n s' => ∃ i H', Inv (X.blk sc H2 scope ce fp) [] (wipe σ (own.map (·.2))) H' s' ∧ tn i s'.heap ∧ (∀ b ∈ fp, H' b = none) ∧ W i n H') (fun n se ⟨i, H5, I5, st5, n5, w5⟩ => ?_) m0 ⟨0, H2, I3, st3, gone, w0⟩
  rcases go_on i n H5 w5 with ⟨stop, done⟩ | ⟨more, Nx, down, step⟩
  · refine thnF (T.done (X.blk sc H2 scope ce fp) rfl rfl rfl calm i [] se _ H5 no I5 (stat I5 n5) st5 stop) fun r sf ⟨er, I6⟩ => ?_
    subst er
    have I7 : Inv X pins σ H5 sf := I2.call' (ch := fp) I6.os I6.base I6.hok I6.bare fun b mb => let z := (fo2 b mb).1.2; ⟨z.2.2.1, z.1, z.2.2.2.1, z.2.2.2.2⟩
    have unC : H5 sc.heap.objs.size = none := loc ▸ (show H5 ce.locals = none from I6.free)
    obtain ⟨m, ns, _⟩ := I6.loc
    have f := I2.fpOk (Nat.le_refl _) unC
    exact ⟨m, loc ▸ (show sf.heap.Ns ce.locals m from ns), fun h2 sb => ⟨.ref D, H5, I7.turned (t' := sf.toks) (fun b o ne e => (sb.2 b ne).trans e) f.1 f.2.1 f.2.2.2.1 f.2.2.2.2.1 f.2.2.2.2.2, rfl, done⟩⟩
  · refine thnF (T.item (X.blk sc H2 scope ce fp) rfl rfl rfl calm i [] se _ H5 no I5 (stat I5 n5) st5 more) fun r sf ⟨u, er, h6⟩ => ?_
    subst er
    refine thnF h6 fun _ sg ⟨x, H7, I7, r7, y7, st7, n7⟩ => ?_
    have P7 := I7.pinned (stat I7 n7) (T.obj _ _ st7)
    refine thnF (pg.run _ sg _ H7 x u _ P7 r7 (step x H7 y7)) fun _ sh ⟨σ8, H8, I8, e8, q8⟩ => ?_
    refine thnF (pe.run _ sh σ8 H8 _ I8 q8) fun z so ⟨yv, H16, I16, r16, c, S, cnt, ey, hD, few, nx⟩ => ?_
    subst ey
    refine addI (X := X.blk sc H2 scope ce fp) I16 r16 hD few fun sp I17 => ?_
    obtain ⟨m', lt, w'⟩ := down _ nx
    have held : ∀ b ∈ fp, ∀ o, sg.heap.get? b = some o → sp.heap.get? b = some o ∧ _ = none := fun b mb o z =>
      have y := I17.pin (b, o) (List.mem_append_right _ (List.mem_append_right _ (mem_pinsAt mb z)))
      ⟨y.1, y.2.1⟩
    refine ⟨m', lt, i + 1, _, I17.unpinned.weak ((congrArg List.length e8).symm.trans (wipe_length _ _) |>.symm.symm.symm ▸ rfl) (fun a v z => ?_), T.keep _ _ _ st7 fun b mb o z => (held b mb o z).1, fun b mb => ?_, w'⟩
    · rw [← e8] at z
      exact (wipe_some z).1
    · obtain ⟨o, z, _⟩ := T.obj _ _ st7 b mb
      exact (held b mb o z).2
end
theorem sc1_it {w : World} {J : It} {n : Nat} {G : Hp → Prop} {Y : Nat → Hp → V → Hp → Prop} (wk : Walk J n G Y) {g : TG} {te : TE} {vs : List Nat} {σ : L2.St} {H1 : Hp} {D : Addr} {Qd : Hp → Prop} (Pv : Nat → Hp → Prop)
    (h0 : Pv 0 (upd H1 D (SetO w D (fun _ => false) 0))) (hG : ∀ i H, i ≤ n → Pv i H → G H)
    (hs : ∀ i x H H', i < n → Pv i H → Y i H x H' → g x (wipe σ vs) H' fun σ2 H2 => wipe σ2 vs = wipe σ vs ∧ te σ2 H2 fun y H7 => ∃ (c : Int) (S : Int → Bool) (m : Nat), y = .int c ∧ H7 D = some (SetO w D S m) ∧ m + 1 < scanBound ∧ Pv (i + 1) (upd H7 D (SetO w D (fun j => S j || decide (j = c)) (if S c = true then m else m + 1))))
    (hd : ∀ H, Pv n H → Qd H) :
    ∃ W : Nat → Nat → Hp → Prop, (∃ m, W 0 m (upd H1 D (SetO w D (fun _ => false) 0))) ∧ ∀ i m H, W i m H →
      (J.stop i H ∧ Qd H) ∨ (J.go i H ∧ ∃ Nx : Hp → Prop, (∀ H', Nx H' → ∃ m', m' < m ∧ W (i + 1) m' H') ∧ ∀ x H', J.yld i H x H' → g x (wipe σ vs) H' fun σ2 H2 => wipe σ2 vs = wipe σ vs ∧
        te σ2 H2 fun y H7 => ∃ (c : Int) (S : Int → Bool) (n : Nat), y = .int c ∧ H7 D = some (SetO w D S n) ∧ n + 1 < scanBound ∧ Nx (upd H7 D (SetO w D (fun j => S j || decide (j = c)) (if S c = true then n else n + 1)))) := by
  refine ⟨fun i m H => i + m = n ∧ Pv i H, ⟨n, Nat.zero_add n, h0⟩, fun i m H ⟨e, p⟩ => ?_⟩
  have le : i ≤ n := by omega
  have q := hG i H le p
  cases m with
  | zero =>
    have : i = n := by omega
    subst this
    exact .inl ⟨wk.stops H q, hd H p⟩
  | succ m =>
    have lt : i < n := by omega
    exact .inr ⟨wk.goes i H lt q, Pv (i + 1), fun H' p' => ⟨m, Nat.lt_succ_self m, by omega, p'⟩, fun x H' y => hs i x H H' lt p (wk.yields i H x H' lt q y)⟩
end Ow

set_option Elab.async false
set_option linter.all false
set_option maxRecDepth 100000
set_option maxHeartbeats 4000000
set_option exponentiation.threshold 3000
namespace Ow
open PySem PySem.Spec PyProof.Rows L2
theorem scHasBoth : FnScope ["rows", "at", "row"] ["rows", "at"] (defScope dHasBoth) := ⟨rfl, rfl, rfl, by decide +kernel, rfl, by decide +kernel, by decide +kernel⟩
theorem scAreRows : FnScope ["value", "many", "row", "at"] ["value", "many"] (defScope dAreRows) := ⟨rfl, rfl, rfl, by decide +kernel, rfl, by decide +kernel, by decide +kernel⟩
/-- len(set of ints) -/
def rLenS (w : World) : List V → Hp → VK → Prop := fun xs H Q => ∃ (a : Addr) (S : Int → Bool) (n : Nat), xs = [.ref a] ∧ H a = some (SetO w a S n) ∧ n ≤ 5000 ∧ Q (.int n) H
theorem cr_lenS {X : Cx} : CallR X (.builtin "len") (rLenS X.w) := by
  intro pins s σ H xs us Q I r h
  obtain ⟨a, S, n, rfl, ha, hn5, q⟩ := h
  obtain ⟨u, rfl, rx⟩ := vals1 r
  cases rx
  obtain ⟨o, es, ep, t, ho, hex, hd, _, _, _, hf, hn⟩ := (setO_get I ha).setOf (P := X.prog)
  exact PySem.call_len_set ho hex hd hf (by rw [hn] <;> omega) ⟨.int n, H, I.tok _, ⟨_, by rw [hn]⟩, q⟩
def rowAt (k : Nat) (r : List Int) : Int := r.getD k 0
def bothB (rs : List (List Int)) (k : Nat) : Bool := (rs.any fun r => decide (rowAt k r = 0)) && (rs.any fun r => decide (rowAt k r = 1))
def RowsOk (m : Nat) (rs : List (List Int)) : Prop := ∀ r ∈ rs, bitsB r = true ∧ r.length = m
def ascR (rs : List (List Int)) : Bool := ((rs.zip rs.tail).map fun p => HT.lexLt p.1 p.2).all id
theorem row_bit {m : Nat} {rs : List (List Int)} (h : RowsOk m rs) {k : Nat} (hk : k < m) {r : List Int} (hr : r ∈ rs) : (rowAt k r = 0 ∨ rowAt k r = 1) ∧ r[k]? = some (rowAt k r) := by
  obtain ⟨hb, hl⟩ := h r hr
  have e : r[k]? = some (rowAt k r) := by
    unfold rowAt
    rw [List.getD_eq_getElem?_getD, List.getElem?_eq_getElem (by omega)]
    rfl
  have := List.all_eq_true.mp hb _ (List.mem_of_getElem? e)
  rw [Bool.or_eq_true, decide_eq_true_iff, decide_eq_true_iff] at this
  exact ⟨this, e⟩
def colS (rs : List (List Int)) (k : Nat) : Int → Bool := fun j => rs.any fun r => decide (rowAt k r = j)
def colN (rs : List (List Int)) (k : Nat) : Nat := (if colS rs k 0 = true then 1 else 0) + (if colS rs k 1 = true then 1 else 0)
theorem col_next {m : Nat} {rs : List (List Int)} (h : RowsOk m rs) {k : Nat} (hk : k < m) {i : Nat} {r : List Int} (hr : rs[i]? = some r) :
    (fun j => colS (rs.take i) k j || decide (j = rowAt k r)) = colS (rs.take (i + 1)) k ∧ (if colS (rs.take i) k (rowAt k r) = true then colN (rs.take i) k else colN (rs.take i) k + 1) = colN (rs.take (i + 1)) k := by
  have e1 : (fun j => colS (rs.take i) k j || decide (j = rowAt k r)) = colS (rs.take (i + 1)) k := by
    funext j
    unfold colS
    rw [List.take_add_one, hr, List.any_append]
    show _ = (_ || (decide (rowAt k r = j) || false))
    rw [Bool.or_false]
    congr 1
    rw [decide_eq_decide]
    exact eq_comm
  refine ⟨e1, ?_⟩
  unfold colN
  rw [← e1]
  show (if colS (rs.take i) k (rowAt k r) = true then _ else _) = (if (colS (rs.take i) k 0 || decide ((0 : Int) = rowAt k r)) = true then 1 else 0) + (if (colS (rs.take i) k 1 || decide ((1 : Int) = rowAt k r)) = true then 1 else 0)
  have two : ∀ b0 b1 : Bool, (if b0 = true then (if b0 = true then 1 else 0) + (if b1 = true then 1 else 0) else (if b0 = true then 1 else 0) + (if b1 = true then 1 else 0) + 1) = (if (b0 || decide ((0 : Int) = 0)) = true then 1 else 0) + (if (b1 || decide ((1 : Int) = 0)) = true then 1 else 0) := by decide
  have two' : ∀ b0 b1 : Bool, (if b1 = true then (if b0 = true then 1 else 0) + (if b1 = true then 1 else 0) else (if b0 = true then 1 else 0) + (if b1 = true then 1 else 0) + 1) = (if (b0 || decide ((0 : Int) = 1)) = true then 1 else 0) + (if (b1 || decide ((1 : Int) = 1)) = true then 1 else 0) := by decide
  rcases (row_bit h hk (List.mem_of_getElem? hr)).1 with e | e
  · rw [e]
    exact two _ _
  · rw [e]
    exact two' _ _
section
variable {P : Program} {w : World} {K : PySem.W.Frag} {mg : Str → Option Value} {base : Heap}
def spBoth : Sp := fun vs H Q _ => ∃ (a : Addr) (rs : List (List Int)) (m k : Nat), vs = [.ref a, .int k] ∧ IsRows H (.ref a) rs ∧ RowsOk m rs ∧ k < m ∧ rs.length ≤ 4000 ∧ ∀ H', Same H H' → Q (.bl (bothB rs k)) H'
theorem ok_hasboth {f : Addr} {fd : FuncData} (F : Fun K "_has_both" "_has_both" dHasBoth f fd) (ml : mg "len" = none) : FnOk P w K mg base CX0 1 f fd ["rows", "at"] spBoth := by
  refine F.ok scHasBoth (fun vs H Q E h => ?_) (fun cdv A outer s H vs Q E hr h => ?_)
  · obtain ⟨a, rs, m, k, rfl, _⟩ := h
    rfl
  obtain ⟨a, rs, m, k, rfl, hR, ok, hk, hl, q⟩ := h
  obtain ⟨t, xs, et, ht, hx⟩ := hR
  cases et
  refine ⟨_, pss_one (ps_ret (pe_cmpR op_eq (pe_callB cr_lenS (by rfl) ml PySem.boot_len (pa_cons
    (pe_sc1 (te := tOp (rIxT K) (tVar 2) (tVar 1)) (own := [("row", 2)]) (g := gName 2) rfl scHasBoth.nd (pi_tup (pv 0)) (blkOk_by (N := ["rows", "at", "row"]) (sc := defScope dHasBoth) (by decide +kernel))
      (fun _ _ _ _ _ => pg_name (i := 2) scHasBoth.nd rfl (Or.inl rfl)) (fun _ _ _ _ _ => pe_ix ix_tup (pv 2) (pv 1) (fun _ _ => rfl))) pa_nil)) pe_int (nomark _))), ?_⟩
  refine ⟨.ref a, rfl, a, rfl, ⟨_, .of ht⟩, fun D nD => ?_⟩
  refine sc1_it (walk_tup (K := K) (a := a) (xs := xs)) (fun i Hx => Same H Hx ∧ Hx D = some (SetO w D (colS (rs.take i) k) (colN (rs.take i) k)))
    ⟨same_new nD, upd_same⟩ (fun i Hx _ h => .of (h.1 _ _ ht)) (fun i x Hx Hx' hi h hY => ?_) (fun Hx h => ?_)
  · obtain ⟨rfl, hxi⟩ := hY
    obtain ⟨sx, eD⟩ := h
    obtain ⟨r, hr, b, rfl, hb⟩ := hx.get hxi
    obtain ⟨_, er⟩ := row_bit ok hk (List.mem_of_getElem? hr)
    obtain ⟨c1, c2⟩ := col_next ok hk hr
    have at_ : (r.map V.int)[k]? = some (.int (rowAt k r)) := by rw [List.getElem?_map, er]; rfl
    refine ⟨rfl, .ref b, rfl, .int k, rfl, b, _, _, .int (rowAt k r), rfl, rfl, .of (sx _ _ hb), atI_nat at_, rowAt k r, _, _, rfl, eD, ?_, ?_, ?_⟩
    · have : colN (rs.take i) k ≤ 2 := by unfold colN; split <;> split <;> omega
      exact Nat.lt_of_le_of_lt (show colN (rs.take i) k + 1 ≤ 3 by omega) (by decide)
    · exact fun c o e => (upd_ne (ne_of_none e nD)).trans (sx _ _ e)
    · rw [c1, c2]
      exact upd_same
  · obtain ⟨sx, eD⟩ := h
    have lx := hx.len
    rw [lx, List.take_length] at eD
    refine ⟨D, _, _, rfl, eD, ?_, rfl, ?_⟩
    · have : colN rs k ≤ 2 := by unfold colN; split <;> split <;> omega
      omega
    · have e : decide (V.int ((colN rs k : Nat) : Int) = V.int 2) = bothB rs k := by
        unfold colN bothB
        show _ = (colS rs k 0 && colS rs k 1)
        cases colS rs k 0 <;> cases colS rs k 1 <;> decide
      rw [e]
      exact q _ sx
def spAscR : Sp := fun vs H Q _ => ∃ (a : Addr) (rs : List (List Int)), vs = [.ref a] ∧ IsRows H (.ref a) rs ∧ rs.length ≤ 4000 ∧ ∀ H', Same H H' → Q (.bl (ascR rs)) H'
theorem ok_ascr {f : Addr} {fd : FuncData} (F : Fun K "is_ascending" "is_ascending" dAscending f fd) (mz : mg "zip" = none) (ma : mg "all" = none) : FnOk P w K mg base CX0 1 f fd ["items"] spAscR := by
  refine F.ok scAsc (fun vs H Q E h => ?_) (fun cdv A outer s H vs Q E hr h => ?_)
  · obtain ⟨a, rs, rfl, _⟩ := h
    rfl
  obtain ⟨a, rs, rfl, hR, hl, q⟩ := h
  obtain ⟨t, xs, et, ha, hx⟩ := hR
  cases et
  have lx := hx.len
  refine ⟨_, pss_one (ps_ret (pe_callB (cr_all rfl) (by rfl) ma boot_all (pa_cons
    (pe_lc (te := tOp (rLtT K) (tVar 1) (tVar 2)) (own := [("one", 1), ("other", 2)]) (g := gTup K 2 (gCons (gName 1) (gCons (gName 2) gNil))) (tt := tYes) rfl scAsc.nd
      (RZ.pi_zipA (by rfl) mz (pa_cons (pv 0) (pa_cons (pe_slice sl_tup (pv 0) (po_some pe_int) po_none) pa_nil)))
      (blkOk_by (N := ["items", "one", "other"]) (sc := defScope dAscending) (by decide +kernel))
      (fun _ _ _ _ _ => pg_tup rfl (pgs_cons (pg_name (i := 1) scAsc.nd rfl (Or.inl rfl)) (pgs_cons (pg_name (i := 2) scAsc.nd rfl (Or.inl rfl)) pgs_nil)))
      (fun _ _ _ _ _ => pts_nil) (fun _ _ _ _ _ => pe_cmpR (op_ltT (Nat.lt_of_succ_lt (hu_of hr))) (pv 1) (pv 2) (nomark _))) pa_nil))), ?_⟩
  refine ⟨.ref a, rfl, .ref a, rfl, 1, rfl, a, xs, rfl, ha, fun H1 b s1 hb => ?_⟩
  rw [cut_tail] at hb
  refine ⟨a, b, xs, xs.tail, rfl, .inr ⟨.of (s1 _ _ ha), .of hb, fun D nD => ?_⟩⟩
  have hx1 := all_tk (Tk.same s1) hx
  refine lc_map (M := No) (walk_zipT (K := K) (a := a) (b := b) (xs := xs) (ys := xs.tail) rfl) (by rw [List.length_tail]; omega) Jg.no nD
    (fun i _ y => ∃ p, (rs.zip rs.tail)[i]? = some p ∧ y = .bl (HT.lexLt p.1 p.2)) (fun _ _ _ _ _ h => h) (fun Hx g _ => ⟨.of (g.toSame _ _ (s1 _ _ ha)), .of (g.toSame _ _ hb)⟩)
    (fun i x Hx Hx' Kk hi g _ hY hK => ?_) (fun Hx ys g _ eD hlen hp => ?_)
  · obtain ⟨T, x, y, rfl, nT, rfl, hx0, hy0⟩ := hY
    have hx0 : xs[i]? = some x := hx0
    have hy0 : xs.tail[i]? = some y := hy0
    obtain ⟨r1, e1, b1, rfl, hb1⟩ := hx1.get hx0
    rw [List.getElem?_tail] at hy0
    obtain ⟨r2, e2, b2, rfl, hb2⟩ := hx1.get hy0
    have sT := (g.toSame).trans (same_new (o := .tup [.ref b1, .ref b2]) nT)
    refine ⟨T, [.ref b1, .ref b2], rfl, .of upd_same, rfl, _, _, rfl, _, _, rfl, rfl, rfl, .ref b1, rfl, .ref b2, rfl, b1, b2, r1, r2, rfl, rfl, .of (sT _ _ hb1), .of (sT _ _ hb2), hK _ _ (Gw.new nT) Jg.no ⟨(r1, r2), List.getElem?_zip_eq_some.mpr ⟨e1, by rw [List.getElem?_tail]; exact e2⟩, rfl⟩⟩
  · have e : ys = ((rs.zip rs.tail).map fun p => HT.lexLt p.1 p.2).map V.bl := by
      rw [List.map_map]
      exact list_eq (f := V.bl ∘ fun p : List Int × List Int => HT.lexLt p.1 p.2) hlen (by rw [List.length_zip, List.length_tail, List.length_tail, lx]) hp
    rw [e] at eD
    refine ⟨D, _, rfl, .of eD, q _ ?_⟩
    exact s1.trans g.toSame
end
end Ow

set_option Elab.async false
set_option linter.all false
set_option maxRecDepth 100000
set_option maxHeartbeats 4000000
namespace Ow
open PySem PySem.Spec PyProof.Rows L2
theorem fits_bits {ns : List Int} (h : bitsB ns = true) : Fits 3 ns := fun m hm => by
  have := List.all_eq_true.mp h m hm
  simp only [Bool.or_eq_true, decide_eq_true_eq] at this
  omega
theorem kt_keys {H : Hp} : ∀ {kvs : List (List Key × V)} {xs : List (List Key × Addr × Value)}, KT H kvs xs → ∀ (i : Nat) (x : List Key × Addr × Value), xs[i]? = some x → ∃ kv : List Key × V, kvs[i]? = some kv ∧ kv.1 = x.1 ∧ H x.2.1 = some (.tup (x.1.map kV))
  | _, _, .nil, i, x, e => by simp at e
  | kv :: kvs, q :: qs, .cons h t, i, x, e => by
    cases i with
    | zero =>
      have e : q = x := Option.some.inj e
      subst e
      exact ⟨kv, rfl, h.1, by rw [← h.1]; exact h.2.1⟩
    | succ i => exact kt_keys t i x e
/-- sorted(d), d with fewer than 64 rows of bits as keys -/
def rSortDT : List V → Hp → VK → Prop := fun vs H Q => ∃ (d : Addr) (ks : List (List Int)) (m : Nat), vs = [.ref d] ∧ H d = some (.dT (rowKs ks)) ∧ RowsOk m ks ∧ 1 ≤ m ∧ ks.length < 64 ∧
  ∀ (xs : List V) (ms : List (List Int)) p, ms.Perm ks → AscT ms → All2 (IsRow H) xs ms → H p = none → Q (.ref p) (upd H p (.lst xs))
theorem cr_sortDT {X : Cx} (hc : X.calm = true) (hu : X.A.units + 64 < cLine) : CallR X (.builtin "sorted") rSortDT := by
  intro pins s σ H vs us Q I r h
  obtain ⟨d, ks, m, rfl, hd, ok, m1, few, q⟩ := h
  obtain ⟨u, rfl, rx⟩ := vals1 r
  cases rx
  obtain ⟨z, lo, xs, rel, dd⟩ := dt_of I.hok hd
  have lx := Paired.length rel
  rw [rowKs_len] at lx
  obtain ⟨es, ep, raw, es1, es2⟩ := dd.raw
  refine Calls.call_function_entry kind_sorted plain_sorted entry_sorted (args_sorted1 _) ?_
  unfold Builtin.«sorted»
  refine wpAny_bind (m := checkCount "sorted" 1 1 _) (wpAny_pure ?_)
  refine wpAny_bind (PySem.W.kdu_collect (A := X.A.in1) (PySem.KdlSrc.rawDict (es := es) (ep := ep) lo) (I.ok.hd hc) raw (by rw [es1, ← lx, sizeLine_eq]; omega) fun h' tk acc kept items => ?_)
  have I1 : Inv X pins σ H { s with heap := h', toks := tk } := I.kept kept
  have la : acc.toList.length = ks.length := by rw [Array.length_toList, items.1, es1, lx]
  have item : ∀ (i : Nat) (v : Value), acc.toList[i]? = some v → ∃ (k : List Int) (b : Addr), ks[i]? = some k ∧ v = Value.ref b ∧ H b = some (.tup (k.map V.int)) := fun i v e => by
    obtain ⟨hi, ev⟩ := items.2 i v (by rw [← Array.getElem?_toList]; exact e)
    obtain ⟨y, e1, e2, _, _⟩ := es2 i hi
    obtain ⟨kv, g1, g2, g3⟩ := kt_keys rel i y e1
    unfold rowKs at g1
    rw [List.getElem?_map] at g1
    cases e5 : ks[i]? with
    | none => rw [e5] at g1; cases g1
    | some k =>
      rw [e5] at g1
      have g1 := Option.some.inj g1
      subst g1
      dsimp only at g2
      rw [← g2, kRow_V] at g3
      exact ⟨k, y.2.1, rfl, ev.trans e2, g3⟩
  have mem : ∀ v ∈ acc.toList, ∃ k ∈ ks, ∃ b : Addr, v = Value.ref b ∧ H b = some (.tup (k.map V.int)) ∧ TS.TupInts h' v k := fun v hv => by
    obtain ⟨i, hi⟩ := List.mem_iff_getElem?.mp hv
    obtain ⟨k, b, e1, rfl, e3⟩ := item i v hi
    exact ⟨k, List.mem_of_getElem? e1, b, rfl, e3, tupI_raw I1 (.of e3)⟩
  have isI : acc.toList.map (TS.intsOf h') = ks := by
    refine List.ext_getElem? fun i => ?_
    rw [List.getElem?_map]
    cases e : acc.toList[i]? with
    | none =>
      have := List.getElem?_eq_none_iff.mp e
      rw [Option.map_none]
      exact (List.getElem?_eq_none_iff.mpr (by omega)).symm
    | some v =>
      obtain ⟨k, b, e1, rfl, e3⟩ := item i v e
      have t : TS.TupInts h' (.ref b) k := tupI_raw I1 (.of e3)
      rw [Option.map_some, e1, t.ints]
  refine wpAny_bind (wpAny_newList ?_ (by rw [la, sizeLine_eq]; omega))
  have hoL : (h'.push (seqObj "list" acc.toList.toArray 0)).get? h'.objs.size = some (seqObj "list" acc.toList.toArray 0) := Heap.get?_push_size _ rfl
  show wpAny _ _ _ _ _ { s with heap := h'.push (seqObj "list" acc.toList.toArray 0), toks := tk }
  refine wpAny_bind (wpAny_holding (wpAny_call_entry slot_list_sort ⟨_, hoL, rfl⟩ entry_list_sort ?_ (args_list_sort _)))
  refine sort_inS (h0 := h') (k := m) (B := 3) (by decide) (show _ < cLine from ?_) hoL (by rw [la]; exact few) ⟨fun v hv => ?_, .inl fun v hv => ?_⟩ (fun v hv ns t => ?_) (fun b o e _ => Heap.get?_push_of_some _ e) fun out p1 p2 => ?_
  · rw [Around.in1_units, Around.in1_units]
    omega
  · obtain ⟨k, hk, b, rfl, e3, t⟩ := mem v hv
    exact ⟨k, t⟩
  · obtain ⟨k, hk, b, rfl, e3, t⟩ := mem v hv
    refine ⟨k, t, fun z => ?_⟩
    have := (ok k hk).2
    rw [z] at this
    simp at this
    omega
  · obtain ⟨k, hk, b, rfl, e3, t2⟩ := mem v hv
    have e : ns = k := t.ints.symm.trans t2.ints
    rw [e]
    exact ⟨Nat.le_of_eq (ok k hk).2, fits_bits (ok k hk).1⟩
  · refine ⟨_, rfl, ?_⟩
    obtain ⟨e', he'⟩ := sortedHeap_at (vs := acc.toList) (out := out) hoL
    have sub : ∀ u ∈ out.toList, u ∈ acc.toList := fun u hu => p1.mem_iff.mp hu
    have refs : ∀ u ∈ out.toList, ∃ a, u = Value.ref a := fun u hu => by
      obtain ⟨k, hk, b, e, _⟩ := mem u (sub u hu)
      exact ⟨b, e⟩
    have lo2 : (out.toList.map bkV).length ≤ sizeLine := by
      rw [List.length_map, p1.length_eq, la, sizeLine_eq]
      omega
    have perm : (out.toList.map (TS.intsOf h')).Perm ks := by
      rw [← isI]
      exact p1.map _
    refine wpAny_pure ⟨_, rfl, .ref h'.objs.size, upd H h'.objs.size (.lst (out.toList.map bkV)), I1.laid (t' := tk) (fun b u e => ?_) (Nat.le_refl _)
      (show ObjOk X.prog X.w _ _ _ (.lst (out.toList.map bkV)) from ⟨lo2, out.toList, e', bkV_vals refs, by rw [Array.toArray_toList]; exact he'⟩), rfl, q _ _ _ perm ?_ (allRow fun u hu => ?_) (I1.hok.fresh (Nat.le_refl _))⟩
    · have low : b < h'.objs.size := Heap.lt_size e
      rw [sortedHeap_old (Nat.ne_of_lt low) (by rw [size_push']; exact Nat.lt_succ_of_lt low)]
      exact Heap.get?_push_of_some _ e
    · unfold AscT
      rw [List.pairwise_map]
      refine List.Pairwise.imp_of_mem (fun {u v} hu hv le => ?_) p2
      obtain ⟨k1, m1', b1, _, _, t1⟩ := mem u (sub u hu)
      obtain ⟨k2, m2', b2, _, _, t2⟩ := mem v (sub v hv)
      unfold rkOf at le
      rw [t1.ints, t2.ints] at le ⊢
      exact lex_asym (by decide) (Nat.le_of_eq (ok k1 m1').2) (Nat.le_of_eq (ok k2 m2').2) (fits_bits (ok k1 m1').1) (fits_bits (ok k2 m2').1) le
    · obtain ⟨k, hk, b, rfl, e3, t⟩ := mem u (sub u hu)
      exact ⟨b, rfl, by rw [t.ints]; exact e3⟩
where allRow {H : Hp} {f : Value → V} {g : Value → List Int} : ∀ {us : List Value}, (∀ u ∈ us, IsRow H (f u) (g u)) → All2 (IsRow H) (us.map f) (us.map g)
  | [], _ => .nil
  | u :: us, h => .cons (h u List.mem_cons_self) (allRow fun v hv => h v (List.mem_cons_of_mem _ hv))
end Ow

set_option Elab.async false
set_option linter.all false
set_option maxRecDepth 100000
set_option maxHeartbeats 4000000
namespace Ow
open PySem PySem.Spec PyProof.Rows L2
/-- how many unlike ints a list has -/
def metN (ns : List Int) : Nat := (firstMet (fun i => ns.getD i 0) ns.length).length
theorem met_nodup (val : Nat → Int) : ∀ n, (firstMet val n).Nodup
  | 0 => List.nodup_nil
  | n + 1 => by
    rw [firstMet_succ]
    unfold step_dedup
    split
    · exact met_nodup val n
    · rename_i h
      refine List.nodup_append.mpr ⟨met_nodup val n, (List.nodup_cons.mpr ⟨by simp, List.nodup_nil⟩), fun a ha b hb => ?_⟩
      rw [List.mem_singleton] at hb
      intro e
      refine h (List.any_eq_true.mpr ⟨a, ha, ?_⟩)
      rw [e, hb]
      exact beq_self_eq_true _
theorem met_mem {ns : List Int} {k : Int} (h : k ∈ firstMet (fun i => ns.getD i 0) ns.length) : k ∈ ns := by
  have e := firstMet_any (fun i => ns.getD i 0) ns.length k
  rw [show ((firstMet (fun i => ns.getD i 0) ns.length).any fun x => x == k) = true from List.any_eq_true.mpr ⟨k, h, beq_self_eq_true _⟩] at e
  obtain ⟨j, hj, ej⟩ := List.any_eq_true.mp e.symm
  obtain ⟨i, hi, rfl⟩ := List.mem_map.mp hj
  rw [← eq_of_beq ej]
  have lt := List.mem_range.mp hi
  rw [List.getD_eq_getElem?_getD, List.getElem?_eq_getElem lt]
  exact List.getElem_mem lt
theorem metN_two {ns : List Int} (hb : ∀ n ∈ ns, n = 0 ∨ n = 1) (h : 2 ≤ metN ns) : (0 : Int) ∈ ns ∧ (1 : Int) ∈ ns := by
  unfold metN at h
  have nd := met_nodup (fun i => ns.getD i 0) ns.length
  have sub : ∀ k ∈ firstMet (fun i => ns.getD i 0) ns.length, k ∈ ns := fun k hk => met_mem hk
  revert h nd sub
  generalize firstMet (fun i => ns.getD i 0) ns.length = l
  intro h nd sub
  match l, h, nd, sub with
  | a :: b :: r, _, nd, sub =>
    have ma := sub a List.mem_cons_self
    have mb := sub b (List.mem_cons_of_mem _ List.mem_cons_self)
    have ne : a ≠ b := fun e => (List.nodup_cons.mp nd).1 (by rw [e]; exact List.mem_cons_self)
    rcases hb a ma with rfl | rfl <;> rcases hb b mb with rfl | rfl
    · exact absurd rfl ne
    · exact ⟨ma, mb⟩
    · exact ⟨mb, ma⟩
    · exact absurd rfl ne
/-- len(set(l)), l a list of ints -/
def tLenSetL (K : PySem.W.Frag) (ta : TE) : TE := fun σ H Q => ta σ H fun x H1 => ∃ (l : Addr) (ns : List Int), x = V.ref l ∧ SqL K H1 l (ns.map V.int) ∧ ns.length ≤ 1000 ∧ Q (.int (metN ns)) H1
theorem pe_lenSetL {X : Cx} {a : Expr} {ta : TE} {p p2 q pos : Pos} (calm : X.calm = true) (gl : Gl X "len") (ml : X.mg "len" = none) (gs : Gl X "set") (ms : X.mg "set" = none) (ha : PE X a ta)
    (na : starEach [a] X.env = (false, eval a X.env) :: starEach [] X.env := by rfl) : PE X (.Call (.Name "len" p) [.Call (.Name "set" p2) [a] [] q] [] pos) (tLenSetL X.K ta) := by
  refine ⟨fun pins s σ H Q I h => Call_ (ld_blt I gl ml boot_len ?_)⟩
  refine callWith_builtin1 (args_cons (Call_ (ld_blt I gs ms boot_set ?_)) rfl) rfl rfl
  refine callWith_type1 (args_cons (thn (ha.run pins s σ H _ I h) fun v s1 got => args_nil ?_) na) na rfl
  obtain ⟨x, H1, I1, r1, l, ns, rfl, hq, few, q1⟩ := got
  cases r1
  obtain ⟨its, r, pl, _⟩ := I1.list hq
  have many : its.toArray.size = ns.length := by rw [List.size_toArray, ← r.length, List.length_map]
  have le := firstMet_length_le (fun i => ns.getD i 0) ns.length
  refine call_set_list (I1.ok.hd calm) pl.isList (ns := ns) (by simpa using r.ints) (by unfold scanBound; omega) fun h' tk made kept => ?_
  rw [many] at made
  obtain ⟨o, es, ep, t, ho, hex, hd, _, _, _, hf, hn⟩ := made
  have I2 : Inv X pins σ H1 { s1 with heap := h', toks := tk } := I1.kept fun b o e => kept b o (Heap.lt_size e) e
  exact args_nil (call_len_set ho hex hd hf (by rw [hn] <;> omega) ⟨.int (metN ns), H1, I2.tok _, ⟨_, by rw [hn] <;> rfl⟩, q1⟩)
/-! ### the code's order is the rows' order -/
theorem lex_code {B : Int} : ∀ {a b : List Int}, a.length = b.length → TS.Bd B a → TS.Bd B b → HT.lexLt a b = true → TS.code B a < TS.code B b
  | [], [], _, _, _, h => nomatch h
  | [], _ :: _, l, _, _, _ => nomatch l
  | _ :: _, [], l, _, _, _ => nomatch l
  | x :: r, y :: q, l, h1, h2, h => by
    have l' : r.length = q.length := by simpa using l
    rw [HT.lexLt_cons] at h
    by_cases e : x = y
    · rw [if_pos e] at h
      subst e
      exact (TS.code_same l').mpr (lex_code l' h1.tail h2.tail h)
    · rw [if_neg e] at h
      exact TS.code_lt l' h1.tail h2.tail (of_decide_eq_true h)
theorem code_asc {B : Int} {a b : List Int} (l : a.length = b.length) (h1 : TS.Bd B a) (h2 : TS.Bd B b) (h : TS.code B a ≤ TS.code B b) : AscT.lexB a b = true := by
  unfold AscT.lexB
  by_cases e : a = b
  · rw [decide_eq_true e, Bool.or_true]
  · cases z : HT.lexLt a b with
    | true => rfl
    | false =>
      have := lex_code l.symm h2 h1 (lex_ne e z)
      omega
theorem bd_bits {ns : List Int} (h : bitsB ns = true) : TS.Bd 2 ns := fun m hm => by
  have := List.all_eq_true.mp h m hm
  simp only [Bool.or_eq_true, decide_eq_true_eq] at this
  omega
/-- ascending without repeats is strictly ascending -/
theorem asc_strict : ∀ {ms : List (List Int)}, AscT ms → ms.Nodup → ascR ms = true
  | [], _, _ => rfl
  | [_], _, _ => rfl
  | a :: b :: r, h, nd => by
    have h1 := List.pairwise_cons.mp h
    have n1 := List.nodup_cons.mp nd
    have ih := asc_strict (ms := b :: r) h1.2 n1.2
    have ab := h1.1 b List.mem_cons_self
    have ne : a ≠ b := fun e => n1.1 (by rw [e]; exact List.mem_cons_self)
    unfold AscT.lexB at ab
    rw [decide_eq_false ne, Bool.or_false] at ab
    unfold ascR at ih ⊢
    show (HT.lexLt a b :: ((b :: r).zip r).map fun p => HT.lexLt p.1 p.2).all id = true
    rw [List.all_cons, show ((b :: r).zip r) = ((b :: r).zip (b :: r).tail) from rfl, ih]
    show (HT.lexLt a b && true) = true
    rw [ab]
    rfl
end Ow

set_option Elab.async false
set_option linter.all false
set_option maxRecDepth 100000
set_option maxHeartbeats 4000000
set_option exponentiation.threshold 3000
namespace Ow
open PySem PySem.Spec PyProof.Rows L2
theorem scInit : FnScope ["self", "issues", "rows"] ["self", "issues", "rows"] (defScope dInit) := ⟨rfl, rfl, rfl, by decide +kernel, rfl, by decide +kernel, by decide +kernel⟩
theorem scPI : FnScope ["self"] ["self"] (defScope dPIssues) := ⟨rfl, rfl, rfl, by decide +kernel, rfl, by decide +kernel, by decide +kernel⟩
theorem scPR : FnScope ["self"] ["self"] (defScope dPRows) := ⟨rfl, rfl, rfl, by decide +kernel, rfl, by decide +kernel, by decide +kernel⟩
theorem scLen : FnScope ["self"] ["self"] (defScope dLen) := ⟨rfl, rfl, rfl, by decide +kernel, rfl, by decide +kernel, by decide +kernel⟩
def RightR (m : Nat) (rs : List (List Int)) : Prop := RowsOk m rs ∧ ascR rs = true ∧ (∀ k < m, bothB rs k = true) ∧ rs.length ≤ 4000 ∧ m ≤ 60
theorem bits_small {ns : List Int} (h : bitsB ns = true) : ∀ n ∈ ns, n.natAbs < 2 ^ 400 := fun n hn => by
  have := List.all_eq_true.mp h n hn
  rw [Bool.or_eq_true, decide_eq_true_iff, decide_eq_true_iff] at this
  have b : (1 : Nat) < 2 ^ 400 := by decide +kernel
  omega
/-- an agenda, made -/
def agF (t u : Addr) : List (Str × V) := [("_issues", .ref t), ("_rows", .ref u)]
def AgAt (C : Addr) (H : Hp) (a : Addr) (zs : List Str) (rs : List (List Int)) : Prop := ∃ dx t u, H a = some (.ins C dx (agF t u)) ∧ Rd H t (.tup (zs.map V.str)) ∧ IsRows H (.ref u) rs
theorem AgAt.tk {C : Addr} {H H' : Hp} {a : Addr} {zs : List Str} {rs : List (List Int)} (t : Tk H H') (h : AgAt C H a zs rs) : AgAt C H' a zs rs := by
  obtain ⟨dx, t0, u, h1, h2, h3⟩ := h
  exact ⟨dx, t0, u, t _ _ (fun _ z => nomatch z) h1, h2.tkT t, h3.tk t⟩
structure AgC (K : PySem.W.Frag) (C : Addr) : Prop where
  cl : Cls K C
  nI : NoAttr K C "_issues"
  nR : NoAttr K C "_rows"
theorem all_true {ys : List V} {n : Nat} (hlen : ys.length = n) (hq : ∀ (i : Nat) y, ys[i]? = some y → y = .bl true) : ys = (List.replicate n true).map V.bl :=
  list_eq (f := V.bl) hlen (by rw [List.length_replicate]) fun i y hy => by
    have hi : i < n := by have := (List.getElem?_eq_some_iff.mp hy).1; omega
    exact ⟨true, by rw [List.getElem?_replicate, if_pos hi], hq i y hy⟩
theorem all_rep' (n : Nat) : (List.replicate n true).all id = true := by
  rw [List.all_eq_true]
  intro x hx
  exact (List.mem_replicate.mp hx).2
section
variable {P : Program} {w : World} {K : PySem.W.Frag} {mg : Str → Option Value} {base : Heap} {C : Addr}
def spAreR : Sp := fun vs H Q _ => ∃ (a : Addr) (m : Nat) (rs : List (List Int)), vs = [.ref a, .int m] ∧ IsRows H (.ref a) rs ∧ RightR m rs ∧ ∀ H', Same H H' → Q (.bl true) H'
theorem ok_arerows {f fV fA fB : Addr} {fd fdV fdA fdB : FuncData} (F : Fun K "_are_rows" "_are_rows" dAreRows f fd)
    (FV : FnOk P w K mg base CX0 4 fV fdV ["value", "many"] spHV) (kV : PySem.W.keepIn K (.ref fV) = true) (bV : Binds K fdV ["value", "many"] []) (gV : mg "has_values" = some (.ref fV))
    (FA : FnOk P w K mg base CX0 1 fA fdA ["items"] spAscR) (kA : PySem.W.keepIn K (.ref fA) = true) (bA : Binds K fdA ["items"] []) (gA : mg "is_ascending" = some (.ref fA))
    (FB : FnOk P w K mg base CX0 1 fB fdB ["rows", "at"] spBoth) (kB : PySem.W.keepIn K (.ref fB) = true) (bB : Binds K fdB ["rows", "at"] []) (gB : mg "_has_both" = some (.ref fB))
    (mi : mg "isinstance" = none) (mt : mg "tuple" = none) (ma : mg "all" = none) (mr : mg "range" = none) : FnOk P w K mg base CX0 5 f fd ["value", "many"] spAreR := by
  refine F.ok scAreRows (fun vs H Q E h => ?_) (fun cdv A outer s H vs Q E hr h => ?_)
  · obtain ⟨a, m, rs, rfl, _⟩ := h
    rfl
  obtain ⟨a, m, rs, rfl, hR, ⟨ok, asc, both, hl, hm⟩, q⟩ := h
  obtain ⟨t, xs, et, ht, hx⟩ := id hR
  cases et
  have lx := hx.len
  refine ⟨_, pss_cons (ps_if (PW.pt (pw_or (pt_not (pt_val (pe_isi (T := "tuple") (by rfl) mi (pv 0) (by rfl) mt boot_tup)))
      (pw_or1 (pt_not (pt_val (pe_callB (cr_all rfl) (by rfl) ma boot_all (pa_cons
        (pe_lc (te := tCall spHV [] E0 (tCons (tVar 2) (tCons (tVar 1) tNil))) (own := [("row", 2)]) (g := gName 2) (tt := tYes) rfl scAreRows.nd (pi_tup (pv 0)) (blkOk_by (N := ["value", "many", "row", "at"]) (sc := defScope dAreRows) (by decide +kernel))
          (fun _ _ _ _ _ => pg_name (i := 2) scAreRows.nd rfl (Or.inl rfl)) (fun _ _ _ _ _ => pts_nil)
          (fun _ _ _ _ _ => pe_call FV hr (by rfl) gV kV bV .nil pass0 (pa_cons (pv 2) (pa_cons (pv 1) pa_nil)))) pa_nil))))))) (pss_one ps_never) pss_nil)
    (pss_one (ps_ret (pe_and (pe_call FA (hr.mono (by decide)) (by rfl) gA kA bA .nil pass0 (pa_cons (pv 0) pa_nil))
      (pe_one (pe_callB (cr_all rfl) (by rfl) ma boot_all (pa_cons
        (pe_lc (te := tCall spBoth [] E0 (tCons (tVar 0) (tCons (tVar 3) tNil))) (own := [("at", 3)]) (g := gName 3) (tt := tYes) rfl scAreRows.nd (pi_range1 (by rfl) mr (pa_cons (pv 1) pa_nil)) (blkOk_by (N := ["value", "many", "row", "at"]) (sc := defScope dAreRows) (by decide +kernel))
          (fun _ _ _ _ _ => pg_name (i := 3) scAreRows.nd rfl (Or.inl rfl)) (fun _ _ _ _ _ => pts_nil)
          (fun _ _ _ _ _ => pe_call FB (hr.mono (by decide)) (by rfl) gB kB bB .nil pass0 (pa_cons (pv 0) (pa_cons (pv 3) pa_nil)))) pa_nil)))))), ?_⟩
  refine isi_at "tuple" rfl (.base (.tup ht)) (b := true) (by decide +kernel) ⟨true, rfl, iteF ?_⟩
  refine ⟨.ref a, rfl, a, rfl, ⟨_, .of ht⟩, fun D nD => ?_⟩
  refine lc_map (M := No) (walk_tup (K := K) (a := a) (xs := xs)) (by omega) Jg.no nD (fun i _ y => y = .bl true) (fun _ _ _ _ _ h => h) (fun Hx g _ => .of (g.toSame _ _ ht))
    (fun i x Hx Hx' Kk hi g _ hY hK => ?_) (fun Hx ys g _ eD hlen hq => ?_)
  · obtain ⟨rfl, hxi⟩ := hY
    obtain ⟨r, hr', b, rfl, hb⟩ := hx.get hxi
    obtain ⟨b1, b2⟩ := ok r (List.mem_of_getElem? hr')
    refine ⟨rfl, .ref b, rfl, .int m, rfl, b, r, m, rfl, g.toSame _ _ hb, by omega, bits_small b1, fun H2 s2 => hK _ _ (Gw.same s2) Jg.no ?_⟩
    rw [b1, b2, decide_eq_true rfl]
    rfl
  have sx := g.toSame
  rw [all_true hlen hq] at eD
  refine ⟨D, _, rfl, .of eD, true, by rw [all_rep'], iteF ?_⟩
  have hR1 := hR.tk (Tk.same sx)
  refine ⟨.ref a, rfl, a, rs, rfl, hR1, hl, fun H2 s2 => ⟨true, by rw [asc], iteT ?_⟩⟩
  have hR2 := hR1.tk (Tk.same s2)
  refine ⟨.int m, rfl, m, rfl, by omega, by omega, fun D2 nD2 => ?_⟩
  refine lc_map (M := No) (walk_range (lo := 0) (n := m)) (by omega) Jg.no nD2 (fun i _ y => y = .bl true) (fun _ _ _ _ _ h => h) (fun Hx g _ => trivial)
    (fun i x Hy Hy' Kk hi g _ hY hK => ?_) (fun Hy zs g2 _ eD2 hlen2 hq2 => ?_)
  · obtain ⟨e1, e2⟩ := hY
    subst e1 e2
    refine ⟨rfl, .ref a, rfl, .int (0 + (i : Int)), rfl, a, rs, m, i, by rw [Int.zero_add]; rfl, hR2.tk (Tk.same g.toSame), ok, hi, hl, fun H3 s3 => hK _ _ (Gw.same s3) Jg.no ?_⟩
    rw [both i hi]
  · rw [all_true hlen2 hq2] at eD2
    refine ⟨D2, _, rfl, .of eD2, ?_⟩
    rw [all_rep']
    exact q _ (sx.trans (s2.trans g2.toSame))
/-- Agenda.__init__, for right ones -/
def spInit (C : Addr) : Sp := fun vs H Q _ => ∃ (a dx t u : Addr) (zs : List Str) (rs : List (List Int)), vs = [.ref a, .ref t, .ref u] ∧ H a = some (.ins C dx []) ∧ Rd H t (.tup (zs.map V.str)) ∧ IsRows H (.ref u) rs ∧ zs.length ≤ 60 ∧ Plain zs ∧ issuesB zs = true ∧ RightR zs.length rs ∧
  ∀ H', Sb a H H' → AgAt C H' a zs rs → Q .non H'
theorem ok_init {f fI fA : Addr} {fd fdI fdA : FuncData} (R : AgC K C) (F : Fun K "__init__" "Agenda.__init__" dInit f fd)
    (FI : FnOk P w K mg base CX0 3 fI fdI ["value"] (spTexts issuesB)) (kI : PySem.W.keepIn K (.ref fI) = true) (bI : Binds K fdI ["value"] []) (gI : mg "is_issues" = some (.ref fI))
    (FA : FnOk P w K mg base CX0 5 fA fdA ["value", "many"] spAreR) (kA : PySem.W.keepIn K (.ref fA) = true) (bA : Binds K fdA ["value", "many"] []) (gA : mg "_are_rows" = some (.ref fA)) (ml : mg "len" = none) : FnOk P w K mg base CX0 6 f fd ["self", "issues", "rows"] (spInit C) := by
  refine F.ok scInit (fun vs H Q E h => ?_) (fun cdv A outer s H vs Q E hr h => ?_)
  · obtain ⟨a, dx, t, u, zs, rs, rfl, _⟩ := h
    rfl
  obtain ⟨a, dx, t, u, zs, rs, rfl, ha, ht, hu, hl, hp, hi, ok, q⟩ := h
  refine ⟨_, pss_cons (ps_if (pt_not (pt_val (pe_call FI (hr.mono (by decide)) (by rfl) gI kI bI .nil pass0 (pa_cons (pv 1) pa_nil)))) (pss_one ps_never) pss_nil)
    (pss_cons (ps_if (pt_not (pt_val (pe_call FA (hr.mono (by decide)) (by rfl) gA kA bA .nil pass0 (pa_cons (pv 2) (pa_cons (pe_callB call_len_seq (by rfl) ml PySem.boot_len (pa_cons (pv 1) pa_nil)) pa_nil))))) (pss_one ps_never) pss_nil)
    (pss_cons (ps_fld (pv 0) (pv 1) rfl) (pss_one (ps_fld (pv 0) (pv 2) rfl)))), ?_⟩
  refine ⟨.ref t, rfl, t, zs, rfl, ht, hl, hp, fun H1 s1 => ⟨true, by rw [hi], iteF ?_⟩⟩
  refine ⟨.ref u, rfl, .ref t, rfl, t, _, rfl, .inr (.inl (ht.same s1)), u, zs.length, rs, by rw [List.length_map]; rfl, hu.tk (Tk.same s1), ok, fun H2 s2 => ⟨true, rfl, iteF ?_⟩⟩
  have s12 := s1.trans s2
  have ha2 := s12 _ _ ha
  refine ⟨.ref t, rfl, .ref a, rfl, a, C, dx, [], rfl, ha2, R.cl, R.nI, (by decide), ?_⟩
  have e1 : upd H2 a (.ins C dx (putF "_issues" (.ref t) [])) a = some (.ins C dx [("_issues", .ref t)]) := upd_same
  refine ⟨.ref u, rfl, .ref a, rfl, a, C, dx, [("_issues", .ref t)], rfl, e1, R.cl, R.nR, (by show 1 < 1000; decide), ?_⟩
  have pf : putF "_rows" (.ref u) [("_issues", V.ref t)] = agF t u := by
    unfold putF
    rw [if_neg (by decide)]
    rfl
  rw [pf]
  have sb : Sb a H (upd (upd H2 a (.ins C dx (putF "_issues" (.ref t) []))) a (.ins C dx (agF t u))) := (Sb.same s12).trans (Sb.at.trans Sb.at)
  refine q _ sb ⟨dx, t, u, upd_same, ht.elim (fun e => .inl (sb _ _ (ne_of e ha (by intro z; cases z)) e)) fun ⟨o, e⟩ => .inr ⟨o, sb _ _ (ne_of e ha (by intro z; cases z)) e⟩, ?_⟩
  obtain ⟨u', xs, eu, hu', hx⟩ := hu
  cases eu
  exact ⟨u, xs, rfl, sb _ _ (ne_of hu' ha (by intro z; cases z)) hu', hx.imp fun x r ⟨b, e, hb⟩ => ⟨b, e, sb _ _ (ne_of hb ha (by intro z; cases z)) hb⟩⟩
theorem ok_pissues {f : Addr} {fd : FuncData} (R : AgC K C) (F : Fun K "issues" "Agenda.issues" dPIssues f fd) : FnOk P w K mg base CX0 1 f fd ["self"] (getSp C "_issues") := by
  refine F.ok scPI (fun vs H Q E h => ?_) (fun cdv A outer s H vs Q E hr h => ?_)
  · obtain ⟨a, dx, fs, v, rfl, _⟩ := h
    rfl
  obtain ⟨a, dx, fs, v, rfl, ea, l, q⟩ := h
  refine ⟨_, pss_one (ps_ret (pe_fld (pv 0) rfl)), ?_⟩
  exact ⟨.ref a, rfl, a, C, dx, fs, v, rfl, ea, R.cl, R.nI, l, q⟩
theorem ok_prows {f : Addr} {fd : FuncData} (R : AgC K C) (F : Fun K "rows" "Agenda.rows" dPRows f fd) : FnOk P w K mg base CX0 1 f fd ["self"] (getSp C "_rows") := by
  refine F.ok scPR (fun vs H Q E h => ?_) (fun cdv A outer s H vs Q E hr h => ?_)
  · obtain ⟨a, dx, fs, v, rfl, _⟩ := h
    rfl
  obtain ⟨a, dx, fs, v, rfl, ea, l, q⟩ := h
  refine ⟨_, pss_one (ps_ret (pe_fld (pv 0) rfl)), ?_⟩
  exact ⟨.ref a, rfl, a, C, dx, fs, v, rfl, ea, R.cl, R.nR, l, q⟩
def spLen (C : Addr) : Sp := fun vs H Q _ => ∃ (a : Addr) (zs : List Str) (rs : List (List Int)), vs = [.ref a] ∧ AgAt C H a zs rs ∧ Q (.int rs.length) H
theorem ok_len {f : Addr} {fd : FuncData} (R : AgC K C) (F : Fun K "__len__" "Agenda.__len__" dLen f fd) (ml : mg "len" = none) : FnOk P w K mg base CX0 1 f fd ["self"] (spLen C) := by
  refine F.ok scLen (fun vs H Q E h => ?_) (fun cdv A outer s H vs Q E hr h => ?_)
  · obtain ⟨a, zs, rs, rfl, _⟩ := h
    rfl
  obtain ⟨a, zs, rs, rfl, ⟨dx, t, u, ha, ht, ⟨u', xs, eu, hu, hx⟩⟩, q⟩ := h
  cases eu
  refine ⟨_, pss_one (ps_ret (pe_callB call_len_seq (by rfl) ml PySem.boot_len (pa_cons (pe_fld (pv 0) rfl) pa_nil))), ?_⟩
  refine ⟨.ref a, rfl, a, C, dx, _, .ref u, rfl, ha, R.cl, R.nR, rfl, u, _, rfl, .inr (.of hu), ?_⟩
  rw [hx.len]
  exact q
end
end Ow

set_option Elab.async false
set_option linter.all false
set_option maxRecDepth 100000
set_option maxHeartbeats 4000000
/-! sum, max, min, sorted of a tuple of ints -/
namespace TM
open PySem PySem.Spec PyProof.Rows
section
variable {prog : Program} {w : World} {A : Around} {E : Value → Shared → Prop} {s : Shared} {l : Addr} {its : List Value} {ns : List Int}
/-- the walk over a tuple's items -/
theorem walkT {Q : Value → Shared → Prop} {items : Array Value} (hh : A.handled = none) (hl : s.heap.IsTuple l items)
    (h : ∀ (I : Addr) (s2 : Shared), I = s.heap.objs.size → s2 = { s with heap := s.heap.push { cls := .type "tuple_iterator", data := .fields #[.ref l, .int 0 0] } } → Walks prog w A I [I, l] [I] items.size (fun i v => items[i]? = some v) (fun i h => h.IsTupleIter I l i ∧ h.IsTuple l items) →
      (s2.heap.IsTupleIter I l 0 ∧ s2.heap.IsTuple l items) → (∀ b ∈ [I, l], b < s2.heap.objs.size) → (∀ h' : Heap, (∀ b o, b ∉ [I] → s2.heap.get? b = some o → h'.get? b = some o) → ∀ b o, s.heap.get? b = some o → h'.get? b = some o) → Q (.ref I) s2) :
    wpAny (model prog w) A (pyIter (.ref l)) Q E s := by
  have low : l < s.heap.objs.size := by
    obtain ⟨_, e, _⟩ := hl
    exact Heap.lt_size e
  refine wpAny_pyIter_tuple hl (h _ _ rfl rfl (Walks.tuple hh _ l (Nat.ne_of_lt low) items) ⟨⟨_, Heap.get?_push_size _ rfl, rfl, rfl⟩, hl.push _⟩ (fun b hb => ?_) fun h' k b o e => ?_)
  · show b < (s.heap.push _).objs.size
    rw [Heap.size_push]
    simp only [List.mem_cons, List.not_mem_nil, or_false] at hb
    rcases hb with e | e
    · rw [e]
      exact Nat.lt_succ_self _
    · rw [e]
      exact Nat.lt_succ_of_lt low
  · refine k b o (fun hm => ?_) (Heap.get?_push_of_some _ e)
    rw [List.mem_singleton] at hm
    rw [hm] at e
    exact Nat.lt_irrefl _ (Heap.lt_size e)
theorem sumT (hh : A.handled = none) (hl : s.heap.IsTuple l its.toArray) (hi : IntsAre its ns) {Q : Value → Shared → Prop}
    (h : ∀ h' tk t', (∀ b o, s.heap.get? b = some o → h'.get? b = some o) → Q (.int ns.sum t') { s with heap := h', toks := tk }) : wpAny (model prog w) A (call (.builtin "sum") [.ref l]) Q E s := by
  obtain ⟨xs, e⟩ := hi.allInts.items
  have hn : numsOf (intItems xs).toList = ns := by rw [← e]; exact hi.numsOf
  rw [nums_intItems] at hn
  rw [e] at hl
  refine call_sum_walkG (walkT (A := A.in1) hh hl fun I s2 _ e2 W st hf kp => ?_)
  subst e2
  refine ⟨I, _, _, _, _, _, numAt xs, rfl, W, st, hf, fun _ _ => intItems_at, fun h' tk t' k => ?_⟩
  have sz : (intItems xs).size = xs.size := by unfold intItems; rw [Array.size_map]
  have z := h h' tk t' (kp h' k)
  rw [sz, preSum_eq, List.take_of_length_le (by simp), hn]
  exact z
theorem maxT (hh : A.handled = none) (hl : s.heap.IsTuple l its.toArray) (hi : IntsAre its ns) (hne : 0 < ns.length) {Q : Value → Shared → Prop}
    (h : ∀ h' tk M t', (∀ b o, s.heap.get? b = some o → h'.get? b = some o) → M ∈ ns → (∀ a, a ∈ ns → a ≤ M) → Q (.int M t') { s with heap := h', toks := tk }) : wpAny (model prog w) A (call (.builtin "max") [.ref l]) Q E s := by
  obtain ⟨xs, e⟩ := hi.allInts.items
  have hn : numsOf (intItems xs).toList = ns := by rw [← e]; exact hi.numsOf
  rw [nums_intItems] at hn
  subst hn
  rw [e] at hl
  have sz : (intItems xs).size = xs.size := by unfold intItems; rw [Array.size_map]
  have hsz : 0 < (intItems xs).size := by rw [sz]; simpa using hne
  refine call_max_walk (walkT (A := A.in1) hh hl fun I s2 _ e2 W st hf kp => ?_)
  subst e2
  refine ⟨I, _, _, _, _, _, _, rfl, W, st, hf, hsz, CmpOf.ints_gt (numAt xs) fun _ _ => intItems_at, fun v h' tk hv k => ?_⟩
  obtain ⟨t, rfl⟩ := intItems_at hv
  obtain ⟨h1, h2⟩ := argBest_gt (numAt xs) ((intItems xs).size - 1)
  refine h h' tk _ t (kp h' k) ?_ fun a ha => ?_
  · rw [numAt_eq]; exact PySem.getD_mem (by rw [List.length_map, Array.length_toList]; omega)
  · obtain ⟨j, hj, rfl⟩ := mem_getD ha
    rw [List.length_map, Array.length_toList] at hj
    rw [← numAt_eq]; exact h2 j (by omega)
theorem minT (hh : A.handled = none) (hl : s.heap.IsTuple l its.toArray) (hi : IntsAre its ns) (hne : 0 < ns.length) {Q : Value → Shared → Prop}
    (h : ∀ h' tk M t', (∀ b o, s.heap.get? b = some o → h'.get? b = some o) → M ∈ ns → (∀ a, a ∈ ns → M ≤ a) → Q (.int M t') { s with heap := h', toks := tk }) : wpAny (model prog w) A (call (.builtin "min") [.ref l]) Q E s := by
  obtain ⟨xs, e⟩ := hi.allInts.items
  have hn : numsOf (intItems xs).toList = ns := by rw [← e]; exact hi.numsOf
  rw [nums_intItems] at hn
  subst hn
  rw [e] at hl
  have sz : (intItems xs).size = xs.size := by unfold intItems; rw [Array.size_map]
  have hsz : 0 < (intItems xs).size := by rw [sz]; simpa using hne
  refine call_min_walk (walkT (A := A.in1) hh hl fun I s2 _ e2 W st hf kp => ?_)
  subst e2
  refine ⟨I, _, _, _, _, _, _, rfl, W, st, hf, hsz, CmpOf.ints_lt (numAt xs) fun _ _ => intItems_at, fun v h' tk hv k => ?_⟩
  obtain ⟨t, rfl⟩ := intItems_at hv
  obtain ⟨h1, h2⟩ := argBest_lt (numAt xs) ((intItems xs).size - 1)
  refine h h' tk _ t (kp h' k) ?_ fun a ha => ?_
  · rw [numAt_eq]; exact PySem.getD_mem (by rw [List.length_map, Array.length_toList]; omega)
  · obtain ⟨j, hj, rfl⟩ := mem_getD ha
    rw [List.length_map, Array.length_toList] at hj
    rw [← numAt_eq]; exact h2 j (by omega)
end
end TM
namespace Ow
open PySem PySem.Spec PyProof.Rows L2
def rSumT (K : PySem.W.Frag) : List V → Hp → VK → Prop := fun vs H Q => ∃ (a : Addr) (ns : List Int), vs = [V.ref a] ∧ SqT K H a (ns.map V.int) ∧ Q (.int ns.sum) H
def rMaxT (K : PySem.W.Frag) : List V → Hp → VK → Prop := fun vs H Q => ∃ (a : Addr) (ns : List Int), vs = [V.ref a] ∧ SqT K H a (ns.map V.int) ∧ 0 < ns.length ∧ ∀ m, m ∈ ns → (∀ y, y ∈ ns → y ≤ m) → Q (.int m) H
def rMinT (K : PySem.W.Frag) : List V → Hp → VK → Prop := fun vs H Q => ∃ (a : Addr) (ns : List Int), vs = [V.ref a] ∧ SqT K H a (ns.map V.int) ∧ 0 < ns.length ∧ ∀ m, m ∈ ns → (∀ y, y ∈ ns → m ≤ y) → Q (.int m) H
def rSortTI (K : PySem.W.Frag) : List V → Hp → VK → Prop := fun vs H Q => ∃ (a : Addr) (ns : List Int), vs = [V.ref a] ∧ SqT K H a (ns.map V.int) ∧ ns.length < 64 ∧
  ∀ (ms : List Int) (p : Addr), ms.Perm ns → ms.Pairwise (· ≤ ·) → H p = none → Q (.ref p) (upd H p (.lst (ms.map V.int)))
section
variable {X : Cx}
theorem cr_sumT (hc : X.calm = true) : CallR X (.builtin "sum") (rSumT X.K) := by
  intro pins s σ H vs us Q I r h
  obtain ⟨a, ns, rfl, hs, q⟩ := h
  obtain ⟨its, rv, hl, _⟩ := I.tuple hs
  rw [Vals.ref1 r]
  exact TM.sumT (I.ok.hd hc) hl rv.ints fun h' tk t' hk => ⟨.int _, H, I.kept hk, ⟨_, rfl⟩, q⟩
theorem cr_maxT (hc : X.calm = true) : CallR X (.builtin "max") (rMaxT X.K) := by
  intro pins s σ H vs us Q I r h
  obtain ⟨a, ns, rfl, hs, hne, q⟩ := h
  obtain ⟨its, rv, hl, _⟩ := I.tuple hs
  rw [Vals.ref1 r]
  exact TM.maxT (I.ok.hd hc) hl rv.ints hne fun h' tk m t' hk h1 h2 => ⟨.int _, H, I.kept hk, ⟨_, rfl⟩, q m h1 h2⟩
theorem cr_minT (hc : X.calm = true) : CallR X (.builtin "min") (rMinT X.K) := by
  intro pins s σ H vs us Q I r h
  obtain ⟨a, ns, rfl, hs, hne, q⟩ := h
  obtain ⟨its, rv, hl, _⟩ := I.tuple hs
  rw [Vals.ref1 r]
  exact TM.minT (I.ok.hd hc) hl rv.ints hne fun h' tk m t' hk h1 h2 => ⟨.int _, H, I.kept hk, ⟨_, rfl⟩, q m h1 h2⟩
theorem cr_sortTI : CallR X (.builtin "sorted") (rSortTI X.K) := by
  intro pins s σ H vs us Q I r got
  obtain ⟨a, ns, rfl, hq, few, q⟩ := got
  rw [Vals.ref1 r]
  obtain ⟨its, rv, pl, hz⟩ := I.tuple hq
  have num : IntsAre its ns := rv.ints
  have many : its.length = ns.length := by rw [← rv.length, List.length_map]
  obtain ⟨o, ho, hc, n, hd⟩ := pl
  refine Calls.call_function_entry PyProof.Rows.kind_sorted PyProof.Rows.plain_sorted PyProof.Rows.entry_sorted (PyProof.Rows.args_sorted1 _) ?_
  unfold Builtin.«sorted»
  refine wpAny_bind (m := checkCount "sorted" 1 1 _) (wpAny_pure ?_)
  refine wpAny_bind (wpAny_collect_seq a (.inr rfl) ho hc hd (fun h' kept => ?_) (by rw [List.size_toArray, many, sizeLine_eq]; omega))
  have I1 : Inv X pins σ H { s with heap := h' } := I.kept (t' := s.toks) kept
  rw [List.toList_toArray]
  refine wpAny_bind (wpAny_newList ?_ (by rw [many, sizeLine_eq]; omega))
  have hoL : (h'.push (seqObj "list" its.toArray 0)).get? h'.objs.size = some (seqObj "list" its.toArray 0) := Heap.get?_push_size _ rfl
  refine wpAny_bind (wpAny_holding (wpAny_call_entry PyProof.Rows.slot_list_sort ⟨_, hoL, rfl⟩ PyProof.Rows.entry_list_sort
    (list_sort_tree (s := { s with heap := h'.push (seqObj "list" its.toArray 0) }) hoL num (by rw [many]; exact few) fun out ms g1 g2 g3 => ⟨_, rfl, ?_⟩)
    (PyProof.Rows.args_list_sort _)))
  obtain ⟨e', he'⟩ := PyProof.Rows.sortedHeap_at (vs := its) (out := out) hoL
  have room : (ms.map V.int).length ≤ sizeLine := by
    rw [List.length_map, g2.length_eq]
    exact Nat.le_trans (Nat.le_of_lt few) (by decide)
  refine wpAny_pure ⟨_, rfl, .ref h'.objs.size, upd H h'.objs.size (.lst (ms.map V.int)), I1.laid (t' := s.toks) (fun b u e => ?_) (Nat.le_refl _)
    (show ObjOk X.prog X.w _ _ _ (.lst (ms.map V.int)) from ⟨room, out.toList, e', vals_of_ints g1, by rw [Array.toArray_toList]; exact he'⟩), rfl, q ms _ g2 g3 (I1.hok.fresh (Nat.le_refl _))⟩
  have low : b < h'.objs.size := Heap.lt_size e
  rw [PyProof.Rows.sortedHeap_old (Nat.ne_of_lt low) (by rw [size_push']; exact Nat.lt_succ_of_lt low)]
  exact Heap.get?_push_of_some _ e
end
end Ow

set_option Elab.async false
set_option linter.all false
set_option maxRecDepth 100000
set_option maxHeartbeats 4000000
namespace Ow
open PySem PySem.Spec PyProof.Rows
open Sem (wp)
/-! ### zip of any number of tuples of one length -/
/-- a source of a zip: its iterator, the tuple, its items -/
structure ZSrc where
  it : Addr
  l : Addr
  xs : Array Value
abbrev IsTupOf (h : Heap) (T : Addr) (xs : List Value) : Prop := h.get? T = some { cls := .type "tuple", data := .seq xs.toArray }
abbrev itsOf (ps : List ZSrc) : List Value := ps.map fun p => Value.ref p.it
/-- the i-th items -/
abbrev colOf (ps : List ZSrc) (i : Nat) : List Value := ps.map fun p => p.xs.getD i .none
/-- the places lie apart, all below S -/
structure ZA (z TI TO : Addr) (ps : List ZSrc) (S : Addr) : Prop where
  nd : (ps.map (·.it)).Nodup
  TIz : TI ≠ z
  TOz : TO ≠ z
  TITO : TI ≠ TO
  zi : ∀ p ∈ ps, z ≠ p.it ∧ TI ≠ p.it ∧ TO ≠ p.it
  zl : ∀ p ∈ ps, z ≠ p.l ∧ TO ≠ p.l
  il : ∀ p ∈ ps, ∀ q ∈ ps, p.it ≠ q.l
  bz : z < S
  bI : TI < S
  bO : TO < S
  bi : ∀ p ∈ ps, p.it < S
  bl : ∀ p ∈ ps, p.l < S
/-- each iterator stands ahead of turn i -/
def AtI (h : Heap) (i : Nat) (ps : List ZSrc) : Prop := ∀ p ∈ ps, h.IsTupleIter p.it p.l i ∧ h.IsTuple p.l p.xs
def NotIt (ps : List ZSrc) (c : Addr) : Prop := ∀ p ∈ ps, c ≠ p.it
theorem AtI.mono {h h' : Heap} {i : Nat} {ps : List ZSrc} (x : AtI h i ps) (k : ∀ p ∈ ps, ∀ o, (h.get? p.it = some o → h'.get? p.it = some o) ∧ (h.get? p.l = some o → h'.get? p.l = some o)) : AtI h' i ps := fun p hp => by
  obtain ⟨⟨o, e, r⟩, o2, e2, r2⟩ := x p hp
  exact ⟨⟨o, (k p hp o).1 e, r⟩, o2, (k p hp o2).2 e2, r2⟩
section
variable {prog : Program} {w : World} {A : Around} {E : Value → Shared → Prop} {s : Shared} {z TI TO T S : Addr} {ps : List ZSrc} {i N : Nat} {oT : Obj}
theorem src_draws (hh : A.handled = none) (p : ZSrc) (hne : p.l ≠ p.it) : Draws prog w A p.it [p.it, p.l] p.xs.size (fun i v => p.xs[i]? = some v) (fun i h => h.IsTupleIter p.it p.l i ∧ h.IsTuple p.l p.xs) := Draws.tuple hh p.it p.l hne p.xs
theorem updateSeq_tup {T : Addr} {x : Value} {k : Nat} {ys : List Value} {Q : Unit → Shared → Prop} (hT : IsTupOf s.heap T ys) (hl : ys.length ≤ sizeLine)
    (h : ∀ h', IsTupOf h' T (ys.set k x) → Heap.SameBut T s.heap h' → Q () { s with heap := h' }) :
    wpAny (model prog w) A (updateSeq T (·.setIfInBounds k x)) Q E s := by
  refine wpAny_updateSeq hT rfl (h _ ?_ (Heap.SameBut.update ..)) (by rw [List.size_toArray]; exact hl) (by rw [Array.size_setIfInBounds, List.size_toArray]; exact Nat.le_succ_of_le hl)
  unfold IsTupOf
  rw [Heap.get?_update_self _ hT rfl]
  simp [Obj.mapSeq]
/-- the first next: the tuple of its own is filled, a copy is handed out -/
theorem zn_first {Q : Value → Shared → Prop} (hh : A.handled = none) (S0 : ZA z TI TO ps S) (hlen : ps.length ≤ sizeLine) (hz : IsZip s.heap z TI TO .none) (hTI : IsTupOf s.heap TI (itsOf ps)) {ys0 : List Value} (hTO : IsTupOf s.heap TO ys0) (hy0 : ys0.length = ps.length)
    (st : AtI s.heap i ps) (hne : ps ≠ []) (hN : ∀ p ∈ ps, p.xs.size = N) (hlt : i < N)
    (hQ : ∀ h' tk, IsZip h' z TI TO (rawInt s.heap.objs.size) → AtI h' (i + 1) ps → IsTupOf h' s.heap.objs.size (colOf ps i) → h'.objs.size = s.heap.objs.size + 1 →
      (∀ c o, c ≠ z → c ≠ TO → NotIt ps c → s.heap.get? c = some o → h'.get? c = some o) → Q (.ref s.heap.objs.size) { s with heap := h', toks := tk }) :
    wpAny (model prog w) A (Builtin.«zip.__next__» ⟨[.ref z], []⟩) (fun fin s' => ∃ v, fin = .done (.ret v) ∧ Q v s') E s := by
  obtain ⟨hp, g, d, tk0, os⟩ := s
  show wpAny _ _ (field (.ref z) 2 >>= _) _ _ _
  refine wpAny_bind (wpAny_field hz rfl (x := .bool false) rfl ?_)
  show wpAny _ _ (field (.ref z) 3 >>= _) _ _ _
  refine wpAny_bind (wpAny_field hz rfl (x := .ref TI) rfl ?_)
  refine wpAny_bind (wpAny_seqItems hTI rfl ?_)
  have ne : ((itsOf ps).toArray).isEmpty = false := by
    cases ps with
    | nil => exact absurd rfl hne
    | cons p ps => rfl
  dsimp only
  rw [ne]
  simp only [Bool.false_eq_true, if_false]
  show wpAny _ _ (Builtin.SmallTypes.ownedTupleIsFree (.ref z) >>= _) _ _ _
  refine wpAny_bind ?_
  unfold Builtin.SmallTypes.ownedTupleIsFree
  refine wpAny_bind (wpAny_field hz rfl (x := .none) rfl (wpAny_pure ?_))
  simp only [if_true]
  refine wpAny_bind (wpAny_rule ?_)
  refine wpAny_bind (wpAny_field hz rfl (x := .ref TO) rfl ?_)
  refine wpAny_bind (wpAny_setField_rec hz (by simp) fun g0 hz0 hs0 => ?_)
  replace hz0 : IsZip g0 z TI TO .ellipsis := hz0
  replace hs0 : Heap.SameBut z hp g0 := hs0
  refine wpAny_bind ?_
  refine wpAny_forIn_list _ (fun rest b s' => b.1 = none ∧ ∃ dn rs ys g' tk', s' = ⟨g', g, d, tk', os⟩ ∧ ps = dn ++ rs ∧ rest = (itsOf rs).zipIdx dn.length ∧ AtI g' (i + 1) dn ∧ AtI g' i rs ∧ IsTupOf g' TO ys ∧ ys.length = ps.length ∧
    ys.take dn.length = colOf dn i ∧ IsZip g' z TI TO .ellipsis ∧ g'.objs.size = hp.objs.size ∧ ∀ c o, c ≠ z → c ≠ TO → NotIt ps c → hp.get? c = some o → g'.get? c = some o) _ ?turn ?fin _ _ ?start
  case start =>
    refine ⟨rfl, [], ps, ys0, g0, tk0, rfl, rfl, by simp, (fun _ h => nomatch h), ?_, hs0.extBut _ _ S0.TOz hTO, hy0, by simp, hz0, hs0.1, fun c o cz _ _ e => hs0.extBut _ _ cz e⟩
    exact st.mono fun p hp' o => ⟨fun e => hs0.extBut _ _ (S0.zi p hp').1.symm e, fun e => hs0.extBut _ _ (S0.zl p hp').1.symm e⟩
  case turn =>
    rintro ⟨iv, k⟩ rest b s' ⟨hb, dn, rs, ys, g', tk', rfl, eps, er, sd, sr, hT, hyl, hyt, hz', hsz, hk⟩
    cases rs with
    | nil => simp at er
    | cons p rs =>
      have hmem : p ∈ ps := by rw [eps]; exact List.mem_append_right _ List.mem_cons_self
      have hmd : ∀ q ∈ dn, q ∈ ps := fun q h => by rw [eps]; exact List.mem_append_left _ h
      have hmr : ∀ q ∈ rs, q ∈ ps := fun q h => by rw [eps]; exact List.mem_append_right _ (List.mem_cons_of_mem _ h)
      have nd := S0.nd
      rw [eps, List.map_append, List.map_cons] at nd
      have ndd : ∀ q ∈ dn, p.it ≠ q.it := fun q h e => (List.nodup_append.mp nd).2.2 q.it (List.mem_map.mpr ⟨q, h, rfl⟩) p.it List.mem_cons_self e.symm
      have ndr : ∀ q ∈ rs, p.it ≠ q.it := fun q h e => (List.nodup_cons.mp (List.nodup_append.mp nd).2.1).1 (List.mem_map.mpr ⟨q, h, e.symm⟩)
      rw [itsOf, List.map_cons, List.zipIdx_cons] at er
      injection er with e1 e2
      injection e1 with e3 e4
      subst e3 e4
      have D := src_draws (prog := prog) (w := w) (A := A) hh p (fun e => S0.il p hmem p hmem e.symm)
      refine wpAny_bind (wpAny_onRaise ?_)
      show wpAny _ _ (Builtin.SmallTypes.nextOf (.ref p.it) >>= _) _ _ ⟨g', g, d, tk', os⟩
      refine wpAny_bind (D.item i _ _ _ (by rw [hN p hmem]; exact hlt) (sr p List.mem_cons_self) fun x g1 tk1 hx sn hs1 => wpAny_pure ?_)
      replace hs1 : Heap.SameBut p.it g' g1 := hs1
      have hU : IsTupOf g1 TO ys := hs1.extBut _ _ (S0.zi p hmem).2.2 hT
      refine wpAny_bind (wpAny_seqItems (s := ⟨g1, g, d, tk1, os⟩) hU rfl ?_)
      refine wpAny_bind (updateSeq_tup (s := ⟨g1, g, d, tk1, os⟩) hU (by rw [hyl]; exact hlen) fun g2 hT2 hs2 => ?_)
      replace hs2 : Heap.SameBut TO g1 g2 := hs2
      refine wpAny_bind (wpAny_letGo (wpAny_pure ?_))
      have hl1 : dn.length < ys.length := by rw [hyl, eps, List.length_append, List.length_cons]; omega
      have hg : p.xs.getD i Value.none = x := by rw [Array.getD_eq_getD_getElem?, hx]; rfl
      refine ⟨rfl, dn ++ [p], rs, ys.set dn.length x, g2, tk1, rfl, by rw [eps, List.append_assoc]; rfl, by rw [e2, List.length_append]; rfl, ?_, ?_, hT2, by rw [List.length_set]; exact hyl, ?_, ?_, ?_, ?_⟩
      · intro q hq
        rcases List.mem_append.mp hq with hq | hq
        · exact (sd.mono (h' := g2) fun q hq o => ⟨fun e => hs2.extBut _ _ (S0.zi q (hmd q hq)).2.2.symm (hs1.extBut _ _ (ndd q hq).symm e), fun e => hs2.extBut _ _ (S0.zl q (hmd q hq)).2.symm (hs1.extBut _ _ (S0.il p hmem q (hmd q hq)).symm e)⟩) q hq
        · rw [List.mem_singleton.mp hq]
          exact D.over sn hs2 (by simp only [List.mem_cons, List.mem_nil_iff, or_false, not_or]; exact ⟨(S0.zi p hmem).2.2, (S0.zl p hmem).2⟩)
      · exact AtI.mono (h := g') (fun q hq => sr q (List.mem_cons_of_mem _ hq)) fun q hq o => ⟨fun e => hs2.extBut _ _ (S0.zi q (hmr q hq)).2.2.symm (hs1.extBut _ _ (ndr q hq).symm e), fun e => hs2.extBut _ _ (S0.zl q (hmr q hq)).2.symm (hs1.extBut _ _ (S0.il p hmem q (hmr q hq)).symm e)⟩
      · rw [List.length_append, List.length_singleton, colOf, List.map_append, List.map_cons, List.map_nil, hg]
        have : (ys.set dn.length x).take (dn.length + 1) = ys.take dn.length ++ [x] := by
          rw [List.take_add_one, List.take_set_of_le (Nat.le_refl _), List.getElem?_set_self hl1]
          rfl
        rw [this, hyt]
      · exact hs2.extBut _ _ S0.TOz.symm (hs1.extBut _ _ (S0.zi p hmem).1 hz')
      · rw [hs2.1, hs1.1, hsz]
      · exact fun c o cz cT ci e => hs2.extBut _ _ cT (hs1.extBut _ _ (ci p hmem) (hk c o cz cT ci e))
  case fin =>
    rintro b s' ⟨hb, dn, rs, ys, g2, tk2, rfl, eps, er, sd, sr, hT2, hyl, hyt, hzz, hsz, hkk⟩
    have ers : rs = [] := by
      cases rs with
      | nil => rfl
      | cons p rs => simp at er
    subst ers
    rw [List.append_nil] at eps
    subst eps
    rw [← hyl, List.take_length] at hyt
    subst hyt
    obtain ⟨b1, b2⟩ := b
    have hb' : b1 = none := hb
    subst hb'
    dsimp only
    refine wpAny_bind (wpAny_seqItems (s := ⟨g2, g, d, tk2, os⟩) hT2 rfl ?_)
    refine wpAny_bind (wpAny_newTuple ?_)
    have hzlt : z < g2.objs.size := Heap.lt_size hzz
    have el : (colOf ps i).toArray.toList = colOf ps i := rfl
    rw [el]
    show wpAny _ _ (Builtin.SmallTypes.ownedTupleHandOut (.ref z) (.ref g2.objs.size) >>= _) _ _ ⟨g2.push { cls := .type "tuple", data := .seq (colOf ps i).toArray }, g, d, tk2, os⟩
    refine wpAny_bind ?_
    unfold Builtin.SmallTypes.ownedTupleHandOut
    have hz₆ : IsZip (g2.push { cls := .type "tuple", data := .seq (colOf ps i).toArray }) z TI TO .ellipsis := Heap.get?_push_of_some _ hzz
    refine wpAny_bind (wpAny_setField_rec hz₆ (by simp) fun h₇ hz₇ hs₇ => ?_)
    replace hz₇ : IsZip h₇ z TI TO (rawInt g2.objs.size) := hz₇
    refine wpAny_setField_rec hz₇ (by simp) fun h₈ hz₈ hs₈ => ?_
    replace hz₈ : IsZip h₈ z TI TO (rawInt g2.objs.size) := hz₈
    replace hs₇ : Heap.SameBut z (g2.push { cls := .type "tuple", data := .seq (colOf ps i).toArray }) h₇ := hs₇
    replace hs₈ : Heap.SameBut z h₇ h₈ := hs₈
    have up : ∀ c o, c ≠ z → g2.get? c = some o → h₈.get? c = some o := fun c o c1 e => hs₈.extBut _ _ c1 (hs₇.extBut _ _ c1 (Heap.get?_push_of_some _ e))
    have hT₈ : IsTupOf h₈ g2.objs.size (colOf ps i) := hs₈.extBut _ _ (Nat.ne_of_gt hzlt) (hs₇.extBut _ _ (Nat.ne_of_gt hzlt) (Heap.get?_push_size _ rfl))
    have hz8 : h₈.objs.size = g2.objs.size + 1 := by rw [hs₈.1, hs₇.1, Heap.size_push]
    rw [hsz] at hz₈ hT₈ hz8
    refine wpAny_pure ⟨_, rfl, ?_⟩
    show Q (.ref g2.objs.size) ⟨h₈, g, d, tk2, os⟩
    rw [hsz]
    exact hQ h₈ tk2 hz₈ (sd.mono fun p hp' o => ⟨fun e => up _ _ (S0.zi p hp').1.symm e, fun e => up _ _ (S0.zl p hp').1.symm e⟩) hT₈ hz8 fun c o cz cT ci e => up c o cz (hkk c o cz cT ci e)
end
end Ow

set_option Elab.async false
set_option linter.all false
set_option maxRecDepth 100000
set_option maxHeartbeats 4000000
namespace Ow
open PySem PySem.Spec PyProof.Rows
open Sem (wp)
section
variable {prog : Program} {w : World} {A : Around} {E : Value → Shared → Prop} {s : Shared} {z TI TO T S : Addr} {ps : List ZSrc} {i N : Nat} {oT : Obj}
/-- a later next: the tuple that was handed out is still held -/
theorem zn_more {Q : Value → Shared → Prop} (hh : A.handled = none) (S0 : ZA z TI TO ps S) (hlen : ps.length ≤ sizeLine) (hz : ZipO s.heap z TI TO T) (hT : s.heap.get? T = some oT) (hTI : IsTupOf s.heap TI (itsOf ps))
    (st : AtI s.heap i ps) (hne : ps ≠ []) (hN : ∀ p ∈ ps, p.xs.size = N) (hlt : i < N)
    (hQ : ∀ h' tk, ZipO h' z TI TO T → AtI h' (i + 1) ps → IsTupOf h' s.heap.objs.size (colOf ps i) → h'.objs.size = s.heap.objs.size + 1 →
      (∀ c o, c ≠ z → NotIt ps c → s.heap.get? c = some o → h'.get? c = some o) → Q (.ref s.heap.objs.size) { s with heap := h', toks := tk }) :
    wpAny (model prog w) A (Builtin.«zip.__next__» ⟨[.ref z], []⟩) (fun fin s' => ∃ v, fin = .done (.ret v) ∧ Q v s') E s := by
  obtain ⟨hp, g, d, tk0, os⟩ := s
  obtain ⟨fl, hz0⟩ := id hz
  show wpAny _ _ (field (.ref z) 2 >>= _) _ _ _
  refine wpAny_bind (wpAny_field hz0 rfl (x := .bool false) rfl ?_)
  show wpAny _ _ (field (.ref z) 3 >>= _) _ _ _
  refine wpAny_bind (wpAny_field hz0 rfl (x := .ref TI) rfl ?_)
  refine wpAny_bind (wpAny_seqItems hTI rfl ?_)
  have ne : ((itsOf ps).toArray).isEmpty = false := by
    cases ps with
    | nil => exact absurd rfl hne
    | cons p ps => rfl
  dsimp only
  rw [ne]
  simp only [Bool.false_eq_true, if_false]
  show wpAny _ _ (Builtin.SmallTypes.ownedTupleIsFree (.ref z) >>= _) _ _ _
  refine wpAny_bind (zipO_free hz hT fun g0 hz1 hs0 => ?_)
  simp only [Bool.false_eq_true, if_false]
  have hs0' : Heap.SameBut z hp g0 := hs0
  rw [← Array.forIn_toList]
  refine wpAny_bind ?_
  refine wpAny_forIn_list _ (fun rest b s' => b.1 = none ∧ ∃ dn rs g' tk', s' = ⟨g', g, d, tk', os⟩ ∧ ps = dn ++ rs ∧ rest = itsOf rs ∧ AtI g' (i + 1) dn ∧ AtI g' i rs ∧ b.2.toList = colOf dn i ∧
    ZipO g' z TI TO T ∧ g'.objs.size = hp.objs.size ∧ ∀ c o, c ≠ z → NotIt ps c → hp.get? c = some o → g'.get? c = some o) _ ?turn ?fin _ _ ?start
  case start =>
    refine ⟨rfl, [], ps, g0, tk0, rfl, rfl, rfl, (fun _ h => nomatch h), ?_, rfl, hz1, hs0.1, fun c o cz _ e => hs0.extBut _ _ cz e⟩
    exact st.mono fun p hp' o => ⟨fun e => hs0.extBut _ _ (S0.zi p hp').1.symm e, fun e => hs0.extBut _ _ (S0.zl p hp').1.symm e⟩
  case turn =>
    rintro iv rest b s' ⟨hb, dn, rs, g', tk', rfl, eps, er, sd, sr, hbl, hz', hsz, hk⟩
    cases rs with
    | nil => simp at er
    | cons p rs =>
      have hmem : p ∈ ps := by rw [eps]; exact List.mem_append_right _ List.mem_cons_self
      have hmd : ∀ q ∈ dn, q ∈ ps := fun q h => by rw [eps]; exact List.mem_append_left _ h
      have hmr : ∀ q ∈ rs, q ∈ ps := fun q h => by rw [eps]; exact List.mem_append_right _ (List.mem_cons_of_mem _ h)
      have nd := S0.nd
      rw [eps, List.map_append, List.map_cons] at nd
      have ndd : ∀ q ∈ dn, p.it ≠ q.it := fun q h e => (List.nodup_append.mp nd).2.2 q.it (List.mem_map.mpr ⟨q, h, rfl⟩) p.it List.mem_cons_self e.symm
      have ndr : ∀ q ∈ rs, p.it ≠ q.it := fun q h e => (List.nodup_cons.mp (List.nodup_append.mp nd).2.1).1 (List.mem_map.mpr ⟨q, h, e.symm⟩)
      rw [itsOf, List.map_cons] at er
      injection er with e3 e2
      subst e3
      have D := src_draws (prog := prog) (w := w) (A := A) hh p (fun e => S0.il p hmem p hmem e.symm)
      refine wpAny_bind (wpAny_holding ?_)
      show wpAny _ _ (Builtin.SmallTypes.nextOf (.ref p.it) >>= _) _ _ ⟨g', g, d, tk', os⟩
      refine wpAny_bind (D.item i _ _ _ (by rw [hN p hmem]; exact hlt) (sr p List.mem_cons_self) fun x g1 tk1 hx sn hs1 => wpAny_pure ?_)
      replace hs1 : Heap.SameBut p.it g' g1 := hs1
      refine wpAny_pure ?_
      have hg : p.xs.getD i Value.none = x := by rw [Array.getD_eq_getD_getElem?, hx]; rfl
      refine ⟨rfl, dn ++ [p], rs, g1, tk1, rfl, by rw [eps, List.append_assoc]; rfl, e2, ?_, ?_, ?_, ?_, ?_, ?_⟩
      · intro q hq
        rcases List.mem_append.mp hq with hq | hq
        · exact (sd.mono (h' := g1) fun q hq o => ⟨fun e => hs1.extBut _ _ (ndd q hq).symm e, fun e => hs1.extBut _ _ (S0.il p hmem q (hmd q hq)).symm e⟩) q hq
        · rw [List.mem_singleton.mp hq]
          exact sn
      · exact AtI.mono (h := g') (fun q hq => sr q (List.mem_cons_of_mem _ hq)) fun q hq o => ⟨fun e => hs1.extBut _ _ (ndr q hq).symm e, fun e => hs1.extBut _ _ (S0.il p hmem q (hmr q hq)).symm e⟩
      · show (b.2.push x).toList = _
        rw [Array.toList_push, hbl, colOf, colOf, List.map_append, List.map_cons, List.map_nil, hg]
      · obtain ⟨f2, hz2⟩ := hz'
        exact ⟨f2, hs1.extBut _ _ (S0.zi p hmem).1 hz2⟩
      · rw [hs1.1, hsz]
      · exact fun c o cz ci e => hs1.extBut _ _ (ci p hmem) (hk c o cz ci e)
  case fin =>
    rintro b s' ⟨hb, dn, rs, g2, tk2, rfl, eps, er, sd, sr, hbl, hzz, hsz, hkk⟩
    have ers : rs = [] := by
      cases rs with
      | nil => rfl
      | cons p rs => simp at er
    subst ers
    rw [List.append_nil] at eps
    subst eps
    obtain ⟨b1, b2⟩ := b
    have hb' : b1 = none := hb
    subst hb'
    dsimp only
    show wpAny _ _ (newTuple b2.toList >>= _) _ _ ⟨g2, g, d, tk2, os⟩
    rw [show b2.toList = colOf ps i from hbl]
    refine wpAny_bind (wpAny_newTuple ?_ (by rw [colOf, List.length_map]; exact hlen))
    refine wpAny_pure ⟨_, rfl, ?_⟩
    have up : ∀ c o, g2.get? c = some o → (g2.push { cls := .type "tuple", data := .seq (colOf ps i).toArray }).get? c = some o := fun c o e => Heap.get?_push_of_some _ e
    obtain ⟨f2, hz2⟩ := hzz
    have hT8 : IsTupOf (g2.push { cls := .type "tuple", data := .seq (colOf ps i).toArray }) g2.objs.size (colOf ps i) := Heap.get?_push_size _ rfl
    have hz8 : (g2.push { cls := .type "tuple", data := .seq (colOf ps i).toArray }).objs.size = g2.objs.size + 1 := Heap.size_push ..
    rw [hsz] at hT8 hz8
    show Q (.ref g2.objs.size) _
    rw [hsz]
    exact hQ _ tk2 ⟨f2, up _ _ hz2⟩ (sd.mono fun p hp' o => ⟨up _ _, up _ _⟩) hT8 hz8 fun c o cz ci e => up c o (hkk c o cz ci e)
/-- no turn is left -/
theorem zn_endF {Q : Fin → Shared → Prop} (hh : A.handled = none) (S0 : ZA z TI TO ps S) (hz : IsZip s.heap z TI TO .none) (hTI : IsTupOf s.heap TI (itsOf ps)) (st : AtI s.heap N ps) (hne : ps ≠ []) (hN : ∀ p ∈ ps, p.xs.size = N)
    (hE : ∀ h' tk e, (∀ c o, c ≠ z → NotIt ps c → s.heap.get? c = some o → h'.get? c = some o) → (∃ o, h'.get? e = some o ∧ o.cls = .type "StopIteration") → E (.ref e) { s with heap := h', toks := tk }) :
    wpAny (model prog w) A (Builtin.«zip.__next__» ⟨[.ref z], []⟩) Q E s := by
  obtain ⟨hp, g, d, tk0, os⟩ := s
  show wpAny _ _ (field (.ref z) 2 >>= _) _ _ _
  refine wpAny_bind (wpAny_field hz rfl (x := .bool false) rfl ?_)
  show wpAny _ _ (field (.ref z) 3 >>= _) _ _ _
  refine wpAny_bind (wpAny_field hz rfl (x := .ref TI) rfl ?_)
  refine wpAny_bind (wpAny_seqItems hTI rfl ?_)
  cases ps with
  | nil => exact absurd rfl hne
  | cons p ps =>
    dsimp only
    rw [show ((itsOf (p :: ps)).toArray).isEmpty = false from rfl]
    simp only [Bool.false_eq_true, if_false]
    show wpAny _ _ (Builtin.SmallTypes.ownedTupleIsFree (.ref z) >>= _) _ _ _
    refine wpAny_bind ?_
    unfold Builtin.SmallTypes.ownedTupleIsFree
    refine wpAny_bind (wpAny_field hz rfl (x := .none) rfl (wpAny_pure ?_))
    simp only [if_true]
    refine wpAny_bind (wpAny_rule ?_)
    refine wpAny_bind (wpAny_field hz rfl (x := .ref TO) rfl ?_)
    refine wpAny_bind (wpAny_setField_rec hz (by simp) fun g0 hz0 hs0 => ?_)
    replace hz0 : IsZip g0 z TI TO .ellipsis := hz0
    replace hs0 : Heap.SameBut z hp g0 := hs0
    refine wpAny_bind ?_
    have hmem : p ∈ p :: ps := List.mem_cons_self
    have D := src_draws (prog := prog) (w := w) (A := A) hh p (fun e => S0.il p hmem p hmem e.symm)
    simp only [itsOf, List.map_cons, List.zipIdx_cons, List.forIn_cons]
    refine wpAny_bind (wpAny_bind (wpAny_onRaise ?_))
    show wpAny _ _ (Builtin.SmallTypes.nextOf (.ref p.it) >>= _) _ _ ⟨g0, g, d, tk0, os⟩
    have st1 := (st.mono (h' := g0) fun p hp' o => ⟨fun e => hs0.extBut _ _ (S0.zi p hp').1.symm e, fun e => hs0.extBut _ _ (S0.zl p hp').1.symm e⟩) p hmem
    refine wpAny_bind (D.done ⟨g0, g, d, tk0, os⟩ _ _ (by rw [hN p hmem]; exact st1) fun q e hq he => ?_)
    replace hq : Heap.ExtBut p.it g0 q := hq
    obtain ⟨oe, hoe, hce⟩ := he
    replace hoe : q.get? e = some oe := hoe
    have hzq : IsZip q z TI TO .ellipsis := hq _ _ (S0.zi p hmem).1 hz0
    have hez : e ≠ z := fun x => by subst x; rw [hzq] at hoe; cases hoe; simp at hce
    refine wpAny_setField_rec (s := ⟨q, g, d, tk0, os⟩) hzq (by simp) fun q' _ hq' => ?_
    replace hq' : Heap.SameBut z q q' := hq'
    exact hE q' tk0 e (fun c o cz ci x => hq'.extBut _ _ cz (hq _ _ (ci p hmem) (hs0.extBut _ _ cz x))) ⟨oe, hq'.extBut _ _ hez hoe, hce⟩
theorem zn_endM {Q : Fin → Shared → Prop} (hh : A.handled = none) (S0 : ZA z TI TO ps S) (hz : ZipO s.heap z TI TO T) (hT : s.heap.get? T = some oT) (hTI : IsTupOf s.heap TI (itsOf ps)) (st : AtI s.heap N ps) (hne : ps ≠ []) (hN : ∀ p ∈ ps, p.xs.size = N)
    (hE : ∀ h' tk e, (∀ c o, c ≠ z → NotIt ps c → s.heap.get? c = some o → h'.get? c = some o) → (∃ o, h'.get? e = some o ∧ o.cls = .type "StopIteration") → E (.ref e) { s with heap := h', toks := tk }) :
    wpAny (model prog w) A (Builtin.«zip.__next__» ⟨[.ref z], []⟩) Q E s := by
  obtain ⟨hp, g, d, tk0, os⟩ := s
  obtain ⟨fl, hz0⟩ := id hz
  show wpAny _ _ (field (.ref z) 2 >>= _) _ _ _
  refine wpAny_bind (wpAny_field hz0 rfl (x := .bool false) rfl ?_)
  show wpAny _ _ (field (.ref z) 3 >>= _) _ _ _
  refine wpAny_bind (wpAny_field hz0 rfl (x := .ref TI) rfl ?_)
  refine wpAny_bind (wpAny_seqItems hTI rfl ?_)
  cases ps with
  | nil => exact absurd rfl hne
  | cons p ps =>
    dsimp only
    rw [show ((itsOf (p :: ps)).toArray).isEmpty = false from rfl]
    simp only [Bool.false_eq_true, if_false]
    show wpAny _ _ (Builtin.SmallTypes.ownedTupleIsFree (.ref z) >>= _) _ _ _
    refine wpAny_bind (zipO_free hz hT fun g0 hz1 hs0 => ?_)
    simp only [Bool.false_eq_true, if_false]
    have hs0' : Heap.SameBut z hp g0 := hs0
    rw [← Array.forIn_toList]
    have hmem : p ∈ p :: ps := List.mem_cons_self
    have D := src_draws (prog := prog) (w := w) (A := A) hh p (fun e => S0.il p hmem p hmem e.symm)
    simp only [itsOf, List.map_cons, List.forIn_cons]
    refine wpAny_bind (wpAny_bind (wpAny_bind (wpAny_holding ?_)))
    show wpAny _ _ (Builtin.SmallTypes.nextOf (.ref p.it) >>= _) _ _ ⟨g0, g, d, tk0, os⟩
    have st1 := (st.mono (h' := g0) fun p hp' o => ⟨fun e => hs0'.extBut _ _ (S0.zi p hp').1.symm e, fun e => hs0'.extBut _ _ (S0.zl p hp').1.symm e⟩) p hmem
    refine wpAny_bind (D.done ⟨g0, g, d, tk0, os⟩ _ _ (by rw [hN p hmem]; exact st1) fun q e hq he => ?_)
    exact hE q tk0 e (fun c o cz ci x => hq _ _ (ci p hmem) (hs0'.extBut _ _ cz x)) he
/-! ### next(zip), before and behind the first item -/
def ZnS (h : Heap) (z TI TO : Addr) (ps : List ZSrc) (lo : Addr) : Prop := (IsZip h z TI TO .none ∧ ∃ ys, IsTupOf h TO ys ∧ ys.length = ps.length) ∨ ∃ T oT, ZipO h z TI TO T ∧ h.get? T = some oT ∧ lo < T
theorem znS_item {Q : Option Value → Shared → Prop} (hh : A.in1.handled = none) (S0 : ZA z TI TO ps S) (hlen : ps.length ≤ sizeLine) (hz : ZnS s.heap z TI TO ps S) (hlo : S < s.heap.objs.size) (hTI : IsTupOf s.heap TI (itsOf ps))
    (st : AtI s.heap i ps) (hne : ps ≠ []) (hN : ∀ p ∈ ps, p.xs.size = N) (hlt : i < N)
    (hQ : ∀ h' tk, ZnS h' z TI TO ps S → IsTupOf h' TI (itsOf ps) → AtI h' (i + 1) ps → IsTupOf h' s.heap.objs.size (colOf ps i) → h'.objs.size = s.heap.objs.size + 1 →
      (∀ c o, c ≠ z → c ≠ TO → NotIt ps c → s.heap.get? c = some o → h'.get? c = some o) → Q (some (.ref s.heap.objs.size)) { s with heap := h', toks := tk }) :
    wpAny (model prog w) A (pyNext (.ref z)) Q E s := by
  have nTI : NotIt ps TI := fun p hp => (S0.zi p hp).2.1
  rcases hz with ⟨hz, ys, hTO, hyl⟩ | ⟨T, oT, hz, hT, hl⟩
  · have hTy : s.TypeIs (.ref z) "zip" := ⟨_, hz, rfl⟩
    unfold pyNext
    refine wpAny_bind (wpAny_attempt (wpAny_callSpecial?_slot (name := Str.ofString "__next__") hTy PySem.F.slot_zip_next (wpAny_call_entry PySem.F.slot_zip_next hTy PySem.F.entry_zip_next
      (zn_first hh S0 hlen hz hTI hTO hyl st hne hN hlt fun h' tk hz' st' hn hsz hk => wpAny_pure ?_) (PySem.F.args_zip_next_1 _))))
    exact hQ h' tk (.inr ⟨s.heap.objs.size, _, ⟨false, hz'⟩, hn, hlo⟩) (hk _ _ S0.TIz S0.TITO nTI hTI) st' hn hsz hk
  · obtain ⟨fl, hz0⟩ := id hz
    have hTy : s.TypeIs (.ref z) "zip" := ⟨_, hz0, rfl⟩
    unfold pyNext
    refine wpAny_bind (wpAny_attempt (wpAny_callSpecial?_slot (name := Str.ofString "__next__") hTy PySem.F.slot_zip_next (wpAny_call_entry PySem.F.slot_zip_next hTy PySem.F.entry_zip_next
      (zn_more hh S0 hlen hz hT hTI st hne hN hlt fun h' tk hz' st' hn hsz hk => wpAny_pure ?_) (PySem.F.args_zip_next_1 _))))
    have nT : ∀ x, x < S → T ≠ x := fun x hx e => by rw [e] at hl; exact absurd (Nat.lt_trans hl hx) (Nat.lt_irrefl _)
    exact hQ h' tk (.inr ⟨T, oT, hz', hk T oT (nT z S0.bz) (fun p hp => nT p.it (S0.bi p hp)) hT, hl⟩) (hk _ _ S0.TIz nTI hTI) st' hn hsz fun c o cz _ ci e => hk c o cz ci e
theorem znS_end {Q : Option Value → Shared → Prop} (hh : A.in1.handled = none) (S0 : ZA z TI TO ps S) (hz : ZnS s.heap z TI TO ps S) (hTI : IsTupOf s.heap TI (itsOf ps)) (st : AtI s.heap N ps) (hne : ps ≠ []) (hN : ∀ p ∈ ps, p.xs.size = N)
    (hQ : ∀ h' tk, (∀ c o, c ≠ z → NotIt ps c → s.heap.get? c = some o → h'.get? c = some o) → Q none { s with heap := h', toks := tk }) : wpAny (model prog w) A (pyNext (.ref z)) Q E s := by
  rcases hz with ⟨hz, ys, hTO, hyl⟩ | ⟨T, oT, hz, hT, hl⟩
  · have hTy : s.TypeIs (.ref z) "zip" := ⟨_, hz, rfl⟩
    unfold pyNext
    refine wpAny_bind (wpAny_attempt (wpAny_callSpecial?_slot (name := Str.ofString "__next__") hTy PySem.F.slot_zip_next (wpAny_call_entry PySem.F.slot_zip_next hTy PySem.F.entry_zip_next
      (zn_endF hh S0 hz hTI st hne hN fun h' tk e hk he => ?_) (PySem.F.args_zip_next_1 _))))
    obtain ⟨o, ho, hc⟩ := he
    refine wpAny_bind (wpAny_isInstance (T := "StopIteration") (b := true) ⟨o, ho, hc⟩ isSubtype_stop ?_)
    exact wpAny_pure (hQ _ _ hk)
  · obtain ⟨fl, hz0⟩ := id hz
    have hTy : s.TypeIs (.ref z) "zip" := ⟨_, hz0, rfl⟩
    unfold pyNext
    refine wpAny_bind (wpAny_attempt (wpAny_callSpecial?_slot (name := Str.ofString "__next__") hTy PySem.F.slot_zip_next (wpAny_call_entry PySem.F.slot_zip_next hTy PySem.F.entry_zip_next
      (zn_endM hh S0 hz hT hTI st hne hN fun h' tk e hk he => ?_) (PySem.F.args_zip_next_1 _))))
    obtain ⟨o, ho, hc⟩ := he
    refine wpAny_bind (wpAny_isInstance (T := "StopIteration") (b := true) ⟨o, ho, hc⟩ isSubtype_stop ?_)
    exact wpAny_pure (hQ _ _ hk)
end
end Ow

set_option Elab.async false
set_option linter.all false
set_option maxRecDepth 100000
set_option maxHeartbeats 4000000
namespace Ow
open PySem PySem.Spec PyProof.Rows
open Sem (wp)
def srcs : Nat → List (Addr × Array Value) → List ZSrc
  | _, [] => []
  | n, p :: r => ⟨n, p.1, p.2⟩ :: srcs (n + 1) r
theorem srcs_app : ∀ (a : List (Addr × Array Value)) (n : Nat) (p : Addr × Array Value), srcs n (a ++ [p]) = srcs n a ++ [⟨n + a.length, p.1, p.2⟩]
  | [], n, p => rfl
  | q :: a, n, p => by
    show _ :: srcs (n + 1) (a ++ [p]) = _ :: (srcs (n + 1) a ++ _)
    rw [srcs_app a (n + 1) p, List.length_cons, Nat.add_right_comm, Nat.add_assoc n]
theorem srcs_it : ∀ {ls : List (Addr × Array Value)} {n : Nat} {p : ZSrc}, p ∈ srcs n ls → n ≤ p.it ∧ (p.it : Nat) < n + ls.length
  | [], n, p, h => nomatch h
  | q :: a, n, p, h => by
    rcases List.mem_cons.mp h with rfl | h
    · exact ⟨Nat.le_refl _, by rw [List.length_cons]; show n < _; omega⟩
    · obtain ⟨h1, h2⟩ := srcs_it h
      rw [List.length_cons]
      exact ⟨Nat.le_trans (Nat.le_succ n) h1, Nat.lt_of_lt_of_le h2 (by omega)⟩
theorem srcs_src : ∀ {ls : List (Addr × Array Value)} {n : Nat} {p : ZSrc}, p ∈ srcs n ls → (p.l, p.xs) ∈ ls
  | [], n, p, h => nomatch h
  | q :: a, n, p, h => by
    rcases List.mem_cons.mp h with rfl | h
    · exact List.mem_cons_self
    · exact List.mem_cons_of_mem _ (srcs_src h)
theorem srcs_nd : ∀ (ls : List (Addr × Array Value)) (n : Nat), ((srcs n ls).map (·.it)).Nodup
  | [], n => List.nodup_nil
  | q :: a, n => by
    refine List.nodup_cons.mpr ⟨fun h => ?_, srcs_nd a (n + 1)⟩
    obtain ⟨p, hp, e⟩ := List.mem_map.mp h
    have := (srcs_it hp).1
    have e' : n = p.it := e.symm
    rw [← e'] at this
    exact absurd this (Nat.not_succ_le_self n)
theorem srcs_len : ∀ (ls : List (Addr × Array Value)) (n : Nat), (srcs n ls).length = ls.length
  | [], n => rfl
  | q :: a, n => by rw [srcs, List.length_cons, List.length_cons, srcs_len a (n + 1)]
theorem tupIter_new {h : Heap} {l : Addr} : (h.push { cls := .type "tuple_iterator", data := .fields #[.ref l, .int 0 0] }).IsTupleIter h.objs.size l 0 := ⟨_, Heap.get?_push_size _ rfl, rfl, rfl⟩
theorem meets_zipN (ls : List (Addr × Array Value)) :
    Meets (Builtin.«zip.__new__» ⟨.type "zip" :: ls.map (fun p => .ref p.1), []⟩) (fun _ R s => (∀ p ∈ ls, s.heap.IsTuple p.1 p.2) ∧ ls.length ≤ sizeLine ∧
      ∀ h', IsZip h' (s.heap.objs.size + ls.length + 2) (s.heap.objs.size + ls.length) (s.heap.objs.size + ls.length + 1) .none → IsTupOf h' (s.heap.objs.size + ls.length) (itsOf (srcs s.heap.objs.size ls)) →
        (∃ ys, IsTupOf h' (s.heap.objs.size + ls.length + 1) ys ∧ ys.length = ls.length) → AtI h' 0 (srcs s.heap.objs.size ls) → h'.objs.size = s.heap.objs.size + ls.length + 3 → (∀ c o, s.heap.get? c = some o → h'.get? c = some o) →
        R (.ok (.ret (.ref (s.heap.objs.size + ls.length + 2)))) { s with heap := h' }) :=
  .of_wp fun prog w A R s h => by
    obtain ⟨hp, g, d, tk, os⟩ := s
    obtain ⟨hl, hn, h⟩ := h
    have hsub := sub_zip
    wp_walk using wpAny_forIn_list _ (fun rest b s' => ∃ dn rs g', s' = ⟨g', g, d, tk, os⟩ ∧ ls = dn ++ rs ∧ rest = rs.map (fun p => Value.ref p.1) ∧ b.toList = itsOf (srcs hp.objs.size dn) ∧ g'.objs.size = hp.objs.size + dn.length ∧
      AtI g' 0 (srcs hp.objs.size dn) ∧ ∀ c o, hp.get? c = some o → g'.get? c = some o) _
    case turn =>
      rintro iv rest b s' ⟨dn, rs, g', rfl, els, er, hb, hsz, hat, hk⟩
      cases rs with
      | nil => simp at er
      | cons p rs =>
        rw [List.map_cons] at er
        injection er with e1 e2
        subst e1
        have hp' := hl p (by rw [els]; exact List.mem_append_right _ List.mem_cons_self)
        obtain ⟨o, ho, hr⟩ := hp'
        have up : ∀ c o, g'.get? c = some o → (g'.push { cls := .type "tuple_iterator", data := .fields #[.ref p.1, .int 0 0] }).get? c = some o := fun c o e => Heap.get?_push_of_some _ e
        refine wpAny_bind (wpAny_holding (wpAny_pyIter_tuple (s := ⟨g', g, d, tk, os⟩) ⟨o, hk _ _ ho, hr⟩ (wpAny_pure ?_)))
        refine ⟨dn ++ [p], rs, _, rfl, by rw [els, List.append_assoc]; rfl, e2, ?_, ?_, ?_, fun c o e => up c o (hk c o e)⟩
        · rw [Array.toList_push, hb, srcs_app, itsOf, itsOf, List.map_append, List.map_cons, List.map_nil]
          show _ ++ [Value.ref g'.objs.size] = _
          rw [hsz]
        · show (Heap.push _ _).objs.size = _
          rw [Heap.size_push, hsz, List.length_append, List.length_singleton, Nat.add_assoc]
        · rw [srcs_app]
          intro q hq
          rcases List.mem_append.mp hq with hq | hq
          · exact (hat.mono fun q _ o => ⟨up _ _, up _ _⟩) q hq
          · rw [List.mem_singleton.mp hq]
            dsimp only
            rw [← hsz]
            exact ⟨tupIter_new, o, up _ _ (hk _ _ ho), hr⟩
    case fin =>
      rintro b s' ⟨dn, rs, g', rfl, els, er, hb, hsz, hat, hk⟩
      have ers : rs = [] := by
        cases rs with
        | nil => rfl
        | cons p rs => simp at er
      subst ers
      rw [List.append_nil] at els
      subst els
      have h0 : ∀ h' : Heap, IsZip h' (hp.objs.size + ls.length + 2) (hp.objs.size + ls.length) (hp.objs.size + ls.length + 1) .none → IsTupOf h' (hp.objs.size + ls.length) (itsOf (srcs hp.objs.size ls)) →
        (∃ ys, IsTupOf h' (hp.objs.size + ls.length + 1) ys ∧ ys.length = ls.length) → AtI h' 0 (srcs hp.objs.size ls) → h'.objs.size = hp.objs.size + ls.length + 3 → (∀ c o, hp.get? c = some o → h'.get? c = some o) →
        R (.ok (.ret (.ref (hp.objs.size + ls.length + 2)))) ⟨h', g, d, tk, os⟩ := h
      refine wpAny_pure ?_
      rw [hb]
      refine wpAny_bind (wpAny_newTuple ?_ (by rw [itsOf, List.length_map, srcs_len]; exact hn))
      refine wpAny_bind (wpAny_newTuple ?_ (by rw [List.length_map, itsOf, List.length_map, srcs_len]; exact hn))
      show wpAny _ _ (newObj (.type "zip") (.fields #[.none, .bool false, .bool false, .ref g'.objs.size, .ref (g'.push { cls := .type "tuple", data := .seq (itsOf (srcs hp.objs.size ls)).toArray }).objs.size]) >>= _) _ _ _
      refine wpAny_bind (wpAny_newObj_type ?_)
      have z1 : (g'.push { cls := .type "tuple", data := .seq (itsOf (srcs hp.objs.size ls)).toArray }).objs.size = hp.objs.size + ls.length + 1 := by rw [Heap.size_push, hsz]
      have z2 : ((g'.push { cls := .type "tuple", data := .seq (itsOf (srcs hp.objs.size ls)).toArray }).push { cls := .type "tuple", data := .seq ((itsOf (srcs hp.objs.size ls)).map fun _ => Value.none).toArray }).objs.size = hp.objs.size + ls.length + 2 := by rw [Heap.size_push, z1]
      refine wpAny_pure ⟨_, rfl, ?_⟩
      show R (.ok (.ret (.ref (Heap.push _ _).objs.size))) _
      rw [z2]
      have up : ∀ c o, g'.get? c = some o → _ := fun c o e => Heap.get?_push_of_some { cls := .type "zip", data := .fields #[.none, .bool false, .bool false, .ref g'.objs.size, .ref (g'.push { cls := .type "tuple", data := .seq (itsOf (srcs hp.objs.size ls)).toArray }).objs.size] }
        (Heap.get?_push_of_some { cls := .type "tuple", data := .seq ((itsOf (srcs hp.objs.size ls)).map fun _ => Value.none).toArray } (Heap.get?_push_of_some { cls := .type "tuple", data := .seq (itsOf (srcs hp.objs.size ls)).toArray } e))
      refine h0 _ ?_ ?_ ⟨(itsOf (srcs hp.objs.size ls)).map fun _ => Value.none, ?_, by rw [List.length_map, itsOf, List.length_map, srcs_len]⟩ (hat.mono fun q _ o => ⟨up _ _, up _ _⟩) ?_ fun c o e => up c o (hk c o e)
      · have e3 := Heap.get?_push_size ((g'.push { cls := .type "tuple", data := .seq (itsOf (srcs hp.objs.size ls)).toArray }).push { cls := .type "tuple", data := .seq ((itsOf (srcs hp.objs.size ls)).map fun _ => Value.none).toArray }) (o := { cls := .type "zip", data := .fields #[.none, .bool false, .bool false, .ref g'.objs.size, .ref (g'.push { cls := .type "tuple", data := .seq (itsOf (srcs hp.objs.size ls)).toArray }).objs.size] }) rfl
        rw [z2] at e3
        refine Eq.trans e3 ?_
        rw [z1, hsz]
      · have e1 := Heap.get?_push_size g' (o := { cls := .type "tuple", data := .seq (itsOf (srcs hp.objs.size ls)).toArray }) rfl
        rw [hsz] at e1
        exact Heap.get?_push_of_some _ (Heap.get?_push_of_some _ e1)
      · have e2 := Heap.get?_push_size (g'.push { cls := .type "tuple", data := .seq (itsOf (srcs hp.objs.size ls)).toArray }) (o := { cls := .type "tuple", data := .seq ((itsOf (srcs hp.objs.size ls)).map fun _ => Value.none).toArray }) rfl
        rw [z1] at e2
        exact Heap.get?_push_of_some _ e2
      · show (Heap.push _ _).objs.size = _
        rw [Heap.size_push, z2]
    case h => exact ⟨[], ls, hp, rfl, rfl, rfl, rfl, rfl, (fun _ h => nomatch h), fun _ _ e => e⟩
end Ow

set_option Elab.async false
set_option linter.all false
set_option maxRecDepth 100000
set_option maxHeartbeats 4000000
namespace Ow
open PySem PySem.Spec PyProof.Rows
open Sem (wp)
theorem tc_zipN (args : List Value) : checkTypeCall "zip" ⟨args, []⟩ = pure () := by kernel_rfl
theorem nc_zipN : ∀ (args : List Value), args.length ≤ 6 → checkBuiltinCall "zip.__new__" ⟨.type "zip" :: args, []⟩ = pure ()
  | [], _ => by kernel_rfl
  | [_], _ => by kernel_rfl
  | [_, _], _ => by kernel_rfl
  | [_, _, _], _ => by kernel_rfl
  | [_, _, _, _], _ => by kernel_rfl
  | [_, _, _, _, _], _ => by kernel_rfl
  | [_, _, _, _, _, _], _ => by kernel_rfl
  | _ :: _ :: _ :: _ :: _ :: _ :: _ :: _, h => by simp at h
theorem ao_zipN (o : Value) (args : List Value) : argsOk "object.__init__" ⟨o :: args, []⟩ := by
  unfold argsOk; rw [signature?_of (id := "object.__init__") (n := ['_', '_', 't', 'i', 'n', 'i', '_', '_']) (o := ['t', 'c', 'e', 'j', 'b', 'o']) (by kernel_rfl) PySem.F.owner_object]; kernel_rfl
section
variable {prog : Program} {w : World} {A : Around} {E : Value → Shared → Prop} {s : Shared}
theorem call_zipN {ls : List (Addr × Array Value)} {Q : Value → Shared → Prop} (hl : ∀ p ∈ ls, s.heap.IsTuple p.1 p.2) (hn : ls.length ≤ 6)
    (h : ∀ h', IsZip h' (s.heap.objs.size + ls.length + 2) (s.heap.objs.size + ls.length) (s.heap.objs.size + ls.length + 1) .none → IsTupOf h' (s.heap.objs.size + ls.length) (itsOf (srcs s.heap.objs.size ls)) →
      (∃ ys, IsTupOf h' (s.heap.objs.size + ls.length + 1) ys ∧ ys.length = ls.length) → AtI h' 0 (srcs s.heap.objs.size ls) → h'.objs.size = s.heap.objs.size + ls.length + 3 → (∀ c o, s.heap.get? c = some o → h'.get? c = some o) →
      Q (.ref (s.heap.objs.size + ls.length + 2)) { s with heap := h' }) :
    wpAny (model prog w) A (call (.type "zip") (ls.map fun p => .ref p.1)) Q E s := by
  refine callType_new PySem.F.called_zip (by decide) (tc_zipN _) (nc_zipN _ (by rw [List.length_map]; exact hn)) (fun obj => ao_zipN obj _) PySem.F.entry_zip_new (meets_zipN ls) ⟨hl, Nat.le_trans hn (by rw [sizeLine_eq]; decide), fun h' a b c d e f => ?_⟩
  show _ ∧ _
  exact ⟨⟨_, a, rfl⟩, h h' a b c d e f⟩
end
/-! ### list(zip(..)) -/
/-- the columns made so far -/
structure ZC (ps : List ZSrc) (lo : Addr) (h : Heap) (as : List Addr) : Prop where
  rise : as.Pairwise (· < ·)
  above : ∀ a ∈ as, lo < a
  cols : ∀ (j : Nat) (a : Addr), as[j]? = some a → IsTupOf h a (colOf ps j)
theorem ZC.there {ps : List ZSrc} {lo : Addr} {h : Heap} {as : List Addr} (g : ZC ps lo h as) {a : Addr} (ha : a ∈ as) : a < h.objs.size := by
  obtain ⟨j, hj⟩ := List.mem_iff_getElem?.mp ha
  exact Heap.lt_size (g.cols j a hj)
section
variable {prog : Program} {w : World} {A : Around} {s : Shared} {R : Result → Shared → Prop} {z TI TO S : Addr} {ps : List ZSrc} {N : Nat}
theorem znS_keep {h h' : Heap} (S0 : ZA z TI TO ps S) (x : ZnS h z TI TO ps S) (k : ∀ b o, b ≠ S → h.get? b = some o → h'.get? b = some o) : ZnS h' z TI TO ps S := by
  rcases x with ⟨hz, ys, hTO, hl⟩ | ⟨T, oT, ⟨fl, hz⟩, hT, hl⟩
  · exact .inl ⟨k _ _ (Nat.ne_of_lt S0.bz) hz, ys, k _ _ (Nat.ne_of_lt S0.bO) hTO, hl⟩
  · exact .inr ⟨T, oT, ⟨fl, k _ _ (Nat.ne_of_lt S0.bz) hz⟩, k _ _ (Nat.ne_of_gt hl) hT, hl⟩
theorem atI_keep {h h' : Heap} {i : Nat} (S0 : ZA z TI TO ps S) (x : AtI h i ps) (k : ∀ b o, b ≠ S → h.get? b = some o → h'.get? b = some o) : AtI h' i ps :=
  x.mono fun p hp o => ⟨k _ _ (Nat.ne_of_lt (S0.bi p hp)), k _ _ (Nat.ne_of_lt (S0.bl p hp))⟩
theorem zn_loop (hh : A.handled = none) (S0 : ZA z TI TO ps S) (hlen : ps.length ≤ sizeLine) (hne : ps ≠ []) (hN : ∀ p ∈ ps, p.xs.size = N) (hn : N ≤ sizeLine) (res : Value) {h₁ : Heap}
    (hR : ∀ h' tk acc c as, (∀ b o, b ≠ S → b ≠ z → b ≠ TO → NotIt ps b → h₁.get? b = some o → h'.get? b = some o) → h'.get? S = some { cls := .type "list", dict := none, data := .seq acc c, slots := #[] } → as.length = N → ZC ps S h' as →
      acc.toList = as.map Value.ref → R (.ok (.ret res)) { s with heap := h', toks := tk }) :
    ∀ (k i : Nat) (h : Heap) (tk c : Nat) (acc : Array Value) (as : List Addr), N - i = k → i ≤ N → ZnS h z TI TO ps S → IsTupOf h TI (itsOf ps) → AtI h i ps → (∀ b o, b ≠ S → b ≠ z → b ≠ TO → NotIt ps b → h₁.get? b = some o → h.get? b = some o) →
      h.get? S = some { cls := .type "list", dict := none, data := .seq acc c, slots := #[] } → acc.toList = as.map Value.ref → as.length = i → ZC ps S h as →
      codeAny (model prog w) A (.builtin "list.extend.loop" ⟨[.ref S, .ref z, res], []⟩) R { s with heap := h, toks := tk } := by
  have nS : NotIt ps S := fun p hp => Nat.ne_of_gt (S0.bi p hp)
  have na : ∀ {a : Addr}, S < a → NotIt ps a := fun ha p hp => Nat.ne_of_gt (Nat.lt_trans (S0.bi p hp) ha)
  intro k
  induction k with
  | zero =>
    intro i h tk c acc as hk hi hz hI hat hkeep hS hacc hal hG
    have hin : i = N := by omega
    subst hin
    refine codeAny_builtin PySem.F.entry_extend_loop ?_
    rw [Around.under_plainId PySem.F.plain_extend_loop _]
    show wpAny _ A.in1 (pyNext (.ref z) >>= _) _ _ _
    refine wpAny_bind (znS_end (s := { s with heap := h, toks := tk }) (A := A.in1) hh S0 hz hI hat hne hN fun h' tk' he => ?_)
    refine wpAny_pure (hR h' tk' acc c as (fun b o n1 n2 n3 n4 e => he b o n2 n4 (hkeep b o n1 n2 n3 n4 e)) (he S _ (Nat.ne_of_gt S0.bz) nS hS) hal ⟨hG.rise, hG.above, fun j a hj => ?_⟩ hacc)
    have ha := hG.above a (List.mem_of_getElem? hj)
    exact he a _ (Nat.ne_of_gt (Nat.lt_trans S0.bz ha)) (na ha) (hG.cols j a hj)
  | succ k ih =>
    intro i h tk c acc as hk hi hz hI hat hkeep hS hacc hal hG
    have hlt : i < N := by omega
    have hsz : acc.size = i := by rw [← Array.length_toList, hacc, List.length_map, hal]
    have hSl : S < h.objs.size := Heap.lt_size hS
    refine codeAny_builtin PySem.F.entry_extend_loop ?_
    rw [Around.under_plainId PySem.F.plain_extend_loop _]
    show wpAny _ A.in1 (pyNext (.ref z) >>= _) _ _ _
    refine wpAny_bind (znS_item (s := { s with heap := h, toks := tk }) (A := A.in1) (i := i) hh S0 hlen hz hSl hI hat hne hN hlt fun h' tk' hz' hI' hat' hT hsz' hkp => ?_)
    dsimp only at hT hsz' hkp ⊢
    have hS' := hkp S _ (Nat.ne_of_gt S0.bz) (Nat.ne_of_gt S0.bO) nS hS
    have up : ∀ b o, b ≠ S → h'.get? b = some o → (h'.update S (Obj.mapSeq (·.push (Value.ref h.objs.size)))).get? b = some o := fun b o hb e => (Heap.get?_update_other _ _ (Ne.symm hb)).trans e
    show wpAny _ A.in1 (updateSeq S (·.push (Value.ref h.objs.size)) >>= _) _ _ _
    refine wpAny_bind ?_
    refine wpAny_updateSeq hS' rfl (wpAny_pure ⟨plainId_quiet PySem.F.plain_extend_loop _, ih (i + 1) _ tk' _ (acc.push (Value.ref h.objs.size)) (as ++ [h.objs.size]) (by omega) hlt (znS_keep S0 hz' up) (up _ _ (Nat.ne_of_lt S0.bI) hI') (atI_keep S0 hat' up)
      (fun b o n1 n2 n3 n4 e => up b o n1 (hkp b o n2 n3 n4 (hkeep b o n1 n2 n3 n4 e))) (Heap.get?_update_self _ hS' rfl) (by rw [Array.toList_push, hacc, List.map_append]; rfl) (by rw [List.length_append, hal]; rfl) ⟨?_, ?_, ?_⟩⟩) (by rw [hsz]; omega) (by show (acc.push (Value.ref h.objs.size)).size ≤ sizeLine + 1; rw [Array.size_push, hsz]; omega)
    · refine List.pairwise_append.mpr ⟨hG.rise, List.pairwise_singleton _ _, fun a ha b hb => ?_⟩
      rw [List.mem_singleton.mp hb]
      exact hG.there ha
    · intro a ha
      rcases List.mem_append.mp ha with ha | ha
      · exact hG.above a ha
      · rw [List.mem_singleton.mp ha]; exact hSl
    · intro j b hj
      rcases Nat.lt_trichotomy j as.length with q | q | q
      · rw [List.getElem?_append_left q] at hj
        have hb := hG.above b (List.mem_of_getElem? hj)
        exact up b _ (Nat.ne_of_gt hb) (hkp b _ (Nat.ne_of_gt (Nat.lt_trans S0.bz hb)) (Nat.ne_of_gt (Nat.lt_trans S0.bO hb)) (na hb) (hG.cols j b hj))
      · subst q
        have hb : h.objs.size = b := by simpa using hj
        subst hb
        rw [hal]
        exact up _ _ (Nat.ne_of_gt hSl) hT
      · have hnone : (as ++ [h.objs.size])[j]? = none := List.getElem?_eq_none (by rw [List.length_append, List.length_singleton]; omega)
        rw [hnone] at hj; cases hj
end
section
variable {prog : Program} {w : World} {A : Around} {E : Value → Shared → Prop} {s : Shared} {z TI TO : Addr} {ps : List ZSrc} {N : Nat}
theorem zn_extend {R : Result → Shared → Prop} {S : Addr} (hh : A.handled = none) (S0 : ZA z TI TO ps S) (hlen : ps.length ≤ sizeLine) (hne : ps ≠ []) (hN : ∀ p ∈ ps, p.xs.size = N) (hn : N ≤ sizeLine) (hz : IsZip s.heap z TI TO .none) {ys0 : List Value} (hTO : IsTupOf s.heap TO ys0) (hy0 : ys0.length = ps.length)
    (hI : IsTupOf s.heap TI (itsOf ps)) (hat : AtI s.heap 0 ps) (res : Value) (c₀ : Nat) (hS : s.heap.get? S = some { cls := .type "list", data := .seq #[] c₀ })
    (hR : ∀ h' tk acc c as, (∀ b o, b ≠ S → b ≠ z → b ≠ TO → NotIt ps b → s.heap.get? b = some o → h'.get? b = some o) → h'.get? S = some { cls := .type "list", dict := none, data := .seq acc c, slots := #[] } → as.length = N → ZC ps S h' as →
      acc.toList = as.map Value.ref → R (.ok (.ret res)) { s with heap := h', toks := tk }) :
    wpAny (model prog w) A.in1 (Builtin.List.listExtendWith (.ref S) (.ref z) res)
      (fun fin s' => match fin with | .done f => R (.ok f) s' | .again c' => c'.quiet = true ∧ codeAny (model prog w) A c' R s') (fun e s' => R (.error e) s') s := by
  have hTy : s.TypeIs (.ref z) "zip" := ⟨_, hz, rfl⟩
  have key : ∀ (h : Heap) (c₁ tk : Nat), (∀ b o, b ≠ S → s.heap.get? b = some o → h.get? b = some o) → h.get? S = some { cls := .type "list", data := .seq #[] c₁ } →
      codeAny (model prog w) A (.builtin "list.extend.loop" ⟨[.ref S, .ref z, res], []⟩) R { s with heap := h, toks := tk } := by
    intro h c₁ tk hk hS₁
    exact zn_loop (s := s) (h₁ := s.heap) hh S0 hlen hne hN hn res (fun h' tk' acc c as hk' hS' hl hG hacc => hR h' tk' acc c as hk' hS' hl hG hacc) N 0 h tk c₁ #[] [] (Nat.sub_zero _) (Nat.zero_le _) (znS_keep S0 (.inl ⟨hz, ys0, hTO, hy0⟩) hk) (hk _ _ (Nat.ne_of_lt S0.bI) hI) (atI_keep S0 hat hk)
      (fun b o n1 _ _ _ e => hk b o n1 e) hS₁ rfl rfl ⟨List.Pairwise.nil, (fun _ ha => nomatch ha), (fun j a hj => by simp at hj)⟩
  unfold Builtin.List.listExtendWith
  refine wpAny_bind (wpAny_typeOf (T := "zip") hTy ?_)
  have hSz : S ≠ z := Nat.ne_of_gt S0.bz
  have h1 : Builtin.List.listSameRef (.ref S) (.ref z) = false := by simp [Builtin.List.listSameRef, hSz]
  have h2 : (Value.type "zip" == Value.type "list") = false := by decide
  have h3 : (Value.type "zip" == Value.type "tuple") = false := by decide
  simp only [h1, h2, h3, Bool.or_false, Bool.false_eq_true, if_false]
  refine wpAny_bind (wpAny_pyIter_zip hz ?_)
  refine wpAny_bind (wpAny_holding (zip_hint hTy ?_))
  refine wpAny_ite_split (fun _ => ?_) (fun _ => wpAny_pure ⟨plainId_quiet PySem.F.plain_extend_loop _, key _ c₀ _ (fun b o _ e => e) hS⟩)
  refine wpAny_bind (wpAny_rule ?_)
  refine wpAny_bind ?_
  show wpAny _ _ (updateSeq S (·.push .none) >>= fun _ => updateSeq S (·.pop)) _ _ _
  refine wpAny_bind (wpAny_updateSeq hS rfl ?_)
  have hS₂ := Heap.get?_update_self (Obj.mapSeq (·.push Value.none)) hS rfl
  refine wpAny_updateSeq (hz := by seq_fits) hS₂ rfl ?_
  have hS₃ := Heap.get?_update_self (Obj.mapSeq (·.pop)) hS₂ rfl
  refine wpAny_pure ⟨plainId_quiet PySem.F.plain_extend_loop _, key _ _ _ (fun b o hb e => ?_) hS₃⟩
  exact (Heap.get?_update_other _ _ (Ne.symm hb)).trans ((Heap.get?_update_other _ _ (Ne.symm hb)).trans e)
theorem zn_init {R : Result → Shared → Prop} {S : Addr} (hh : A.handled = none) (S0 : ZA z TI TO ps S) (hlen : ps.length ≤ sizeLine) (hne : ps ≠ []) (hN : ∀ p ∈ ps, p.xs.size = N) (hn : N ≤ sizeLine) (hz : IsZip s.heap z TI TO .none) {ys0 : List Value} (hTO : IsTupOf s.heap TO ys0) (hy0 : ys0.length = ps.length)
    (hI : IsTupOf s.heap TI (itsOf ps)) (hat : AtI s.heap 0 ps) (hS : s.heap.get? S = some { cls := .type "list", data := .seq #[] })
    (hR : ∀ h' tk acc c as, (∀ b o, b ≠ S → b ≠ z → b ≠ TO → NotIt ps b → s.heap.get? b = some o → h'.get? b = some o) → h'.get? S = some { cls := .type "list", dict := none, data := .seq acc c, slots := #[] } → as.length = N → ZC ps S h' as →
      acc.toList = as.map Value.ref → R (.ok (.ret .none)) { s with heap := h', toks := tk }) :
    wpAny (model prog w) A.in1 (Builtin.«list.__init__» ⟨[.ref S, .ref z], []⟩)
      (fun fin s' => match fin with | .done f => R (.ok f) s' | .again c' => c'.quiet = true ∧ codeAny (model prog w) A c' R s') (fun e s' => R (.error e) s') s := by
  show wpAny _ _ (do let old ← Builtin.List.listItems (.ref S); Builtin.List.listUpdate (.ref S) (fun _ => #[]); letGo old.toList.reverse; Builtin.List.listExtendWith (.ref S) (.ref z) .none) _ _ s
  refine wpAny_bind ?_
  unfold Builtin.List.listItems
  refine wpAny_bind (wpAny_seqItems hS rfl (wpAny_pure ?_))
  show wpAny _ _ (updateSeq S (fun _ => #[]) >>= fun _ => letGo (#[] : Array Value).toList.reverse >>= fun _ => Builtin.List.listExtendWith (.ref S) (.ref z) .none) _ _ s
  refine wpAny_bind (wpAny_updateSeq hS rfl ?_)
  have hS₂ := Heap.get?_update_self (Obj.mapSeq (fun _ => (#[] : Array Value))) hS rfl
  have oth : ∀ b o, b ≠ S → s.heap.get? b = some o → (s.heap.update S (Obj.mapSeq (fun _ => (#[] : Array Value)))).get? b = some o := fun b o hb e => (Heap.get?_update_other _ _ (Ne.symm hb)).trans e
  refine wpAny_bind (wpAny_letGo ?_)
  refine zn_extend hh S0 hlen hne hN hn (oth _ _ (Nat.ne_of_lt S0.bz) hz) (oth _ _ (Nat.ne_of_lt S0.bO) hTO) hy0 (oth _ _ (Nat.ne_of_lt S0.bI) hI) (atI_keep S0 hat oth) .none _ hS₂ fun h' tk acc c as hk hS' hl hG hacc => ?_
  exact hR h' tk acc c as (fun b o n1 n2 n3 n4 e => hk b o n1 n2 n3 n4 (oth b o n1 e)) hS' hl hG hacc
theorem call_list_zipN {Q : Value → Shared → Prop} (hh : A.handled = none) (S0 : ZA z TI TO ps s.heap.objs.size) (hlen : ps.length ≤ sizeLine) (hne : ps ≠ []) (hN : ∀ p ∈ ps, p.xs.size = N) (hn : N ≤ sizeLine) (hz : IsZip s.heap z TI TO .none) {ys0 : List Value} (hTO : IsTupOf s.heap TO ys0) (hy0 : ys0.length = ps.length)
    (hI : IsTupOf s.heap TI (itsOf ps)) (hat : AtI s.heap 0 ps)
    (hQ : ∀ h' tk acc c as, (∀ b o, b ≠ z → b ≠ TO → NotIt ps b → s.heap.get? b = some o → h'.get? b = some o) → h'.get? s.heap.objs.size = some { cls := .type "list", dict := none, data := .seq acc c, slots := #[] } → as.length = N → ZC ps s.heap.objs.size h' as →
      acc.toList = as.map Value.ref → Q (.ref s.heap.objs.size) { s with heap := h', toks := tk }) :
    wpAny (model prog w) A (call (.type "list") [.ref z]) Q E s := by
  refine callType_codes (Q₁ := fun obj s₁ => obj = .ref s.heap.objs.size ∧ s₁ = { s with heap := s.heap.push { cls := .type "list", data := .seq #[] } }) PySem.F.called_list (PySem.F.typeCall_list_1 _) PySem.F.entry_list_init (code_list_new _ ⟨rfl, rfl⟩) fun obj s₁ h₁ => ?_
  obtain ⟨rfl, rfl⟩ := h₁
  have hS : (s.heap.push { cls := .type "list", data := .seq #[] }).get? s.heap.objs.size = some { cls := .type "list", data := .seq #[] } := Heap.get?_push_size _ rfl
  have ps' : ∀ b o, s.heap.get? b = some o → (s.heap.push { cls := .type "list", data := .seq #[] }).get? b = some o := fun b o e => Heap.get?_push_of_some _ e
  refine ⟨⟨_, hS, rfl⟩, PySem.F.args_list_init_2 _ _, zn_init (A := A.in1) hh S0 hlen hne hN hn (ps' _ _ hz) (ps' _ _ hTO) hy0 (ps' _ _ hI) (hat.mono fun p _ o => ⟨ps' _ _, ps' _ _⟩) hS fun h' tk acc c as hk hS' hl hG hacc => ?_⟩
  exact ⟨rfl, hQ h' tk acc c as (fun b o n1 n2 n3 e => hk b o (Nat.ne_of_lt (Heap.lt_size e)) n1 n2 n3 (ps' b o e)) hS' hl hG hacc⟩
end
end Ow

set_option Elab.async false
set_option linter.all false
set_option maxRecDepth 100000
set_option maxHeartbeats 4000000
namespace Ow
open PySem PySem.Spec PyProof.Rows L2
/-- tuples tracked at their addresses -/
def putC : Hp → List Addr → List (List V) → Hp
  | H, a :: as, p :: ps => putC (upd H a (.tup p)) as ps
  | H, _, _ => H
theorem putC_off {b : Addr} : ∀ (as : List Addr) (ps : List (List V)) (H : Hp), b ∉ as → putC H as ps b = H b
  | [], _, _, _ => rfl
  | _ :: _, [], _, _ => rfl
  | a :: as, p :: ps, H, h => by
    show putC (upd H a (.tup p)) as ps b = H b
    rw [putC_off as ps _ (fun z => h (List.mem_cons_of_mem _ z)), upd_ne (fun z => h (by rw [z]; exact List.mem_cons_self))]
theorem putC_at : ∀ (as : List Addr) (ps : List (List V)) (H : Hp), as.length = ps.length → as.Nodup → ∀ (j : Nat) (t : Addr), as[j]? = some t → ∃ p, ps[j]? = some p ∧ putC H as ps t = some (.tup p)
  | [], [], _, _, _, j, t, e => by simp at e
  | [], _ :: _, _, h, _, _, _, _ => by cases h
  | _ :: _, [], _, h, _, _, _, _ => by cases h
  | a :: as, p :: ps, H, h, hn, j, t, e => by
    have hn' := List.nodup_cons.mp hn
    cases j with
    | zero =>
      have e1 : a = t := by simpa using e
      subst e1
      refine ⟨p, rfl, ?_⟩
      show putC (upd H a (.tup p)) as ps a = some (.tup p)
      rw [putC_off as ps _ hn'.1, upd_same]
    | succ j => exact putC_at as ps (upd H a (.tup p)) (Nat.succ.inj h) hn'.2 j t (by simpa using e)
/-- the j-th column -/
def colV (rows : List (List V)) (j : Nat) : List V := rows.map fun r => r.getD j .non
theorem vals_col {ps : List ZSrc} {rows : List (List V)} {N j : Nat} (h : All2 (fun (p : ZSrc) r => Vals r p.xs.toList) ps rows) (hN : ∀ p ∈ ps, p.xs.size = N) (hj : j < N) : Vals (colV rows j) (colOf ps j) := by
  induction h with
  | nil => exact .nil
  | @cons p r ps rs hr _ ih =>
    refine .cons ?_ (ih fun q hq => hN q (List.mem_cons_of_mem _ hq))
    have hs := hN p List.mem_cons_self
    have hl := hr.length
    have hl : r.length = N := by rw [← hs, ← Array.length_toList]; exact hl
    obtain ⟨v, hv⟩ : ∃ v, r[j]? = some v := ⟨_, List.getElem?_eq_getElem (by rw [hl]; exact hj)⟩
    obtain ⟨u, hu, ru⟩ := hr.get hv
    rw [Array.getElem?_toList] at hu
    dsimp only
    rw [List.getD_eq_getElem?_getD, hv, Array.getD_eq_getD_getElem?, hu]
    exact ru
section
variable {X : Cx} {pins : List (Addr × Obj)} {σ : L2.St} {H : Hp} {s : Shared}
theorem zn_laid {h' : Heap} {tk c : Nat} {acc : Array Value} {as : List Addr} {ps : List ZSrc} {rows : List (List V)} {N : Nat} {S : Addr} (I : Inv X pins σ H s) (hSs : s.heap.objs.size ≤ S) (hz : N ≤ sizeLine) (hlen : ps.length ≤ sizeLine) (hr : All2 (fun (p : ZSrc) r => Vals r p.xs.toList) ps rows) (hN : ∀ p ∈ ps, p.xs.size = N)
    (hk : ∀ b o, s.heap.get? b = some o → h'.get? b = some o) (hS : h'.get? S = some { cls := .type "list", dict := none, data := .seq acc c, slots := #[] }) (hl : as.length = N) (hG : ZC ps S h' as) (hacc : acc.toList = as.map Value.ref) :
    ∃ H' : Hp, Same H H' ∧ H S = none ∧ H' S = some (.lst (as.map V.ref)) ∧ (∀ (j : Nat) (t : Addr), as[j]? = some t → H t = none ∧ H' t = some (.tup (colV rows j))) ∧ Inv X pins σ H' { s with heap := h', toks := tk } := by
  have hSn : S ∉ as := fun z => Nat.lt_irrefl _ (hG.above _ z)
  have nd : as.Nodup := List.Pairwise.imp (fun {a b} (h : a < b) => Nat.ne_of_lt h) hG.rise
  have above : ∀ t ∈ as, s.heap.objs.size ≤ t := fun t ht => Nat.le_of_lt (Nat.lt_of_le_of_lt hSs (hG.above t ht))
  have new : ∀ t ∈ as, H t = none := fun t ht => I.hok.fresh (above t ht)
  have newS : H S = none := I.hok.fresh hSs
  have lz : ((List.range N).map (colV rows)).length = as.length := by rw [List.length_map, List.length_range, hl]
  have atP : ∀ (j : Nat) (t : Addr), as[j]? = some t → putC (upd H S (.lst (as.map V.ref))) as ((List.range N).map (colV rows)) t = some (.tup (colV rows j)) ∧ j < N := fun j t e => by
    obtain ⟨p, e1, e2⟩ := putC_at as ((List.range N).map (colV rows)) (upd H S (.lst (as.map V.ref))) lz.symm nd j t e
    have hj : j < N := by rw [← hl]; exact (List.getElem?_eq_some_iff.mp e).1
    rw [List.getElem?_map, List.getElem?_range hj] at e1
    cases e1
    exact ⟨e2, hj⟩
  have off : ∀ b, b ∉ as → b ≠ S → putC (upd H S (.lst (as.map V.ref))) as ((List.range N).map (colV rows)) b = H b := fun b h1 h2 => by rw [putC_off as _ _ h1, upd_ne h2]
  have low : ∀ b o, s.heap.get? b = some o → b ∉ as ∧ b ≠ S := fun b o e => ⟨fun z => absurd (Heap.lt_size e) (Nat.not_lt.mpr (above b z)), fun z => absurd (Heap.lt_size e) (Nat.not_lt.mpr (by rw [z]; exact hSs))⟩
  have kp : ∀ b u, H b = some u → (putC (upd H S (.lst (as.map V.ref))) as ((List.range N).map (colV rows))) b = some u := fun b u e => by
    rw [off b (fun z => by rw [new b z] at e; cases e) (fun z => by rw [z, newS] at e; cases e)]
    exact e
  have eS : putC (upd H S (.lst (as.map V.ref))) as ((List.range N).map (colV rows)) S = some (.lst (as.map V.ref)) := by rw [putC_off as _ _ hSn, upd_same]
  refine ⟨_, kp, newS, eS, fun j t e => ⟨new t (List.mem_of_getElem? e), (atP j t e).1⟩, ?_⟩
  refine I.call' (ch := []) rfl ⟨fun b o q _ _ _ => hk b o q, fun b o q _ _ _ => ⟨o.slots, hk b o q⟩, fun b o q n _ => ?_, fun b o q _ => ⟨o, hk b o q⟩, fun b xs q => kp b _ q, fun b o u q => kp b _ q, fun b ps q => ⟨#[], by rw [kp b _ q]; simp⟩⟩ (fun b u q => ?_) I.bare fun b z => by simp at z
  · obtain ⟨z1, z2⟩ := low b o q
    rw [off b z1 z2]
    exact n
  · by_cases hb : b ∈ as
    · obtain ⟨j, hj⟩ := List.mem_iff_getElem?.mp hb
      obtain ⟨e2, hjN⟩ := atP j b hj
      rw [e2] at q
      cases q
      have vc := vals_col hr hN hjN
      have lr := hr.len
      exact ⟨by show (colV rows j).length ≤ sizeLine; rw [colV, List.length_map, ← lr]; exact hlen, colOf ps j, vc, ⟨_, hG.cols j b hj, rfl, _, rfl⟩⟩
    · by_cases hb2 : b = S
      · rw [hb2] at q ⊢
        rw [eS] at q
        cases q
        refine ⟨by rw [List.length_map]; omega, acc.toList, c, by rw [hacc]; exact vals_addrs as, ?_⟩
        rw [Array.toArray_toList]
        exact hS
      · rw [off b hb hb2] at q
        exact (I.hok b u q).stay (fun d v _ y => hk d v y) (fun d y => kp d _ y) fun d xs y => kp d _ y
/-- the rows, each a tuple of N items -/
def RowsV (K : PySem.W.Frag) (H : Hp) (N : Nat) (rs : List V) (rows : List (List V)) : Prop := All2 (fun v ys => ∃ b, v = .ref b ∧ SqT K H b ys ∧ ys.length = N) rs rows
theorem rows_src {N : Nat} {rs : List V} {rows : List (List V)} (I : Inv X pins σ H s) (h : RowsV X.K H N rs rows) : ∀ {us : List Value}, Vals rs us →
    ∃ ls : List (Addr × Array Value), us = ls.map (fun p => Value.ref p.1) ∧ (∀ p ∈ ls, s.heap.IsTuple p.1 p.2 ∧ p.2.size = N) ∧ All2 (fun (p : Addr × Array Value) r => Vals r p.2.toList) ls rows := by
  unfold RowsV at h
  induction h with
  | nil =>
    intro us r
    cases r
    exact ⟨[], rfl, (fun _ h => nomatch h), .nil⟩
  | @cons v ys vs yss hv _ ih =>
    intro us r
    cases r with
    | @cons _ u _ us r rr =>
      obtain ⟨b, rfl, hq, hl⟩ := hv
      cases r
      obtain ⟨ls, e, h1, h2⟩ := ih rr
      obtain ⟨its, rv, pl, hz⟩ := I.tuple hq
      refine ⟨(b, its.toArray) :: ls, by rw [e]; rfl, fun p hp => ?_, .cons (by simpa using rv) h2⟩
      rcases List.mem_cons.mp hp with rfl | hp
      · exact ⟨pl, by rw [List.size_toArray, ← rv.length, hl]⟩
      · exact h1 p hp
theorem src_all2 : ∀ {ls : List (Addr × Array Value)} {rows : List (List V)} (n : Nat), All2 (fun (p : Addr × Array Value) r => Vals r p.2.toList) ls rows → All2 (fun (p : ZSrc) r => Vals r p.xs.toList) (srcs n ls) rows
  | [], [], _, _ => .nil
  | p :: ls, r :: rs, n, .cons h t => .cons h (src_all2 (n + 1) t)
theorem za_of {n : Nat} {ls : List (Addr × Array Value)} (h : ∀ p ∈ ls, (p.1 : Nat) < n) : ZA (n + ls.length + 2) (n + ls.length) (n + ls.length + 1) (srcs n ls) (n + ls.length + 3) := by
  have hi : ∀ p ∈ srcs n ls, n ≤ p.it ∧ (p.it : Nat) < n + ls.length := fun p hp => srcs_it hp
  have hl : ∀ p ∈ srcs n ls, (p.l : Nat) < n := fun p hp => h _ (srcs_src hp)
  have a1 : ∀ {x : Nat} {k : Nat}, x < n + ls.length → n + ls.length + k ≠ x := fun {x k} hx => Nat.ne_of_gt (Nat.lt_of_lt_of_le hx (Nat.le_add_right _ _))
  have a2 : ∀ {x : Nat} {k : Nat}, x < n → n + ls.length + k ≠ x := fun {x k} hx => Nat.ne_of_gt (Nat.lt_of_lt_of_le hx (Nat.le_trans (Nat.le_add_right _ _) (Nat.le_add_right _ _)))
  refine ⟨srcs_nd ls n, ?_, ?_, ?_, fun p hp => ⟨a1 (hi p hp).2, a1 (k := 0) (hi p hp).2, a1 (hi p hp).2⟩, fun p hp => ⟨a2 (hl p hp), a2 (hl p hp)⟩, fun p hp q hq e => ?_, ?_, ?_, ?_, fun p hp => Nat.lt_of_lt_of_le (hi p hp).2 (Nat.le_add_right _ _), fun p hp => Nat.lt_of_lt_of_le (hl p hp) (Nat.le_trans (Nat.le_add_right _ _) (Nat.le_add_right _ _))⟩
  · show (n + ls.length : Nat) ≠ n + ls.length + 2; omega
  · show (n + ls.length + 1 : Nat) ≠ n + ls.length + 2; omega
  · show (n + ls.length : Nat) ≠ n + ls.length + 1; omega
  · exact absurd (Nat.lt_of_le_of_lt (hi p hp).1 (by rw [e]; exact hl q hq)) (Nat.lt_irrefl _)
  · show (n + ls.length + 2 : Nat) < n + ls.length + 3; omega
  · show (n + ls.length : Nat) < n + ls.length + 3; omega
  · show (n + ls.length + 1 : Nat) < n + ls.length + 3; omega
/-- list(zip( *e)) -/
def tLZipS (K : PySem.W.Frag) (te : TE) : TE := fun σ H Q => te σ H fun x H1 => ∃ a rs N rows, x = .ref a ∧ (SqT K H1 a rs ∨ SqL K H1 a rs) ∧ rs ≠ [] ∧ rs.length ≤ 6 ∧ N ≤ sizeLine ∧ RowsV K H1 N rs rows ∧
  ∀ (H' : Hp) (p : Addr) (ts : List Addr), Same H1 H' → H1 p = none → H' p = some (.lst (ts.map V.ref)) → ts.length = N → (∀ (j : Nat) (t : Addr), ts[j]? = some t → H1 t = none ∧ H' t = some (.tup (colV rows j))) → Q (.ref p) H'
theorem pe_lzipS {e : Expr} {te : TE} {p p2 p3 pos pos2 : Pos} (hc : X.calm = true) (hg : Gl X "list") (hm : X.mg "list" = none) (hg2 : Gl X "zip") (hm2 : X.mg "zip" = none) (hv : bootBuiltins "list" = some (.type "list")) (ha : PE X e te)
    (hs : starEach [.Call (.Name "zip" p2) [.Starred e p3] [] pos2] X.env = (false, eval (.Call (.Name "zip" p2) [.Starred e p3] [] pos2) X.env) :: starEach [] X.env := by rfl)
    (hs2 : starEach [.Starred e p3] X.env = [(true, eval e X.env)] := by rfl) :
    PE X (.Call (.Name "list" p) [.Call (.Name "zip" p2) [.Starred e p3] [] pos2] [] pos) (tLZipS X.K te) := by
  refine ⟨fun pins s σ H Q I hq => ?_⟩
  refine wpAny_Call_Name_kw (ld_blt I hg hm hv ?_)
  refine PyProof.Rows.callWith_type1 ?_ hs rfl
  rw [hs]
  show wpAny _ _ (spliced ((false, eval (.Call (.Name "zip" p2) [.Starred e p3] [] pos2) X.env) :: backTo pos (starEach [] X.env))) _ _ s
  refine Calls.spliced_cons ?_
  refine wpAny_Call_Name_kw (ld_blt I hg2 hm2 PyProof.Rows.boot_zip ?_)
  rw [hs2]
  refine PySem.W.ks_call (P := fun _ => True) rfl (fun _ _ => ⟨.machine, .inr (.inl rfl), PySem.W.Looks.of_pure rfl⟩) (PySem.W.ks_lone (thn (ha.run pins s σ H _ I hq) fun v s1 ⟨y, H1, I1, ry, q1⟩ => ?_))
  obtain ⟨a, rs, N, rows, rfl, hrs, hne, hlen, hN, hrows, q⟩ := q1
  obtain rfl : v = Value.ref a := ry
  refine StX.star_any I1 hrs fun us s2 I2 rv => ⟨True.intro, ?_⟩
  obtain ⟨ls, rfl, h1, h2⟩ := rows_src I2 hrows rv
  have ll : ls.length = rs.length := by have := rv.length; rw [List.length_map] at this; exact this.symm
  show wpAny _ _ (call (.type "zip") ([] ++ ls.map fun p => Value.ref p.1)) _ _ s2
  rw [List.nil_append]
  refine call_zipN (fun p hp => (h1 p hp).1) (by rw [ll]; exact hlen) fun h' hz hI hO hat hsz hk => ?_
  have I3 : Inv X pins σ H1 { s2 with heap := h' } := I2.kept (t' := s2.toks) hk
  refine Calls.spliced_nil ?_
  have lt : ∀ p ∈ ls, (p.1 : Nat) < s2.heap.objs.size := fun p hp => by
    obtain ⟨o, ho, _⟩ := (h1 p hp).1
    exact Heap.lt_size ho
  have S0 := za_of lt
  rw [← hsz] at S0
  obtain ⟨ys0, hTO, hy0⟩ := hO
  have hne' : srcs s2.heap.objs.size ls ≠ [] := fun e => hne (by
    have := srcs_len ls s2.heap.objs.size
    rw [e] at this
    exact List.eq_nil_of_length_eq_zero (by rw [← ll, ← this]; rfl))
  have hN' : ∀ p ∈ srcs s2.heap.objs.size ls, p.xs.size = N := fun p hp => (h1 _ (srcs_src hp)).2
  have hle : (srcs s2.heap.objs.size ls).length ≤ sizeLine := by rw [srcs_len, ll]; exact Nat.le_trans hlen (by rw [sizeLine_eq]; decide)
  refine call_list_zipN (s := { s2 with heap := h' }) (ps := srcs s2.heap.objs.size ls) (N := N) (I2.ok.hd hc) S0 hle hne' hN' hN hz hTO (by rw [hy0, srcs_len]) hI hat fun h3 tk acc c as hk2 hS hl hG hacc => ?_
  have hk3 : ∀ b o, s2.heap.get? b = some o → h3.get? b = some o := fun b o e => by
    have hb : (b : Nat) < s2.heap.objs.size := Heap.lt_size e
    have hb' : (b : Nat) < s2.heap.objs.size + ls.length := Nat.lt_of_lt_of_le hb (Nat.le_add_right _ _)
    exact hk2 b o (Nat.ne_of_lt (Nat.lt_of_lt_of_le hb' (Nat.le_add_right _ _))) (Nat.ne_of_lt (Nat.lt_of_lt_of_le hb' (Nat.le_add_right _ _))) (fun p hp => Nat.ne_of_lt (Nat.lt_of_lt_of_le hb (srcs_it hp).1)) (hk b o e)
  have hSs : s2.heap.objs.size ≤ h'.objs.size := by rw [hsz]; exact Nat.le_trans (Nat.le_add_right _ _) (Nat.le_add_right _ _)
  obtain ⟨H', k1', k2', k3', k4', J⟩ := zn_laid (tk := tk) (S := h'.objs.size) I2 hSs hN hle (src_all2 _ h2) hN' hk3 hS hl hG hacc
  exact ⟨.ref _, H', J, rfl, q H' _ as k1' k2' k3' hl k4'⟩
end
end Ow

set_option Elab.async false
set_option linter.all false
set_option maxRecDepth 100000
set_option maxHeartbeats 4000000
namespace Ow
open PySem PySem.Spec PyProof.Rows L2
/-! ### zip walked by a name: the tuple that was handed out may live on or not -/
abbrev ZF (h : Heap) (z TI TO : Addr) (x : Value) (fl : Bool) : Prop := h.get? z = some { cls := .type "zip", dict := none, data := .fields #[x, .bool fl, .bool false, .ref TI, .ref TO], slots := #[] }
section
variable {prog : Program} {w : World} {A : Around} {E : Value → Shared → Prop} {s : Shared} {z TI TO T S : Addr} {ps : List ZSrc} {i N : Nat} {oT : Obj} {x0 : Value} {fl : Bool}
theorem zf_free {Q : Bool → Shared → Prop} (hz : ZF s.heap z TI TO x0 fl) (dead : x0 = .none ∨ ∃ T : Addr, x0 = rawInt T ∧ s.heap.get? T = none) (h : Q true s) : wpAny (model prog w) A (Builtin.SmallTypes.ownedTupleIsFree (.ref z)) Q E s := by
  unfold Builtin.SmallTypes.ownedTupleIsFree
  rcases dead with rfl | ⟨T, rfl, d⟩
  · exact wpAny_bind (wpAny_field hz rfl (x := .none) rfl (wpAny_pure h))
  · refine wpAny_bind (wpAny_field hz rfl (x := rawInt T) rfl ?_)
    show wpAny _ _ (loadIfAlive ((T : Int).toNat) >>= _) _ _ _
    rw [Int.toNat_natCast]
    have al : wpAny (model prog w) A (loadIfAlive T) (fun o s' => o = none ∧ s' = s) E s := fun _ _ _ => (⟨d, rfl⟩ : s.heap.get? T = none ∧ s = s)
    refine wpAny_bind (wpAny_mono al (fun o s' q => ?_) fun _ _ q => q)
    obtain ⟨rfl, rfl⟩ := q
    simp only [Option.isNone_none, if_true]
    exact wpAny_pure h
/-- the first next: the tuple of its own is filled, a copy is handed out -/
theorem zn_firstG {Q : Value → Shared → Prop} (hh : A.handled = none) (S0 : ZA z TI TO ps S) (hlen : ps.length ≤ sizeLine) (hz : ZF s.heap z TI TO x0 fl) (dead : x0 = .none ∨ ∃ T : Addr, x0 = rawInt T ∧ s.heap.get? T = none) (hTI : IsTupOf s.heap TI (itsOf ps)) {ys0 : List Value} (hTO : IsTupOf s.heap TO ys0) (hy0 : ys0.length = ps.length)
    (st : AtI s.heap i ps) (hne : ps ≠ []) (hN : ∀ p ∈ ps, p.xs.size = N) (hlt : i < N)
    (hQ : ∀ h' tk, IsZip h' z TI TO (rawInt s.heap.objs.size) → AtI h' (i + 1) ps → IsTupOf h' s.heap.objs.size (colOf ps i) → IsTupOf h' TO (colOf ps i) → h'.objs.size = s.heap.objs.size + 1 →
      (∀ c o, c ≠ z → c ≠ TO → NotIt ps c → s.heap.get? c = some o → h'.get? c = some o) → Q (.ref s.heap.objs.size) { s with heap := h', toks := tk }) :
    wpAny (model prog w) A (Builtin.«zip.__next__» ⟨[.ref z], []⟩) (fun fin s' => ∃ v, fin = .done (.ret v) ∧ Q v s') E s := by
  obtain ⟨hp, g, d, tk0, os⟩ := s
  show wpAny _ _ (field (.ref z) 2 >>= _) _ _ _
  refine wpAny_bind (wpAny_field hz rfl (x := .bool false) rfl ?_)
  show wpAny _ _ (field (.ref z) 3 >>= _) _ _ _
  refine wpAny_bind (wpAny_field hz rfl (x := .ref TI) rfl ?_)
  refine wpAny_bind (wpAny_seqItems hTI rfl ?_)
  have ne : ((itsOf ps).toArray).isEmpty = false := by
    cases ps with
    | nil => exact absurd rfl hne
    | cons p ps => rfl
  dsimp only
  rw [ne]
  simp only [Bool.false_eq_true, if_false]
  show wpAny _ _ (Builtin.SmallTypes.ownedTupleIsFree (.ref z) >>= _) _ _ _
  refine wpAny_bind ?_
  refine zf_free hz dead ?_
  simp only [if_true]
  refine wpAny_bind (wpAny_rule ?_)
  refine wpAny_bind (wpAny_field hz rfl (x := .ref TO) rfl ?_)
  refine wpAny_bind (wpAny_setField_rec hz (by simp) fun g0 hz0 hs0 => ?_)
  replace hz0 : ZF g0 z TI TO .ellipsis fl := hz0
  replace hs0 : Heap.SameBut z hp g0 := hs0
  refine wpAny_bind ?_
  refine wpAny_forIn_list _ (fun rest b s' => b.1 = none ∧ ∃ dn rs ys g' tk', s' = ⟨g', g, d, tk', os⟩ ∧ ps = dn ++ rs ∧ rest = (itsOf rs).zipIdx dn.length ∧ AtI g' (i + 1) dn ∧ AtI g' i rs ∧ IsTupOf g' TO ys ∧ ys.length = ps.length ∧
    ys.take dn.length = colOf dn i ∧ ZF g' z TI TO .ellipsis fl ∧ g'.objs.size = hp.objs.size ∧ ∀ c o, c ≠ z → c ≠ TO → NotIt ps c → hp.get? c = some o → g'.get? c = some o) _ ?turn ?fin _ _ ?start
  case start =>
    refine ⟨rfl, [], ps, ys0, g0, tk0, rfl, rfl, by simp, (fun _ h => nomatch h), ?_, hs0.extBut _ _ S0.TOz hTO, hy0, by simp, hz0, hs0.1, fun c o cz _ _ e => hs0.extBut _ _ cz e⟩
    exact st.mono fun p hp' o => ⟨fun e => hs0.extBut _ _ (S0.zi p hp').1.symm e, fun e => hs0.extBut _ _ (S0.zl p hp').1.symm e⟩
  case turn =>
    rintro ⟨iv, k⟩ rest b s' ⟨hb, dn, rs, ys, g', tk', rfl, eps, er, sd, sr, hT, hyl, hyt, hz', hsz, hk⟩
    cases rs with
    | nil => simp at er
    | cons p rs =>
      have hmem : p ∈ ps := by rw [eps]; exact List.mem_append_right _ List.mem_cons_self
      have hmd : ∀ q ∈ dn, q ∈ ps := fun q h => by rw [eps]; exact List.mem_append_left _ h
      have hmr : ∀ q ∈ rs, q ∈ ps := fun q h => by rw [eps]; exact List.mem_append_right _ (List.mem_cons_of_mem _ h)
      have nd := S0.nd
      rw [eps, List.map_append, List.map_cons] at nd
      have ndd : ∀ q ∈ dn, p.it ≠ q.it := fun q h e => (List.nodup_append.mp nd).2.2 q.it (List.mem_map.mpr ⟨q, h, rfl⟩) p.it List.mem_cons_self e.symm
      have ndr : ∀ q ∈ rs, p.it ≠ q.it := fun q h e => (List.nodup_cons.mp (List.nodup_append.mp nd).2.1).1 (List.mem_map.mpr ⟨q, h, e.symm⟩)
      rw [itsOf, List.map_cons, List.zipIdx_cons] at er
      injection er with e1 e2
      injection e1 with e3 e4
      subst e3 e4
      have D := src_draws (prog := prog) (w := w) (A := A) hh p (fun e => S0.il p hmem p hmem e.symm)
      refine wpAny_bind (wpAny_onRaise ?_)
      show wpAny _ _ (Builtin.SmallTypes.nextOf (.ref p.it) >>= _) _ _ ⟨g', g, d, tk', os⟩
      refine wpAny_bind (D.item i _ _ _ (by rw [hN p hmem]; exact hlt) (sr p List.mem_cons_self) fun x g1 tk1 hx sn hs1 => wpAny_pure ?_)
      replace hs1 : Heap.SameBut p.it g' g1 := hs1
      have hU : IsTupOf g1 TO ys := hs1.extBut _ _ (S0.zi p hmem).2.2 hT
      refine wpAny_bind (wpAny_seqItems (s := ⟨g1, g, d, tk1, os⟩) hU rfl ?_)
      refine wpAny_bind (updateSeq_tup (s := ⟨g1, g, d, tk1, os⟩) hU (by rw [hyl]; exact hlen) fun g2 hT2 hs2 => ?_)
      replace hs2 : Heap.SameBut TO g1 g2 := hs2
      refine wpAny_bind (wpAny_letGo (wpAny_pure ?_))
      have hl1 : dn.length < ys.length := by rw [hyl, eps, List.length_append, List.length_cons]; omega
      have hg : p.xs.getD i Value.none = x := by rw [Array.getD_eq_getD_getElem?, hx]; rfl
      refine ⟨rfl, dn ++ [p], rs, ys.set dn.length x, g2, tk1, rfl, by rw [eps, List.append_assoc]; rfl, by rw [e2, List.length_append]; rfl, ?_, ?_, hT2, by rw [List.length_set]; exact hyl, ?_, ?_, ?_, ?_⟩
      · intro q hq
        rcases List.mem_append.mp hq with hq | hq
        · exact (sd.mono (h' := g2) fun q hq o => ⟨fun e => hs2.extBut _ _ (S0.zi q (hmd q hq)).2.2.symm (hs1.extBut _ _ (ndd q hq).symm e), fun e => hs2.extBut _ _ (S0.zl q (hmd q hq)).2.symm (hs1.extBut _ _ (S0.il p hmem q (hmd q hq)).symm e)⟩) q hq
        · rw [List.mem_singleton.mp hq]
          exact D.over sn hs2 (by simp only [List.mem_cons, List.mem_nil_iff, or_false, not_or]; exact ⟨(S0.zi p hmem).2.2, (S0.zl p hmem).2⟩)
      · exact AtI.mono (h := g') (fun q hq => sr q (List.mem_cons_of_mem _ hq)) fun q hq o => ⟨fun e => hs2.extBut _ _ (S0.zi q (hmr q hq)).2.2.symm (hs1.extBut _ _ (ndr q hq).symm e), fun e => hs2.extBut _ _ (S0.zl q (hmr q hq)).2.symm (hs1.extBut _ _ (S0.il p hmem q (hmr q hq)).symm e)⟩
      · rw [List.length_append, List.length_singleton, colOf, List.map_append, List.map_cons, List.map_nil, hg]
        have : (ys.set dn.length x).take (dn.length + 1) = ys.take dn.length ++ [x] := by
          rw [List.take_add_one, List.take_set_of_le (Nat.le_refl _), List.getElem?_set_self hl1]
          rfl
        rw [this, hyt]
      · exact hs2.extBut _ _ S0.TOz.symm (hs1.extBut _ _ (S0.zi p hmem).1 hz')
      · rw [hs2.1, hs1.1, hsz]
      · exact fun c o cz cT ci e => hs2.extBut _ _ cT (hs1.extBut _ _ (ci p hmem) (hk c o cz cT ci e))
  case fin =>
    rintro b s' ⟨hb, dn, rs, ys, g2, tk2, rfl, eps, er, sd, sr, hT2, hyl, hyt, hzz, hsz, hkk⟩
    have ers : rs = [] := by
      cases rs with
      | nil => rfl
      | cons p rs => simp at er
    subst ers
    rw [List.append_nil] at eps
    subst eps
    rw [← hyl, List.take_length] at hyt
    subst hyt
    obtain ⟨b1, b2⟩ := b
    have hb' : b1 = none := hb
    subst hb'
    dsimp only
    refine wpAny_bind (wpAny_seqItems (s := ⟨g2, g, d, tk2, os⟩) hT2 rfl ?_)
    refine wpAny_bind (wpAny_newTuple ?_)
    have hzlt : z < g2.objs.size := Heap.lt_size hzz
    have el : (colOf ps i).toArray.toList = colOf ps i := rfl
    rw [el]
    show wpAny _ _ (Builtin.SmallTypes.ownedTupleHandOut (.ref z) (.ref g2.objs.size) >>= _) _ _ ⟨g2.push { cls := .type "tuple", data := .seq (colOf ps i).toArray }, g, d, tk2, os⟩
    refine wpAny_bind ?_
    unfold Builtin.SmallTypes.ownedTupleHandOut
    have hz₆ : ZF (g2.push { cls := .type "tuple", data := .seq (colOf ps i).toArray }) z TI TO .ellipsis fl := Heap.get?_push_of_some _ hzz
    refine wpAny_bind (wpAny_setField_rec hz₆ (by simp) fun h₇ hz₇ hs₇ => ?_)
    replace hz₇ : ZF h₇ z TI TO (rawInt g2.objs.size) fl := hz₇
    refine wpAny_setField_rec hz₇ (by simp) fun h₈ hz₈ hs₈ => ?_
    replace hz₈ : IsZip h₈ z TI TO (rawInt g2.objs.size) := hz₈
    replace hs₇ : Heap.SameBut z (g2.push { cls := .type "tuple", data := .seq (colOf ps i).toArray }) h₇ := hs₇
    replace hs₈ : Heap.SameBut z h₇ h₈ := hs₈
    have up : ∀ c o, c ≠ z → g2.get? c = some o → h₈.get? c = some o := fun c o c1 e => hs₈.extBut _ _ c1 (hs₇.extBut _ _ c1 (Heap.get?_push_of_some _ e))
    have hT₈ : IsTupOf h₈ g2.objs.size (colOf ps i) := hs₈.extBut _ _ (Nat.ne_of_gt hzlt) (hs₇.extBut _ _ (Nat.ne_of_gt hzlt) (Heap.get?_push_size _ rfl))
    have hz8 : h₈.objs.size = g2.objs.size + 1 := by rw [hs₈.1, hs₇.1, Heap.size_push]
    rw [hsz] at hz₈ hT₈ hz8
    refine wpAny_pure ⟨_, rfl, ?_⟩
    show Q (.ref g2.objs.size) ⟨h₈, g, d, tk2, os⟩
    rw [hsz]
    exact hQ h₈ tk2 hz₈ (sd.mono fun p hp' o => ⟨fun e => up _ _ (S0.zi p hp').1.symm e, fun e => up _ _ (S0.zl p hp').1.symm e⟩) hT₈ (up _ _ S0.TOz hT2) hz8 fun c o cz cT ci e => up c o cz (hkk c o cz cT ci e)
/-- no turn is left -/
theorem zn_endG {Q : Fin → Shared → Prop} (hh : A.handled = none) (S0 : ZA z TI TO ps S) (hz : ZF s.heap z TI TO x0 fl) (dead : x0 = .none ∨ ∃ T : Addr, x0 = rawInt T ∧ s.heap.get? T = none) (hTI : IsTupOf s.heap TI (itsOf ps)) (st : AtI s.heap N ps) (hne : ps ≠ []) (hN : ∀ p ∈ ps, p.xs.size = N)
    (hE : ∀ h' tk e, (∀ c o, c ≠ z → NotIt ps c → s.heap.get? c = some o → h'.get? c = some o) → (∃ o, h'.get? e = some o ∧ o.cls = .type "StopIteration") → E (.ref e) { s with heap := h', toks := tk }) :
    wpAny (model prog w) A (Builtin.«zip.__next__» ⟨[.ref z], []⟩) Q E s := by
  obtain ⟨hp, g, d, tk0, os⟩ := s
  show wpAny _ _ (field (.ref z) 2 >>= _) _ _ _
  refine wpAny_bind (wpAny_field hz rfl (x := .bool false) rfl ?_)
  show wpAny _ _ (field (.ref z) 3 >>= _) _ _ _
  refine wpAny_bind (wpAny_field hz rfl (x := .ref TI) rfl ?_)
  refine wpAny_bind (wpAny_seqItems hTI rfl ?_)
  cases ps with
  | nil => exact absurd rfl hne
  | cons p ps =>
    dsimp only
    rw [show ((itsOf (p :: ps)).toArray).isEmpty = false from rfl]
    simp only [Bool.false_eq_true, if_false]
    show wpAny _ _ (Builtin.SmallTypes.ownedTupleIsFree (.ref z) >>= _) _ _ _
    refine wpAny_bind ?_
    refine zf_free hz dead ?_
    simp only [if_true]
    refine wpAny_bind (wpAny_rule ?_)
    refine wpAny_bind (wpAny_field hz rfl (x := .ref TO) rfl ?_)
    refine wpAny_bind (wpAny_setField_rec hz (by simp) fun g0 hz0 hs0 => ?_)
    replace hz0 : ZF g0 z TI TO .ellipsis fl := hz0
    replace hs0 : Heap.SameBut z hp g0 := hs0
    refine wpAny_bind ?_
    have hmem : p ∈ p :: ps := List.mem_cons_self
    have D := src_draws (prog := prog) (w := w) (A := A) hh p (fun e => S0.il p hmem p hmem e.symm)
    simp only [itsOf, List.map_cons, List.zipIdx_cons, List.forIn_cons]
    refine wpAny_bind (wpAny_bind (wpAny_onRaise ?_))
    show wpAny _ _ (Builtin.SmallTypes.nextOf (.ref p.it) >>= _) _ _ ⟨g0, g, d, tk0, os⟩
    have st1 := (st.mono (h' := g0) fun p hp' o => ⟨fun e => hs0.extBut _ _ (S0.zi p hp').1.symm e, fun e => hs0.extBut _ _ (S0.zl p hp').1.symm e⟩) p hmem
    refine wpAny_bind (D.done ⟨g0, g, d, tk0, os⟩ _ _ (by rw [hN p hmem]; exact st1) fun q e hq he => ?_)
    replace hq : Heap.ExtBut p.it g0 q := hq
    obtain ⟨oe, hoe, hce⟩ := he
    replace hoe : q.get? e = some oe := hoe
    have hzq : ZF q z TI TO .ellipsis fl := hq _ _ (S0.zi p hmem).1 hz0
    have hez : e ≠ z := fun x => by subst x; rw [hzq] at hoe; cases hoe; simp at hce
    refine wpAny_setField_rec (s := ⟨q, g, d, tk0, os⟩) hzq (by simp) fun q' _ hq' => ?_
    replace hq' : Heap.SameBut z q q' := hq'
    exact hE q' tk0 e (fun c o cz ci x => hq'.extBut _ _ cz (hq _ _ (ci p hmem) (hs0.extBut _ _ cz x))) ⟨oe, hq'.extBut _ _ hez hoe, hce⟩
end
end Ow

set_option Elab.async false
set_option linter.all false
set_option maxRecDepth 100000
set_option maxHeartbeats 4000000
namespace Ow
open PySem PySem.Spec PyProof.Rows L2
/-- a zip of n sources ahead of a turn -/
def ZX (h : Heap) (z TI TO : Addr) (n : Nat) : Prop := ∃ x0 fl ys, ZF h z TI TO x0 fl ∧ (x0 = .none ∨ ∃ T : Addr, x0 = rawInt T) ∧ IsTupOf h TO ys ∧ ys.length = n
section
variable {prog : Program} {w : World} {A : Around} {E : Value → Shared → Prop} {s : Shared} {z TI TO S : Addr} {ps : List ZSrc} {i N : Nat}
theorem zx_iter {x0 : Value} {fl : Bool} {Q : Value → Shared → Prop} (hz : ZF s.heap z TI TO x0 fl) (h : Q (.ref z) s) : wpAny (model prog w) A (pyIter (.ref z)) Q E s := by
  have hT : s.TypeIs (.ref z) "zip" := ⟨_, hz, rfl⟩
  refine wpAny_pyIter_slot hT PySem.F.slot_zip_iter (wpAny_call_entry PySem.F.slot_zip_iter hT PySem.F.entry_zip_iter ?_ (PySem.F.args_zip_iter_1 _))
  show wpAny _ _ (ret (.ref z)) _ _ s
  exact wpAny_pure ⟨_, rfl, "zip", _, hT, PySem.F.slot_zip_next.lookup, h⟩
theorem zx_item {Q : Option Value → Shared → Prop} (hh : A.in1.handled = none) (S0 : ZA z TI TO ps S) (hlen : ps.length ≤ sizeLine) (hz : ZX s.heap z TI TO ps.length) (hTI : IsTupOf s.heap TI (itsOf ps))
    (st : AtI s.heap i ps) (hne : ps ≠ []) (hN : ∀ p ∈ ps, p.xs.size = N) (hlt : i < N)
    (hQ : ∀ h' tk, ZX h' z TI TO ps.length → IsTupOf h' TI (itsOf ps) → AtI h' (i + 1) ps → IsTupOf h' s.heap.objs.size (colOf ps i) → h'.objs.size = s.heap.objs.size + 1 →
      (∀ c o, c ≠ z → c ≠ TO → NotIt ps c → s.heap.get? c = some o → h'.get? c = some o) → Q (some (.ref s.heap.objs.size)) { s with heap := h', toks := tk }) :
    wpAny (model prog w) A (pyNext (.ref z)) Q E s := by
  have nTI : NotIt ps TI := fun p hp => (S0.zi p hp).2.1
  have nTO : NotIt ps TO := fun p hp => (S0.zi p hp).2.2
  obtain ⟨x0, fl, ys, hz0, hx, hTO, hyl⟩ := hz
  have hTy : s.TypeIs (.ref z) "zip" := ⟨_, hz0, rfl⟩
  have first : (x0 = .none ∨ ∃ T : Addr, x0 = rawInt T ∧ s.heap.get? T = none) → wpAny (model prog w) A (pyNext (.ref z)) Q E s := fun dead => by
    unfold pyNext
    refine wpAny_bind (wpAny_attempt (wpAny_callSpecial?_slot (name := Str.ofString "__next__") hTy PySem.F.slot_zip_next (wpAny_call_entry PySem.F.slot_zip_next hTy PySem.F.entry_zip_next
      (zn_firstG hh S0 hlen hz0 dead hTI hTO hyl st hne hN hlt fun h' tk hz' st' hn hTO' hsz hk => wpAny_pure ?_) (PySem.F.args_zip_next_1 _))))
    exact hQ h' tk ⟨_, false, _, hz', .inr ⟨_, rfl⟩, hTO', by rw [List.length_map]⟩ (hk _ _ S0.TIz S0.TITO nTI hTI) st' hn hsz hk
  rcases hx with rfl | ⟨T, rfl⟩
  · exact first (.inl rfl)
  · cases hT : s.heap.get? T with
    | none => exact first (.inr ⟨T, rfl, hT⟩)
    | some oT =>
      unfold pyNext
      refine wpAny_bind (wpAny_attempt (wpAny_callSpecial?_slot (name := Str.ofString "__next__") hTy PySem.F.slot_zip_next (wpAny_call_entry PySem.F.slot_zip_next hTy PySem.F.entry_zip_next
        (zn_more hh S0 hlen ⟨fl, hz0⟩ hT hTI st hne hN hlt fun h' tk hz' st' hn hsz hk => wpAny_pure ?_) (PySem.F.args_zip_next_1 _))))
      obtain ⟨fl', hz'⟩ := hz'
      exact hQ h' tk ⟨_, fl', ys, hz', .inr ⟨T, rfl⟩, hk _ _ S0.TOz nTO hTO, hyl⟩ (hk _ _ S0.TIz nTI hTI) st' hn hsz fun c o cz _ ci e => hk c o cz ci e
theorem zx_end {Q : Option Value → Shared → Prop} (hh : A.in1.handled = none) (S0 : ZA z TI TO ps S) (hz : ZX s.heap z TI TO ps.length) (hTI : IsTupOf s.heap TI (itsOf ps)) (st : AtI s.heap N ps) (hne : ps ≠ []) (hN : ∀ p ∈ ps, p.xs.size = N)
    (hQ : ∀ h' tk, (∀ c o, c ≠ z → NotIt ps c → s.heap.get? c = some o → h'.get? c = some o) → Q none { s with heap := h', toks := tk }) : wpAny (model prog w) A (pyNext (.ref z)) Q E s := by
  obtain ⟨x0, fl, ys, hz0, hx, hTO, hyl⟩ := hz
  have hTy : s.TypeIs (.ref z) "zip" := ⟨_, hz0, rfl⟩
  have first : (x0 = .none ∨ ∃ T : Addr, x0 = rawInt T ∧ s.heap.get? T = none) → wpAny (model prog w) A (pyNext (.ref z)) Q E s := fun dead => by
    unfold pyNext
    refine wpAny_bind (wpAny_attempt (wpAny_callSpecial?_slot (name := Str.ofString "__next__") hTy PySem.F.slot_zip_next (wpAny_call_entry PySem.F.slot_zip_next hTy PySem.F.entry_zip_next
      (zn_endG hh S0 hz0 dead hTI st hne hN fun h' tk e hk he => ?_) (PySem.F.args_zip_next_1 _))))
    obtain ⟨o, ho, hc⟩ := he
    refine wpAny_bind (wpAny_isInstance (T := "StopIteration") (b := true) ⟨o, ho, hc⟩ isSubtype_stop ?_)
    exact wpAny_pure (hQ _ _ hk)
  rcases hx with rfl | ⟨T, rfl⟩
  · exact first (.inl rfl)
  · cases hT : s.heap.get? T with
    | none => exact first (.inr ⟨T, rfl, hT⟩)
    | some oT =>
      unfold pyNext
      refine wpAny_bind (wpAny_attempt (wpAny_callSpecial?_slot (name := Str.ofString "__next__") hTy PySem.F.slot_zip_next (wpAny_call_entry PySem.F.slot_zip_next hTy PySem.F.entry_zip_next
        (zn_endM hh S0 ⟨fl, hz0⟩ hT hTI st hne hN fun h' tk e hk he => ?_) (PySem.F.args_zip_next_1 _))))
      obtain ⟨o, ho, hc⟩ := he
      refine wpAny_bind (wpAny_isInstance (T := "StopIteration") (b := true) ⟨o, ho, hc⟩ isSubtype_stop ?_)
      exact wpAny_pure (hQ _ _ hk)
end
/-! ### the walk: each item a new tuple, a column of the rows -/
def ItzC (K : PySem.W.Frag) (N : Nat) (rs : List V) (rows : List (List V)) : It :=
  ⟨fun i H => i < N ∧ RowsV K H N rs rows, fun i H v H' => ∃ T, v = .ref T ∧ H T = none ∧ H' = upd H T (.tup (colV rows i)), fun i H => i = N ∧ RowsV K H N rs rows⟩
abbrev pr (p : ZSrc) : Addr × Addr := (p.it, p.l)
def jsOf : Nat → List Addr → List (Addr × Addr)
  | _, [] => []
  | n, a :: r => (n, a) :: jsOf (n + 1) r
theorem srcs_js : ∀ (n : Nat) (ls : List (Addr × Array Value)), (srcs n ls).map pr = jsOf n (ls.map (·.1))
  | _, [] => rfl
  | n, p :: r => by
    show _ :: (srcs (n + 1) r).map pr = _ :: jsOf (n + 1) (r.map (·.1))
    rw [srcs_js (n + 1) r]
theorem its_js (n : Nat) (ls : List (Addr × Array Value)) : itsOf (srcs n ls) = (jsOf n (ls.map (·.1))).map fun q => Value.ref q.1 := by
  rw [← srcs_js, List.map_map]
  rfl
theorem js_len : ∀ (n : Nat) (as : List Addr), (jsOf n as).length = as.length
  | _, [] => rfl
  | n, a :: r => by
    show (jsOf (n + 1) r).length + 1 = r.length + 1
    rw [js_len (n + 1) r]
def TnZ (n : Nat) (as : List Addr) (i : Nat) (h : Heap) : Prop := ZX h (n + as.length + 2) (n + as.length) (n + as.length + 1) as.length ∧ IsTupOf h (n + as.length) ((jsOf n as).map fun q => Value.ref q.1) ∧ ∀ q ∈ jsOf n as, h.IsTupleIter q.1 q.2 i
abbrev fpZ (n : Nat) (as : List Addr) : List Addr := (n + as.length + 2) :: (n + as.length) :: (n + as.length + 1) :: (jsOf n as).map (·.1)
theorem turn_zipC {P : Program} {w : World} {K : PySem.W.Frag} {x : Str} {tpos : Pos} {N n : Nat} {rs : List V} {rows : List (List V)} {as : List Addr} (hv : Vals rs (as.map Value.ref)) (hne : rs ≠ []) (few : rs.length ≤ 6) (low : ∀ a ∈ as, (a : Nat) < n) :
    Turn P w K (.Name x tpos) (ItzC K N rs rows) (fpZ n as) (n + as.length + 2) (TnZ n as) where
  mem := List.mem_cons_self
  obj := fun i h st c hc => by
    obtain ⟨⟨x0, fl, ys, hz, _, hTO, _⟩, hTI, hit⟩ := st
    rcases List.mem_cons.mp hc with rfl | hc
    · exact ⟨_, hz, fun v q => nomatch q⟩
    rcases List.mem_cons.mp hc with rfl | hc
    · exact ⟨_, hTI, fun v q => nomatch q⟩
    rcases List.mem_cons.mp hc with rfl | hc
    · exact ⟨_, hTO, fun v q => nomatch q⟩
    obtain ⟨q, hq, rfl⟩ := List.mem_map.mp hc
    obtain ⟨o, e, _, d⟩ := hit q hq
    exact ⟨o, e, fun v z => by rw [d] at z; cases z⟩
  keep := fun i h h' st k => by
    obtain ⟨⟨x0, fl, ys, hz, hx, hTO, hy⟩, hTI, hit⟩ := st
    refine ⟨⟨x0, fl, ys, k _ List.mem_cons_self _ hz, hx, k _ (List.mem_cons_of_mem _ (List.mem_cons_of_mem _ List.mem_cons_self)) _ hTO, hy⟩, k _ (List.mem_cons_of_mem _ List.mem_cons_self) _ hTI, fun q hq => ?_⟩
    obtain ⟨o, e, r⟩ := hit q hq
    exact ⟨o, k _ (List.mem_cons_of_mem _ (List.mem_cons_of_mem _ (List.mem_cons_of_mem _ (List.mem_map.mpr ⟨q, hq, rfl⟩)))) _ e, r⟩
  item := by
    intro X hP hw hK hc i pins s σ H E I hf st hg
    subst hP hw hK
    obtain ⟨hz, hTI, hit⟩ := st
    obtain ⟨hi, hr⟩ := hg
    obtain ⟨ls, e1, h1, h2⟩ := rows_src I hr hv
    have ea : as = ls.map (·.1) := by
      have := congrArg (List.map fun v : Value => match v with | .ref a => a | _ => 0) e1
      rw [List.map_map, List.map_map] at this
      have i1 : as.map ((fun v : Value => match v with | .ref a => a | _ => 0) ∘ Value.ref) = as := by
        conv => rhs; rw [← List.map_id as]
        exact List.map_congr_left fun _ _ => rfl
      rw [i1] at this
      exact this
    subst ea
    have ll : (ls.map (·.1)).length = ls.length := List.length_map _
    have lr : rs.length = ls.length := by have := hv.length; rw [List.length_map, List.length_map] at this; exact this
    have S0 : ZA (n + (ls.map (·.1)).length + 2) (n + (ls.map (·.1)).length) (n + (ls.map (·.1)).length + 1) (srcs n ls) (n + (ls.map (·.1)).length + 3) := by
      rw [ll]
      exact za_of fun p hp => low p.1 (List.mem_map.mpr ⟨p, hp, rfl⟩)
    have hsl : (srcs n ls).length = (ls.map (·.1)).length := by rw [srcs_len, ll]
    have st' : AtI s.heap i (srcs n ls) := fun p hp => ⟨hit (pr p) (by rw [← srcs_js]; exact List.mem_map.mpr ⟨p, hp, rfl⟩), (h1 _ (srcs_src hp)).1⟩
    have hne' : srcs n ls ≠ [] := fun e => hne (List.eq_nil_of_length_eq_zero (by rw [lr, ← ll, ← hsl, e]; rfl))
    have hN : ∀ p ∈ srcs n ls, p.xs.size = N := fun p hp => (h1 _ (srcs_src hp)).2
    have hlen : (srcs n ls).length ≤ sizeLine := by rw [hsl, ll, ← lr]; exact Nat.le_trans few (by rw [sizeLine_eq]; decide)
    rw [← its_js] at hTI
    refine zx_item (I.ok.hd hc) S0 hlen (by rw [hsl]; exact hz) hTI st' hne' hN hi fun h' tk hz' hTI' st2 hT hsz hk => ?_
    rw [hsl] at hz'
    refine ⟨_, rfl, wpAny_pure ?_⟩
    have lc : (colV rows i).length ≤ sizeLine := by
      unfold colV
      rw [List.length_map, ← h2.len, ← lr]
      exact Nat.le_trans few (by rw [sizeLine_eq]; decide)
    have new : ObjOk X.prog X.w (upd H s.heap.objs.size (.tup (colV rows i))) h' s.heap.objs.size (.tup (colV rows i)) := ⟨lc, colOf (srcs n ls) i, vals_col (src_all2 n h2) hN hi, ⟨_, hT, rfl, _, rfl⟩⟩
    have offIt : ∀ {c : Addr}, c ∉ fpZ n (ls.map (·.1)) → NotIt (srcs n ls) c := fun {c} hb p hp e => hb (List.mem_cons_of_mem _ (List.mem_cons_of_mem _ (List.mem_cons_of_mem _ (by
      rw [← srcs_js, List.map_map]
      exact List.mem_map.mpr ⟨p, hp, e.symm⟩))))
    have I1 : Inv X pins σ (upd H s.heap.objs.size (.tup (colV rows i))) { s with heap := h', toks := tk } :=
      I.turnedNew (t' := tk) (ch := fpZ n (ls.map (·.1))) (fun c o hb e => hk c o (fun z => hb (by rw [z]; exact List.mem_cons_self)) (fun z => hb (by rw [z]; exact List.mem_cons_of_mem _ (List.mem_cons_of_mem _ List.mem_cons_self))) (offIt hb) e) hf (Nat.le_refl _) new
    refine ⟨.ref s.heap.objs.size, _, I1, rfl, ⟨_, rfl, I.hok.fresh (Nat.le_refl _), rfl⟩, ⟨?_, ?_, fun q hq => ?_⟩, fun c hcm => ?_⟩
    · exact hz'
    · rw [← its_js]
      exact hTI'
    · rw [← srcs_js] at hq
      obtain ⟨p, hp, rfl⟩ := List.mem_map.mp hq
      exact (st2 p hp).1
    · have hcN := (hf c hcm).1
      have hlt : c < s.heap.objs.size := by
        obtain ⟨x0, fl, ys, hz0, _, hTO, _⟩ := hz
        rcases List.mem_cons.mp hcm with rfl | hcm
        · exact Heap.lt_size hz0
        rcases List.mem_cons.mp hcm with rfl | hcm
        · exact Heap.lt_size hTI
        rcases List.mem_cons.mp hcm with rfl | hcm
        · exact Heap.lt_size hTO
        obtain ⟨q, hq, rfl⟩ := List.mem_map.mp hcm
        obtain ⟨o, e, _⟩ := hit q hq
        exact Heap.lt_size e
      rw [upd_ne (Nat.ne_of_lt hlt)]
      exact hcN
  done := by
    intro X hP hw hK hc i pins s σ H E I hf st hg
    subst hP hw hK
    obtain ⟨hz, hTI, hit⟩ := st
    obtain ⟨rfl, hr⟩ := hg
    obtain ⟨ls, e1, h1, h2⟩ := rows_src I hr hv
    have ea : as = ls.map (·.1) := by
      have := congrArg (List.map fun v : Value => match v with | .ref a => a | _ => 0) e1
      rw [List.map_map, List.map_map] at this
      have i1 : as.map ((fun v : Value => match v with | .ref a => a | _ => 0) ∘ Value.ref) = as := by
        conv => rhs; rw [← List.map_id as]
        exact List.map_congr_left fun _ _ => rfl
      rw [i1] at this
      exact this
    subst ea
    have ll : (ls.map (·.1)).length = ls.length := List.length_map _
    have lr : rs.length = ls.length := by have := hv.length; rw [List.length_map, List.length_map] at this; exact this
    have S0 : ZA (n + (ls.map (·.1)).length + 2) (n + (ls.map (·.1)).length) (n + (ls.map (·.1)).length + 1) (srcs n ls) (n + (ls.map (·.1)).length + 3) := by
      rw [ll]
      exact za_of fun p hp => low p.1 (List.mem_map.mpr ⟨p, hp, rfl⟩)
    have hsl : (srcs n ls).length = (ls.map (·.1)).length := by rw [srcs_len, ll]
    have st' : AtI s.heap i (srcs n ls) := fun p hp => ⟨hit (pr p) (by rw [← srcs_js]; exact List.mem_map.mpr ⟨p, hp, rfl⟩), (h1 _ (srcs_src hp)).1⟩
    have hne' : srcs n ls ≠ [] := fun e => hne (List.eq_nil_of_length_eq_zero (by rw [lr, ← ll, ← hsl, e]; rfl))
    have hN : ∀ p ∈ srcs n ls, p.xs.size = i := fun p hp => (h1 _ (srcs_src hp)).2
    rw [← its_js] at hTI
    refine zx_end (N := i) (I.ok.hd hc) S0 (by rw [hsl]; exact hz) hTI st' hne' hN fun h' tk hk => ?_
    refine ⟨rfl, I.turnedL (t' := tk) (ch := fpZ n (ls.map (·.1))) (fun c o hb e => hk c o (fun z => hb (by rw [z]; exact List.mem_cons_self)) (fun p hp e2 => hb (List.mem_cons_of_mem _ (List.mem_cons_of_mem _ (List.mem_cons_of_mem _ (by
      rw [← srcs_js, List.map_map]
      exact List.mem_map.mpr ⟨p, hp, e2.symm⟩))))) e) hf⟩
  self := fun A i s Q E st h => by
    obtain ⟨⟨x0, fl, ys, hz, _⟩, _⟩ := st
    exact zx_iter hz h
theorem walk_zipC {K : PySem.W.Frag} {N : Nat} {rs : List V} {rows : List (List V)} : Walk (ItzC K N rs rows) N (fun H => RowsV K H N rs rows) (fun i H v H' => ∃ T, v = .ref T ∧ H T = none ∧ H' = upd H T (.tup (colV rows i))) :=
  ⟨fun i H hi h => ⟨hi, h⟩, fun H h => ⟨rfl, h⟩, fun i H x H' _ _ y => y⟩
end Ow

set_option Elab.async false
set_option linter.all false
set_option maxRecDepth 100000
set_option maxHeartbeats 4000000
namespace Ow
open PySem PySem.Spec PyProof.Rows L2
section
variable {X : Cx} {pins : List (Addr × Obj)} {σ : L2.St} {H1 : Hp} {s1 : Shared}
theorem zip_start {R : It → Hp → Prop} {x : Str} {tpos : Pos} {N : Nat} {rs : List V} {rows : List (List V)} {us : List Value} (I1 : Inv X pins σ H1 s1) (hv : Vals rs us) (hne : rs ≠ []) (few : rs.length ≤ 6) (hr : RowsV X.K H1 N rs rows) (q : R (ItzC X.K N rs rows) H1) :
    wpAny (model X.prog X.w) X.A (call (.type "zip") us) (fun v s2 => wpAny (model X.prog X.w) X.A (pyIter v) (PIE X pins σ (.Name x tpos) R) X.xe s2) X.xe s1 := by
  obtain ⟨ls, rfl, h1, h2⟩ := rows_src I1 hr hv
  have ll : (ls.map (·.1)).length = ls.length := List.length_map _
  have lr : rs.length = ls.length := by have := hv.length; rw [List.length_map] at this; exact this
  have lt : ∀ p ∈ ls, (p.1 : Nat) < s1.heap.objs.size := fun p hp => by
    obtain ⟨o, ho, _⟩ := (h1 p hp).1
    exact Heap.lt_size ho
  refine call_zipN (fun p hp => (h1 p hp).1) (by omega) fun h' hz hI hO hat hsz hk => ?_
  refine wpAny_pyIter_zip hz ?_
  have I2 : Inv X pins σ H1 { s1 with heap := h' } := I1.kept (t' := s1.toks) hk
  have hv' : Vals rs ((ls.map (·.1)).map Value.ref) := by
    rw [List.map_map]
    exact hv
  refine ⟨s1.heap.objs.size + (ls.map (·.1)).length + 2, fpZ s1.heap.objs.size (ls.map (·.1)), TnZ s1.heap.objs.size (ls.map (·.1)), _, H1, by rw [ll], I2, turn_zipC hv' hne few (fun a ha => by
    obtain ⟨p, hp, rfl⟩ := List.mem_map.mp ha
    exact lt p hp), ⟨?_, ?_, fun j hj => ?_⟩, fun c hcm => ?_, q⟩
  · obtain ⟨ys, hT, hy⟩ := hO
    rw [ll]
    exact ⟨.none, false, ys, hz, .inl rfl, hT, hy⟩
  · rw [ll, ← its_js]
    exact hI
  · rw [← srcs_js] at hj
    obtain ⟨p, hp, rfl⟩ := List.mem_map.mp hj
    exact (hat p hp).1
  · have hle : s1.heap.objs.size ≤ c := by
      rcases List.mem_cons.mp hcm with rfl | hcm
      · exact Nat.le_trans (Nat.le_add_right _ _) (Nat.le_add_right _ _)
      rcases List.mem_cons.mp hcm with rfl | hcm
      · exact Nat.le_add_right _ _
      rcases List.mem_cons.mp hcm with rfl | hcm
      · exact Nat.le_trans (Nat.le_add_right _ _) (Nat.le_add_right _ _)
      rw [← srcs_js, List.map_map] at hcm
      obtain ⟨p, hp, rfl⟩ := List.mem_map.mp hcm
      exact (srcs_it hp).1
    exact I1.fpOk hle (I1.hok.fresh hle)
end
/-- for x in zip(a, b, ..), tuples of one length -/
def iZipC (K : PySem.W.Frag) (ta : TA) : TI := fun σ H R => ta σ H fun vs H1 => ∃ N rows, vs ≠ [] ∧ vs.length ≤ 6 ∧ RowsV K H1 N vs rows ∧ R (ItzC K N vs rows) H1
theorem pi_zipC {X : Cx} {e : Expr} {es : List Expr} {ta : TA} {x : Str} {p pos tpos : Pos} (gz : Gl X "zip") (mz : X.mg "zip" = none) (ha : PA X (e :: es) ta)
    (star : starEach (e :: es) X.env = (false, eval e X.env) :: starEach es X.env := by rfl) (plain : (backTo pos (starEach es X.env)).any (·.1) = false := by rfl) :
    PI X (.Name x tpos) (.Call (.Name "zip" p) (e :: es) [] pos) (iZipC X.K ta) := by
  refine ⟨fun pins s σ H R I h => Call_ (ld_blt I gz mz PyProof.Rows.boot_zip (PyProof.Rows.callWith_type1 (thn (ha.run pos pins s σ H _ I h) fun us s1 got => ?_) star plain))⟩
  obtain ⟨vs, H1, I1, r1, N, rows, ne, few, hr, q⟩ := got
  exact zip_start I1 r1 ne few hr q
/-- for x in zip( *e) -/
def iZipS (K : PySem.W.Frag) (te : TE) : TI := fun σ H R => te σ H fun x H1 => ∃ a rs N rows, x = .ref a ∧ (SqT K H1 a rs ∨ SqL K H1 a rs) ∧ rs ≠ [] ∧ rs.length ≤ 6 ∧ RowsV K H1 N rs rows ∧ R (ItzC K N rs rows) H1
theorem pi_zipS {X : Cx} {e : Expr} {te : TE} {x : Str} {p2 p3 pos2 tpos : Pos} (gz : Gl X "zip") (mz : X.mg "zip" = none) (ha : PE X e te)
    (star : starEach [.Starred e p3] X.env = [(true, eval e X.env)] := by rfl) : PI X (.Name x tpos) (.Call (.Name "zip" p2) [.Starred e p3] [] pos2) (iZipS X.K te) := by
  refine ⟨fun pins s σ H R I hq => wpAny_Call_Name_kw (ld_blt I gz mz PyProof.Rows.boot_zip ?_)⟩
  rw [star]
  refine PySem.W.ks_call (P := fun _ => True) rfl (fun _ _ => ⟨.machine, .inr (.inl rfl), PySem.W.Looks.of_pure rfl⟩) (PySem.W.ks_lone (thn (ha.run pins s σ H _ I hq) fun v s1 got => ?_))
  obtain ⟨y, H1, I1, ry, a, rs, N, rows, rfl, hrs, ne, few, hr, q⟩ := got
  obtain rfl : v = Value.ref a := ry
  refine StX.star_any I1 hrs fun us s2 I2 rv => ⟨True.intro, ?_⟩
  show wpAny _ _ (call (.type "zip") ([] ++ us)) _ _ s2
  rw [List.nil_append]
  exact zip_start I2 rv ne few hr q
end Ow

set_option Elab.async false
set_option linter.all false
set_option maxRecDepth 100000
set_option maxHeartbeats 4000000
namespace Ow
open PySem PySem.Spec PyProof.Rows L2
theorem scLSumOf : FnScope ["rows", "at", "row"] ["rows"] (defScope dLSumOf) := ⟨rfl, rfl, rfl, by decide +kernel, rfl, by decide +kernel, by decide +kernel⟩
theorem scJoined : FnScope ["kind", "one", "other", "last", "pair", "three"] ["kind", "one", "other", "last"] (defScope dLJoinedRow) := ⟨rfl, rfl, rfl, by decide +kernel, rfl, by decide +kernel, by decide +kernel⟩
theorem boot_sumG : bootBuiltins "sum" = some (.builtin "sum") := by decide +kernel
theorem boot_minG : bootBuiltins "min" = some (.builtin "min") := by decide +kernel
theorem boot_maxG : bootBuiltins "max" = some (.builtin "max") := by decide +kernel
theorem boot_sortedG : bootBuiltins "sorted" = some (.builtin "sorted") := by decide +kernel
/-- the sum of rows, item by item -/
def sumRow (m : Nat) (rs : List (List Int)) : List Int := (List.range m).map fun k => (rs.map (rowAt k)).sum % 2
theorem sumRow_ok {m : Nat} {rs : List (List Int)} : bitsB (sumRow m rs) = true ∧ (sumRow m rs).length = m := by
  refine ⟨List.all_eq_true.mpr fun n hn => ?_, by unfold sumRow; rw [List.length_map, List.length_range]⟩
  obtain ⟨k, _, rfl⟩ := List.mem_map.mp hn
  have h := Int.emod_nonneg (rs.map (rowAt k)).sum (show (2 : Int) ≠ 0 by decide)
  have h2 := Int.emod_lt_of_pos (rs.map (rowAt k)).sum (show (0 : Int) < 2 by decide)
  rcases (show (rs.map (rowAt k)).sum % 2 = 0 ∨ (rs.map (rowAt k)).sum % 2 = 1 by omega) with e | e <;> rw [e] <;> decide
def sSumR : Scope := { kind := .function, names := [(".0", .local), ("at", .cell), ("int", .globalImplicit), ("sum", .globalImplicit), ("rows", .cell)], isGenerator := false, isCoroutine := false }
def sInR : Scope := { kind := .function, names := [(".0", .local), ("row", .local), ("at", .free)], isGenerator := false, isCoroutine := false }
def rIntG : List V → Hp → VK → Prop := fun xs H Q => (∃ i, xs = [.int i] ∧ Q (.int i) H) ∨ ∃ k, xs = [.bl k] ∧ Q (.int (if k then 1 else 0)) H
theorem sum_readG {K : PySem.W.Frag} {t : TE} {σ : L2.St} {H : Hp} {Kk : VK} (h : t σ H fun x H1 => rSum K [x] H1 fun y H2 => rIntG [y] H2 fun z H3 => rI (fun _ j => 0 < j) (fun i j => .int (i % j)) z (.int 2) H3 Kk) :
    tOp (rI (fun _ j => 0 < j) fun i j => .int (i % j)) (tCB rIntG (tCons (tCB (rSum K) (tCons t tNil)) tNil)) (tC (.int 2)) σ H Kk := h
def spLSum : Sp := fun vs H Q _ => ∃ (a : Addr) (m : Nat) (rs : List (List Int)), vs = [.ref a] ∧ IsRows H (.ref a) rs ∧ RowsOk m rs ∧ rs ≠ [] ∧ rs.length ≤ 4000 ∧ m ≤ 60 ∧ ∀ H' x, Same H H' → IsRow H' x (sumRow m rs) → Q x H'
section
variable {P : Program} {w : World} {K : PySem.W.Frag} {mg : Str → Option Value} {base : Heap}
theorem ok_lsumof {f : Addr} {fd : FuncData} (F : Fun K "_law_sum_of" "_law_sum_of" dLSumOf f fd) (mt : mg "tuple" = none) (mr : mg "range" = none) (mi : mg "int" = none) (ml : mg "len" = none) (msu : mg "sum" = none) : FnOk P w K mg base CX0 1 f fd ["rows"] spLSum := by
  refine F.ok scLSumOf (fun vs H Q E h => ?_) (fun cdv A outer s H vs Q E hr h => ?_)
  · obtain ⟨a, m, rs, rfl, _⟩ := h
    rfl
  obtain ⟨a, m, rs, rfl, hR, ok, ne, hl, hm, q⟩ := h
  obtain ⟨t, xs, et, ht, hx⟩ := id hR
  cases et
  have lx := hx.len
  refine ⟨_, pss_one (ps_ret (pe_callTy call_tuple_of (by rfl) mt boot_tup (pa_cons
        (pe_lc (te := tOp (rI (fun _ j => 0 < j) fun i j => .int (i % j)) (tCB rIntG (tCons (tCB (rSum K) (tCons (tLc (iTup K (tVar 0)) (gName 2) tYes (tOp (rIxT K) (tVar 2) (tVar 1)) ([(("row" : Str), 2)].map (·.2))) tNil)) tNil)) (tC (.int 2))) (own := [("at", 1)]) (g := gName 1) (tt := tYes) rfl scLSumOf.nd
          (pi_range1 (by rfl) mr (pa_cons (pe_callB call_len_seq (by rfl) ml PySem.boot_len (pa_cons (pe_ix ix_tup (pv 0) pe_int (fun _ _ => rfl)) pa_nil)) pa_nil)) (blkOk_by (N := ["rows", "at", "row"]) (sc := defScope dLSumOf) (by decide +kernel))
          (fun _ _ _ _ _ => pg_name (i := 1) scLSumOf.nd rfl (Or.inr rfl)) (fun _ _ _ _ _ => pts_nil)
          (fun _ _ _ _ _ => pe_op op_mod (pe_callTy call_int1 (by rfl) mi boot_int (pa_cons (pe_callB (cr_sum rfl) (by rfl) msu boot_sumG (pa_cons
            (pe_lc (own := [("row", 2)]) (g := gName 2) (tt := tYes) rfl scLSumOf.nd (pi_tup (pv 0)) (blkOk_by (N := ["rows", "at", "row"]) (sc := sSumR) (scope := sInR) (own := [("row", 2)]) (by decide +kernel))
              (fun _ _ _ _ _ => pg_name (i := 2) scLSumOf.nd rfl (Or.inl rfl)) (fun _ _ _ _ _ => pts_nil)
              (fun _ _ _ _ _ => pe_ix ix_tup (pv 2) (pv 1) (fun _ _ => rfl))) pa_nil)) pa_nil)) pe_int)) pa_nil))), ?_⟩
  cases rs with
  | nil => exact absurd rfl ne
  | cons r0 rt =>
  cases hx with
  | @cons x0 _ xt _ h0 hxt =>
  obtain ⟨b0, rfl, hb0⟩ := h0
  have l0 := (ok r0 List.mem_cons_self).2
  have hx : All2 (IsRow H) (.ref b0 :: xt) (r0 :: rt) := .cons ⟨b0, rfl, hb0⟩ hxt
  refine ⟨.ref a, rfl, a, _, 0, .ref b0, rfl, rfl, .of ht, atI_nat (j := 0) rfl, b0, _, rfl, .inr (.of hb0), m, by rw [List.length_map, l0], by omega, by omega, fun D nD => ?_⟩
  refine lc_map (M := No) (walk_range (lo := 0) (n := m)) (by omega) Jg.no nD (fun i _ y => y = .int (((r0 :: rt).map (rowAt i)).sum % 2)) (fun _ _ _ _ _ h => h) (fun Hx g _ => trivial)
    (fun i x Hx Hx' Kk hi g _ hY hK => ?_) (fun Hx ys g _ eD hlen hq => ?_)
  · obtain ⟨e1, e2⟩ := hY
    subst e1 e2
    refine ⟨rfl, sum_readG ?_⟩
    have hxx := all_tk (Tk.same g.toSame) hx
    refine ⟨.ref a, rfl, a, rfl, ⟨_, .of (g.toSame _ _ ht)⟩, fun D2 nD2 => ?_⟩
    refine lc_map (M := No) (walk_tup (K := K) (a := a) (xs := .ref b0 :: xt)) (by rw [lx]; omega) Jg.no nD2 (fun j _ y => ∃ r, (r0 :: rt)[j]? = some r ∧ y = .int (rowAt i r)) (fun _ _ _ _ _ h => h) (fun Hy g2 _ => .of (g2.toSame _ _ (g.toSame _ _ ht)))
      (fun j x Hy Hy' Kk2 hj g2 _ hY hK2 => ?_) (fun Hy ys g2 _ eD2 hlen hq => ?_)
    · obtain ⟨rfl, hxj⟩ := hY
      obtain ⟨r, hr', b, rfl, hb⟩ := hxx.get hxj
      obtain ⟨_, er⟩ := row_bit ok hi (List.mem_of_getElem? hr')
      have at_ : (r.map V.int)[i]? = some (.int (rowAt i r)) := by rw [List.getElem?_map, er]; rfl
      refine ⟨rfl, .ref b, rfl, .int (0 + (i : Int)), rfl, b, _, (0 + (i : Int)), .int (rowAt i r), rfl, rfl, .of (g2.toSame _ _ hb), by rw [Int.zero_add]; exact atI_nat at_, hK2 _ _ (Gw.refl _) Jg.no ⟨r, hr', rfl⟩⟩
    · have e : ys = ((r0 :: rt).map (rowAt i)).map V.int := by
        rw [List.map_map]
        exact list_eq (f := V.int ∘ rowAt i) hlen (by rw [lx]) hq
      rw [e] at eD2
      exact ⟨D2, _, rfl, .of eD2, .inl ⟨_, rfl, _, _, rfl, rfl, (by show (0 : Int) < 2; decide), hK _ _ (Gw.same g2.toSame) Jg.no rfl⟩⟩
  · have e : ys = (sumRow m (r0 :: rt)).map V.int := by
      unfold sumRow
      rw [List.map_map]
      refine list_eq (f := V.int ∘ fun k => ((r0 :: rt).map (rowAt k)).sum % 2) (zs := List.range m) hlen (by rw [List.length_range]) fun i y hy => ?_
      have lt : i < m := by
        have := (List.getElem?_eq_some_iff.mp hy).1
        omega
      exact ⟨i, by rw [List.getElem?_range lt], hq i y hy⟩
    rw [e] at eD
    exact ⟨D, _, rfl, .inl ⟨.of eD, fun u nu => q _ (.ref u) (g.toSame.trans (same_new nu)) ⟨u, rfl, upd_same⟩⟩⟩
end
end Ow

set_option Elab.async false
set_option linter.all false
set_option maxRecDepth 100000
set_option maxHeartbeats 4000000
namespace Ow
open PySem PySem.Spec PyProof.Rows L2
theorem col_rows {rs : List (List Int)} {m i : Nat} (h : ∀ r ∈ rs, r.length = m) (hi : i < m) : colV (rs.map (·.map V.int)) i = (rs.map (rowAt i)).map V.int := by
  unfold colV
  rw [List.map_map, List.map_map]
  refine List.map_congr_left fun r hr => ?_
  show (r.map V.int).getD i .non = V.int (rowAt i r)
  unfold rowAt
  rw [List.getD_eq_getElem?_getD, List.getElem?_map, List.getD_eq_getElem?_getD, List.getElem?_eq_getElem (by rw [h r hr]; exact hi)]
  rfl
theorem rows_sq {K : PySem.W.Frag} {H : Hp} {m : Nat} : ∀ {vs : List V} {rs : List (List Int)}, All2 (IsRow H) vs rs → (∀ r ∈ rs, r.length = m) → RowsV K H m vs (rs.map (·.map V.int))
  | _, _, .nil, _ => .nil
  | _, _, .cons h t, l => .cons (by
    obtain ⟨b, rfl, hb⟩ := h
    exact ⟨b, rfl, .of hb, by rw [List.length_map]; exact l _ List.mem_cons_self⟩) (rows_sq t fun r hr => l r (List.mem_cons_of_mem _ hr))
theorem bit_at {m i : Nat} {rs : List (List Int)} (ok : RowsOk m rs) (hi : i < m) : ∀ n ∈ rs.map (rowAt i), n = 0 ∨ n = 1 := fun n hn => by
  obtain ⟨r, hr, rfl⟩ := List.mem_map.mp hn
  exact (row_bit ok hi hr).1
theorem bits_of : ∀ {ys : List V} , (∀ y ∈ ys, ∃ n : Int, y = .int n ∧ (n = 0 ∨ n = 1)) → ∃ ns : List Int, ys = ns.map V.int ∧ bitsB ns = true
  | [], _ => ⟨[], rfl, rfl⟩
  | y :: ys, h => by
    obtain ⟨n, rfl, hn⟩ := h y List.mem_cons_self
    obtain ⟨ns, rfl, hs⟩ := bits_of fun z hz => h z (List.mem_cons_of_mem _ hz)
    refine ⟨n :: ns, rfl, ?_⟩
    unfold bitsB at hs ⊢
    rw [List.all_cons, hs]
    rcases hn with rfl | rfl <;> rfl
abbrev joinN : List Str := ["kind", "one", "other", "last", "pair", "three"]
def BitRow (m : Nat) (H : Hp) (v : V) (ns : List Int) : Prop := IsRow H v ns ∧ bitsB ns = true ∧ ns.length = m
theorem BitRow.tk {m : Nat} {H H' : Hp} {v : V} {ns : List Int} (t : Tk H H') (h : BitRow m H v ns) : BitRow m H' v ns := ⟨h.1.tk t, h.2⟩
def spJoin : Sp := fun vs H Q _ => ∃ (k : Str) (a b c : V) (m : Nat) (x y z : List Int), vs = [.str k, a, b, c] ∧ BitRow m H a x ∧ BitRow m H b y ∧ BitRow m H c z ∧ 1 ≤ m ∧ m ≤ 60 ∧ ∀ H' v ns, Same H H' → BitRow m H' v ns → Q v H'
/-- tuple(D) behind a list D -/
def tupQ (K : PySem.W.Frag) (Q : VK) : VK := fun v H1 => ∃ p ys, [v] = [V.ref p] ∧ ((SqL K H1 p ys ∧ ∀ l, H1 l = none → Q (.ref l) (upd H1 l (.tup ys))) ∨ (SqT K H1 p ys ∧ Q (.ref p) H1))
section
variable {P : Program} {w : World} {K : PySem.W.Frag} {mg : Str → Option Value} {base : Heap}
/-- a comprehension over zip of rows, each item a bit -/
theorem zip_bits {H : Hp} {σ : L2.St} {te : TE} {g : TG} {vs : List Nat} {us : List V} {rs : List (List Int)} {m : Nat} {Q : VK} {D : Addr} (hu : All2 (IsRow H) us rs) (ok : RowsOk m rs) (ne : us ≠ []) (hm : m ≤ 60) (nD : H D = none)
    (hs : ∀ (T : Addr) (i : Nat) Hx (Kk : VK), i < m → Same H Hx → Hx T = some (.tup ((rs.map (rowAt i)).map V.int)) → (∀ H4 n, Same Hx H4 → (n = 0 ∨ n = 1) → Kk (.int n) H4) → g (.ref T) (wipe σ vs) Hx fun σ2 H2 => wipe σ2 vs = wipe σ vs ∧ te σ2 H2 Kk)
    (q : ∀ H' ns, Same H H' → H' D = some (.lst (ns.map V.int)) → bitsB ns = true → ns.length = m → Q (.ref D) H') :
    ∃ W : Nat → Nat → Hp → Prop, (∃ m, W 0 m (upd H D (.lst []))) ∧ ∀ i k Hx, W i k Hx →
      ((ItzC K m us (rs.map (·.map V.int))).stop i Hx ∧ Q (.ref D) Hx) ∨ ((ItzC K m us (rs.map (·.map V.int))).go i Hx ∧ ∃ Nx : Hp → Prop, (∀ H', Nx H' → ∃ m', m' < k ∧ W (i + 1) m' H') ∧ ∀ x H', (ItzC K m us (rs.map (·.map V.int))).yld i Hx x H' → g x (wipe σ vs) H' fun σ2 H2 => wipe σ2 vs = wipe σ vs ∧ tYes σ2 H2 fun b H3 =>
        if b = true then te σ2 H3 fun y H4 => ∃ acc, H4 D = some (.lst acc) ∧ acc.length < sizeLine ∧ Nx (upd H4 D (.lst (acc ++ [y]))) else Nx H3) := by
  refine lc_map (M := No) (walk_zipC (K := K) (N := m) (rs := us) (rows := rs.map (·.map V.int))) (by omega) Jg.no nD (fun i _ y => ∃ n : Int, y = .int n ∧ (n = 0 ∨ n = 1)) (fun _ _ _ _ _ h => h)
    (fun Hx gx _ => rows_sq (all_tk (Tk.same gx.toSame) hu) fun r hr => (ok r hr).2) (fun i x Hx Hx' Kk hi gx _ hY hK => ?_) (fun Hx ys gx _ eD hlen hq => ?_)
  · obtain ⟨T, rfl, nT, rfl⟩ := hY
    rw [col_rows (fun r hr => (ok r hr).2) hi]
    exact hs T i _ Kk hi (gx.toSame.trans (same_new nT)) upd_same fun H4 n s4 hn => hK _ _ (Gw.same ((same_new nT).trans s4)) Jg.no ⟨n, rfl, hn⟩
  · obtain ⟨ns, rfl, hb⟩ := bits_of (ys := ys) fun y hy => by
      obtain ⟨i, hi⟩ := List.mem_iff_getElem?.mp hy
      exact hq i y hi
    rw [List.length_map] at hlen
    exact q Hx ns gx.toSame eD hb hlen
theorem ok_ljoined {f fS : Addr} {fd fdS : FuncData} (F : Fun K "_law_joined_row" "_law_joined_row" dLJoinedRow f fd)
    (FS : FnOk P w K mg base CX0 1 fS fdS ["rows"] spLSum) (kS : PySem.W.keepIn K (.ref fS) = true) (bS : Binds K fdS ["rows"] []) (gS : mg "_law_sum_of" = some (.ref fS))
    (mt : mg "tuple" = none) (mz : mg "zip" = none) (mn : mg "min" = none) (mx : mg "max" = none) (ms : mg "sorted" = none) : FnOk P w K mg base CX0 2 f fd ["kind", "one", "other", "last"] spJoin := by
  refine F.ok scJoined (fun vs H Q E h => ?_) (fun cdv A outer s H vs Q E hr h => ?_)
  · obtain ⟨k, a, b, c, m, x, y, z, rfl, _⟩ := h
    rfl
  obtain ⟨k, a, b, c, m, x, y, z, rfl, ⟨ha, bx, lx⟩, ⟨hb, by_, ly⟩, ⟨hc, bz, lz⟩, m1, m6, q⟩ := h
  refine ⟨_, pss_cons (ps_if (pt_cmpR op_eq (pv 0) pe_str (nomark _))
      (pss_one (ps_ret (pe_callTy call_tuple_of (by rfl) mt boot_tup (pa_cons
        (pe_lc (te := tCB (rMinT K) (tCons (tVar 4) tNil)) (own := [("pair", 4)]) (g := gName 4) (tt := tYes) rfl scJoined.nd (pi_zipC (by rfl) mz (pa_cons (pv 1) (pa_cons (pv 2) pa_nil))) (blkOk_by (N := joinN) (sc := defScope dLJoinedRow) (by decide +kernel))
          (fun _ _ _ _ _ => pg_name (i := 4) scJoined.nd rfl (Or.inl rfl)) (fun _ _ _ _ _ => pts_nil)
          (fun _ _ _ _ _ => pe_callB (cr_minT rfl) (by rfl) mn boot_minG (pa_cons (pv 4) pa_nil))) pa_nil)))) pss_nil)
    (pss_cons (ps_if (pt_cmpR op_eq (pv 0) pe_str (nomark _))
      (pss_one (ps_ret (pe_callTy call_tuple_of (by rfl) mt boot_tup (pa_cons
        (pe_lc (te := tCB (rMaxT K) (tCons (tVar 4) tNil)) (own := [("pair", 4)]) (g := gName 4) (tt := tYes) rfl scJoined.nd (pi_zipC (by rfl) mz (pa_cons (pv 1) (pa_cons (pv 2) pa_nil))) (blkOk_by (N := joinN) (sc := defScope dLJoinedRow) (by decide +kernel))
          (fun _ _ _ _ _ => pg_name (i := 4) scJoined.nd rfl (Or.inl rfl)) (fun _ _ _ _ _ => pts_nil)
          (fun _ _ _ _ _ => pe_callB (cr_maxT rfl) (by rfl) mx boot_maxG (pa_cons (pv 4) pa_nil))) pa_nil)))) pss_nil)
    (pss_cons (ps_if (pt_cmpR op_eq (pv 0) pe_str (nomark _))
      (pss_one (ps_ret (pe_callTy call_tuple_of (by rfl) mt boot_tup (pa_cons
        (pe_lc (te := tOp (rIxL K) (tCB (rSortTI K) (tCons (tVar 5) tNil)) (tC (.int 1))) (own := [("three", 5)]) (g := gName 5) (tt := tYes) rfl scJoined.nd (pi_zipC (by rfl) mz (pa_cons (pv 1) (pa_cons (pv 2) (pa_cons (pv 3) pa_nil)))) (blkOk_by (N := joinN) (sc := defScope dLJoinedRow) (by decide +kernel))
          (fun _ _ _ _ _ => pg_name (i := 5) scJoined.nd rfl (Or.inl rfl)) (fun _ _ _ _ _ => pts_nil)
          (fun _ _ _ _ _ => pe_ix ix_list (pe_callB cr_sortTI (by rfl) ms boot_sortedG (pa_cons (pv 5) pa_nil)) pe_int (fun _ _ => rfl))) pa_nil)))) pss_nil)
    (pss_one (ps_ret (pe_call FS (hr.mono (by decide)) (by rfl) gS kS bS .nil pass0 (pa_cons (pe_tup (pa_cons (pv 1) (pa_cons (pv 2) (pa_cons (pv 3) pa_nil)))) pa_nil)))))), ?_⟩
  have ok2 : RowsOk m [x, y] := fun r hr => by
    simp only [List.mem_cons, List.not_mem_nil, or_false] at hr
    rcases hr with rfl | rfl
    · exact ⟨bx, lx⟩
    · exact ⟨by_, ly⟩
  have ok3 : RowsOk m [x, y, z] := fun r hr => by
    simp only [List.mem_cons, List.not_mem_nil, or_false] at hr
    rcases hr with rfl | rfl | rfl
    · exact ⟨bx, lx⟩
    · exact ⟨by_, ly⟩
    · exact ⟨bz, lz⟩
  have u2 : All2 (IsRow H) [a, b] [x, y] := .cons ha (.cons hb .nil)
  have u3 : All2 (IsRow H) [a, b, c] [x, y, z] := .cons ha (.cons hb (.cons hc .nil))
  have fin : ∀ H' D ns, Same H H' → H' D = some (.lst (ns.map V.int)) → bitsB ns = true → ns.length = m → ∃ p ys, [V.ref D] = [.ref p] ∧ ((SqL K H' p ys ∧ ∀ l, H' l = none → Q (.ref l) (upd H' l (.tup ys))) ∨ (SqT K H' p ys ∧ Q (.ref p) H')) := fun H' D ns s' e hb hl =>
    ⟨D, _, rfl, .inl ⟨.of e, fun l nl => q _ _ ns (s'.trans (same_new nl)) ⟨⟨l, rfl, upd_same⟩, hb, hl⟩⟩⟩
  have mem2 : ∀ {i : Nat} {n : Int}, i < m → n ∈ [x, y].map (rowAt i) → n = 0 ∨ n = 1 := fun {i n} hi hn => bit_at ok2 hi n hn
  refine ⟨.str k, rfl, rfl, _, rfl, ite2 (fun e => ?_) (fun e => ?_)⟩
  · refine ⟨a, rfl, b, rfl, m, _, by simp, by show 2 ≤ 6; decide, rows_sq u2 fun r hr => (ok2 r hr).2, fun D nD => ?_⟩
    refine zip_bits (Q := tupQ K Q) u2 ok2 (by simp) m6 nD (fun T i Hx Kk hi sx hT hK => ?_) (fun H' ns s' e hb hl => fin H' D ns s' e hb hl)
    exact ⟨rfl, .ref T, rfl, T, _, rfl, .of hT, by simp, fun n hn _ => hK _ n (Same.refl _) (mem2 hi hn)⟩
  refine ⟨.str k, rfl, rfl, _, rfl, ite2 (fun e => ?_) (fun e => ?_)⟩
  · refine ⟨a, rfl, b, rfl, m, _, by simp, by show 2 ≤ 6; decide, rows_sq u2 fun r hr => (ok2 r hr).2, fun D nD => ?_⟩
    refine zip_bits (Q := tupQ K Q) u2 ok2 (by simp) m6 nD (fun T i Hx Kk hi sx hT hK => ?_) (fun H' ns s' e hb hl => fin H' D ns s' e hb hl)
    exact ⟨rfl, .ref T, rfl, T, _, rfl, .of hT, by simp, fun n hn _ => hK _ n (Same.refl _) (mem2 hi hn)⟩
  refine ⟨.str k, rfl, rfl, _, rfl, ite2 (fun e => ?_) (fun e => ?_)⟩
  · refine ⟨a, rfl, b, rfl, c, rfl, m, _, by simp, by show 3 ≤ 6; decide, rows_sq u3 fun r hr => (ok3 r hr).2, fun D nD => ?_⟩
    refine zip_bits (Q := tupQ K Q) u3 ok3 (by simp) m6 nD (fun T i Hx Kk hi sx hT hK => ?_) (fun H' ns s' e hb hl => fin H' D ns s' e hb hl)
    refine ⟨rfl, .ref T, rfl, T, _, rfl, .of hT, by show 3 < 64; decide, fun ms p pm _ np => ?_⟩
    have lm : ms.length = 3 := pm.length_eq
    obtain ⟨n, hn⟩ : ∃ n, ms[1]? = some n := ⟨_, List.getElem?_eq_getElem (by omega)⟩
    exact ⟨p, _, 1, .int n, rfl, rfl, .of upd_same, atI_nat (j := 1) (by rw [List.getElem?_map, hn]; rfl), hK _ n (same_new np) (bit_at ok3 hi n (pm.mem_iff.mp (List.mem_of_getElem? hn)))⟩
  refine ⟨a, rfl, b, rfl, c, rfl, (by show 3 ≤ sizeLine; decide), fun T nT => ?_⟩
  exact ⟨T, m, [x, y, z], rfl, ⟨T, _, rfl, upd_same, all_tk (Tk.same (same_new nT)) u3⟩, ok3, by simp, by show 3 ≤ 4000; decide, m6, fun H' v s' hv => q H' v _ ((same_new nT).trans s') ⟨hv, sumRow_ok.1, sumRow_ok.2⟩⟩
end
end Ow

set_option Elab.async false
set_option linter.all false
set_option maxRecDepth 100000
set_option maxHeartbeats 4000000
namespace Ow
open PySem PySem.Spec PyProof.Rows L2
theorem scClosed : FnScope ["kind", "rows", "found", "size", "some", "one", "other", "last", "row"] ["kind", "rows"] (defScope dLClosedBy) := ⟨rfl, rfl, rfl, by decide +kernel, rfl, by decide +kernel, by decide +kernel⟩
/-! ### rows, no two alike -/
theorem nodup_le {α : Type} [BEq α] [LawfulBEq α] : ∀ {l m : List α}, l.Nodup → (∀ x ∈ l, x ∈ m) → l.length ≤ m.length
  | [], _, _, _ => Nat.zero_le _
  | a :: l, m, nd, sub => by
    have n1 := List.nodup_cons.mp nd
    have ma := sub a List.mem_cons_self
    have ih := nodup_le (l := l) (m := m.erase a) n1.2 fun x hx => by
      have ne : x ≠ a := fun e => n1.1 (by rw [← e]; exact hx)
      exact (List.mem_erase_of_ne ne).mpr (sub x (List.mem_cons_of_mem _ hx))
    rw [List.length_erase_of_mem ma] at ih
    have := List.length_pos_of_mem ma
    rw [List.length_cons]
    omega
theorem bits_in : ∀ (m : Nat) (r : List Int), bitsB r = true → r.length = m → r ∈ rowsN m := by
  intro m
  induction m with
  | zero =>
    intro r _ hl
    rw [List.length_eq_zero_iff.mp hl]
    exact List.mem_singleton.mpr rfl
  | succ m ih =>
    intro r hb hl
    obtain ⟨q, x, rfl⟩ : ∃ q x, r = q ++ [x] := ⟨r.dropLast, r.getLast (fun z => by rw [z] at hl; simp at hl), (List.dropLast_concat_getLast _).symm⟩
    unfold bitsB at hb
    rw [List.all_append, Bool.and_eq_true] at hb
    have lq : q.length = m := by simpa using hl
    have := ih q hb.1 lq
    refine List.mem_flatMap.mpr ⟨q, this, ?_⟩
    have hx : x = 0 ∨ x = 1 := by simpa using hb.2
    rcases hx with rfl | rfl <;> simp
theorem rows_few {m : Nat} {ks : List (List Int)} (ok : RowsOk m ks) (nd : ks.Nodup) : ks.length ≤ 2 ^ m := by
  rw [← rowsN_len m]
  exact nodup_le nd fun r hr => bits_in m r (ok r hr).1 (ok r hr).2
theorem addK_ok {m : Nat} {ks : List (List Int)} {r : List Int} (ok : RowsOk m ks) (nd : ks.Nodup) (hb : bitsB r = true) (hl : r.length = m) : RowsOk m (addK ks r) ∧ (addK ks r).Nodup ∧ (∀ x ∈ ks, x ∈ addK ks r) ∧ ks.length ≤ (addK ks r).length := by
  unfold addK
  by_cases h : r ∈ ks
  · rw [if_pos h]
    exact ⟨ok, nd, fun x hx => hx, Nat.le_refl _⟩
  · rw [if_neg h]
    refine ⟨fun x hx => ?_, List.nodup_append.mpr ⟨nd, List.nodup_cons.mpr ⟨by simp, List.nodup_nil⟩, fun a ha b hb2 e => ?_⟩, fun x hx => List.mem_append_left _ hx, by rw [List.length_append]; exact Nat.le_add_right _ _⟩
    · rcases List.mem_append.mp hx with hx | hx
      · exact ok x hx
      · rw [List.mem_singleton.mp hx]
        exact ⟨hb, hl⟩
    · rw [List.mem_singleton] at hb2
      exact h (by rw [← hb2, ← e]; exact ha)
theorem fold_ok {m : Nat} : ∀ {ms ks : List (List Int)}, RowsOk m ms → RowsOk m ks → ks.Nodup → RowsOk m (ms.foldl addK ks) ∧ (ms.foldl addK ks).Nodup ∧ (∀ x ∈ ks, x ∈ ms.foldl addK ks) ∧ ks.length ≤ (ms.foldl addK ks).length ∧ ∀ x ∈ ms, x ∈ ms.foldl addK ks
  | [], ks, _, ok, nd => ⟨ok, nd, fun x hx => hx, Nat.le_refl _, fun x hx => nomatch hx⟩
  | r :: ms, ks, hm, ok, nd => by
    obtain ⟨b, l⟩ := hm r List.mem_cons_self
    obtain ⟨h1, h2, h3, h4⟩ := addK_ok ok nd b l
    obtain ⟨g1, g2, g3, g4, g5⟩ := fold_ok (ms := ms) (fun x hx => hm x (List.mem_cons_of_mem _ hx)) h1 h2
    refine ⟨g1, g2, fun x hx => g3 x (h3 x hx), Nat.le_trans h4 g4, fun x hx => ?_⟩
    rcases List.mem_cons.mp hx with rfl | hx
    · refine g3 x ?_
      unfold addK
      by_cases h : x ∈ ks
      · rw [if_pos h]
        exact h
      · rw [if_neg h]
        exact List.mem_append_right _ List.mem_cons_self
    · exact g5 x hx
theorem at_last {α : Type} {xs : List α} {v : α} (h : xs[xs.length - 1]? = some v) : atI xs (-1) = some v := by
  have hl := (List.getElem?_eq_some_iff.mp h).1
  unfold atI ixN
  rw [if_neg (by decide), if_pos (by omega)]
  show xs[((-1 : Int) + (xs.length : Int)).toNat]? = some v
  rw [show ((-1 : Int) + (xs.length : Int)).toNat = xs.length - 1 by omega]
  exact h
/-- the state of the dict that is being closed -/
structure CI (H : Hp) (d : Addr) (m : Nat) (ks0 : List (List Int)) (Hx : Hp) (ks : List (List Int)) : Prop where
  same : ∀ b o, b ≠ d → H b = some o → Hx b = some o
  at_ : Hx d = some (.dT (rowKs ks))
  ok : RowsOk m ks
  nd : ks.Nodup
  sub : ∀ r ∈ ks0, r ∈ ks
theorem CI.row {H Hx : Hp} {d : Addr} {kvs : List (List Key × V)} {H' : Hp} (e : Hx d = some (.dT kvs)) (g : ∀ b o, b ≠ d → Hx b = some o → H' b = some o) {v : V} {ns : List Int} (h : IsRow Hx v ns) : IsRow H' v ns := by
  obtain ⟨b, rfl, hb⟩ := h
  exact ⟨b, rfl, g b _ (ne_of hb e (fun z => nomatch z)) hb⟩
theorem CI.put {H Hx H2 : Hp} {d : Addr} {m : Nat} {ks0 ks : List (List Int)} (c : CI H d m ks0 Hx ks) (s2 : Same Hx H2) {ns : List Int} (hb : bitsB ns = true) (hl : ns.length = m) : CI H d m ks0 (upd H2 d (.dT (rowKs (addK ks ns)))) (addK ks ns) := by
  obtain ⟨h1, h2, h3, h4⟩ := addK_ok c.ok c.nd hb hl
  exact ⟨fun b o hb e => by rw [upd_ne hb]; exact s2 _ _ (c.same b o hb e), upd_same, h1, h2, fun r hr => h3 r (c.sub r hr)⟩
theorem CI.fold {H Hx H2 : Hp} {d : Addr} {m : Nat} {ks0 ks ms : List (List Int)} (c : CI H d m ks0 Hx ks) (s2 : Same Hx H2) (hm : RowsOk m ms) : CI H d m ks0 (upd H2 d (.dT (rowKs (ms.foldl addK ks)))) (ms.foldl addK ks) := by
  obtain ⟨h1, h2, h3, h4, _⟩ := fold_ok hm c.ok c.nd
  exact ⟨fun b o hb e => by rw [upd_ne hb]; exact s2 _ _ (c.same b o hb e), upd_same, h1, h2, fun r hr => h3 r (c.sub r hr)⟩
theorem rows_of {m : Nat} {H : Hp} : ∀ {ys : List V}, (∀ y ∈ ys, ∃ r, bitsB r = true ∧ r.length = m ∧ PairR H y r) → ∃ rs, All2 (PairR H) ys rs ∧ RowsOk m rs
  | [], _ => ⟨[], .nil, fun _ z => nomatch z⟩
  | y :: ys, h => by
    obtain ⟨r, h1, h2, h3⟩ := h y List.mem_cons_self
    obtain ⟨rs, g1, g2⟩ := rows_of fun z hz => h z (List.mem_cons_of_mem _ hz)
    refine ⟨r :: rs, .cons h3 g1, fun q hq => ?_⟩
    rcases List.mem_cons.mp hq with rfl | hq
    · exact ⟨h1, h2⟩
    · exact g2 q hq
theorem pow5 {m : Nat} (h : m ≤ 5) : 2 ^ m ≤ 32 := Nat.pow_le_pow_right (by decide) h
def spClosed : Sp := fun vs H Q _ => ∃ (k : Str) (t : Addr) (m : Nat) (rs : List (List Int)), vs = [.str k, .ref t] ∧ IsRows H (.ref t) rs ∧ RowsOk m rs ∧ rs ≠ [] ∧ rs.length ≤ 63 ∧ 1 ≤ m ∧ m ≤ 5 ∧
  ∀ H' x ms, Same H H' → IsRows H' x ms → RowsOk m ms → ascR ms = true → ms.length ≤ 63 → (∀ r ∈ rs, r ∈ ms) → Q x H'
abbrev clN : List Str := ["kind", "rows", "found", "size", "some", "one", "other", "last", "row"]
section
variable {P : Program} {w : World} {K : PySem.W.Frag} {mg : Str → Option Value} {base : Heap}
theorem ok_lclosed {f fJ : Addr} {fd fdJ : FuncData} (F : Fun K "_law_closed_by" "_law_closed_by" dLClosedBy f fd)
    (FJ : FnOk P w K mg base CX0 2 fJ fdJ ["kind", "one", "other", "last"] spJoin) (kJ : PySem.W.keepIn K (.ref fJ) = true) (bJ : Binds K fdJ ["kind", "one", "other", "last"] []) (gJ : mg "_law_joined_row" = some (.ref fJ))
    (md : mg "dict" = none) (ml : mg "len" = none) (ms : mg "sorted" = none) (mt : mg "tuple" = none) : FnOk P w K mg base CX0 3 f fd ["kind", "rows"] spClosed := by
  refine F.ok scClosed (fun vs H Q E h => ?_) (fun cdv A outer s H vs Q E hr h => ?_)
  · obtain ⟨k, t, m, rs, rfl, _⟩ := h
    rfl
  obtain ⟨k, t, m, rs, rfl, hR, ok, ne, few, m1, m5, q⟩ := h
  obtain ⟨t', xs, et, ht, hx⟩ := id hR
  cases et
  have lx := hx.len
  have hu1 := hr.un
  have hu : (A.deeper (envOfC "_law_closed_by" (defScope dLClosedBy) s.heap.objs.size f cdv)).units + 1 < cLine := by omega
  refine ⟨_, pss_cons (ps_par (i := 2) (j := 3) (by rfl) scClosed.nd rfl rfl (by decide) rfl rfl (pa_cons (pe_callTy (cr_dictT rfl hr.units) (by rfl) md boot_dict (pa_cons
      (pe_lc (te := tTup (tCons (tVar 8) (tCons (tC (.bl true)) tNil))) (own := [("row", 8)]) (g := gName 8) (tt := tYes) rfl scClosed.nd (pi_tup (pv 1)) (blkOk_by (N := clN) (sc := defScope dLClosedBy) (by decide +kernel))
        (fun _ _ _ _ _ => pg_name (i := 8) scClosed.nd rfl (Or.inl rfl)) (fun _ _ _ _ _ => pts_nil)
        (fun _ _ _ _ _ => pe_tup (pa_cons (pv 8) (pa_cons pe_bl pa_nil)))) pa_nil)) (pa_cons pe_int pa_nil)) (by rfl))
    (pss_cons (ps_while PassesOwn.never (pt_cmpR op_lt (pv 3) (pe_callB call_len_dT (by rfl) ml PySem.boot_len (pa_cons (pv 2) pa_nil)) (nomark _))
      (pss_cons (ps_set (i := 3) scClosed.nd rfl (.inl rfl) (pe_callB call_len_dT (by rfl) ml PySem.boot_len (pa_cons (pv 2) pa_nil)))
      (pss_cons (ps_set (i := 4) scClosed.nd rfl (.inl rfl) (pe_callB (cr_sortDT rfl hr.units) (by rfl) ms boot_sortedG (pa_cons (pv 2) pa_nil)))
      (pss_one (ps_for PassesOwn.never rfl (pi_list (pv 4)) (pg_name (i := 5) scClosed.nd rfl (.inr rfl))
        (pss_one (ps_for PassesOwn.never rfl (pi_list (pv 4)) (pg_name (i := 6) scClosed.nd rfl (.inr rfl))
          (pss_one (ps_if (PW.pt (pw_or (pt_cmpR op_eq (pv 0) pe_str (nomark _)) (pw_or1 (pt_cmpR op_eq (pv 0) pe_str (nomark _)))))
            (pss_one (ps_dput hu (pv 2) (pe_call FJ (hr.mono (by decide)) (by rfl) gJ kJ bJ .nil pass0 (pa_cons (pv 0) (pa_cons (pv 5) (pa_cons (pv 6) (pa_cons (pv 5) pa_nil))))) pe_bl rfl))
            (pss_one (ps_if (pt_cmpR op_lt (pe_callB call_len_seq (by rfl) ml PySem.boot_len (pa_cons (pv 4) pa_nil)) pe_int (nomark _))
              (pss_one (ps_expr (pe_bm PySem.F.plainAttrs_dict PySem.F.slot_dict_update PySem.F.type_dict_update (mt_updT hu) (pv 2) (pa_cons (pe_callTy (cr_dictT rfl hr.units) (by rfl) md boot_dict (pa_cons
                (pe_lc (te := tTup (tCons (tCall spJoin [] E0 (tCons (tVar 0) (tCons (tVar 5) (tCons (tVar 6) (tCons (tVar 7) tNil))))) (tCons (tC (.bl true)) tNil))) (own := [("last", 7)]) (g := gName 7) (tt := tYes) rfl scClosed.nd (pi_list (pv 4)) (blkOk_by (N := clN) (sc := defScope dLClosedBy) (by decide +kernel))
                  (fun _ _ _ _ _ => pg_name (i := 7) scClosed.nd rfl (Or.inl rfl)) (fun _ _ _ _ _ => pts_nil)
                  (fun _ _ _ _ _ => pe_tup (pa_cons (pe_call FJ (hr.mono (by decide)) (by rfl) gJ kJ bJ .nil pass0 (pa_cons (pv 0) (pa_cons (pv 5) (pa_cons (pv 6) (pa_cons (pv 7) pa_nil))))) (pa_cons pe_bl pa_nil)))) pa_nil)) pa_nil))))
              (pss_cons (ps_dput hu (pv 2) (pe_call FJ (hr.mono (by decide)) (by rfl) gJ kJ bJ .nil pass0 (pa_cons (pv 0) (pa_cons (pv 5) (pa_cons (pv 6) (pa_cons (pe_ix ix_list (pv 4) pe_int (fun _ _ => rfl)) pa_nil))))) pe_bl rfl)
              (pss_one (ps_dput hu (pv 2) (pe_call FJ (hr.mono (by decide)) (by rfl) gJ kJ bJ .nil pass0 (pa_cons (pv 0) (pa_cons (pv 5) (pa_cons (pv 6) (pa_cons (pe_ix ix_list (pv 4) (pe_un un_neg pe_int) (fun _ _ => rfl)) pa_nil))))) pe_bl rfl))))))))))))))
    (pss_one (ps_ret (pe_callTy call_tuple_of (by rfl) mt boot_tup (pa_cons (pe_callB (cr_sortDT rfl hr.units) (by rfl) ms boot_sortedG (pa_cons (pv 2) pa_nil)) pa_nil))))), ?_⟩
  have p5 := pow5 m5
  refine ⟨.ref t, rfl, t, rfl, ⟨xs, .of ht⟩, fun D nD => ?_⟩
  refine lc_map (M := No) (walk_tup (K := K) (a := t) (xs := xs)) (by omega) Jg.no nD (fun i Hy y => ∃ r, rs[i]? = some r ∧ PairR Hy y r) (fun i H1 H2 v tk h => by
      obtain ⟨r, hr, hp⟩ := h
      exact ⟨r, hr, hp.tk tk⟩) (fun Hx g _ => .of (g.toSame _ _ ht))
    (fun i x Hx Hx' Kk hi g _ hY hK => ?_) (fun Hx ys g _ eD hlen hq => ?_)
  · obtain ⟨rfl, hxi⟩ := hY
    obtain ⟨r, hr', b, rfl, hb⟩ := hx.get hxi
    have hb2 := g.toSame _ _ hb
    exact ⟨rfl, .ref b, rfl, (by show 2 ≤ sizeLine; decide), fun T nT => hK _ _ (Gw.new nT) Jg.no ⟨r, hr', T, b, rfl, upd_same, same_new nT _ _ hb2⟩⟩
  have pairs : All2 (PairR Hx) ys rs := All2.of_get (by rw [hlen, lx]) fun i x y e1 e2 => by
    obtain ⟨r, hr', hp⟩ := hq i x e1
    rw [e2] at hr'
    cases hr'
    exact hp
  refine ⟨D, ys, rs, rfl, .of eD, pairs, fun d nd => ⟨_, _, rfl, ?_⟩⟩
  have nd0 : H d = none := same_none g.toSame nd
  obtain ⟨f1, f2, _, _, f5⟩ := fold_ok (ms := rs) (ks := []) ok (fun _ z => nomatch z) List.nodup_nil
  have c0 : CI H d m rs (upd Hx d (.dT (rowKs (rs.foldl addK [])))) (rs.foldl addK []) := ⟨fun b o hb e => by rw [upd_ne hb]; exact g.toSame _ _ e, upd_same, f1, f2, f5⟩
  refine ⟨fun n σ Hy => ∃ ks sz y4 y5 y6 y7 y8, σ = [some (.str k), some (.ref t), some (.ref d), some (.int ((sz : Nat) : Int)), y4, y5, y6, y7, y8] ∧ CI H d m rs Hy ks ∧ sz ≤ ks.length ∧ n + sz = 2 ^ m,
    ⟨2 ^ m, rs.foldl addK [], 0, none, none, none, none, none, rfl, c0, Nat.zero_le _, rfl⟩, fun n σ Hy hW => ?_⟩
  obtain ⟨ks, sz, y4, y5, y6, y7, y8, rfl, c, le, en⟩ := hW
  have kf := rows_few c.ok c.nd
  have kne : ks ≠ [] := fun z => by
    cases rs with
    | nil => exact ne rfl
    | cons r rt =>
      have := c.sub r List.mem_cons_self
      rw [z] at this
      cases this
  refine ⟨.int sz, rfl, .ref d, rfl, d, _, rfl, c.at_, _, _, rfl, rfl, _, rfl, ite2 (fun e => ?_) (fun e => ?_)⟩
  · have lt : sz < ks.length := by
      have := of_decide_eq_true e
      rw [rowKs_len] at this
      omega
    refine ⟨fun σ' H' => ∃ ks' y4 y5 y6 y7 y8, σ' = [some (.str k), some (.ref t), some (.ref d), some (.int ((ks.length : Nat) : Int)), y4, y5, y6, y7, y8] ∧ CI H d m rs H' ks' ∧ ks.length ≤ ks'.length, fun σ' H' h => ?_, ?_⟩
    · obtain ⟨ks', z4, z5, z6, z7, z8, e1, c1, l1⟩ := h
      exact ⟨2 ^ m - ks.length, by omega, ks', ks.length, z4, z5, z6, z7, z8, e1, c1, l1, by omega⟩
    refine ⟨.ref d, rfl, d, _, rfl, c.at_, ?_⟩
    rw [rowKs_len]
    refine ⟨.ref d, rfl, d, ks, m, rfl, c.at_, c.ok, m1, by omega, fun zs ms S pm asc ax nS => ?_⟩
    have okm : RowsOk m ms := fun r hr => c.ok r (pm.mem_iff.mp hr)
    have lz := ax.len
    have lm : ms.length = ks.length := pm.length_eq
    have Sd : S ≠ d := (ne_of_none c.at_ nS).symm
    have sS : Same Hy (upd Hy S (.lst zs)) := same_new nS
    have eS : upd Hy S (.lst zs) S = some (.lst zs) := upd_same
    have cS : CI H d m rs (upd Hy S (.lst zs)) ks := ⟨fun b o hb e => sS _ _ (c.same b o hb e), sS _ _ c.at_, c.ok, c.nd, c.sub⟩
    have axS : All2 (IsRow (upd Hy S (.lst zs))) zs ms := all_tk (Tk.same sS) ax
    generalize upd Hy S (.lst zs) = H1 at sS eS cS axS ⊢
    refine ⟨.ref S, rfl, S, rfl, ⟨zs, .of eS⟩, ?_⟩
    have row : ∀ {Hz : Hp} {i : Nat} {x : V}, Sb d H1 Hz → zs[i]? = some x → ∃ r, BitRow m Hz x r := fun {Hz i x} sb hxi => by
      obtain ⟨r, hr', hr2⟩ := axS.get hxi
      obtain ⟨b1, b2⟩ := okm r (List.mem_of_getElem? hr')
      exact ⟨r, CI.row (H := H) cS.at_ (fun b o hb e => sb b o hb e) hr2, b1, b2⟩
    refine for_list (K := K) (xs := zs) (fun j σ Hz => ∃ ks' y5 y6 y7 y8, σ = [some (.str k), some (.ref t), some (.ref d), some (.int ((ks.length : Nat) : Int)), some (.ref S), y5, y6, y7, y8] ∧ CI H d m rs Hz ks' ∧ ks.length ≤ ks'.length ∧ Sb d H1 Hz)
      ⟨ks, y5, y6, y7, y8, rfl, cS, Nat.le_refl _, fun b o _ e => e⟩ (fun j σ Hz _ hQ => ?_) (fun j x σ Hz hxj hQ => ?_) (fun σ Hz hQ => ?_)
    · obtain ⟨ks', z5, z6, z7, z8, _, _, _, sb⟩ := hQ
      exact .of (sb S _ Sd eS)
    · obtain ⟨ks', z5, z6, z7, z8, rfl, c1, l1, sb1⟩ := hQ
      refine ⟨.ref S, rfl, S, rfl, ⟨zs, .of (sb1 S _ Sd eS)⟩, ?_⟩
      refine for_list (K := K) (xs := zs) (fun j σ Hz => ∃ ks' y6 y7 y8, σ = [some (.str k), some (.ref t), some (.ref d), some (.int ((ks.length : Nat) : Int)), some (.ref S), some x, y6, y7, y8] ∧ CI H d m rs Hz ks' ∧ ks.length ≤ ks'.length ∧ Sb d H1 Hz)
        ⟨ks', z6, z7, z8, rfl, c1, l1, sb1⟩ (fun j σ Hz _ hQ => ?_) (fun j2 y σ Hz hyj hQ => ?_) (fun σ Hz hQ => ?_)
      · obtain ⟨_, z6, z7, z8, _, _, _, sb⟩ := hQ
        exact .of (sb S _ Sd eS)
      · obtain ⟨kz, z6, z7, z8, rfl, c2, l2, sb2⟩ := hQ
        obtain ⟨rx, bx⟩ := row sb2 hxj
        obtain ⟨ry, by_⟩ := row sb2 hyj
        have kzf := rows_few c2.ok c2.nd
        refine ⟨.str k, rfl, rfl, _, rfl, ite2 (fun e => ?_) (fun e => ⟨.str k, rfl, rfl, _, rfl, ite2 (fun e => ?_) (fun e => ?_)⟩)⟩
        · -- both
          refine ⟨.ref d, rfl, .str k, rfl, x, rfl, y, rfl, x, rfl, k, x, y, x, m, rx, ry, rx, rfl, bx, by_, bx, m1, by omega, fun H2 v ns s2 hv => ?_⟩
          obtain ⟨⟨b, rfl, hb⟩, hbb, hbl⟩ := hv
          have g := DPut.t (k := kRow ns) (v := .bl true) (s2 _ _ c2.at_) (by rw [kRow_V]; exact hb) (by rw [rowKs_len]; exact small60 (by omega))
          rw [rowKs_put] at g
          exact ⟨d, _, rfl, g, addK kz ns, some y, z7, z8, rfl, c2.put s2 hbb hbl, Nat.le_trans l2 (addK_ok c2.ok c2.nd hbb hbl).2.2.2, fun b o hb e => by rw [upd_ne hb]; exact s2 _ _ (sb2 b o hb e)⟩
        · -- either
          refine ⟨.ref d, rfl, .str k, rfl, x, rfl, y, rfl, x, rfl, k, x, y, x, m, rx, ry, rx, rfl, bx, by_, bx, m1, by omega, fun H2 v ns s2 hv => ?_⟩
          obtain ⟨⟨b, rfl, hb⟩, hbb, hbl⟩ := hv
          have g := DPut.t (k := kRow ns) (v := .bl true) (s2 _ _ c2.at_) (by rw [kRow_V]; exact hb) (by rw [rowKs_len]; exact small60 (by omega))
          rw [rowKs_put] at g
          exact ⟨d, _, rfl, g, addK kz ns, some y, z7, z8, rfl, c2.put s2 hbb hbl, Nat.le_trans l2 (addK_ok c2.ok c2.nd hbb hbl).2.2.2, fun b o hb e => by rw [upd_ne hb]; exact s2 _ _ (sb2 b o hb e)⟩
        refine ⟨.ref S, rfl, S, _, rfl, .inl (.of (sb2 S _ Sd eS)), _, _, rfl, rfl, _, rfl, ite2 (fun e => ?_) (fun e => ?_)⟩
        · -- update
          refine ⟨.ref d, rfl, .inr (.inr (.inl ⟨rfl, .inr ⟨_, c2.at_⟩⟩)), .ref S, rfl, S, rfl, ⟨zs, .of (sb2 S _ Sd eS)⟩, fun D2 nD2 => ?_⟩
          refine lc_map (M := No) (walk_list (K := K) (a := S) (xs := zs)) (by omega) Jg.no nD2 (fun i Hy y => ∃ r, bitsB r = true ∧ r.length = m ∧ PairR Hy y r) (fun i H1 H2 v tk h => by
              obtain ⟨r, h1, h2, hp⟩ := h
              exact ⟨r, h1, h2, hp.tk tk⟩) (fun Hx g _ => .of (g.toSame _ _ (sb2 S _ Sd eS)))
            (fun i x2 Hx Hx' Kk hi g _ hY hK => ?_) (fun Hx ys g _ eD hlen hq => ?_)
          · obtain ⟨rfl, hxi⟩ := hY
            obtain ⟨rz, bz⟩ := row sb2 hxi
            have tkg := Tk.same g.toSame
            refine ⟨rfl, .str k, rfl, x, rfl, y, rfl, x2, rfl, k, x, y, x2, m, rx, ry, rz, rfl, bx.tk tkg, by_.tk tkg, bz.tk tkg, m1, by omega, fun H2 v ns s2 hv => ?_⟩
            obtain ⟨⟨b, rfl, hb⟩, hbb, hbl⟩ := hv
            exact ⟨(by show 2 ≤ sizeLine; decide), fun T nT => hK _ _ (Gw.same (s2.trans (same_new nT))) Jg.no ⟨ns, hbb, hbl, T, b, rfl, upd_same, same_new nT _ _ hb⟩⟩
          · obtain ⟨ms2, pairs2, ok2⟩ := rows_of (m := m) (H := Hx) (ys := ys) fun y hy => by
              obtain ⟨i, hi⟩ := List.mem_iff_getElem?.mp hy
              exact hq i y hi
            have lp := pairs2.len
            refine ⟨D2, ys, ms2, rfl, .of eD, pairs2, fun o no => ?_⟩
            have so : Same Hz (upd Hx o (.dT (rowKs (ms2.foldl addK [])))) := g.toSame.trans (same_new no)
            have od : d ≠ o := ne_of_none (g.toSame _ _ c2.at_) no
            have ok3 := fold_ok (ms := ms2) (ks := []) ok2 (fun _ z => nomatch z) List.nodup_nil
            have l3 := rows_few ok3.1 ok3.2.1
            have fo := fold_ok (ms := ms2.foldl addK []) ok3.1 c2.ok c2.nd
            refine ⟨d, o, kz, ms2.foldl addK [], rfl, rfl, od, so _ _ c2.at_, upd_same, fun z => ?_, by omega, ?_⟩
            · rw [z] at l2
              exact kne (List.length_eq_zero_iff.mp (Nat.le_zero.mp l2))
            · exact ⟨_, some y, z7, z8, rfl, c2.fold so ok3.1, Nat.le_trans l2 fo.2.2.2.1, fun b o hb e => by rw [upd_ne hb]; exact so _ _ (sb2 b o hb e)⟩
        · -- two more
          have zp : 0 < zs.length := by
            have := List.length_pos_iff.mpr kne
            omega
          obtain ⟨w0, hw0⟩ : ∃ w0, zs[0]? = some w0 := ⟨_, List.getElem?_eq_getElem zp⟩
          obtain ⟨w1, hw1⟩ : ∃ w1, zs[zs.length - 1]? = some w1 := ⟨_, List.getElem?_eq_getElem (by omega)⟩
          obtain ⟨r0, b0⟩ := row sb2 hw0
          refine ⟨.ref d, rfl, .str k, rfl, x, rfl, y, rfl, .ref S, rfl, S, zs, 0, w0, rfl, rfl, .of (sb2 S _ Sd eS), atI_nat (j := 0) hw0, k, x, y, w0, m, rx, ry, r0, rfl, bx, by_, b0, m1, by omega, fun H2 v ns s2 hv => ?_⟩
          obtain ⟨⟨b, rfl, hb⟩, hbb, hbl⟩ := hv
          have g := DPut.t (k := kRow ns) (v := .bl true) (s2 _ _ c2.at_) (by rw [kRow_V]; exact hb) (by rw [rowKs_len]; exact small60 (by omega))
          rw [rowKs_put] at g
          refine ⟨d, _, rfl, g, ?_⟩
          have c3 := c2.put s2 hbb hbl
          have l3 := Nat.le_trans l2 (addK_ok c2.ok c2.nd hbb hbl).2.2.2
          have sb3 : Sb d H1 (upd H2 d (.dT (rowKs (addK kz ns)))) := fun b o hb e => by
            rw [upd_ne hb]
            exact s2 _ _ (sb2 b o hb e)
          generalize upd H2 d (.dT (rowKs (addK kz ns))) = H3 at c3 sb3 ⊢
          obtain ⟨rx3, bx3⟩ := row sb3 hxj
          obtain ⟨ry3, by3⟩ := row sb3 hyj
          obtain ⟨r13, b13⟩ := row sb3 hw1
          have kf3 := rows_few c3.ok c3.nd
          refine ⟨.ref d, rfl, .str k, rfl, x, rfl, y, rfl, .ref S, rfl, 1, rfl, S, zs, -1, w1, rfl, rfl, .of (sb3 S _ Sd eS), at_last hw1, k, x, y, w1, m, rx3, ry3, r13, rfl, bx3, by3, b13, m1, by omega, fun H4 v4 ns4 s4 hv4 => ?_⟩
          obtain ⟨⟨b4, rfl, hb4⟩, hbb4, hbl4⟩ := hv4
          have g4 := DPut.t (k := kRow ns4) (v := .bl true) (s4 _ _ c3.at_) (by rw [kRow_V]; exact hb4) (by rw [rowKs_len]; exact small60 (by omega))
          rw [rowKs_put] at g4
          exact ⟨d, _, rfl, g4, addK (addK kz ns) ns4, some y, z7, z8, rfl, c3.put s4 hbb4 hbl4, Nat.le_trans l3 (addK_ok c3.ok c3.nd hbb4 hbl4).2.2.2, fun b o hb e => by rw [upd_ne hb]; exact s4 _ _ (sb3 b o hb e)⟩
      · obtain ⟨kz, z6, z7, z8, rfl, c2, l2, sb2⟩ := hQ
        exact ⟨kz, some x, z6, z7, z8, rfl, c2, l2, sb2⟩
    · obtain ⟨kz, z5, z6, z7, z8, rfl, c2, l2, sb2⟩ := hQ
      exact ⟨kz, some (.ref S), z5, z6, z7, z8, rfl, c2, l2⟩
  · refine ⟨.ref d, rfl, d, ks, m, rfl, c.at_, c.ok, m1, by omega, fun zs ms S pm asc ax nS => ?_⟩
    have SS : Same Hy (upd Hy S (.lst zs)) := same_new nS
    refine ⟨S, _, rfl, .inl ⟨.of upd_same, fun u nu => ?_⟩⟩
    have s2 : Same Hy (upd (upd Hy S (.lst zs)) u (.tup zs)) := SS.trans (same_new nu)
    have sH : Same H (upd (upd Hy S (.lst zs)) u (.tup zs)) := fun b o e => s2 _ _ (c.same b o (ne_of_none e nd0) e)
    exact q _ (.ref u) ms sH ⟨u, zs, rfl, upd_same, all_tk (Tk.same s2) ax⟩ (fun r hr => c.ok r (pm.mem_iff.mp hr)) (asc_strict asc (pm.nodup_iff.mpr c.nd)) (by rw [pm.length_eq]; omega) fun r hr => pm.mem_iff.mpr (c.sub r hr)
end
end Ow

set_option Elab.async false
set_option linter.all false
set_option maxRecDepth 100000
set_option maxHeartbeats 4000000
namespace Ow
open PySem PySem.Spec PyProof.Rows L2
theorem scWithBoth : FnScope ["rows", "found", "at", "last", "row"] ["rows"] (defScope dLWithBoth) := ⟨rfl, rfl, rfl, by decide +kernel, rfl, by decide +kernel, by decide +kernel⟩
def flipR (r : List Int) (i : Nat) : List Int := (r.take i ++ [1 - r.getD i 0]) ++ r.drop (i + 1)
theorem cutR_take {r : List Int} {i : Nat} (h : i ≤ r.length) : cutV (r.map V.int) none (some (i : Int)) = (r.take i).map V.int := by
  unfold cutV
  have e1 : HT.sIx (r.map V.int).length 0 none = 0 := rfl
  have e2 : HT.sIx (r.map V.int).length (r.map V.int).length (some (i : Int)) = i := by
    rw [HT.sIx_nat, List.length_map]
    omega
  simp only [e1, e2]
  rw [List.drop_zero, List.map_take]
  rfl
theorem cutR_drop {r : List Int} {i : Nat} (h : i ≤ r.length) : cutV (r.map V.int) (some (i : Int)) none = (r.drop i).map V.int := by
  unfold cutV
  have e1 : HT.sIx (r.map V.int).length 0 (some (i : Int)) = i := by
    rw [HT.sIx_nat, List.length_map]
    omega
  have e2 : HT.sIx (r.map V.int).length (r.map V.int).length none = r.length := by
    show (r.map V.int).length = _
    rw [List.length_map]
  simp only [e1, e2]
  rw [← List.map_drop, List.take_of_length_le]
  rw [List.length_map, List.length_drop]
  omega
theorem flipR_len {r : List Int} {i : Nat} (h : i < r.length) : (flipR r i).length = r.length := by
  unfold flipR
  rw [List.length_append, List.length_append, List.length_take, List.length_drop, List.length_singleton]
  omega
theorem flipR_at {r : List Int} {i : Nat} (h : i < r.length) : rowAt i (flipR r i) = 1 - rowAt i r := by
  unfold rowAt flipR
  rw [List.getD_eq_getElem?_getD, List.getElem?_append_left (by rw [List.length_append, List.length_take]; simp; omega), List.getElem?_append_right (by rw [List.length_take]; omega), List.length_take, show i - min i r.length = 0 by omega]
  rfl
theorem bits_at {r : List Int} (hb : bitsB r = true) {i : Nat} (h : i < r.length) : r.getD i 0 = 0 ∨ r.getD i 0 = 1 := by
  have e : r[i]? = some (r.getD i 0) := by rw [List.getD_eq_getElem?_getD, List.getElem?_eq_getElem h]; rfl
  have := List.all_eq_true.mp hb _ (List.mem_of_getElem? e)
  simpa using this
theorem flipR_bits {r : List Int} {i : Nat} (hb : bitsB r = true) (h : i < r.length) : bitsB (flipR r i) = true := by
  have hx := bits_at hb h
  unfold bitsB at hb ⊢
  refine List.all_eq_true.mpr fun n hn => ?_
  unfold flipR at hn
  rcases List.mem_append.mp hn with hn | hn
  · rcases List.mem_append.mp hn with hn | hn
    · exact List.all_eq_true.mp hb n (List.mem_of_mem_take hn)
    · rw [List.mem_singleton.mp hn]
      rcases hx with e | e <;> rw [e] <;> decide
  · exact List.all_eq_true.mp hb n (List.mem_of_mem_drop hn)
theorem rows_prs {H : Hp} : ∀ {ys : List V} {fs : List (List Int)}, All2 (IsRow H) ys fs → ∃ ks : List (Addr × List Int), ys = ks.map (fun p => V.ref p.1) ∧ fs = ks.map (·.2) ∧ ∀ p ∈ ks, H p.1 = some (.tup (p.2.map V.int))
  | _, _, .nil => ⟨[], rfl, rfl, fun _ z => nomatch z⟩
  | _, r :: _, .cons h t => by
    obtain ⟨b, rfl, hb⟩ := h
    obtain ⟨ks, rfl, rfl, hk⟩ := rows_prs t
    refine ⟨(b, r) :: ks, rfl, rfl, fun p hp => ?_⟩
    rcases List.mem_cons.mp hp with rfl | hp
    · exact hb
    · exact hk p hp
theorem prs_rows {H : Hp} : ∀ {ks : List (Addr × List Int)}, (∀ p ∈ ks, H p.1 = some (.tup (p.2.map V.int))) → All2 (IsRow H) (ks.map fun p => V.ref p.1) (ks.map (·.2))
  | [], _ => .nil
  | p :: ks, h => .cons ⟨p.1, rfl, h p List.mem_cons_self⟩ (prs_rows fun q hq => h q (List.mem_cons_of_mem _ hq))
/-- both values at k -/
def Both (fs : List (List Int)) (k : Nat) : Prop := (∃ r ∈ fs, rowAt k r = 0) ∧ ∃ r ∈ fs, rowAt k r = 1
theorem Both.b {fs : List (List Int)} {k : Nat} (h : Both fs k) : bothB fs k = true := by
  obtain ⟨⟨r, hr, e⟩, ⟨q, hq, e2⟩⟩ := h
  unfold bothB
  rw [List.any_eq_true.mpr ⟨r, hr, decide_eq_true e⟩, List.any_eq_true.mpr ⟨q, hq, decide_eq_true e2⟩]
  rfl
theorem Both.sub {fs gs : List (List Int)} {k : Nat} (h : Both fs k) (s : ∀ r ∈ fs, r ∈ gs) : Both gs k := ⟨let ⟨r, hr, e⟩ := h.1; ⟨r, s r hr, e⟩, let ⟨r, hr, e⟩ := h.2; ⟨r, s r hr, e⟩⟩
def spWithBoth : Sp := fun vs H Q _ => ∃ (L : Addr) (m : Nat) (xs : List V) (rs : List (List Int)), vs = [.ref L] ∧ H L = some (.lst xs) ∧ All2 (IsRow H) xs rs ∧ RowsOk m rs ∧ rs ≠ [] ∧ rs.length ≤ 40 ∧ 1 ≤ m ∧ m ≤ 5 ∧
  ∀ H' x ms, Same H H' → IsRows H' x ms → RowsOk m ms → ascR ms = true → (∀ k < m, Both ms k) → ms.length ≤ 63 → (∀ r ∈ rs, r ∈ ms) → Q x H'
abbrev wbN : List Str := ["rows", "found", "at", "last", "row"]
section
variable {P : Program} {w : World} {K : PySem.W.Frag} {mg : Str → Option Value} {base : Heap}
theorem ok_lwithboth {f : Addr} {fd : FuncData} (F : Fun K "_law_with_both" "_law_with_both" dLWithBoth f fd)
    (mls : mg "list" = none) (ml : mg "len" = none) (mse : mg "set" = none) (ms : mg "sorted" = none) (mt : mg "tuple" = none) (mr : mg "range" = none) : FnOk P w K mg base CX0 1 f fd ["rows"] spWithBoth := by
  refine F.ok scWithBoth (fun vs H Q E h => ?_) (fun cdv A outer s H vs Q E hr h => ?_)
  · obtain ⟨L, m, xs, rs, rfl, _⟩ := h
    rfl
  obtain ⟨L, m, xs, rs, rfl, hL, hx, ok, ne, few, m1, m5, q⟩ := h
  have lx := hx.len
  refine ⟨_, pss_cons (ps_set (i := 1) scWithBoth.nd rfl (.inl rfl) (pe_callTy call_list_of (by rfl) mls (by decide +kernel) (pa_cons (pv 0) pa_nil)))
    (pss_cons (ps_for PassesOwn.never rfl (pi_range1 (by rfl) mr (pa_cons (pe_callB call_len_seq (by rfl) ml PySem.boot_len (pa_cons (pe_ix ix_list (pv 0) pe_int (fun _ _ => rfl)) pa_nil)) pa_nil)) (pg_name (i := 2) scWithBoth.nd rfl (.inr rfl))
      (pss_one (ps_if (pt_cmpR op_lt (pe_lenSetL rfl (by rfl) ml (by rfl) mse
          (pe_lc (te := tOp (rIxT K) (tVar 4) (tVar 2)) (own := [("row", 4)]) (g := gName 4) (tt := tYes) rfl scWithBoth.nd (pi_list (pv 1)) (blkOk_by (N := wbN) (sc := defScope dLWithBoth) (by decide +kernel))
            (fun _ _ _ _ _ => pg_name (i := 4) scWithBoth.nd rfl (Or.inl rfl)) (fun _ _ _ _ _ => pts_nil)
            (fun _ _ _ _ _ => pe_ix ix_tup (pv 4) (pv 2) (fun _ _ => rfl)))) pe_int (nomark _))
        (pss_cons (ps_set (i := 3) scWithBoth.nd rfl (.inl rfl) (pe_ix ix_list (pv 1) (pe_un un_neg pe_int) (fun _ _ => rfl)))
        (pss_one (ps_expr (pe_bm PySem.F.plainAttrs_list PySem.F.slot_list_append PySem.F.type_list_append mt_append (pv 1) (pa_cons
          (pe_op op_tcat (pe_op op_tcat (pe_slice sl_tup (pv 3) po_none (po_some (pv 2))) (pe_tup (pa_cons (pe_op op_sub pe_int (pe_ix ix_tup (pv 3) (pv 2) (fun _ _ => rfl))) pa_nil)))
            (pe_slice sl_tup (pv 3) (po_some (pe_op op_add (pv 2) pe_int)) po_none)) pa_nil))))) pss_nil)))
    (pss_one (ps_ret (pe_callTy call_tuple_of (by rfl) mt boot_tup (pa_cons (pe_callB (cr_sortedT rfl) (by rfl) ms boot_sortedG (pa_cons (pe_callTy (cr_setOfT rfl hr.units) (by rfl) mse boot_set (pa_cons (pv 1) pa_nil)) pa_nil)) pa_nil))))), ?_⟩
  refine ⟨.ref L, rfl, L, xs, rfl, .inl (.of hL), fun W nW => ?_⟩
  have sW : Same H (upd H W (.lst xs)) := same_new nW
  have eW : upd H W (.lst xs) W = some (.lst xs) := upd_same
  have axW := all_tk (Tk.same sW) hx
  have hL1 := sW _ _ hL
  generalize upd H W (.lst xs) = H1 at sW eW axW hL1 ⊢
  cases rs with
  | nil => exact absurd rfl ne
  | cons r0 rt =>
  have l0 := (ok r0 List.mem_cons_self).2
  obtain ⟨x0, hx0, b0, rfl, hb0⟩ : ∃ x0, xs[0]? = some x0 ∧ IsRow H1 x0 r0 := by
    obtain ⟨x, e, h⟩ := axW.get' (i := 0) (y := r0) rfl
    exact ⟨x, e, h⟩
  refine ⟨.ref L, rfl, L, xs, 0, .ref b0, rfl, rfl, .of hL1, atI_nat (j := 0) hx0, b0, _, rfl, .inr (.of hb0), m, by rw [List.length_map, l0], by omega, by omega, ?_⟩
  refine for_range (lo := 0) (n := m) (fun i σ Hy => ∃ ys fs y2 y3 y4, σ = [some (.ref L), some (.ref W), y2, y3, y4] ∧ Sb W H1 Hy ∧ Hy W = some (.lst ys) ∧ All2 (IsRow Hy) ys fs ∧ RowsOk m fs ∧ fs.length ≤ (r0 :: rt).length + i ∧ (∀ r ∈ r0 :: rt, r ∈ fs) ∧ ∀ k < i, Both fs k)
    ⟨xs, r0 :: rt, none, none, none, rfl, Sb.refl _ _, eW, axW, ok, Nat.le_add_right _ _, fun r hr => hr, fun k hk => absurd hk (by omega)⟩ (fun i σ Hy hi hP => ?_) (fun σ Hy hP => ?_)
  · obtain ⟨ys, fs, y2, y3, y4, rfl, sy, ey, ay, okf, lf, sub, both⟩ := hP
    have ly := ay.len
    refine ⟨.ref W, rfl, W, rfl, ⟨ys, .of ey⟩, fun D nD => ?_⟩
    refine lc_map (M := No) (walk_list (K := K) (a := W) (xs := ys)) (by omega) Jg.no nD (fun j _ y => ∃ r, fs[j]? = some r ∧ y = .int (rowAt i r)) (fun _ _ _ _ _ h => h) (fun Hx g _ => .of (g.toSame _ _ ey))
      (fun j x Hx Hx' Kk hj g _ hY hK => ?_) (fun Hx zs g _ eD hlen hq => ?_)
    · obtain ⟨rfl, hxj⟩ := hY
      obtain ⟨r, hr', b, rfl, hb⟩ := ay.get hxj
      obtain ⟨_, er⟩ := row_bit okf hi (List.mem_of_getElem? hr')
      have at_ : (r.map V.int)[i]? = some (.int (rowAt i r)) := by rw [List.getElem?_map, er]; rfl
      exact ⟨rfl, .ref b, rfl, .int (0 + (i : Int)), rfl, b, _, (0 + (i : Int)), .int (rowAt i r), rfl, rfl, .of (g.toSame _ _ hb), by rw [Int.zero_add]; exact atI_nat at_, hK _ _ (Gw.refl _) Jg.no ⟨r, hr', rfl⟩⟩
    have e : zs = (fs.map (rowAt i)).map V.int := by
      rw [List.map_map]
      exact list_eq (f := V.int ∘ rowAt i) hlen (by rw [ly]) hq
    rw [e] at eD
    have sx := g.toSame
    have ex := sx _ _ ey
    have ax := all_tk (Tk.same sx) ay
    have WD : W ≠ D := fun z => by rw [z, nD] at ey; cases ey
    have sbx : Sb W H1 Hx := sy.trans (.same sx)
    refine ⟨D, fs.map (rowAt i), rfl, .of eD, by rw [List.length_map]; omega, _, _, rfl, rfl, _, rfl, ite2 (fun e => ?_) (fun e => ?_)⟩
    · obtain ⟨yl, hyl⟩ : ∃ yl, ys[ys.length - 1]? = some yl := by
        have : 0 < fs.length := List.length_pos_of_mem (sub r0 List.mem_cons_self)
        exact ⟨_, List.getElem?_eq_getElem (by omega)⟩
      obtain ⟨r, hr', a, rfl, ha⟩ := ax.get hyl
      have mr' := List.mem_of_getElem? hr'
      obtain ⟨rb, rl⟩ := okf r mr'
      refine ⟨.ref W, rfl, 1, rfl, W, ys, -1, .ref a, rfl, rfl, .of ex, at_last hyl, ?_⟩
      have gi : r[i]? = some (r.getD i 0) := by rw [List.getD_eq_getElem?_getD, List.getElem?_eq_getElem (by omega)]; rfl
      refine ⟨.ref W, rfl, .inl ⟨rfl, _, .of ex⟩, .ref a, rfl, .int (0 + (i : Int)), rfl, _, rfl, a, _, rfl, ha, fun Ha b1 t1 hb1 => ⟨.ref a, rfl, .int (0 + (i : Int)), rfl, a, _, _, .int (r.getD i 0), rfl, rfl, .of (t1 _ _ ha), ?_, _, _, rfl, rfl, (by show 1 ≤ sizeLine; decide), fun c1 n1 => ?_⟩⟩
      · rw [Int.zero_add]
        exact atI_nat (by rw [List.getElem?_map, gi]; rfl)
      rw [Int.zero_add, cutR_take (by omega)] at hb1
      refine ⟨b1, c1, _, _, rfl, rfl, same_new n1 _ _ hb1, upd_same, ?_, fun Hb b2 t2 hb2 => ?_⟩
      · rw [List.length_map, List.length_take]
        show min i r.length + 1 ≤ 5000
        omega
      have t12 : Same Hx Hb := t1.trans ((same_new n1).trans t2)
      refine ⟨.ref a, rfl, .int (0 + (i : Int)), rfl, _, _, rfl, rfl, _, rfl, a, _, rfl, t12 _ _ ha, fun Hc b3 t3 hb3 => ?_⟩
      have ei : (0 + (i : Int) + 1) = ((i + 1 : Nat) : Int) := by omega
      rw [ei, cutR_drop (by omega)] at hb3
      refine ⟨b2, b3, _, _, rfl, rfl, t3 _ _ hb2, hb3, ?_, fun Hd b4 t4 hb4 => ?_⟩
      · rw [List.length_append, List.length_map, List.length_map, List.length_take, List.length_drop]
        show min i r.length + 1 + (r.length - (i + 1)) ≤ 5000
        omega
      have t14 : Same Hx Hd := t12.trans (t3.trans t4)
      have hb5 : Hd b4 = some (.tup ((flipR r i).map V.int)) := by
        rw [hb4]
        unfold flipR
        rw [List.map_append, List.map_append]
        rfl
      have ed := t14 _ _ ex
      have tk5 : Tk Hd (upd Hd W (.lst (ys ++ [.ref b4]))) := Tk.lst ed
      have fb : bitsB (flipR r i) = true := flipR_bits rb (by omega)
      have fl : (flipR r i).length = m := by rw [flipR_len (by omega), rl]
      have fa : rowAt i (flipR r i) = 1 - rowAt i r := flipR_at (by omega)
      refine ⟨W, ys, .ref b4, rfl, rfl, ed, small60 (by omega), ys ++ [.ref b4], fs ++ [flipR r i], _, _, _, rfl, sbx.trans ((Sb.same t14).trans Sb.at), upd_same, (all_tk ((Tk.same t14).trans tk5) ax).app (.cons (IsRow.tk tk5 ⟨b4, rfl, hb5⟩) .nil), fun p hp => ?_, ?_, fun p hp => List.mem_append_left _ (sub p hp), fun k hk => ?_⟩
      · rcases List.mem_append.mp hp with hp | hp
        · exact okf p hp
        · rw [List.mem_singleton.mp hp]
          exact ⟨fb, fl⟩
      · rw [List.length_append]
        show fs.length + 1 ≤ _
        omega
      · by_cases e1 : k = i
        · rw [e1]
          have bt := (row_bit okf hi mr').1
          have m1' : r ∈ fs ++ [flipR r i] := List.mem_append_left _ mr'
          have m2' : flipR r i ∈ fs ++ [flipR r i] := List.mem_append_right _ List.mem_cons_self
          rcases bt with b | b
          · exact ⟨⟨r, m1', b⟩, ⟨_, m2', by rw [fa, b]; rfl⟩⟩
          · exact ⟨⟨_, m2', by rw [fa, b]; rfl⟩, ⟨r, m1', b⟩⟩
        · exact (both k (by omega)).sub fun p hp => List.mem_append_left _ hp
    · refine ⟨ys, fs, _, _, _, rfl, sbx, ex, ax, okf, by omega, sub, fun k hk => ?_⟩
      by_cases e1 : k = i
      · rw [e1]
        have two : 2 ≤ metN (fs.map (rowAt i)) := by
          have z : (2 : Int) ≤ (metN (fs.map (rowAt i)) : Nat) := by simpa using e
          omega
        obtain ⟨h0, h1⟩ := metN_two (fun n hn => by
          obtain ⟨r, hr', rfl⟩ := List.mem_map.mp hn
          exact (row_bit okf hi hr').1) two
        obtain ⟨r, hr', e0⟩ := List.mem_map.mp h0
        obtain ⟨p, hp, e2⟩ := List.mem_map.mp h1
        exact ⟨⟨r, hr', e0⟩, ⟨p, hp, e2⟩⟩
      · exact both k (by omega)
  · obtain ⟨ys, fs, y2, y3, y4, rfl, sy, ey, ay, okf, lf, sub, both⟩ := hP
    obtain ⟨ks, rfl, rfl, hk⟩ := rows_prs ay
    have sH : Same H Hy := fun b o e => sy b o (ne_of_none e nW) (sW _ _ e)
    rw [List.length_map] at lf
    refine ⟨.ref W, rfl, W, ks, rfl, .of ey, fun p hp => .of (hk p hp), by omega, fun a La na hs hc => ?_⟩
    have sa : Same Hy (upd Hy a (SetTO P w a La)) := same_new na
    have hk2 : ∀ p ∈ La, upd Hy a (SetTO P w a La) p.1 = some (.tup (p.2.map V.int)) := fun p hp => sa _ _ (hk p (hs p hp))
    have okp : ∀ p ∈ La, bitsB p.2 = true ∧ p.2.length = m := fun p hp => okf p.2 (List.mem_map.mpr ⟨p, hs p hp, rfl⟩)
    refine ⟨a, La, m, 2, rfl, upd_same, fun p hp => .of (hk2 p hp), m1, fun p hp => ⟨(okp p hp).2, bd_bits (okp p hp).1⟩, fun L' p pm nd l64 pw np => ?_⟩
    have sp := same_new (o := .lst (L'.map fun q => V.ref q.1)) np
    refine ⟨p, _, rfl, .inl ⟨.of upd_same, fun u nu => ?_⟩⟩
    have su := same_new (o := .tup (L'.map fun q => V.ref q.1)) nu
    have s3 := (sa.trans sp).trans su
    have inL : ∀ p ∈ L', p ∈ La := fun p hp => pm.mem_iff.mp hp
    have asc : AscT (L'.map (·.2)) := by
      unfold AscT
      rw [List.pairwise_map]
      refine List.Pairwise.imp_of_mem (fun {x y} hx hy le => ?_) pw
      obtain ⟨b1, l1⟩ := okp x (inL x hx)
      obtain ⟨b2, l2⟩ := okp y (inL y hy)
      exact code_asc (by rw [l1, l2]) (bd_bits b1) (bd_bits b2) le
    have all : ∀ r ∈ ks.map (·.2), r ∈ L'.map (·.2) := fun r hr => by
      obtain ⟨p, hp, rfl⟩ := List.mem_map.mp hr
      obtain ⟨p2, hp2, e⟩ := List.mem_map.mp (hc p hp)
      exact List.mem_map.mpr ⟨p2, pm.mem_iff.mpr hp2, e⟩
    refine q _ (.ref u) (L'.map (·.2)) (sH.trans s3) ⟨u, _, rfl, upd_same, prs_rows fun p hp => (sp.trans su) _ _ (hk2 p (inL p hp))⟩ (fun r hr => ?_) (asc_strict asc nd) (fun k hk => (both k hk).sub all) (by rw [List.length_map]; omega) fun r hr => all r (sub r hr)
    obtain ⟨p, hp, rfl⟩ := List.mem_map.mp hr
    exact okp p (inL p hp)
end
end Ow

set_option Elab.async false
set_option linter.all false
set_option maxRecDepth 100000
set_option maxHeartbeats 4000000
namespace Ow
open PySem PySem.Spec PyProof.Rows L2
abbrev raN : List Str := ["jug", "size", "lot", "every", "found", "row"]
theorem scRowsAny : FnScope raN ["jug", "size"] (defScope dLRowsAny) := ⟨rfl, rfl, rfl, by decide +kernel, rfl, by decide +kernel, by decide +kernel⟩
theorem shaped_rowsG (rs : List (List Int)) : SeqAt.shaped (.list (rs.map rowD)) = true := by
  unfold SeqAt.shaped
  have h : PyData.canLay0 (.list (rs.map rowD)) = true := lay_alls rs
  have g : PyData.depth (.list (rs.map rowD)) ≤ 64 := by
    show PyData.depthAll (rs.map rowD) + 1 ≤ 64
    have := depth_alls rs
    omega
  rw [h, decide_eq_true g]
  rfl
/-- rows as an agenda has them: ascending, both values at each issue -/
def GoodR (m : Nat) (H : Hp) (x : V) : Prop := ∃ ms, IsRows H x ms ∧ RowsOk m ms ∧ ascR ms = true ∧ (∀ k < m, Both ms k) ∧ ms.length ≤ 63
theorem rowsN_ok (m : Nat) : RowsOk m (rowsN m) := by
  induction m with
  | zero =>
    intro r hr
    rw [List.mem_singleton.mp hr]
    exact ⟨rfl, rfl⟩
  | succ m ih =>
    intro r hr
    obtain ⟨q, hq, hr⟩ := List.mem_flatMap.mp hr
    obtain ⟨b, l⟩ := ih q hq
    simp only [List.mem_cons, List.not_mem_nil, or_false] at hr
    unfold bitsB at b ⊢
    rcases hr with rfl | rfl
    · refine ⟨by rw [List.all_append, b]; rfl, by rw [List.length_append, l]; rfl⟩
    · refine ⟨by rw [List.all_append, b]; rfl, by rw [List.length_append, l]; rfl⟩
def spRowsAny : Sp := fun vs H Q _ => ∃ (J : Addr) (m : Nat), vs = [.ref J, .int m] ∧ Jug H J ∧ 1 ≤ m ∧ m ≤ 5 ∧ ∀ H' x, Sb J H H' → Jug H' J → GoodR m H' x → Q x H'
section
variable {P : Program} {w : World} {K : PySem.W.Frag} {mg : Str → Option Value} {base : Heap}
theorem ok_lrowsany {f fD fC fA fW : Addr} {fd fdD fdC fdA fdW : FuncData} (F : Fun K "_law_rows_any" "_law_rows_any" dLRowsAny f fd)
    (FD : FnOk P w K mg base CX0 1 fD fdD ["jug", "total"] spDip) (kD : PySem.W.keepIn K (.ref fD) = true) (bD : Binds K fdD ["jug", "total"] []) (gD : mg "_law_dip" = some (.ref fD))
    (FC : FnOk P w K mg base CX0 2 fC fdC ["jug", "items"] spChoice) (kC : PySem.W.keepIn K (.ref fC) = true) (bC : Binds K fdC ["jug", "items"] []) (gC : mg "_law_choice" = some (.ref fC))
    (FA : FnOk P w K mg base CX0 1 fA fdA ["size"] spRowsL) (kA : PySem.W.keepIn K (.ref fA) = true) (bA : Binds K fdA ["size"] []) (gA : mg "_law_all_rows" = some (.ref fA))
    (FW : FnOk P w K mg base CX0 1 fW fdW ["rows"] spWithBoth) (kW : PySem.W.keepIn K (.ref fW) = true) (bW : Binds K fdW ["rows"] []) (gW : mg "_law_with_both" = some (.ref fW)) : FnOk P w K mg base CX0 3 f fd ["jug", "size"] spRowsAny := by
  refine F.ok scRowsAny (fun vs H Q E h => ?_) (fun cdv A outer s H vs Q E hr h => ?_)
  · obtain ⟨J, m, rfl, _⟩ := h
    rfl
  obtain ⟨J, m, rfl, hJ, m1, m5, q⟩ := h
  refine ⟨_, pss_cons (ps_asg (pe_tup (pa_cons (pe_call FC (hr.mono (by decide)) (by rfl) gC kC bC .nil pass0 (pa_cons (pv 0) (pa_cons (pe_lst (pa_cons pe_int (pa_cons pe_int (pa_cons pe_int (pa_cons pe_int (pa_cons pe_int pa_nil)))))) pa_nil)))
        (pa_cons (pe_call FA (hr.mono (by decide)) (by rfl) gA kA bA .nil pass0 (pa_cons (pv 1) pa_nil)) pa_nil))) (pg_tup (by rfl) (pgs_cons (pg_name (i := 2) scRowsAny.nd rfl (.inr rfl)) (pgs_cons (pg_name (i := 3) scRowsAny.nd rfl (.inl rfl)) pgs_nil))))
    (pss_cons (ps_setLc (i := 4) (te := tVar 5) (own := [("row", 5)]) (g := gName 5) (tt := tTest (tOp (rI0 fun i j => .bl (decide (i < j))) (tCall spDip [] E0 (tCons (tVar 0) (tCons (tC (.int 6)) tNil))) (tVar 2))) rfl scRowsAny.nd rfl rfl (sw_true rfl rfl rfl (by decide +kernel)) (pi_list (pv 3)) (blkOk_by (N := raN) (sc := defScope dLRowsAny) (by decide +kernel))
        (fun _ _ _ _ _ => pg_name (i := 5) scRowsAny.nd rfl (Or.inl rfl)) (fun _ _ _ _ _ => pts_one (pt_cmpR op_lt (pe_call FD (hr.mono (by decide)) (by rfl) gD kD bD .nil pass0 (pa_cons (pv 0) (pa_cons pe_int pa_nil))) (pv 2) (nomark _)))
        (fun _ _ _ _ _ => pv 5))
    (pss_one (ps_ret (pe_call FW (hr.mono (by decide)) (by rfl) gW kW bW .nil pass0 (pa_cons (pe_ifExp (pt_cmpR (op_neD hr.units) (pv 4) (pe_lst pa_nil) (nomark _)) (pv 4)
        (pe_lst (pa_cons (pe_call FC (hr.mono (by decide)) (by rfl) gC kC bC .nil pass0 (pa_cons (pv 0) (pa_cons (pv 3) pa_nil))) pa_nil))) pa_nil))))), ?_⟩
  have p5 := pow5 m5
  refine ⟨.ref J, rfl, (by show 5 ≤ sizeLine; decide), fun l0 n0 => ?_⟩
  have s0 := same_new (o := .lst [.int 1, .int 2, .int 3, .int 4, .int 5]) n0
  have j0 := jug_same s0 hJ
  have l0J : l0 ≠ J := jug_none hJ n0
  refine ⟨J, l0, _, rfl, l0J, upd_same, by simp, by show 5 ≤ 1000; decide, j0, fun H1 lot sb1 j1 hlot => ?_⟩
  obtain ⟨c, rfl⟩ : ∃ c : Int, lot = .int c := by
    simp only [List.mem_cons, List.not_mem_nil, or_false] at hlot
    rcases hlot with rfl | rfl | rfl | rfl | rfl <;> exact ⟨_, rfl⟩
  have sb01 : Sb J H H1 := (Sb.same s0).trans sb1
  refine ⟨.int m, rfl, m, rfl, by omega, fun H2 ev xs s2 nev hev ax => ?_⟩
  refine ⟨(by show 2 ≤ sizeLine; decide), fun T nT => ?_⟩
  have sT := same_new (o := .tup [.int c, .ref ev]) nT
  refine ⟨T, [.int c, .ref ev], rfl, .of upd_same, rfl, _, _, rfl, _, _, rfl, rfl, ?_⟩
  have s3 := s2.trans sT
  have sb3 : Sb J H (upd H2 T (.tup [.int c, .ref ev])) := sb01.trans (.same s3)
  have j3 := jug_same s3 j1
  have ev3 := sT _ _ hev
  have ax3 := all_tk (Tk.same sT) ax
  have evJ : ev ≠ J := jug_none j1 nev
  generalize upd H2 T (.tup [.int c, .ref ev]) = H3 at sb3 j3 ev3 ax3 ⊢
  have lx := ax3.len
  rw [rowsN_len] at lx
  have okN := rowsN_ok m
  refine ⟨.ref ev, rfl, ev, rfl, ⟨xs, .of ev3⟩, fun D nD => ?_⟩
  have DJ : D ≠ J := jug_none j3 nD
  refine lc_it (walk_list (K := K) (a := ev) (xs := xs)) (fun i Hy => Sb J H3 Hy ∧ Jug Hy J ∧ ∃ ys fs, Hy D = some (.lst ys) ∧ All2 (IsRow Hy) ys fs ∧ RowsOk m fs ∧ fs.length ≤ i)
    ⟨.same (same_new nD), jug_same (same_new nD) j3, [], [], upd_same, .nil, (fun _ z => nomatch z), Nat.zero_le _⟩ (fun i Hy _ h => .of (h.1 _ _ evJ ev3)) (fun i x Hy0 Hy hi h hY => ?_) (fun Hy h => ?_)
  · obtain ⟨rfl, hxi⟩ := hY
    obtain ⟨sy, jy, ys, fs, eD, ay, okf, lf⟩ := h
    refine ⟨rfl, .ref J, rfl, J, 6, rfl, by decide, by decide, jy, fun H5 k sb5 j5 k0 k6 => ?_⟩
    have tk5 : Tk Hy H5 := sb5.gw.tk (Jg.at_ jy)
    have eD5 := sb5 _ _ DJ eD
    have ay5 := all_tk tk5 ay
    refine ⟨.int c, rfl, _, _, rfl, rfl, _, rfl, ite2 (fun _ => ?_) (fun _ => ?_)⟩
    · obtain ⟨r, hr', b, rfl, hb⟩ := ax3.get hxi
      have hb5 : H5 b = some (.tup (r.map V.int)) := (sb5.gw.tk (Jg.at_ jy)).tup ((sy.gw.tk (Jg.at_ j3)).tup hb)
      have la := ay5.len
      have kl : Tk H5 (upd H5 D (.lst (ys ++ [.ref b]))) := Tk.lst eD5
      refine ⟨.ref b, rfl, ys, eD5, small60 (by omega), ?_, jug_keep j5 DJ, ys ++ [.ref b], fs ++ [r], upd_same, (all_tk kl ay5).app (.cons (IsRow.tk kl ⟨b, rfl, hb5⟩) .nil), fun p hp => ?_, by rw [List.length_append]; show fs.length + 1 ≤ _; omega⟩
      · intro b2 o nb e
        rw [upd_ne (ne_of_none e nD)]
        exact sb5 _ _ nb (sy _ _ nb e)
      · rcases List.mem_append.mp hp with hp | hp
        · exact okf p hp
        · rw [List.mem_singleton.mp hp]
          exact okN r (List.mem_of_getElem? hr')
    · exact ⟨sy.trans sb5, j5, ys, fs, eD5, ay5, okf, by omega⟩
  · obtain ⟨sy, jy, ys, fs, eD, ay, okf, lf⟩ := h
    have sbH := sb3.trans sy
    refine ⟨.ref D, rfl, Nat.zero_le _, fun e0 ne0 => ?_⟩
    have se := same_new (o := .lst []) ne0
    have eD0 := se _ _ eD
    have ay0 := all_tk (Tk.same se) ay
    refine ⟨.list (fs.map rowD), .list [], .lst (.of eD0) (dp_all ay0), .lst (.of upd_same) .nil, shaped_rowsG _, rfl, _, rfl, ?_⟩
    have eb : (!PyData.eqv (.list (fs.map rowD)) (.list [])) = !decide (fs = []) := by
      congr 1
      exact eqv_alls fs []
    rw [eb]
    have sbE := sbH.trans (.same se)
    have je := jug_same se jy
    have eve := se _ _ (sy _ _ evJ ev3)
    have axe := all_tk ((sy.gw.tk (Jg.at_ j3)).trans (Tk.same se)) ax3
    generalize upd Hy e0 (.lst []) = H6 at eD0 ay0 sbE je eve axe ⊢
    refine ite2 (fun e => ?_) (fun e => ?_)
    · have ne : fs ≠ [] := fun z => by rw [z] at e; simp at e
      exact ⟨.ref D, rfl, D, m, ys, fs, rfl, eD0, ay0, okf, ne, by omega, m1, m5, fun H7 x ms s7 hR ok asc both lm _ => q H7 x (sbE.trans (.same s7)) (jug_same s7 je) ⟨ms, hR, ok, asc, both, lm⟩⟩
    · have xne : xs ≠ [] := fun z => by
        rw [z, List.length_nil] at lx
        have := Nat.pow_le_pow_right (show 0 < 2 by decide) (show 0 ≤ m by omega)
        rw [Nat.pow_zero] at this
        omega
      refine ⟨.ref J, rfl, .ref ev, rfl, J, ev, xs, rfl, evJ, eve, xne, by omega, je, fun H7 x sb7 j7 hx7 => ⟨(by show 1 ≤ sizeLine; decide), fun l nl => ?_⟩⟩
      obtain ⟨r, hr', hrow⟩ := axe.mem hx7
      have sl := same_new (o := .lst [x]) nl
      have tk7 : Tk H6 H7 := sb7.gw.tk (Jg.at_ je)
      refine ⟨l, m, [x], [r], rfl, upd_same, .cons (IsRow.tk (tk7.trans (Tk.same sl)) hrow) .nil, fun p hp => ?_, by simp, by show 1 ≤ 40; decide, m1, m5, fun H8 x8 ms s8 hR ok asc both lm _ => q H8 x8 (sbE.trans (sb7.trans (.same (sl.trans s8)))) (jug_same (sl.trans s8) j7) ⟨ms, hR, ok, asc, both, lm⟩⟩
      rw [List.mem_singleton.mp hp]
      exact okN r hr'
end
end Ow

set_option Elab.async false
set_option linter.all false
set_option maxRecDepth 100000
set_option maxHeartbeats 4000000
set_option exponentiation.threshold 3000
namespace Ow
open PySem PySem.Spec PyProof.Rows L2
/-- a comprehension of two clauses over lists or tuples that stay, the second one `for .. in t if ..`, t a tuple -/
theorem lc2_grow {K : PySem.W.Frag} {J : It} {G : Hp → Prop} {xs ys : List V} {t : Addr} (wk : Walk J xs.length G (YAt xs)) {p q r : Nat} {tt1 : TT} {te : TE} {vs vs1 : List Nat} {σ : L2.St} {H1 : Hp} {D : Addr} {Qd : Hp → Prop}
    {α1 α2 β : Type} (as : List α1) (bs : List α2) (f : α1 → α2 → Option β) (R : Hp → V → β → Prop) (hR : ∀ {H H' v b}, Tk H H' → R H v b → R H' v b) (la : as.length = xs.length) (lb : bs.length = ys.length) (few : xs.length * ys.length ≤ 5000)
    (nD : H1 D = none) (ht : H1 t = some (.tup ys)) (hG : ∀ H, Same H1 H → G H)
    (h1 : ∀ x, wipe ((wipe σ vs).set p (some x)) vs = wipe σ vs) (h2 : ∀ x, ((wipe σ vs).set p (some x))[r]? = some (some (.ref t)))
    (h3 : ∀ x y, wipe ((wipe ((wipe σ vs).set p (some x)) vs1).set q (some y)) vs1 = wipe ((wipe σ vs).set p (some x)) vs1)
    (elt : ∀ (i j : Nat) (x y : V) (a : α1) (b : α2) (H : Hp) (K0 : Hp → Prop) (K1 : V → Hp → Prop), xs[i]? = some x → as[i]? = some a → ys[j]? = some y → bs[j]? = some b → Same H1 H →
      (∀ H6, Same H H6 → f a b = none → K0 H6) → (∀ v H7 c, Same H H7 → f a b = some c → R H7 v c → K1 v H7) →
      tt1 ((wipe ((wipe σ vs).set p (some x)) vs1).set q (some y)) H fun c H6 => if c = true then te ((wipe ((wipe σ vs).set p (some x)) vs1).set q (some y)) H6 K1 else K0 H6)
    (hd : ∀ H zs, Same H1 H → H D = some (.lst zs) → All2 (R H) zs (as.flatMap fun a => bs.filterMap (f a)) → Qd H) :
    ∃ W : Nat → Nat → Hp → Prop, (∃ m, W 0 m (upd H1 D (.lst []))) ∧ ∀ i m H, W i m H →
      (J.stop i H ∧ Qd H) ∨ (J.go i H ∧ ∃ Nx : Hp → Prop, (∀ H', Nx H' → ∃ m', m' < m ∧ W (i + 1) m' H') ∧ ∀ x H', J.yld i H x H' → gName p x (wipe σ vs) H' fun σ2 H2 => wipe σ2 vs = wipe σ vs ∧ tYes σ2 H2 fun b H3 =>
        if b = true then iTup K (tVar r) σ2 H3 fun J1 H4 => ∃ W1 : Nat → Nat → Hp → Prop, (∃ m, W1 0 m H4) ∧ ∀ j k H, W1 j k H →
          (J1.stop j H ∧ Nx H) ∨ (J1.go j H ∧ ∃ Nx1 : Hp → Prop, (∀ H', Nx1 H' → ∃ k', k' < k ∧ W1 (j + 1) k' H') ∧ ∀ x H', J1.yld j H x H' → gName q x (wipe σ2 vs1) H' fun σ3 H5 => wipe σ3 vs1 = wipe σ2 vs1 ∧ tt1 σ3 H5 fun b H6 =>
            if b = true then te σ3 H6 fun y H7 => ∃ acc, H7 D = some (.lst acc) ∧ acc.length < sizeLine ∧ Nx1 (upd H7 D (.lst (acc ++ [y]))) else Nx1 H6)
        else Nx H3) := by
  have most : ∀ (us : List α1) (a : α1) (k j : Nat), us.length = k → ((us.flatMap fun a => bs.filterMap (f a)) ++ (bs.take j).filterMap (f a)).length ≤ (k + 1) * ys.length := fun us a k j e => by
    have one : ∀ (a : α1) (cs : List α2), (cs.filterMap (f a)).length ≤ cs.length := fun a cs => List.length_filterMap_le _ _
    have all : ∀ us : List α1, (us.flatMap fun a => bs.filterMap (f a)).length ≤ us.length * ys.length := fun us => by
      induction us with
      | nil => simp
      | cons u us ih =>
        have := one u bs
        rw [List.flatMap_cons, List.length_append, List.length_cons, Nat.succ_mul]
        omega
    have h1 := all us
    have h2 := one a (bs.take j)
    rw [List.length_take] at h2
    rw [List.length_append, Nat.succ_mul]
    rw [e] at h1
    omega
  have W0 := wk
  let Pv : Nat → Hp → Prop := fun i H => Same H1 H ∧ ∃ zs, H D = some (.lst zs) ∧ All2 (R H) zs ((as.take i).flatMap fun a => bs.filterMap (f a))
  refine ⟨fun i m H => m = xs.length - i ∧ i ≤ xs.length ∧ Pv i H, ⟨xs.length, by simp, Nat.zero_le _, same_new nD, [], upd_same, .nil⟩, ?_⟩
  rintro i m H ⟨rfl, hi, sH, zs, eD, az⟩
  have g0 := hG H sH
  by_cases lt : i < xs.length
  · refine .inr ⟨wk.goes i H lt g0, Pv (i + 1), fun H' p' => ⟨xs.length - (i + 1), by omega, rfl, lt, p'⟩, fun x H' y => ?_⟩
    obtain ⟨eH, hx⟩ := wk.yields i H x H' lt g0 y
    have eH := eH.symm
    subst eH
    obtain ⟨a, ha⟩ : ∃ a, as[i]? = some a := ⟨as[i], List.getElem?_eq_getElem (by omega)⟩
    refine ⟨h1 x, ?_⟩
    refine yes_of ?_
    refine ⟨.ref t, h2 x, t, rfl, ⟨ys, .of (sH _ _ ht)⟩, ?_⟩
    have w1 := walk_tup (K := K) (a := t) (xs := ys)
    let P1 : Nat → Hp → Prop := fun j H' => Same H1 H' ∧ ∃ zs, H' D = some (.lst zs) ∧ All2 (R H') zs (((as.take i).flatMap fun a => bs.filterMap (f a)) ++ (bs.take j).filterMap (f a))
    refine ⟨fun j k H' => k = ys.length - j ∧ j ≤ ys.length ∧ P1 j H', ⟨ys.length, by simp, Nat.zero_le _, sH, zs, eD, by rw [List.take_zero, List.filterMap_nil, List.append_nil]; exact az⟩, ?_⟩
    rintro j k H2 ⟨rfl, hj, s2, zs2, eD2, az2⟩
    have gt : SqT K H2 t ys := .of (s2 _ _ ht)
    by_cases lj : j < ys.length
    · refine .inr ⟨w1.goes j H2 lj gt, P1 (j + 1), fun H' p' => ⟨ys.length - (j + 1), by omega, rfl, lj, p'⟩, fun x1 H' y1 => ?_⟩
      obtain ⟨eH, hy⟩ := w1.yields j H2 x1 H' lj gt y1
      have eH := eH.symm
      subst eH
      obtain ⟨b, hb⟩ : ∃ b, bs[j]? = some b := ⟨bs[j], List.getElem?_eq_getElem (by omega)⟩
      have lz := az2.len
      have lm := most (as.take i) a i j (by rw [List.length_take]; omega)
      have lm2 : (i + 1) * ys.length ≤ xs.length * ys.length := Nat.mul_le_mul_right _ lt
      have eT : (bs.take (j + 1)).filterMap (f a) = (bs.take j).filterMap (f a) ++ (f a b).toList := by
        rw [List.take_add_one, hb, List.filterMap_append]
        congr 1
      refine ⟨h3 x x1, elt i j x x1 a b H2 _ _ hx ha hy hb s2 (fun H6 s6 e6 => ?_) (fun v H7 c s7 e7 r7 => ?_)⟩
      · refine ⟨s2.trans s6, zs2, s6 _ _ eD2, ?_⟩
        rw [eT, e6]
        show All2 (R H6) zs2 (_ ++ (_ ++ []))
        rw [List.append_nil]
        exact az2.imp fun _ _ q => hR (Tk.same s6) q
      · have eD7 := s7 _ _ eD2
        refine ⟨zs2, eD7, small60 (by omega), fun o ob e => ?_, zs2 ++ [v], upd_same, ?_⟩
        · rw [upd_ne (ne_of_none e nD)]
          exact s7 _ _ (s2 _ _ e)
        · rw [eT, e7, ← List.append_assoc]
          have tk : Tk H7 (upd H7 D (.lst (zs2 ++ [v]))) := Tk.lst eD7
          exact (az2.imp fun _ _ q => hR ((Tk.same s7).trans tk) q).app (.cons (hR tk r7) .nil)
    · have e : j = ys.length := by omega
      subst e
      refine .inl ⟨w1.stops H2 gt, s2, zs2, eD2, ?_⟩
      rw [List.take_add_one, ha, List.flatMap_append]
      rw [← lb, List.take_length] at az2
      show All2 (R H2) zs2 (_ ++ (bs.filterMap (f a) ++ []))
      rw [List.append_nil]
      exact az2
  · have e : i = xs.length := by omega
    subst e
    rw [← la, List.take_length] at az
    exact .inl ⟨wk.stops H g0, hd H zs sH eD az⟩
end Ow

set_option Elab.async false
set_option linter.all false
set_option maxRecDepth 100000
set_option maxHeartbeats 4000000
namespace Ow
open PySem PySem.Spec PyProof.Rows L2
/-- a comprehension of one clause with a test: what is kept, item by item -/
theorem lc_grow {J : It} {G : Hp → Prop} {xs : List V} (wk : Walk J xs.length G (YAt xs)) {g : TG} {tt : TT} {te : TE} {vs : List Nat} {σ : L2.St} {H1 : Hp} {D : Addr} {Qd : Hp → Prop}
    {α β : Type} (as : List α) (f : α → Option β) (R : Hp → V → β → Prop) (hR : ∀ {H H' v b}, Tk H H' → R H v b → R H' v b) (la : as.length = xs.length) (few : xs.length ≤ 5000)
    (nD : H1 D = none) (hG : ∀ H, Same H1 H → G H)
    (elt : ∀ (i : Nat) (x : V) (a : α) (H : Hp) (K0 : Hp → Prop) (K1 : V → Hp → Prop), xs[i]? = some x → as[i]? = some a → Same H1 H →
      (∀ H6, Same H H6 → f a = none → K0 H6) → (∀ v H7 c, Same H H7 → f a = some c → R H7 v c → K1 v H7) →
      g x (wipe σ vs) H fun σ2 H2 => wipe σ2 vs = wipe σ vs ∧ tt σ2 H2 fun c H6 => if c = true then te σ2 H6 K1 else K0 H6)
    (hd : ∀ H zs, Same H1 H → H D = some (.lst zs) → All2 (R H) zs (as.filterMap f) → Qd H) :
    ∃ W : Nat → Nat → Hp → Prop, (∃ m, W 0 m (upd H1 D (.lst []))) ∧ ∀ i m H, W i m H →
      (J.stop i H ∧ Qd H) ∨ (J.go i H ∧ ∃ Nx : Hp → Prop, (∀ H', Nx H' → ∃ m', m' < m ∧ W (i + 1) m' H') ∧ ∀ x H', J.yld i H x H' → g x (wipe σ vs) H' fun σ2 H2 => wipe σ2 vs = wipe σ vs ∧ tt σ2 H2 fun b H3 =>
        if b = true then te σ2 H3 fun y H4 => ∃ acc, H4 D = some (.lst acc) ∧ acc.length < sizeLine ∧ Nx (upd H4 D (.lst (acc ++ [y]))) else Nx H3) := by
  let Pv : Nat → Hp → Prop := fun i H => Same H1 H ∧ ∃ zs, H D = some (.lst zs) ∧ All2 (R H) zs ((as.take i).filterMap f)
  refine lc_it wk Pv ⟨same_new nD, [], upd_same, .nil⟩ (fun i H _ h => hG H h.1) (fun i x H H' hi h y => ?_) (fun H h => ?_)
  · obtain ⟨s1, zs, eD, az⟩ := h
    obtain ⟨rfl, hx⟩ := y
    obtain ⟨a, ha⟩ : ∃ a, as[i]? = some a := ⟨as[i], List.getElem?_eq_getElem (by omega)⟩
    have eT : (as.take (i + 1)).filterMap f = (as.take i).filterMap f ++ (f a).toList := by
      rw [List.take_add_one, ha, List.filterMap_append]
      congr 1
    refine elt i x a H' (Pv (i + 1)) _ hx ha s1 (fun H6 s6 e6 => ?_) (fun v H7 c s7 e7 r7 => ?_)
    · refine ⟨s1.trans s6, zs, s6 _ _ eD, ?_⟩
      rw [eT, e6]
      show All2 (R H6) zs (_ ++ [])
      rw [List.append_nil]
      exact az.imp fun _ _ q => hR (Tk.same s6) q
    · have eD7 := s7 _ _ eD
      have lz := az.len
      have lf := List.length_filterMap_le f (as.take i)
      rw [List.length_take] at lf
      refine ⟨zs, eD7, small60 (by omega), fun o ob e => ?_, zs ++ [v], upd_same, ?_⟩
      · rw [upd_ne (ne_of_none e nD)]
        exact s7 _ _ (s1 _ _ e)
      · rw [eT, e7]
        have tk : Tk H7 (upd H7 D (.lst (zs ++ [v]))) := Tk.lst eD7
        exact (az.imp fun _ _ q => hR ((Tk.same s7).trans tk) q).app (.cons (hR tk r7) .nil)
  · obtain ⟨s1, zs, eD, az⟩ := h
    rw [← la, List.take_length] at az
    exact hd H zs s1 eD az
end Ow

set_option Elab.async false
set_option linter.all false
set_option maxRecDepth 100000
set_option maxHeartbeats 4000000
namespace Ow
open PySem PySem.Spec PyProof.Rows L2
abbrev roN : List Str := ["jug", "size", "lot", "gone", "odd", "found", "kind", "few", "row", "one"]
theorem scRowsOf : FnScope roN ["jug", "size"] (defScope dLRowsOf) := ⟨rfl, rfl, rfl, by decide +kernel, rfl, by decide +kernel, by decide +kernel⟩
def complR (r : List Int) : List Int := r.map fun x => 1 - x
def goneB (g r : List Int) : Bool := !decide (r = g) && !decide (r = complR g)
theorem gone_ok : ∀ m < 6, 3 ≤ m → ((rowsN m).all fun g => ascR ((rowsN m).filter (goneB g)) && (List.range m).all fun k => bothB ((rowsN m).filter (goneB g)) k) = true := by decide +kernel
def oddB (o : Int) (r : List Int) : Bool := decide (r.sum % 2 = o)
theorem odd_ne : ∀ m < 6, 1 ≤ m → ∀ o < 2, ((rowsN m).filter (oddB (o : Nat))).isEmpty = false := by decide +kernel
theorem Both.of_b {fs : List (List Int)} {k : Nat} (h : bothB fs k = true) : Both fs k := by
  unfold bothB at h
  rw [Bool.and_eq_true] at h
  obtain ⟨r, hr, e⟩ := List.any_eq_true.mp h.1
  obtain ⟨q, hq, e2⟩ := List.any_eq_true.mp h.2
  exact ⟨⟨r, hr, of_decide_eq_true e⟩, ⟨q, hq, of_decide_eq_true e2⟩⟩
theorem fm_filter {α : Type} (p : α → Bool) : ∀ l : List α, l.filterMap (fun a => if p a = true then some a else none) = l.filter p
  | [] => rfl
  | a :: l => by
    cases h : p a with
    | true => rw [List.filterMap_cons_some (b := a) (by rw [if_pos h]), List.filter_cons_of_pos h, fm_filter p l]
    | false => rw [List.filterMap_cons_none (by rw [h]; rfl), List.filter_cons_of_neg (by rw [h]; decide), fm_filter p l]
theorem cut_min (xs : List V) (n : Nat) : cutV xs none (some (n : Int)) = xs.take n := by
  unfold cutV
  have e1 : HT.sIx xs.length 0 none = 0 := rfl
  have e2 : HT.sIx xs.length xs.length (some (n : Int)) = min n xs.length := HT.sIx_nat _ _ _
  simp only [e1, e2]
  rw [List.drop_zero, Nat.sub_zero, List.take_eq_take_iff]
  omega
theorem some_rows {m : Nat} {H : Hp} : ∀ {ys : List V}, (∀ y ∈ ys, ∃ r, IsRow H y r ∧ bitsB r = true ∧ r.length = m) → ∃ rs, All2 (IsRow H) ys rs ∧ RowsOk m rs
  | [], _ => ⟨[], .nil, fun _ z => nomatch z⟩
  | y :: ys, h => by
    obtain ⟨r, h1, h2, h3⟩ := h y List.mem_cons_self
    obtain ⟨rs, g1, g2⟩ := some_rows fun z hz => h z (List.mem_cons_of_mem _ hz)
    refine ⟨r :: rs, .cons h1 g1, fun q hq => ?_⟩
    rcases List.mem_cons.mp hq with rfl | hq
    · exact ⟨h2, h3⟩
    · exact g2 q hq
def rTupOf (K : PySem.W.Frag) : List V → Hp → VK → Prop := fun xs H Q => ∃ p ys, xs = [.ref p] ∧ ((SqL K H p ys ∧ ∀ l, H l = none → Q (.ref l) (upd H l (.tup ys))) ∨ (SqT K H p ys ∧ Q (.ref p) H))
def sGone : Scope := { kind := .function, names := [(".0", .local), ("row", .local), ("tuple", .globalImplicit), ("gone", .cell)], isGenerator := false, isCoroutine := false }
def sOne : Scope := { kind := .function, names := [(".0", .local), ("one", .local)], isGenerator := false, isCoroutine := false }
theorem sumT_read {K : PySem.W.Frag} {σ : L2.St} {H : Hp} {Kk : Bool → Hp → Prop} {t : TE} (h : t σ H fun x H1 => rSumT K [x] H1 fun y H2 => rIntG [y] H2 fun z H3 => rI (fun _ j => 0 < j) (fun i j => .int (i % j)) z (.int 2) H3 fun v H4 => tVar 4 σ H4 fun u H5 => rEq v u H5 fun b H6 => ∃ c, b = .bl c ∧ Kk c H6) :
    tTest (tOp rEq (tOp (rI (fun _ j => 0 < j) fun i j => .int (i % j)) (tCB rIntG (tCons (tCB (rSumT K) (tCons t tNil)) tNil)) (tC (.int 2))) (tVar 4)) σ H Kk := h
section
variable {P : Program} {w : World} {K : PySem.W.Frag} {mg : Str → Option Value} {base : Heap}
theorem ok_lrowsof {f fD fC fA fW fN fJ fB : Addr} {fd fdD fdC fdA fdW fdN fdJ fdB : FuncData} (F : Fun K "_law_rows_of" "_law_rows_of" dLRowsOf f fd)
    (FD : FnOk P w K mg base CX0 1 fD fdD ["jug", "total"] spDip) (kD : PySem.W.keepIn K (.ref fD) = true) (bD : Binds K fdD ["jug", "total"] []) (gD : mg "_law_dip" = some (.ref fD))
    (FC : FnOk P w K mg base CX0 2 fC fdC ["jug", "items"] spChoice) (kC : PySem.W.keepIn K (.ref fC) = true) (bC : Binds K fdC ["jug", "items"] []) (gC : mg "_law_choice" = some (.ref fC))
    (FA : FnOk P w K mg base CX0 1 fA fdA ["size"] spRowsL) (kA : PySem.W.keepIn K (.ref fA) = true) (bA : Binds K fdA ["size"] []) (gA : mg "_law_all_rows" = some (.ref fA))
    (FW : FnOk P w K mg base CX0 1 fW fdW ["rows"] spWithBoth) (kW : PySem.W.keepIn K (.ref fW) = true) (bW : Binds K fdW ["rows"] []) (gW : mg "_law_with_both" = some (.ref fW))
    (FN : FnOk P w K mg base CX0 3 fN fdN ["jug", "size"] spRowsAny) (kN : PySem.W.keepIn K (.ref fN) = true) (bN : Binds K fdN ["jug", "size"] []) (gN : mg "_law_rows_any" = some (.ref fN))
    (FJ : FnOk P w K mg base CX0 2 fJ fdJ ["jug", "items"] spJum) (kJ : PySem.W.keepIn K (.ref fJ) = true) (bJ : Binds K fdJ ["jug", "items"] []) (gJ : mg "_law_jumbled" = some (.ref fJ))
    (FB : FnOk P w K mg base CX0 3 fB fdB ["kind", "rows"] spClosed) (kB : PySem.W.keepIn K (.ref fB) = true) (bB : Binds K fdB ["kind", "rows"] []) (gB : mg "_law_closed_by" = some (.ref fB))
    (mt : mg "tuple" = none) (mi : mg "int" = none) (msu : mg "sum" = none) : FnOk P w K mg base CX0 4 f fd ["jug", "size"] spRowsAny := by
  refine F.ok scRowsOf (fun vs H Q E h => ?_) (fun cdv A outer s H vs Q E hr h => ?_)
  · obtain ⟨J, m, rfl, _⟩ := h
    rfl
  obtain ⟨J, m, rfl, hJ, m1, m5, q⟩ := h
  refine ⟨_, pss_cons (ps_set (i := 2) scRowsOf.nd rfl (.inl rfl) (pe_call FD (hr.mono (by decide)) (by rfl) gD kD bD .nil pass0 (pa_cons (pv 0) (pa_cons pe_int pa_nil))))
    (pss_cons (ps_if (pt_cmpR op_lt (pv 2) pe_int (nomark _)) (pss_one (ps_ret (pe_call FN (hr.mono (by decide)) (by rfl) gN kN bN .nil pass0 (pa_cons (pv 0) (pa_cons (pv 1) pa_nil))))) pss_nil)
    (pss_cons (ps_if (PW.pt (pw_and (pt_cmpR op_eq (pv 2) pe_int (nomark _)) (pw_and1 (pt_cmpR op_gt (pv 1) pe_int (nomark _)))))
      (pss_cons (ps_set (i := 3) scRowsOf.nd rfl (.inr rfl) (pe_call FC (hr.mono (by decide)) (by rfl) gC kC bC .nil pass0 (pa_cons (pv 0) (pa_cons (pe_call FA (hr.mono (by decide)) (by rfl) gA kA bA .nil pass0 (pa_cons (pv 1) pa_nil)) pa_nil))))
      (pss_one (ps_ret (pe_callTy call_tuple_of (by rfl) mt boot_tup (pa_cons
        (pe_lc (te := tVar 8) (own := [("row", 8)]) (g := gName 8) (tt := tAnd (tTest (tOp (rNeD K) (tVar 8) (tVar 3))) (tTest (tOp (rNeD K) (tVar 8) (tCB (rTupOf K) (tCons (tLc (iTup K (tVar 3)) (gName 9) tYes (tOp (rI0 fun i j => .int (i - j)) (tC (.int 1)) (tVar 9)) ([(("one" : Str), 9)].map (·.2))) tNil))))) rfl scRowsOf.nd
          (pi_list (pe_call FA (hr.mono (by decide)) (by rfl) gA kA bA .nil pass0 (pa_cons (pv 1) pa_nil))) (blkOk_by (N := roN) (sc := defScope dLRowsOf) (by decide +kernel))
          (fun _ _ _ _ _ => pg_name (i := 8) scRowsOf.nd rfl (Or.inl rfl))
          (fun _ _ _ _ _ => pts_one (PW.pt (pw_and (pt_cmpR (op_neD hr.units) (pv 8) (pv 3) (nomark _)) (pw_and1 (pt_cmpR (op_neD hr.units) (pv 8) (pe_callTy call_tuple_of (by rfl) mt boot_tup (pa_cons
            (pe_lc (own := [("one", 9)]) (g := gName 9) (tt := tYes) rfl scRowsOf.nd (pi_tup (pv 3)) (blkOk_by (N := roN) (sc := sGone) (scope := sOne) (own := [("one", 9)]) (by decide +kernel))
              (fun _ _ _ _ _ => pg_name (i := 9) scRowsOf.nd rfl (Or.inl rfl)) (fun _ _ _ _ _ => pts_nil)
              (fun _ _ _ _ _ => pe_op op_sub pe_int (pv 9))) pa_nil)) (nomark _))))))
          (fun _ _ _ _ _ => pv 8)) pa_nil))))) pss_nil)
    (pss_cons (ps_if (pt_cmpR op_eq (pv 2) pe_int (nomark _))
      (pss_cons (ps_set (i := 4) scRowsOf.nd rfl (.inr rfl) (pe_call FD (hr.mono (by decide)) (by rfl) gD kD bD .nil pass0 (pa_cons (pv 0) (pa_cons pe_int pa_nil))))
      (pss_cons (ps_setLc (i := 5) (te := tVar 8) (own := [("row", 8)]) (g := gName 8) (tt := tTest (tOp rEq (tOp (rI (fun _ j => 0 < j) fun i j => .int (i % j)) (tCB rIntG (tCons (tCB (rSumT K) (tCons (tVar 8) tNil)) tNil)) (tC (.int 2))) (tVar 4))) rfl scRowsOf.nd rfl rfl (sw_true rfl rfl rfl (by decide +kernel))
          (pi_list (pe_call FA (hr.mono (by decide)) (by rfl) gA kA bA .nil pass0 (pa_cons (pv 1) pa_nil))) (blkOk_by (N := roN) (sc := defScope dLRowsOf) (by decide +kernel))
          (fun _ _ _ _ _ => pg_name (i := 8) scRowsOf.nd rfl (Or.inl rfl))
          (fun _ _ _ _ _ => pts_one (pt_cmpR op_eq (pe_op op_mod (pe_callTy call_int1 (by rfl) mi boot_int (pa_cons (pe_callB (cr_sumT rfl) (by rfl) msu boot_sumG (pa_cons (pv 8) pa_nil)) pa_nil)) pe_int) (pv 4) (nomark _)))
          (fun _ _ _ _ _ => pv 8))
      (pss_one (ps_ret (pe_call FW (hr.mono (by decide)) (by rfl) gW kW bW .nil pass0 (pa_cons (pv 5) pa_nil)))))) pss_nil)
    (pss_cons (ps_set (i := 6) scRowsOf.nd rfl (.inl rfl) (pe_call FC (hr.mono (by decide)) (by rfl) gC kC bC .nil pass0 (pa_cons (pv 0) (pa_cons (pe_lst (pa_cons pe_str (pa_cons pe_str (pa_cons pe_str (pa_cons pe_str pa_nil))))) pa_nil))))
    (pss_cons (ps_set (i := 7) scRowsOf.nd rfl (.inl rfl) (pe_call FW (hr.mono (by decide)) (by rfl) gW kW bW .nil pass0 (pa_cons
        (pe_slice sl_list (pe_call FJ (hr.mono (by decide)) (by rfl) gJ kJ bJ .nil pass0 (pa_cons (pv 0) (pa_cons (pe_call FA (hr.mono (by decide)) (by rfl) gA kA bA .nil pass0 (pa_cons (pv 1) pa_nil)) pa_nil))) po_none
          (po_some (pe_op op_add pe_int (pe_call FD (hr.mono (by decide)) (by rfl) gD kD bD .nil pass0 (pa_cons (pv 0) (pa_cons pe_int pa_nil)))))) pa_nil)))
    (pss_one (ps_ret (pe_call FB (hr.mono (by decide)) (by rfl) gB kB bB .nil pass0 (pa_cons (pv 6) (pa_cons (pv 7) pa_nil)))))))))), ?_⟩
  have p5 := pow5 m5
  have okN := rowsN_ok m
  refine ⟨.ref J, rfl, J, 8, rfl, by decide, by decide, hJ, fun H1 lot sb1 j1 l0 l8 => ?_⟩
  refine ⟨.int lot, rfl, _, _, rfl, rfl, _, rfl, ite2 (fun _ => ?_) (fun _ => ?_)⟩
  · exact ⟨.ref J, rfl, .int m, rfl, J, m, rfl, j1, m1, m5, fun H2 x sb2 j2 hg => q H2 x (sb1.trans sb2) j2 hg⟩
  refine ⟨.int lot, rfl, rfl, _, rfl, ite2 (fun _ => ⟨.int m, rfl, _, _, rfl, rfl, _, rfl, ite2 (fun e3 => ?_) (fun _ => ?_)⟩) (fun _ => ?_)⟩
  · -- one row and its contrary less
    have m3 : 3 ≤ m := by
      have := of_decide_eq_true e3
      omega
    refine ⟨.ref J, rfl, .int m, rfl, m, rfl, by omega, fun H2 ev xs s2 nev hev ax => ?_⟩
    have lx := ax.len
    rw [rowsN_len] at lx
    have evJ : ev ≠ J := jug_none j1 nev
    have j2 := jug_same s2 j1
    have xne : xs ≠ [] := fun z => by
      rw [z, List.length_nil] at lx
      have := Nat.pow_le_pow_right (show 0 < 2 by decide) (show 0 ≤ m by omega)
      rw [Nat.pow_zero] at this
      omega
    refine ⟨J, ev, xs, rfl, evJ, hev, xne, by omega, j2, fun H3 gx sb3 j3 hgx => ?_⟩
    have tk3 : Tk H2 H3 := sb3.gw.tk (Jg.at_ j2)
    obtain ⟨g, hg, hrow⟩ := ax.mem hgx
    obtain ⟨ga, rfl, hga⟩ := IsRow.tk tk3 hrow
    obtain ⟨gb, gl⟩ := okN g hg
    refine ⟨.int m, rfl, m, rfl, by omega, fun H4 ev2 xs2 s4 nev2 hev2 ax2 => ?_⟩
    have lx2 := ax2.len
    rw [rowsN_len] at lx2
    have hga4 := s4 _ _ hga
    refine ⟨ev2, rfl, ⟨xs2, .of hev2⟩, fun D nD => ?_⟩
    refine lc_grow (walk_list (K := K) (a := ev2) (xs := xs2)) (rowsN m) (fun r => if goneB g r = true then some r else none) IsRow (fun t h => h.tk t) (by rw [rowsN_len, lx2]) (by omega) nD (fun Hx sx => .of (sx _ _ hev2))
      (fun i x a Hx K0 K1 hx ha sx k0 k1 => ?_) (fun Hx zs sx eD az => ?_)
    · obtain ⟨r, hr', b, rfl, hb⟩ := ax2.get hx
      rw [ha] at hr'
      cases hr'
      have hb2 := sx _ _ hb
      have hg2 := sx _ _ hga4
      refine ⟨rfl, .ref b, rfl, .ref ga, rfl, rowD a, rowD g, dp_row ⟨b, rfl, hb2⟩, dp_row ⟨ga, rfl, hg2⟩, shaped_row _, shaped_row _, _, rfl, ?_⟩
      rw [eqv_row]
      by_cases e1 : a = g
      · rw [decide_eq_true e1]
        refine iteF (iteF (k0 _ (Same.refl _) ?_))
        unfold goneB
        rw [decide_eq_true e1]
        rfl
      rw [decide_eq_false e1]
      refine iteT ⟨.ref b, rfl, .ref ga, rfl, ga, rfl, ⟨_, .of hg2⟩, fun D2 nD2 => ?_⟩
      refine lc_map (M := No) (walk_tup (K := K) (a := ga) (xs := g.map V.int)) (by rw [List.length_map]; omega) Jg.no nD2 (fun j _ y => ∃ c, g[j]? = some c ∧ y = .int (1 - c)) (fun _ _ _ _ _ h => h) (fun Hy gy _ => .of (gy.toSame _ _ hg2))
        (fun j x2 Hy Hy' Kk hj gy _ hY hK => ?_) (fun Hy ys gy _ eD2 hlen hq => ?_)
      · obtain ⟨rfl, hxj⟩ := hY
        rw [List.getElem?_map] at hxj
        cases e2 : g[j]? with
        | none => rw [e2] at hxj; cases hxj
        | some c =>
          rw [e2] at hxj
          cases hxj
          exact ⟨rfl, .int c, rfl, _, _, rfl, rfl, hK _ _ (Gw.refl _) Jg.no ⟨c, e2, rfl⟩⟩
      · have ey : ys = (complR g).map V.int := by
          unfold complR
          rw [List.map_map]
          exact list_eq (f := V.int ∘ fun c => 1 - c) hlen (by rw [List.length_map]) hq
        rw [ey] at eD2
        refine ⟨D2, _, rfl, .inl ⟨.of eD2, fun u nu => ?_⟩⟩
        have su := same_new (o := .tup ((complR g).map V.int)) nu
        have s7 := gy.toSame.trans su
        refine ⟨rowD a, rowD (complR g), dp_row ⟨b, rfl, s7 _ _ hb2⟩, dp_row ⟨u, rfl, upd_same⟩, shaped_row _, shaped_row _, _, rfl, ?_⟩
        rw [eqv_row]
        by_cases e2 : a = complR g
        · rw [decide_eq_true e2]
          refine iteF (k0 _ s7 ?_)
          unfold goneB
          rw [decide_eq_true e2, Bool.not_true, Bool.and_false]
          rfl
        · rw [decide_eq_false e2]
          refine iteT ⟨.ref b, rfl, k1 _ _ a s7 ?_ ⟨b, rfl, s7 _ _ hb2⟩⟩
          unfold goneB
          rw [decide_eq_false e1, decide_eq_false e2]
          rfl
    · rw [fm_filter] at az
      refine ⟨D, zs, rfl, .inl ⟨.of eD, fun u nu => ?_⟩⟩
      have su := same_new (o := .tup zs) nu
      have sAll := (s4.trans sx).trans su
      have go := List.all_eq_true.mp (gone_ok m (by omega) m3) g hg
      rw [Bool.and_eq_true] at go
      have lf := List.length_filter_le (goneB g) (rowsN m)
      rw [rowsN_len] at lf
      exact q _ (.ref u) ((sb1.trans (.same s2)).trans (sb3.trans (.same sAll))) (jug_same sAll j3) ⟨(rowsN m).filter (goneB g), ⟨u, zs, rfl, upd_same, all_tk (Tk.same su) az⟩, fun r hr => okN r (List.mem_filter.mp hr).1, go.1,
        fun k hk => Both.of_b (List.all_eq_true.mp go.2 k (List.mem_range.mpr hk)), by omega⟩
  all_goals
    refine ⟨.int lot, rfl, rfl, _, rfl, ite2 (fun _ => ?_) (fun _ => ?_)⟩
    · -- rows with an even or an odd sum
      refine ⟨.ref J, rfl, J, 2, rfl, by decide, by decide, j1, fun H2 o sb2 j2 o0 o2 => ?_⟩
      refine ⟨.int m, rfl, m, rfl, by omega, fun H3 ev xs s3 nev hev ax => ⟨ev, rfl, ⟨xs, .of hev⟩, fun D nD => ?_⟩⟩
      have lx := ax.len
      rw [rowsN_len] at lx
      refine lc_grow (walk_list (K := K) (a := ev) (xs := xs)) (rowsN m) (fun r => if oddB o r = true then some r else none) IsRow (fun t h => h.tk t) (by rw [rowsN_len, lx]) (by omega) nD (fun Hx sx => .of (sx _ _ hev))
        (fun i x a Hx K0 K1 hx ha sx k0 k1 => ?_) (fun Hx zs sx eD az => ?_)
      · obtain ⟨r, hr', b, rfl, hb⟩ := ax.get hx
        rw [ha] at hr'
        cases hr'
        have hb2 := sx _ _ hb
        refine ⟨rfl, sumT_read ?_⟩
        refine ⟨.ref b, rfl, b, a, rfl, .of hb2, .inl ⟨_, rfl, _, _, rfl, rfl, (by show (0 : Int) < 2; decide), .int o, rfl, rfl, _, rfl, ?_⟩⟩
        have e : decide (V.int (a.sum % 2) = V.int o) = oddB o a := by
          unfold oddB
          exact decide_eq_decide.mpr ⟨fun z => V.int.inj z, fun z => by rw [z]⟩
        rw [e]
        cases e2 : oddB o a with
        | true => exact iteT ⟨.ref b, rfl, k1 _ _ a (Same.refl _) (by rw [if_pos e2]) ⟨b, rfl, hb2⟩⟩
        | false => exact iteF (k0 _ (Same.refl _) (by rw [if_neg (by rw [e2]; decide)]))
      · rw [fm_filter] at az
        have lf := List.length_filter_le (oddB o) (rowsN m)
        rw [rowsN_len] at lf
        have ne : (rowsN m).filter (oddB o) ≠ [] := fun z => by
          have := odd_ne m (by omega) m1 o.toNat (by omega)
          rw [show ((o.toNat : Nat) : Int) = o by omega, z] at this
          exact Bool.noConfusion this
        refine ⟨.ref D, rfl, D, m, zs, (rowsN m).filter (oddB o), rfl, eD, az, fun r hr => okN r (List.mem_filter.mp hr).1, ne, by omega, m1, m5, fun H7 x ms s7 hR ok asc both lm _ => ?_⟩
        have sAll := (s3.trans sx).trans s7
        exact q H7 x ((sb1.trans sb2).trans (.same sAll)) (jug_same sAll j2) ⟨ms, hR, ok, asc, both, lm⟩
    · -- a closed set of rows
      refine ⟨.ref J, rfl, (by show 4 ≤ sizeLine; decide), fun l0 n0 => ?_⟩
      have l0J : l0 ≠ J := jug_none j1 n0
      have sl := same_new (o := .lst [.str "sums", .str "both", .str "either", .str "most"]) n0
      refine ⟨J, l0, _, rfl, l0J, upd_same, by simp, by show 4 ≤ 1000; decide, jug_same sl j1, fun H2 kx sb2 j2 hk => ?_⟩
      obtain ⟨kz, rfl⟩ : ∃ z : Str, kx = .str z := by
        simp only [List.mem_cons, List.not_mem_nil, or_false] at hk
        rcases hk with rfl | rfl | rfl | rfl <;> exact ⟨_, rfl⟩
      refine ⟨.ref J, rfl, .int m, rfl, m, rfl, by omega, fun H3 ev xs s3 nev hev ax => ?_⟩
      have lx := ax.len
      rw [rowsN_len] at lx
      have j3 := jug_same s3 j2
      have evJ : ev ≠ J := jug_none j2 nev
      refine ⟨J, .ref ev, xs, rfl, j3, .inl ⟨ev, rfl, evJ, hev⟩, by omega, fun H4 p ys sb4 j4 np hp pm => ?_⟩
      refine ⟨.ref J, rfl, J, 3, rfl, by decide, by decide, j4, fun H5 k sb5 j5 k0 k3 => ⟨2, k, rfl, rfl, 2 + k, rfl, p, ys, rfl, .of (sb5 _ _ (jug_none j3 np) hp), fun c nc => ?_⟩⟩
      have ek : (2 + k : Int) = ((2 + k.toNat : Nat) : Int) := by omega
      rw [ek, cut_min]
      have sc := same_new (o := .lst (ys.take (2 + k.toNat))) nc
      have tk : Tk H3 (upd H5 c (.lst (ys.take (2 + k.toNat)))) := (sb4.gw.tk (Jg.at_ j3)).trans ((sb5.gw.tk (Jg.at_ j4)).trans (Tk.same sc))
      obtain ⟨rs, ar, okr⟩ := some_rows (m := m) (H := upd H5 c (.lst (ys.take (2 + k.toNat)))) (ys := ys.take (2 + k.toNat)) fun y hy => by
        obtain ⟨r, hr', hrow⟩ := ax.mem (pm.mem_iff.mp (List.mem_of_mem_take hy))
        exact ⟨r, IsRow.tk tk hrow, okN r hr'⟩
      have lr := ar.len
      rw [List.length_take, pm.length_eq, lx] at lr
      have pw := Nat.pow_le_pow_right (show 0 < 2 by decide) m1
      have ne : rs ≠ [] := fun z => by
        rw [z, List.length_nil] at lr
        omega
      refine ⟨c, m, _, rs, rfl, upd_same, ar, okr, ne, by omega, m1, m5, fun H7 x ms s7 hR ok asc both lm _ => ?_⟩
      have hR' := hR
      obtain ⟨t, xs7, rfl, _, _⟩ := hR'
      have mne : ms ≠ [] := fun z => by
        obtain ⟨⟨r, hr', _⟩, _⟩ := both 0 (by omega)
        rw [z] at hr'
        cases hr'
      refine ⟨.str kz, rfl, .ref t, rfl, kz, t, m, ms, rfl, hR, ok, mne, lm, m1, m5, fun H8 x8 ms8 s8 hR8 ok8 asc8 lm8 sub8 => ?_⟩
      have sbAll : Sb J H H8 := sb1.trans ((Sb.same sl).trans (sb2.trans ((Sb.same s3).trans (sb4.trans (sb5.trans (.same (sc.trans (s7.trans s8))))))))
      exact q H8 x8 sbAll (jug_same (sc.trans (s7.trans s8)) j5) ⟨ms8, hR8, ok8, asc8, fun k hk => (both k hk).sub sub8, lm8⟩
end
end Ow

set_option Elab.async false
set_option linter.all false
set_option maxRecDepth 100000
set_option maxHeartbeats 4000000
namespace Ow
open PySem PySem.Spec PyProof.Rows L2
/-! ### tuples whose very object is known: their methods can be called -/
def FT (H : Hp) (p : Addr) (xs : List V) : Prop := ∃ o : Obj, o.dict = none ∧ H p = some (.frz o (.tup xs))
theorem FT.sq {K : PySem.W.Frag} {H : Hp} {p : Addr} {xs : List V} (h : FT H p xs) : SqT K H p xs := by
  obtain ⟨o, _, e⟩ := h
  exact .inl (.inr ⟨o, e⟩)
theorem FT.tk {H H' : Hp} {p : Addr} {xs : List V} (t : Tk H H') (h : FT H p xs) : FT H' p xs := by
  obtain ⟨o, d, e⟩ := h
  exact ⟨o, d, t _ _ (fun _ z => nomatch z) e⟩
theorem sameT {K : PySem.W.Frag} {H H' : Hp} {a : Addr} {xs : List V} (s : Same H H') (h : SqT K H a xs) : SqT K H' a xs := by
  rcases h with (h | ⟨o, h⟩) | h
  · exact .inl (.inl (s _ _ h))
  · exact .inl (.inr ⟨o, s _ _ h⟩)
  · exact .inr h
/-- a tuple of texts, its very object known -/
def TxtF (H : Hp) (v : V) (zs : List Str) : Prop := ∃ p, v = .ref p ∧ FT H p (zs.map V.str)
theorem TxtF.tk {H H' : Hp} {v : V} {zs : List Str} (t : Tk H H') (h : TxtF H v zs) : TxtF H' v zs := by
  obtain ⟨p, e, q⟩ := h
  exact ⟨p, e, q.tk t⟩
section
variable {X : Cx}
def tTupF (t : TA) : TE := fun σ H Q => t σ H fun xs H1 => xs.length ≤ sizeLine ∧ ∀ p o, o.dict = none → H1 p = none → Q (.ref p) (upd H1 p (.frz o (.tup xs)))
theorem pe_tupF {es : List Expr} {t : TA} {pos : Pos} {x1} (h : PA X es t) : PE X (.Tuple es x1 pos) (tTupF t) := by
  refine ⟨fun pins s σ H Q I hq => ?_⟩
  refine wpAny_Tuple_spliced (thn (h.run pos pins s σ H _ I hq) fun us s1 got => ?_)
  obtain ⟨xs, H1, I1, r, z, q⟩ := got
  refine ⟨by rw [← r.length]; exact z, ?_⟩
  have fresh : H1 s1.heap.objs.size = none := I1.hok.fresh (Nat.le_refl _)
  have new : (s1.heap.push { cls := .type "tuple", data := .seq us.toArray }).get? s1.heap.objs.size = some { cls := .type "tuple", data := .seq us.toArray } := Heap.get?_push_size _ rfl
  exact ⟨.ref s1.heap.objs.size, _, I1.laid (t' := s1.toks) (o := .frz _ (.tup xs)) (fun b u e => Heap.get?_push_of_some _ e) (Nat.le_refl _) ⟨new, z, us, r, ⟨_, new, rfl, _, rfl⟩⟩, rfl, q _ _ rfl fresh⟩
/-- t + u, u not empty, its very object known -/
def rTCatF (K : PySem.W.Frag) : R2 := fun x y H Q => ∃ a b xs ys, x = .ref a ∧ y = .ref b ∧ SqT K H a xs ∧ FT H b ys ∧ ys ≠ [] ∧ xs.length + ys.length ≤ 5000 ∧ ∀ H' p, Same H H' → FT H' p (xs ++ ys) → Q (.ref p) H'
theorem op_tcatF : OpR X (binaryOp .Add) (rTCatF X.K) := by
  intro pins s σ H x y v u Q I rx ry got
  obtain ⟨a, b, xs, ys, rfl, rfl, ha, hb, ne, few, q⟩ := got
  cases xs with
  | nil => 
    refine op_catA pins s σ H _ _ v u Q I rx ry ⟨a, b, [], ys, rfl, rfl, ha, hb.sq, Nat.le_trans few (by decide), fun _ => ?_, fun h _ => absurd rfl h, fun h _ _ _ => absurd rfl h⟩
    exact q H b (Same.refl H) hb
  | cons x0 xs0 =>
    cases rx
    cases ry
    obtain ⟨its, r1, p1, _⟩ := I.tuple ha
    obtain ⟨its2, r2, p2, _⟩ := I.tuple (show SqT X.K H b ys from hb.sq)
    have room : (x0 :: xs0).length + ys.length ≤ sizeLine := Nat.le_trans few (by decide)
    refine HT.cat_tup p1 p2 (fun z => nomatch (r1.nil_iff.mp z)) (fun z => absurd (r2.nil_iff.mp z) ne) (fun _ => ?_) (by rw [← r1.length, ← r2.length]; exact room)
    refine ⟨.ref s.heap.objs.size, _, I.laid (t' := s.toks) (o := .frz _ (.tup ((x0 :: xs0) ++ ys))) (fun b ob e => Heap.get?_push_of_some _ e) (Nat.le_refl _) ⟨Heap.get?_push_size _ rfl, by rw [List.length_append]; exact room, _, r1.append r2, IsTup.new _ _⟩, rfl, ?_⟩
    have fresh := I.hok.fresh (Nat.le_refl s.heap.objs.size)
    exact q _ _ (same_new fresh) ⟨_, rfl, upd_same⟩
/-- t.index(z), t a tuple of texts, its very object known -/
def rIdxF (K : PySem.W.Frag) : V → List V → Hp → VK → Prop := fun x xs H Q => ∃ p, ∃ ys : List Str, ∃ z j, x = .ref p ∧ xs = [.str z] ∧ SqT K H p (ys.map V.str) ∧ ys[j]? = some z ∧ (∀ m, m < j → ys[m]? ≠ some z) ∧ Q (.int (j : Nat)) H
def tIdxF (K : PySem.W.Frag) (to : TE) (t : TA) : TE := fun σ H Q => to σ H fun x H1 => (∃ p xs, x = .ref p ∧ FT H1 p xs) ∧ t σ H1 fun vs H2 => rIdxF K x vs H2 Q
theorem pe_idxF {o e : Expr} {es : List Expr} {to : TE} {t : TA} {apos cpos : Pos} (ho : PE X o to) (ha : PA X (e :: es) t)
    (base : attributeBase o "index" X.env (eval o X.env) = eval o X.env := by rfl)
    (few : ((backTo cpos (starEach (e :: es) X.env)).all (fun x => !x.1) && (backToKw cpos (keywordEach [] X.env)).all (fun x => x.1.isSome) && decide ((e :: es).length + ([] : List Keyword).length + (if ([] : List Keyword).isEmpty then 0 else 1) < 30)) = true := by rfl)
    (line : (apos.endLine == cpos.line) = true := by rfl) (star : starEach (e :: es) X.env = (false, eval e X.env) :: starEach es X.env := by rfl) (plain : (backTo cpos (starEach es X.env)).any (·.1) = false := by rfl) :
    PE X (.Call (.Attribute o "index" apos) (e :: es) [] cpos) (tIdxF X.K to t) := by
  refine ⟨fun pins s σ H Q I h => wpAny_Call_method_late base few line rfl (thn (ho.run pins s σ H _ I h) fun v s1 got => ?_)⟩
  obtain ⟨x, H1, I1, r1, ⟨p, xs, rfl, ft⟩, q1⟩ := got
  cases r1
  obtain ⟨ob, bare, eo⟩ := ft
  obtain ⟨there, _, its, _, ob2, there2, cl, _⟩ := I1.hok p _ eo
  rw [there] at there2
  cases there2
  refine ⟨"tuple", "tuple.index", PySem.F.plainAttrs_tuple, PySem.F.slot_tuple_index, PySem.F.type_tuple_index, ⟨ob, there, cl⟩, fun a e => ?_, ?_⟩
  · cases e
    exact ⟨ob, there, bare⟩
  have hA := ha.run cpos pins s1 σ H1 _ I1 q1
  rw [star] at hA ⊢
  refine Calls.callWith_builtin (by show (false || (backTo cpos (starEach es X.env)).any (·.1)) = false; rw [plain] <;> rfl) (Calls.evalArgs_plain ?_)
  exact thn hA fun us s2 got => by
    obtain ⟨vs, H2, I2, r2, q2⟩ := got
    exact mt_tup_index pins s2 σ H2 (.ref p) vs (.ref p) us Q I2 rfl r2 q2
end
end Ow

set_option Elab.async false
set_option linter.all false
set_option maxRecDepth 100000
set_option maxHeartbeats 4000000
namespace Ow
open PySem PySem.Spec PyProof.Rows L2
/-- tuple(l), l a list: a new tuple, its very object known -/
def rTupF (K : PySem.W.Frag) : List V → Hp → VK → Prop := fun xs H Q => ∃ p ys, xs = [.ref p] ∧ SqL K H p ys ∧ ∀ (l : Addr) (o : Obj), o.dict = none → H l = none → Q (.ref l) (upd H l (.frz o (.tup ys)))
theorem call_tupleF {X : Cx} : CallR X (.type "tuple") (rTupF X.K) := by
  intro pins s σ H xs us Q I r h
  obtain ⟨p, ys, rfl, hq, q⟩ := h
  obtain ⟨u, rfl, rx⟩ := vals1 r
  cases rx
  obtain ⟨its, r', pl, hz⟩ := I.list hq
  have hlen := r'.length
  refine call_tuple_list pl.isList (fun h' kp => ?_) (by simp only [List.size_toArray] <;> omega)
  have I1 : Inv X pins σ H { s with heap := h' } := I.kept (t' := s.toks) kp
  have I2 : Inv X pins σ (upd H h'.objs.size (.frz { cls := .type "tuple", data := .seq its.toArray } (.tup ys))) { s with heap := h'.push { cls := .type "tuple", data := .seq its.toArray } } :=
    I1.laid (t' := s.toks) (fun b o e => Heap.get?_push_of_some _ e) (Nat.le_refl _) ⟨Heap.get?_push_size _ rfl, hz, its, r', IsTup.new _ _⟩
  exact ⟨.ref h'.objs.size, _, I2, rfl, q _ _ rfl (I1.hok.fresh (Nat.le_refl _))⟩
end Ow

set_option Elab.async false
set_option linter.all false
set_option maxRecDepth 100000
set_option maxHeartbeats 4000000
set_option exponentiation.threshold 3000
/-! rows as things that a set may hold, up to 74 of them -/
namespace HS
open PySem PySem.Spec PyProof.Rows L2
variable {α : Type} [DecidableEq α] {W : Way α} {T : Hp → V → α → Prop}
/-- sorted(set(l)), l a list of things -/
def tSortSetWL (K : PySem.W.Frag) (W : Way α) (T : Hp → V → α → Prop) (ta : TE) : TE := fun σ H Q => ta σ H fun x H1 => ∃ (l : Addr) (xs : List V) (p : List α), x = V.ref l ∧ SqL K H1 l xs ∧ Ow.All2 (T H1) xs p ∧ (∃ us : List α, us.length < 75 ∧ ∀ z ∈ p, z ∈ us) ∧
  ((∀ c ∈ p, ∃ x r, W.enc c = .tuple (x :: r)) ∨ ∃ c, c ∈ p ∧ (∀ z ∈ p, z = c) ∧ W.enc c = .tuple []) ∧
  ∀ (r : List α) (ys : List V) (b : Addr), r.Nodup → (∀ z, z ∈ r ↔ z ∈ p) → (r.Pairwise fun c d => PySem.W.dataLe false W.enc c d = true) → Ow.All2 (T H1) ys r → H1 b = none → Q (.ref b) (upd H1 b (.lst ys))
theorem pe_sortSetWL {X : Cx} {a : Expr} {ta : TE} {p p2 q pos : Pos} (wh : WayH W T) (calm : X.calm = true) (hu : X.A.units + 64 < cLine) (gl : Gl X "sorted") (ml : X.mg "sorted" = none) (gs : Gl X "set") (ms : X.mg "set" = none) (ha : PE X a ta)
    (na : starEach [a] X.env = (false, eval a X.env) :: starEach [] X.env := by rfl) : PE X (.Call (.Name "sorted" p) [.Call (.Name "set" p2) [a] [] q] [] pos) (tSortSetWL X.K W T ta) := by
  refine ⟨fun pins s σ H Q I h => Call_ (ld_blt I gl ml (show bootBuiltins "sorted" = some (.builtin "sorted") by decide +kernel) ?_)⟩
  refine callWith_builtin1 (args_cons (Call_ (ld_blt I gs ms boot_set ?_)) rfl) rfl rfl
  refine callWith_type1 (args_cons (thn (ha.run pins s σ H _ I h) fun v s1 got => args_nil ?_) na) na rfl
  obtain ⟨x, H1, I1, r1, l, xs, pk, rfl, hq, hp, ⟨us, lu, sub⟩, can, q1⟩ := got
  cases r1
  obtain ⟨its, rv, pl, _⟩ := I1.list hq
  obtain ⟨ks, e1, e2, e3, e4⟩ := pairsW wh I1 hp rv
  have none_of : s1.heap.get? s1.heap.objs.size = none := by
    cases z : s1.heap.get? s1.heap.objs.size with
    | none => rfl
    | some o => exact absurd (Heap.lt_size z) (Nat.lt_irrefl _)
  have mem_us : ∀ q ∈ ks, q.2 ∈ us := fun q hq => sub _ (by rw [← e2]; exact List.mem_map.mpr ⟨q, hq, rfl⟩)
  refine call_set_anyL (items := its.toArray) (Sp := SpW X.prog X.w W s1.heap s1.heap.objs.size ks) (I1.ok.hd calm) pl.isList (fun A' hA => growsW (us := us) (by simpa using e1) e3 lu mem_us (by omega) none_of) fun h' tk sp kept => ?_
  obtain ⟨_, L, M, R, pm, sb, mem⟩ := sp
  have lk : its.toArray.size = ks.length := by rw [List.size_toArray, e1, List.length_map]
  rw [lk, List.take_length, e2] at mem
  have I2 : Inv X pins σ H1 { s1 with heap := h', toks := tk } := I1.kept fun b o e => kept b o e
  have nd : (M.map (·.2)).Nodup := by
    obtain ⟨_, _, _, _, B, _⟩ := R.ex
    exact nodupW ((pm.map (·.2)).nodup_iff.mp B.nd)
  have can2 : CanSort W (M.map (·.2)) := can.imp (fun h c hc => h c ((mem c).mp hc)) fun ⟨c, hc, only, ec⟩ => ⟨c, by
    have h1 : c ∈ M.map (·.2) := (mem c).mpr hc
    have h2 : ∀ z ∈ M.map (·.2), z = c := fun z hz => only z ((mem z).mp hz)
    generalize M.map (·.2) = l at h1 h2 nd
    match l, nd, h1, h2 with
    | [z], _, _, h2 => rw [h2 z List.mem_cons_self]
    | z :: y :: l, nd, _, h2 => exact absurd ((h2 z List.mem_cons_self).trans (h2 y (List.mem_cons_of_mem _ List.mem_cons_self)).symm) fun e => (List.nodup_cons.mp nd).1 (by rw [e]; exact List.mem_cons_self), ec⟩
  refine args_nil (sort_setWI I2 R pm (fun q hq => (e3 q (sb q hq)).keeps kept) can2 calm (by omega) fun M' b pM nd' so hn => ?_)
  refine q1 (M'.map (·.2)) _ b nd' (fun z => ?_) so (refsW M' fun q hq => e4 q (sb q (pM.mem_iff.mp hq))) hn
  rw [(pM.map (·.2)).mem_iff]
  exact mem z
end HS

set_option Elab.async false
set_option linter.all false
set_option maxRecDepth 100000
set_option maxHeartbeats 4000000
set_option exponentiation.threshold 3000
namespace Ow
open PySem PySem.Spec PyProof.Rows L2
def nkR (r : List Int) : NestedKey := .tup (r.map .num)
theorem nkR_inj {a b : List Int} (h : nkR a = nkR b) : a = b := by
  unfold nkR at h
  injection h with h
  exact (List.map_inj_right fun x y z => by injection z).mp h
theorem nkR_depth (r : List Int) : (nkR r).depth ≤ 8 := by
  have : ∀ l : List Int, NestedKey.depthAll (l.map .num) ≤ 0 := fun l => by
    induction l with
    | nil => unfold NestedKey.depthAll; exact Nat.le_refl _
    | cons a l ih =>
      rw [List.map_cons]
      unfold NestedKey.depthAll
      have e : (NestedKey.num a).depth = 0 := by unfold NestedKey.depth; rfl
      rw [e]
      omega
  unfold nkR NestedKey.depth
  have := this r
  omega
theorem alikeR : ∀ a b : List Int, PySem.W.alikeAll (a.map .int) (b.map .int) = true
  | [], _ => by simp [PySem.W.alikeAll]
  | _ :: _, [] => by simp [PySem.W.alikeAll]
  | x :: a, y :: b => by
    rw [List.map_cons, List.map_cons]
    simp only [PySem.W.alikeAll, PySem.W.alike]
    rw [alikeR a b]
    rfl
def wayR : HS.Way (List Int) := ⟨nkR, rowD, nkR_inj, nkR_depth, fun a b => by unfold rowD; simp only [PySem.W.alike]; exact alikeR a b, fun a => by
  show PyData.depthAll (a.map .int) + 1 ≤ 3
  have : ∀ l : List Int, PyData.depthAll (l.map .int) = 0 := fun l => by
    induction l with
    | nil => rfl
    | cons x l ih =>
      show max 0 (PyData.depthAll (l.map .int)) = 0
      rw [ih]
      rfl
  rw [this]
  decide⟩
theorem row_is {h : Heap} : ∀ {r : List Int} {us : List Value}, Vals (r.map V.int) us → NestedAll h (r.map .num) us
  | [], _, .nil => .nil
  | i :: r, _, .cons ⟨t, e⟩ rt => by
    subst e
    exact .cons (.int _ _) (row_is rt)
theorem row_reads {h : Heap} : ∀ {r : List Int} {us : List Value}, Vals (r.map V.int) us → ReadsAll h us (r.map .int) []
  | [], _, .nil => .nil
  | i :: r, _, .cons ⟨t, e⟩ rt => by
    subst e
    exact .cons (as := []) (bs := []) (.int _ _) (row_reads rt)
theorem wayR_h : HS.WayH wayR IsRow where
  at_ := fun ⟨a, e, _⟩ => ⟨a, e⟩
  stand := fun {X pins σ H s} I {b c} h => by
    obtain ⟨a, e, ha⟩ := h
    cases e
    obtain ⟨_, its, rv, o, ho, hc, n, hd⟩ := (show ObjOk X.prog X.w H s.heap b (.tup (c.map V.int)) from I.hok b _ ha)
    exact ⟨.tup ho hc hd (by simpa using row_is rv), .tuple (as := []) ho hc hd (by simpa using row_reads rv)⟩
theorem lex_lt : ∀ a b : List Int, HT.lexLt a b = decide (a < b)
  | [], [] => rfl
  | [], y :: b => by
    show true = _
    rw [decide_eq_true (List.nil_lt_cons y b)]
  | x :: a, [] => by
    show false = _
    rw [decide_eq_false (List.not_lt_nil _)]
  | x :: a, y :: b => by
    rw [HT.lexLt_cons, lex_lt a b]
    by_cases e : x = y
    · rw [if_pos e, Bool.eq_iff_iff, decide_eq_true_iff, decide_eq_true_iff, List.cons_lt_cons_iff]
      constructor
      · exact fun h => .inr ⟨e, h⟩
      · rintro (h | ⟨_, h⟩)
        · rw [e] at h
          exact absurd h (Int.lt_irrefl _)
        · exact h
    · rw [if_neg e, Bool.eq_iff_iff, decide_eq_true_iff, decide_eq_true_iff, List.cons_lt_cons_iff]
      constructor
      · exact .inl
      · rintro (h | ⟨h, _⟩)
        · exact h
        · exact absurd h e
/-- the order of data is that of rows -/
theorem row_le {a b : List Int} (h : PySem.W.dataLe false rowD a b = true) (n : a ≠ b) : HT.lexLt a b = true := by
  have h : (!PySem.W.dataLt (rowD b) (rowD a)) = true := h
  have e : PySem.W.dataLt (rowD b) (rowD a) = decide (b < a) := by
    show PySem.W.dataLt (.tuple (b.map .int)) (.tuple (a.map .int)) = _
    rw [PySem.W.dataLt_tuple]
    exact PySem.W.dataLt_ints b a
  rw [e] at h
  have h1 : ¬ b < a := by simpa using h
  rw [lex_lt]
  refine decide_eq_true ?_
  have h2 : a ≤ b := List.not_lt.mp h1
  exact List.not_le.mp fun h3 => n (List.le_antisymm h2 h3)
theorem asc_cons {a b : List Int} {l : List (List Int)} : ascR (a :: b :: l) = (HT.lexLt a b && ascR (b :: l)) := rfl
theorem asc_of_pair : ∀ {ms : List (List Int)}, (ms.Pairwise fun a b => HT.lexLt a b = true) → ascR ms = true
  | [], _ => rfl
  | [_], _ => rfl
  | a :: b :: ms, h => by
    obtain ⟨h1, h2⟩ := List.pairwise_cons.mp h
    rw [asc_cons, h1 b List.mem_cons_self, asc_of_pair h2]
    rfl
/-- sorted without repeats: strictly ascending -/
theorem asc_of_data {ms : List (List Int)} (nd : ms.Nodup) (so : ms.Pairwise fun c d => PySem.W.dataLe false rowD c d = true) : ascR ms = true :=
  asc_of_pair (by
    have := List.Pairwise.and nd so
    exact this.imp fun {a b} h => row_le h.2 h.1)
end Ow

set_option Elab.async false
set_option linter.all false
set_option maxRecDepth 100000
set_option maxHeartbeats 4000000
set_option exponentiation.threshold 3000
namespace Ow
open PySem PySem.Spec PyProof.Rows L2
theorem bits_all {r : List Int} (h : bitsB r = true) : ∀ b ∈ r, b = 0 ∨ b = 1 := fun b hb => by
  have := List.all_eq_true.mp h b hb
  rw [Bool.or_eq_true, decide_eq_true_iff, decide_eq_true_iff] at this
  exact this
theorem rowsN_has : ∀ (n : Nat) (r : List Int), r.length = n → (∀ b ∈ r, b = 0 ∨ b = 1) → r ∈ rowsN n
  | 0, r, l, _ => by
    rw [List.length_eq_zero_iff.mp l]
    exact List.mem_singleton.mpr rfl
  | n + 1, r, l, h => by
    have ne : r ≠ [] := fun z => by rw [z] at l; cases l
    have e := (List.dropLast_concat_getLast ne).symm
    have m := rowsN_has n r.dropLast (by rw [List.length_dropLast, l]; rfl) fun b hb => h b ((List.dropLast_sublist r).subset hb)
    have e2 : rowsN (n + 1) = (rowsN n).flatMap fun r => [r ++ [0], r ++ [1]] := rfl
    rw [e2, e]
    refine List.mem_flatMap.mpr ⟨_, m, ?_⟩
    rcases h _ (List.getLast_mem ne) with g | g
    · rw [g]
      exact List.mem_cons_self
    · rw [g]
      exact List.mem_cons_of_mem _ List.mem_cons_self
/-! ### the agenda of clashes -/
def spWithBothW : Sp := fun vs H Q _ => ∃ (L : Addr) (m : Nat) (xs : List V) (rs : List (List Int)), vs = [.ref L] ∧ H L = some (.lst xs) ∧ All2 (IsRow H) xs rs ∧ RowsOk m rs ∧ rs ≠ [] ∧ rs.length ≤ 70 ∧ 1 ≤ m ∧ m ≤ 6 ∧
  ∀ H' x ms, Same H H' → IsRows H' x ms → RowsOk m ms → ascR ms = true → (∀ k < m, Both ms k) → ms.length ≤ 64 → Q x H'
section
variable {P : Program} {w : World} {K : PySem.W.Frag} {mg : Str → Option Value} {base : Heap}
theorem ok_lwithbothW {f : Addr} {fd : FuncData} (F : Fun K "_law_with_both" "_law_with_both" dLWithBoth f fd)
    (mls : mg "list" = none) (ml : mg "len" = none) (mse : mg "set" = none) (ms : mg "sorted" = none) (mt : mg "tuple" = none) (mr : mg "range" = none) : FnOk P w K mg base CX0 1 f fd ["rows"] spWithBothW := by
  refine F.ok scWithBoth (fun vs H Q E h => ?_) (fun cdv A outer s H vs Q E hr h => ?_)
  · obtain ⟨L, m, xs, rs, rfl, _⟩ := h
    rfl
  obtain ⟨L, m, xs, rs, rfl, hL, hx, ok, ne, few, m1, m5, q⟩ := h
  have lx := hx.len
  refine ⟨_, pss_cons (ps_set (i := 1) scWithBoth.nd rfl (.inl rfl) (pe_callTy call_list_of (by rfl) mls (by decide +kernel) (pa_cons (pv 0) pa_nil)))
    (pss_cons (ps_for PassesOwn.never rfl (pi_range1 (by rfl) mr (pa_cons (pe_callB call_len_seq (by rfl) ml PySem.boot_len (pa_cons (pe_ix ix_list (pv 0) pe_int (fun _ _ => rfl)) pa_nil)) pa_nil)) (pg_name (i := 2) scWithBoth.nd rfl (.inr rfl))
      (pss_one (ps_if (pt_cmpR op_lt (pe_lenSetL rfl (by rfl) ml (by rfl) mse
          (pe_lc (te := tOp (rIxT K) (tVar 4) (tVar 2)) (own := [("row", 4)]) (g := gName 4) (tt := tYes) rfl scWithBoth.nd (pi_list (pv 1)) (blkOk_by (N := wbN) (sc := defScope dLWithBoth) (by decide +kernel))
            (fun _ _ _ _ _ => pg_name (i := 4) scWithBoth.nd rfl (Or.inl rfl)) (fun _ _ _ _ _ => pts_nil)
            (fun _ _ _ _ _ => pe_ix ix_tup (pv 4) (pv 2) (fun _ _ => rfl)))) pe_int (nomark _))
        (pss_cons (ps_set (i := 3) scWithBoth.nd rfl (.inl rfl) (pe_ix ix_list (pv 1) (pe_un un_neg pe_int) (fun _ _ => rfl)))
        (pss_one (ps_expr (pe_bm PySem.F.plainAttrs_list PySem.F.slot_list_append PySem.F.type_list_append mt_append (pv 1) (pa_cons
          (pe_op op_tcat (pe_op op_tcat (pe_slice sl_tup (pv 3) po_none (po_some (pv 2))) (pe_tup (pa_cons (pe_op op_sub pe_int (pe_ix ix_tup (pv 3) (pv 2) (fun _ _ => rfl))) pa_nil)))
            (pe_slice sl_tup (pv 3) (po_some (pe_op op_add (pv 2) pe_int)) po_none)) pa_nil))))) pss_nil)))
    (pss_one (ps_ret (pe_callTy call_tuple_of (by rfl) mt boot_tup (pa_cons (HS.pe_sortSetWL wayR_h rfl hr.units (by rfl) ms (by rfl) mse (pv 1)) pa_nil))))), ?_⟩
  refine ⟨.ref L, rfl, L, xs, rfl, .inl (.of hL), fun W nW => ?_⟩
  have sW : Same H (upd H W (.lst xs)) := same_new nW
  have eW : upd H W (.lst xs) W = some (.lst xs) := upd_same
  have axW := all_tk (Tk.same sW) hx
  have hL1 := sW _ _ hL
  generalize upd H W (.lst xs) = H1 at sW eW axW hL1 ⊢
  cases rs with
  | nil => exact absurd rfl ne
  | cons r0 rt =>
  have l0 := (ok r0 List.mem_cons_self).2
  obtain ⟨x0, hx0, b0, rfl, hb0⟩ : ∃ x0, xs[0]? = some x0 ∧ IsRow H1 x0 r0 := by
    obtain ⟨x, e, h⟩ := axW.get' (i := 0) (y := r0) rfl
    exact ⟨x, e, h⟩
  refine ⟨.ref L, rfl, L, xs, 0, .ref b0, rfl, rfl, .of hL1, atI_nat (j := 0) hx0, b0, _, rfl, .inr (.of hb0), m, by rw [List.length_map, l0], by omega, by omega, ?_⟩
  refine for_range (lo := 0) (n := m) (fun i σ Hy => ∃ ys fs y2 y3 y4, σ = [some (.ref L), some (.ref W), y2, y3, y4] ∧ Sb W H1 Hy ∧ Hy W = some (.lst ys) ∧ All2 (IsRow Hy) ys fs ∧ RowsOk m fs ∧ fs.length ≤ (r0 :: rt).length + i ∧ (∀ r ∈ r0 :: rt, r ∈ fs) ∧ ∀ k < i, Both fs k)
    ⟨xs, r0 :: rt, none, none, none, rfl, Sb.refl _ _, eW, axW, ok, Nat.le_add_right _ _, fun r hr => hr, fun k hk => absurd hk (by omega)⟩ (fun i σ Hy hi hP => ?_) (fun σ Hy hP => ?_)
  · obtain ⟨ys, fs, y2, y3, y4, rfl, sy, ey, ay, okf, lf, sub, both⟩ := hP
    have ly := ay.len
    refine ⟨.ref W, rfl, W, rfl, ⟨ys, .of ey⟩, fun D nD => ?_⟩
    refine lc_map (M := No) (walk_list (K := K) (a := W) (xs := ys)) (by omega) Jg.no nD (fun j _ y => ∃ r, fs[j]? = some r ∧ y = .int (rowAt i r)) (fun _ _ _ _ _ h => h) (fun Hx g _ => .of (g.toSame _ _ ey))
      (fun j x Hx Hx' Kk hj g _ hY hK => ?_) (fun Hx zs g _ eD hlen hq => ?_)
    · obtain ⟨rfl, hxj⟩ := hY
      obtain ⟨r, hr', b, rfl, hb⟩ := ay.get hxj
      obtain ⟨_, er⟩ := row_bit okf hi (List.mem_of_getElem? hr')
      have at_ : (r.map V.int)[i]? = some (.int (rowAt i r)) := by rw [List.getElem?_map, er]; rfl
      exact ⟨rfl, .ref b, rfl, .int (0 + (i : Int)), rfl, b, _, (0 + (i : Int)), .int (rowAt i r), rfl, rfl, .of (g.toSame _ _ hb), by rw [Int.zero_add]; exact atI_nat at_, hK _ _ (Gw.refl _) Jg.no ⟨r, hr', rfl⟩⟩
    have e : zs = (fs.map (rowAt i)).map V.int := by
      rw [List.map_map]
      exact list_eq (f := V.int ∘ rowAt i) hlen (by rw [ly]) hq
    rw [e] at eD
    have sx := g.toSame
    have ex := sx _ _ ey
    have ax := all_tk (Tk.same sx) ay
    have WD : W ≠ D := fun z => by rw [z, nD] at ey; cases ey
    have sbx : Sb W H1 Hx := sy.trans (.same sx)
    refine ⟨D, fs.map (rowAt i), rfl, .of eD, by rw [List.length_map]; omega, _, _, rfl, rfl, _, rfl, ite2 (fun e => ?_) (fun e => ?_)⟩
    · obtain ⟨yl, hyl⟩ : ∃ yl, ys[ys.length - 1]? = some yl := by
        have : 0 < fs.length := List.length_pos_of_mem (sub r0 List.mem_cons_self)
        exact ⟨_, List.getElem?_eq_getElem (by omega)⟩
      obtain ⟨r, hr', a, rfl, ha⟩ := ax.get hyl
      have mr' := List.mem_of_getElem? hr'
      obtain ⟨rb, rl⟩ := okf r mr'
      refine ⟨.ref W, rfl, 1, rfl, W, ys, -1, .ref a, rfl, rfl, .of ex, at_last hyl, ?_⟩
      have gi : r[i]? = some (r.getD i 0) := by rw [List.getD_eq_getElem?_getD, List.getElem?_eq_getElem (by omega)]; rfl
      refine ⟨.ref W, rfl, .inl ⟨rfl, _, .of ex⟩, .ref a, rfl, .int (0 + (i : Int)), rfl, _, rfl, a, _, rfl, ha, fun Ha b1 t1 hb1 => ⟨.ref a, rfl, .int (0 + (i : Int)), rfl, a, _, _, .int (r.getD i 0), rfl, rfl, .of (t1 _ _ ha), ?_, _, _, rfl, rfl, (by show 1 ≤ sizeLine; decide), fun c1 n1 => ?_⟩⟩
      · rw [Int.zero_add]
        exact atI_nat (by rw [List.getElem?_map, gi]; rfl)
      rw [Int.zero_add, cutR_take (by omega)] at hb1
      refine ⟨b1, c1, _, _, rfl, rfl, same_new n1 _ _ hb1, upd_same, ?_, fun Hb b2 t2 hb2 => ?_⟩
      · rw [List.length_map, List.length_take]
        show min i r.length + 1 ≤ 5000
        omega
      have t12 : Same Hx Hb := t1.trans ((same_new n1).trans t2)
      refine ⟨.ref a, rfl, .int (0 + (i : Int)), rfl, _, _, rfl, rfl, _, rfl, a, _, rfl, t12 _ _ ha, fun Hc b3 t3 hb3 => ?_⟩
      have ei : (0 + (i : Int) + 1) = ((i + 1 : Nat) : Int) := by omega
      rw [ei, cutR_drop (by omega)] at hb3
      refine ⟨b2, b3, _, _, rfl, rfl, t3 _ _ hb2, hb3, ?_, fun Hd b4 t4 hb4 => ?_⟩
      · rw [List.length_append, List.length_map, List.length_map, List.length_take, List.length_drop]
        show min i r.length + 1 + (r.length - (i + 1)) ≤ 5000
        omega
      have t14 : Same Hx Hd := t12.trans (t3.trans t4)
      have hb5 : Hd b4 = some (.tup ((flipR r i).map V.int)) := by
        rw [hb4]
        unfold flipR
        rw [List.map_append, List.map_append]
        rfl
      have ed := t14 _ _ ex
      have tk5 : Tk Hd (upd Hd W (.lst (ys ++ [.ref b4]))) := Tk.lst ed
      have fb : bitsB (flipR r i) = true := flipR_bits rb (by omega)
      have fl : (flipR r i).length = m := by rw [flipR_len (by omega), rl]
      have fa : rowAt i (flipR r i) = 1 - rowAt i r := flipR_at (by omega)
      refine ⟨W, ys, .ref b4, rfl, rfl, ed, small60 (by omega), ys ++ [.ref b4], fs ++ [flipR r i], _, _, _, rfl, sbx.trans ((Sb.same t14).trans Sb.at), upd_same, (all_tk ((Tk.same t14).trans tk5) ax).app (.cons (IsRow.tk tk5 ⟨b4, rfl, hb5⟩) .nil), fun p hp => ?_, ?_, fun p hp => List.mem_append_left _ (sub p hp), fun k hk => ?_⟩
      · rcases List.mem_append.mp hp with hp | hp
        · exact okf p hp
        · rw [List.mem_singleton.mp hp]
          exact ⟨fb, fl⟩
      · rw [List.length_append]
        show fs.length + 1 ≤ _
        omega
      · by_cases e1 : k = i
        · rw [e1]
          have bt := (row_bit okf hi mr').1
          have m1' : r ∈ fs ++ [flipR r i] := List.mem_append_left _ mr'
          have m2' : flipR r i ∈ fs ++ [flipR r i] := List.mem_append_right _ List.mem_cons_self
          rcases bt with b | b
          · exact ⟨⟨r, m1', b⟩, ⟨_, m2', by rw [fa, b]; rfl⟩⟩
          · exact ⟨⟨_, m2', by rw [fa, b]; rfl⟩, ⟨r, m1', b⟩⟩
        · exact (both k (by omega)).sub fun p hp => List.mem_append_left _ hp
    · refine ⟨ys, fs, _, _, _, rfl, sbx, ex, ax, okf, by omega, sub, fun k hk => ?_⟩
      by_cases e1 : k = i
      · rw [e1]
        have two : 2 ≤ metN (fs.map (rowAt i)) := by
          have z : (2 : Int) ≤ (metN (fs.map (rowAt i)) : Nat) := by simpa using e
          omega
        obtain ⟨h0, h1⟩ := metN_two (fun n hn => by
          obtain ⟨r, hr', rfl⟩ := List.mem_map.mp hn
          exact (row_bit okf hi hr').1) two
        obtain ⟨r, hr', e0⟩ := List.mem_map.mp h0
        obtain ⟨p, hp, e2⟩ := List.mem_map.mp h1
        exact ⟨⟨r, hr', e0⟩, ⟨p, hp, e2⟩⟩
      · exact both k (by omega)
  · obtain ⟨ys, fs, y2, y3, y4, rfl, sy, ey, ay, okf, lf, sub, both⟩ := hP
    have sH : Same H Hy := fun b o e => sy b o (ne_of_none e nW) (sW _ _ e)
    have inR : ∀ r ∈ fs, r ∈ rowsN m := fun r hr => rowsN_has m r (okf r hr).2 (bits_all (okf r hr).1)
    have n64 : (rowsN m).length ≤ 64 := by
      rw [rowsN_len]
      exact Nat.le_trans (Nat.pow_le_pow_right (by decide) m5) (by decide)
    refine ⟨.ref W, rfl, W, ys, fs, rfl, .of ey, ay, ⟨rowsN m, by omega, inR⟩, .inl fun c hc => ?_, fun ms vs b nd mem so hv nb => ?_⟩
    · have lc := (okf c hc).2
      cases c with
      | nil => exact absurd lc (by show ¬ (0 = m); omega)
      | cons x c => exact ⟨.int x, c.map .int, rfl⟩
    have sb := same_new (o := .lst vs) nb
    refine ⟨b, vs, rfl, .inl ⟨.of upd_same, fun u nu => ?_⟩⟩
    have su := same_new (o := .tup vs) nu
    have okm : RowsOk m ms := fun r hr => okf r ((mem r).mp hr)
    have l64 : ms.length ≤ (rowsN m).length := HS.nodup_few ms _ nd fun z hz => inR z ((mem z).mp hz)
    exact q _ (.ref u) ms (sH.trans (sb.trans su)) ⟨u, vs, rfl, upd_same, hv.imp fun _ _ h => h.tk (Tk.same (sb.trans su))⟩ okm (asc_of_data nd so) (fun k hk => (both k hk).sub fun r hr => (mem r).mpr hr) (by omega)
end
end Ow

set_option Elab.async false
set_option linter.all false
set_option maxRecDepth 100000
set_option maxHeartbeats 4000000
set_option exponentiation.threshold 3000
namespace Ow
open PySem PySem.Spec PyProof.Rows L2
theorem asc_from : ∀ (r : List Str) (p : Str), (p :: r).Nodup → risingS p r = true → ascB (p :: r) = true
  | [], p, _, _ => rfl
  | x :: r, p, nd, h => by
    have nd' := List.nodup_cons.mp nd
    unfold risingS at h
    rw [Bool.and_eq_true] at h
    have ih := asc_from r x nd'.2 h.2
    show (ltS p x && ascB (x :: r)) = true
    rw [ih, Bool.and_true]
    unfold ltS
    rw [lt_meets]
    cases e : ltCps p.cps.toList x.cps.toList with
    | true => rfl
    | false =>
      have h1 : ltCps x.cps.toList p.cps.toList = false := by
        have := h.1
        cases q : ltCps x.cps.toList p.cps.toList with
        | true => rw [q] at this; cases this
        | false => rfl
      exact absurd (by rw [str_ext (ltCps_tri _ _ e h1)]; exact List.mem_cons_self : p ∈ x :: r) nd'.1
theorem asc_of : ∀ {ys : List Str}, ys.Nodup → sortedS ys = true → ascB ys = true
  | [], _, _ => rfl
  | y :: ys, nd, h => asc_from ys y nd h
theorem issues_of {zs ys : List Str} (pm : ys.Perm zs) (so : sortedS ys = true) (nd : zs.Nodup) (h1 : 1 ≤ zs.length) (h6 : zs.length ≤ 6) (hn : ∀ z ∈ zs, nameB (.str z) = true) : issuesB ys = true := by
  have l := pm.length_eq
  unfold issuesB namesB
  rw [asc_of (pm.nodup_iff.mpr nd) so, decide_eq_true (by omega), decide_eq_true (by omega)]
  have : (ys.all fun z => nameB (.str z)) = true := List.all_eq_true.mpr fun z hz => hn z (pm.mem_iff.mp hz)
  rw [this]
  rfl
theorem perm_strs {ys : List V} {ls : List Str} (h : ys.Perm (ls.map V.str)) : ∃ zs : List Str, ys = zs.map V.str ∧ zs.Perm ls := by
  let g : V → Str := fun v => match v with
    | .str z => z
    | _ => ⟨#[]⟩
  have back : ∀ v ∈ ys, V.str (g v) = v := fun v hv => by
    obtain ⟨z, _, rfl⟩ := List.mem_map.mp (h.mem_iff.mp hv)
    rfl
  refine ⟨ys.map g, ?_, ?_⟩
  · rw [List.map_map]
    conv => lhs; rw [← List.map_id ys]
    exact List.map_congr_left fun v hv => (back v hv).symm
  · have := h.map g
    rw [List.map_map] at this
    have e : ls.map (g ∘ V.str) = ls := by
      conv => rhs; rw [← List.map_id ls]
      exact List.map_congr_left fun _ _ => rfl
    rw [e] at this
    exact this
end Ow

set_option Elab.async false
set_option linter.all false
set_option maxRecDepth 100000
set_option maxHeartbeats 4000000
namespace Ow
open PySem PySem.Spec PyProof.Rows L2
/-! ### for x, y in zip(a, b): each a list or a tuple -/
def SqV (k : SqK) (K : PySem.W.Frag) (H : Hp) (a : Addr) (xs : List V) : Prop := match k with
  | .lst => SqL K H a xs
  | .tup => SqT K H a xs
section
variable {X : Cx} {pins : List (Addr × Obj)} {σ : L2.St} {H : Hp} {s : Shared} {k : SqK} {a : Addr} {xs ys : List V}
theorem sqV_is (I : Inv X pins σ H s) (h : SqV k X.K H a xs) : ∃ its : List Value, k.Is s.heap a its.toArray ∧ Vals xs its ∧ xs.length ≤ sizeLine := by
  cases k with
  | lst =>
    obtain ⟨its, rv, pl, hz⟩ := I.list h
    exact ⟨its, pl.isList, rv, hz⟩
  | tup =>
    obtain ⟨its, rv, pl, hz⟩ := I.tuple h
    exact ⟨its, pl, rv, hz⟩
theorem sqV_inj (I : Inv X pins σ H s) (h : SqV k X.K H a xs) (g : SqV k X.K H a ys) : xs = ys := by
  cases k with
  | lst => exact I.list_inj h g
  | tup => exact I.tuple_inj h g
end
/-- the two as they stand at each turn, the items in new pairs -/
def ItzK (K : PySem.W.Frag) (k1 k2 : SqK) (a b : Addr) : It :=
  ⟨fun i H => ∃ (xs ys : List V) (x y : V), SqV k1 K H a xs ∧ SqV k2 K H b ys ∧ xs[i]? = some x ∧ ys[i]? = some y,
    fun i H v H' => ∃ T x y, v = .ref T ∧ H T = none ∧ H' = upd H T (.tup [x, y]) ∧ (∀ xs, SqV k1 K H a xs → xs[i]? = some x) ∧ ∀ ys, SqV k2 K H b ys → ys[i]? = some y,
    fun i H => ∃ xs ys : List V, SqV k1 K H a xs ∧ SqV k2 K H b ys ∧ i = min xs.length ys.length⟩
theorem turn_zipK {P : Program} {w : World} {K : PySem.W.Frag} {elts : List Expr} {kk : Nat} {tpos : Pos} {k1 k2 : SqK} {a b z TI TO i1 i2 : Addr} (D : ZipSep2 z TI TO i1 i2 [i1, a] [i2, b]) (na : a ≠ i1) (nb : b ≠ i2) :
    Turn P w K (.Tuple elts kk tpos) (ItzK K k1 k2 a b) [z, TI, TO, i1, i2] z (fun i h => IsZip h z TI TO .none ∧ IsTupOf2 h TI (.ref i1) (.ref i2) ∧ (∃ x y, IsTupOf2 h TO x y) ∧ k1.It h i1 a i ∧ k2.It h i2 b i) where
  mem := by simp
  obj := fun i h st c hc => by
    obtain ⟨hz, hTI, ⟨x, y, hTO⟩, h1, h2⟩ := st
    have e' : c = z ∨ c = TI ∨ c = TO ∨ c = i1 ∨ c = i2 := by simpa using hc
    have ob : ∀ {k : SqK} {i1 a : Addr}, k.It h i1 a i → ∃ o, h.get? i1 = some o ∧ ∀ v, o.data ≠ .cell v := fun {k i1 a} h1 => by
      cases k with
      | lst => obtain ⟨o1, e1, _, d1⟩ := h1; exact ⟨o1, e1, fun v q => by rw [d1] at q; cases q⟩
      | tup => obtain ⟨o1, e1, _, d1⟩ := h1; exact ⟨o1, e1, fun v q => by rw [d1] at q; cases q⟩
    rcases e' with q | q | q | q | q
    · rw [q]; exact ⟨_, hz, fun v q => nomatch q⟩
    · rw [q]; exact ⟨_, hTI, fun v q => nomatch q⟩
    · rw [q]; exact ⟨_, hTO, fun v q => nomatch q⟩
    · rw [q]; exact ob h1
    · rw [q]; exact ob h2
  keep := fun i h h' st k => by
    obtain ⟨hz, hTI, ⟨x, y, hTO⟩, h1, h2⟩ := st
    exact ⟨k z (by simp) _ hz, k TI (by simp) _ hTI, ⟨x, y, k TO (by simp) _ hTO⟩, h1.keep fun o q => k i1 (by simp) o q, h2.keep fun o q => k i2 (by simp) o q⟩
  item := by
    intro X hP hw hK hc i pins s σ H E I hf st hg
    subst hP hw hK
    obtain ⟨hz, hTI, ⟨x0, y0, hTO⟩, h1, h2⟩ := st
    obtain ⟨xs, ys, x, y, hqx, hqy, hx, hy⟩ := hg
    obtain ⟨its, p, rv, _⟩ := sqV_is I hqx
    obtain ⟨its2, p2, rv2, _⟩ := sqV_is I hqy
    obtain ⟨u, hu, ru⟩ := rv.get hx
    obtain ⟨u2, hu2, ru2⟩ := rv2.get hy
    have hzl : z < s.heap.objs.size := Heap.lt_size hz
    have hh := I.ok.hd hc
    have D1 : Draws X.prog X.w X.A.in1 i1 [i1, a] its.toArray.size (fun i v => its.toArray[i]? = some v) (fun i h => k1.It h i1 a i ∧ k1.Is h a its.toArray) := SqK.draws (A := X.A.in1) hh i1 a na _
    have D2 : Draws X.prog X.w X.A.in1 i2 [i2, b] its2.toArray.size (fun i v => its2.toArray[i]? = some v) (fun i h => k2.It h i2 b i ∧ k2.Is h b its2.toArray) := SqK.draws (A := X.A.in1) hh i2 b nb _
    have l1 : i < its.toArray.size := by rw [List.size_toArray]; exact (List.getElem?_eq_some_iff.mp hu).1
    have l2 : i < its2.toArray.size := by rw [List.size_toArray]; exact (List.getElem?_eq_some_iff.mp hu2).1
    refine wpAny_pyNext_zipD2_item D D1 D2 hz hTI hTO ⟨h1, p⟩ ⟨h2, p2⟩ l1 l2 fun x1 x2 h' tk e1 e2 z' TO' h1' h2' hT hsz hk => ?_
    obtain rfl : u = x1 := by rw [List.getElem?_toArray, hu] at e1; exact Option.some.inj e1
    obtain rfl : u2 = x2 := by rw [List.getElem?_toArray, hu2] at e2; exact Option.some.inj e2
    refine ⟨_, rfl, wpAny_letOwnedTupleGo_zip (s := { s with heap := h', toks := tk }) z' fun h'' z'' sb => ?_⟩
    have hT2 : h''.get? s.heap.objs.size = some { cls := .type "tuple", data := .seq #[u, u2] } := (sb.2 _ (Nat.ne_of_gt hzl)).trans hT
    have new : ObjOk X.prog X.w (upd H s.heap.objs.size (.tup [x, y])) h'' s.heap.objs.size (.tup [x, y]) :=
      ⟨by show 2 ≤ sizeLine; decide, [u, u2], .cons ru (.cons ru2 .nil), ⟨_, hT2, rfl, _, rfl⟩⟩
    have I1 : Inv X pins σ (upd H s.heap.objs.size (.tup [x, y])) { s with heap := h'', toks := tk } :=
      I.turnedNew (t' := tk) (ch := [z, TI, TO, i1, i2]) (fun c o hb q => (sb.2 c (fun q' => hb (by simp [q']))).trans (hk c o (fun q' => hb (by simp [q'])) (fun q' => hb (by simp [q'])) (fun q' => hb (by simp [q'])) (fun q' => hb (by simp [q'])) q)) hf (Nat.le_refl _) new
    refine ⟨.ref s.heap.objs.size, _, I1, rfl, ⟨_, x, y, rfl, I.hok.fresh (Nat.le_refl _), rfl, fun l hl => by rw [sqV_inj I hl hqx]; exact hx, fun l hl => by rw [sqV_inj I hl hqy]; exact hy⟩, ⟨z'', ?_, ⟨u, u2, ?_⟩, ?_, ?_⟩, fun c hcm => ?_⟩
    · exact (sb.2 _ D.TIz).trans (hk _ _ D.TIz D.TITO D.TIi1 D.TIi2 hTI)
    · exact (sb.2 _ D.TOz).trans TO'
    · exact h1'.1.keep fun o q => (sb.2 _ D.zi1.symm).trans q
    · exact h2'.1.keep fun o q => (sb.2 _ D.zi2.symm).trans q
    · have il : ∀ {k : SqK} {j b : Addr}, k.It s.heap j b i → j < s.heap.objs.size := fun {k j b} h => by
        cases k with
        | lst => obtain ⟨_, e1, _⟩ := h; exact Heap.lt_size e1
        | tup => obtain ⟨_, e1, _⟩ := h; exact Heap.lt_size e1
      have hlt : c < s.heap.objs.size := by
        have e' : c = z ∨ c = TI ∨ c = TO ∨ c = i1 ∨ c = i2 := by simpa using hcm
        rcases e' with q | q | q | q | q
        · rw [q]; exact hzl
        · rw [q]; exact Heap.lt_size hTI
        · rw [q]; exact Heap.lt_size hTO
        · rw [q]; exact il h1
        · rw [q]; exact il h2
      rw [upd_ne (Nat.ne_of_lt hlt)]
      exact (hf c hcm).1
  done := by
    intro X hP hw hK hc i pins s σ H E I hf st hg
    subst hP hw hK
    obtain ⟨hz, hTI, ⟨x0, y0, hTO⟩, h1, h2⟩ := st
    obtain ⟨xs, ys, hqx, hqy, hend⟩ := hg
    obtain ⟨its, p, rv, _⟩ := sqV_is I hqx
    obtain ⟨its2, p2, rv2, _⟩ := sqV_is I hqy
    have l1 := rv.length
    have l2 := rv2.length
    have hh := I.ok.hd hc
    have D1 : Draws X.prog X.w X.A.in1 i1 [i1, a] its.toArray.size (fun i v => its.toArray[i]? = some v) (fun i h => k1.It h i1 a i ∧ k1.Is h a its.toArray) := SqK.draws (A := X.A.in1) hh i1 a na _
    have D2 : Draws X.prog X.w X.A.in1 i2 [i2, b] its2.toArray.size (fun i v => its2.toArray[i]? = some v) (fun i h => k2.It h i2 b i ∧ k2.Is h b its2.toArray) := SqK.draws (A := X.A.in1) hh i2 b nb _
    exact wpAny_pyNext_zipD2_end D D1 D2 hz hTI hTO ⟨h1, p⟩ ⟨h2, p2⟩ (by rw [List.size_toArray]; omega) (by rw [List.size_toArray]; omega) (by rw [List.size_toArray, List.size_toArray]; omega) fun h' tk hk => ⟨rfl, I.turnedL (t' := tk) (ch := [z, TI, TO, i1, i2]) (fun c o hb q =>
      hk c o (fun q' => hb (by simp [q'])) (fun q' => hb (by simp [q'])) (fun q' => hb (by simp [q'])) (fun q' => hb (by simp [q'])) q) hf⟩
  self := fun A i s Q E st h => wpAny_pyIter_zip st.1 h
def iZipK (K : PySem.W.Frag) (ta : TA) : TI := fun σ H R => ta σ H fun vs H1 => ∃ k1 k2 a b xs ys, vs = [.ref a, .ref b] ∧ SqV k1 K H1 a xs ∧ SqV k2 K H1 b ys ∧ R (ItzK K k1 k2 a b) H1
theorem pi_zipK {X : Cx} {e e2 : Expr} {ta : TA} {p pos tpos : Pos} {elts : List Expr} {kk : Nat} (hg : Gl X "zip") (hm : X.mg "zip" = none) (ha : PA X [e, e2] ta)
    (hs : starEach [e, e2] X.env = (false, eval e X.env) :: starEach [e2] X.env := by rfl) (hpl : (backTo pos (starEach [e2] X.env)).any (·.1) = false := by rfl) :
    PI X (.Tuple elts kk tpos) (.Call (.Name "zip" p) [e, e2] [] pos) (iZipK X.K ta) := by
  refine ⟨fun pins s σ H R I h => ?_⟩
  refine Call_ (ld_blt I hg hm PyProof.Rows.boot_zip (PyProof.Rows.callWith_type1 (thn (ha.run pos pins s σ H _ I h) fun us s1 ⟨vs, H1, I1, r1, q1⟩ => ?_) hs hpl))
  obtain ⟨k1, k2, a, b, xs, ys, ex, hqx, hqy, q⟩ := q1
  subst ex
  cases r1 with
  | cons r rr =>
    cases rr with
    | cons r' rr =>
      cases rr
      cases r
      cases r'
      obtain ⟨its, p1, rv, _⟩ := sqV_is I1 hqx
      obtain ⟨its2, p2, rv2, _⟩ := sqV_is I1 hqy
      have la := p1.lt
      have lb := p2.lt
      refine call_zipK p1 p2 fun h' hz hTI hTO h1 h2 hsz hk => wpAny_pyIter_zip hz ?_
      have I2 : Inv X pins σ H1 { s1 with heap := h' } := I1.kept (t' := s1.toks) hk
      have Z := zp_of s1.heap.objs.size a b la lb
      refine ⟨s1.heap.objs.size + 4, [s1.heap.objs.size + 4, s1.heap.objs.size + 2, s1.heap.objs.size + 3, s1.heap.objs.size, s1.heap.objs.size + 1], _, _, H1, rfl, I2, turn_zipK (k1 := k1) (k2 := k2) Z.sep Z.n1 Z.n2, ⟨hz, hTI, ⟨_, _, hTO⟩, h1, h2⟩, fun c hcm => ?_, q⟩
      have e' : c = s1.heap.objs.size + 4 ∨ c = s1.heap.objs.size + 2 ∨ c = s1.heap.objs.size + 3 ∨ c = s1.heap.objs.size ∨ c = s1.heap.objs.size + 1 := by simpa using hcm
      have hle : s1.heap.objs.size ≤ c := by
        rcases e' with z | z | z | z | z
        · rw [z]; exact Nat.le_add_right _ _
        · rw [z]; exact Nat.le_add_right _ _
        · rw [z]; exact Nat.le_add_right _ _
        · rw [z]; exact Nat.le_refl _
        · rw [z]; exact Nat.le_add_right _ _
      exact I1.fpOk hle (I1.hok.fresh hle)
theorem walk_zipK {K : PySem.W.Frag} {k1 k2 : SqK} {a b : Addr} {xs ys : List V} : Walk (ItzK K k1 k2 a b) (min xs.length ys.length) (fun H => SqV k1 K H a xs ∧ SqV k2 K H b ys) (YPair (fun i => xs[i]?) (fun i => ys[i]?)) := by
  refine ⟨fun i _ hi q => ?_, fun _ q => ⟨xs, ys, q.1, q.2, rfl⟩, fun i H v H' _ q y => ?_⟩
  · have h1 : i < xs.length := by omega
    have h2 : i < ys.length := by omega
    exact ⟨xs, ys, xs[i], ys[i], q.1, q.2, by simp [h1], by simp [h2]⟩
  · obtain ⟨T, x, z, h1, h2, h3, h4, h5⟩ := y
    exact ⟨T, x, z, h1, h2, h3, h4 xs q.1, h5 ys q.2⟩
end Ow

set_option Elab.async false
set_option linter.all false
set_option maxRecDepth 100000
set_option maxHeartbeats 4000000
namespace Ow
open PySem PySem.Spec PyProof.Rows L2
theorem lex_trans : ∀ {a b c : List Int}, HT.lexLt a b = true → HT.lexLt b c = true → HT.lexLt a c = true
  | [], [], _, h, _ => nomatch h
  | [], _ :: _, [], _, h => nomatch h
  | [], _ :: _, _ :: _, _, _ => rfl
  | _ :: _, [], _, h, _ => nomatch h
  | _ :: _, _ :: _, [], _, h => nomatch h
  | x :: r, y :: q, z :: p, h, g => by
    rw [HT.lexLt_cons] at h g ⊢
    by_cases e1 : x = y
    · subst e1
      rw [if_pos rfl] at h
      by_cases e2 : x = z
      · subst e2
        rw [if_pos rfl] at g ⊢
        exact lex_trans h g
      · rw [if_neg e2] at g ⊢
        exact g
    · rw [if_neg e1] at h
      have h := of_decide_eq_true h
      by_cases e2 : y = z
      · subst e2
        rw [if_neg e1]
        exact decide_eq_true h
      · rw [if_neg e2] at g
        have g := of_decide_eq_true g
        rw [if_neg (by omega)]
        exact decide_eq_true (by omega)
theorem asc_pair : ∀ {ms : List (List Int)}, ascR ms = true → ms.Pairwise fun a b => HT.lexLt a b = true
  | [], _ => List.Pairwise.nil
  | [a], _ => List.pairwise_singleton _ _
  | a :: b :: r, h => by
    unfold ascR at h
    have h : (HT.lexLt a b :: ((b :: r).zip r).map fun p => HT.lexLt p.1 p.2).all id = true := h
    rw [List.all_cons, Bool.and_eq_true] at h
    have ih : (b :: r).Pairwise fun a b => HT.lexLt a b = true := asc_pair (ms := b :: r) h.2
    refine List.pairwise_cons.mpr ⟨fun c hc => ?_, ih⟩
    rcases List.mem_cons.mp hc with rfl | hc
    · exact h.1
    · exact lex_trans h.1 ((List.pairwise_cons.mp ih).1 c hc)
theorem asc_nodup {ms : List (List Int)} (h : ascR ms = true) : ms.Nodup :=
  (asc_pair h).imp fun {a b} l e => by
    rw [e, lex_irr] at l
    cases l
/-- a row with some values exchanged -/
def xorR (t r : List Int) : List Int := (List.range r.length).map fun i => (r.getD i 0 + t.getD i 0) % 2
theorem xorR_len (t r : List Int) : (xorR t r).length = r.length := by
  unfold xorR
  rw [List.length_map, List.length_range]
theorem xorR_bits (t r : List Int) : bitsB (xorR t r) = true := by
  refine List.all_eq_true.mpr fun n hn => ?_
  obtain ⟨k, _, rfl⟩ := List.mem_map.mp hn
  have h := Int.emod_nonneg (r.getD k 0 + t.getD k 0) (show (2 : Int) ≠ 0 by decide)
  have h2 := Int.emod_lt_of_pos (r.getD k 0 + t.getD k 0) (show (0 : Int) < 2 by decide)
  rcases (show (r.getD k 0 + t.getD k 0) % 2 = 0 ∨ (r.getD k 0 + t.getD k 0) % 2 = 1 by omega) with e | e <;> rw [e] <;> decide
theorem xorR_at {t r : List Int} {k : Nat} (h : k < r.length) : rowAt k (xorR t r) = (rowAt k r + t.getD k 0) % 2 := by
  unfold rowAt xorR
  rw [List.getD_eq_getElem?_getD, List.getElem?_map, List.getElem?_range h]
  rfl
theorem xorR_inj {t r q : List Int} (hb : bitsB r = true) (hc : bitsB q = true) (hl : r.length = q.length) (h : xorR t r = xorR t q) : r = q := by
  refine List.ext_getElem? fun i => ?_
  by_cases hi : i < r.length
  · have e := congrArg (rowAt i) h
    rw [xorR_at hi, xorR_at (by omega)] at e
    have b1 := bits_at hb hi
    have b2 := bits_at hc (i := i) (by omega)
    have e' : r.getD i 0 = q.getD i 0 := by
      unfold rowAt at e
      omega
    rw [List.getD_eq_getElem?_getD, List.getD_eq_getElem?_getD, List.getElem?_eq_getElem hi, List.getElem?_eq_getElem (by omega)] at e'
    rw [List.getElem?_eq_getElem hi, List.getElem?_eq_getElem (by omega)]
    exact congrArg some e'
  · rw [List.getElem?_eq_none (by omega), List.getElem?_eq_none (by omega)]
theorem nodup_mapOn {α β : Type} {f : α → β} : ∀ {l : List α}, l.Nodup → (∀ a ∈ l, ∀ b ∈ l, f a = f b → a = b) → (l.map f).Nodup
  | [], _, _ => List.nodup_nil
  | a :: l, nd, inj => by
    have n := List.nodup_cons.mp nd
    refine List.nodup_cons.mpr ⟨fun h => ?_, nodup_mapOn n.2 fun x hx y hy => inj x (List.mem_cons_of_mem _ hx) y (List.mem_cons_of_mem _ hy)⟩
    obtain ⟨b, hb, e⟩ := List.mem_map.mp h
    have := inj b (List.mem_cons_of_mem _ hb) a List.mem_cons_self e
    exact n.1 (by rw [← this]; exact hb)
theorem both_turn {t : List Int} {rs : List (List Int)} {m k : Nat} (ok : RowsOk m rs) (ht : bitsB t = true) (tl : t.length = m) (hk : k < m) (h : Both rs k) : Both (rs.map (xorR t)) k := by
  obtain ⟨⟨r, hr, e⟩, ⟨q, hq, e2⟩⟩ := h
  have b := bits_at ht (i := k) (by omega)
  have er : rowAt k (xorR t r) = (0 + t.getD k 0) % 2 := by rw [xorR_at (by rw [(ok r hr).2]; exact hk), e]
  have eq : rowAt k (xorR t q) = (1 + t.getD k 0) % 2 := by rw [xorR_at (by rw [(ok q hq).2]; exact hk), e2]
  have mr := List.mem_map_of_mem (f := xorR t) hr
  have mq := List.mem_map_of_mem (f := xorR t) hq
  rcases b with b | b
  · exact ⟨⟨_, mr, by rw [er, b]; rfl⟩, ⟨_, mq, by rw [eq, b]; rfl⟩⟩
  · exact ⟨⟨_, mq, by rw [eq, b]; rfl⟩, ⟨_, mr, by rw [er, b]; rfl⟩⟩
abbrev seven : List Str := ["a", "b", "c", "p", "q", "zz", "yes"]
theorem seven_ok : seven.Nodup ∧ (∀ z ∈ seven, nameB (.str z) = true) ∧ ∀ z ∈ seven, z.length ≤ 4000 ∧ ∀ c ∈ z.cps.toList, c < 128 := by decide +kernel
/-- what is drawn -/
structure AgOk (n : Nat) (zs : List Str) (rs : List (List Int)) : Prop where
  one : 1 ≤ zs.length
  le : zs.length ≤ n
  iss : issuesB zs = true
  plain : Plain zs
  ok : RowsOk zs.length rs
  asc : ascR rs = true
  both : ∀ k < zs.length, Both rs k
theorem AgOk.nd {n : Nat} {zs : List Str} {rs : List (List Int)} (h : AgOk n zs rs) : rs.Nodup := asc_nodup h.asc
theorem AgOk.few {n : Nat} {zs : List Str} {rs : List (List Int)} (h : AgOk n zs rs) : rs.length ≤ 2 ^ zs.length := rows_few h.ok h.nd
def PlainAg (H : Hp) (x : V) (zs : List Str) (rs : List (List Int)) : Prop := ∃ p t u, x = .ref p ∧ H p = some (.dK [(Sum.inr "issues", .ref t), (Sum.inr "rows", .ref u)]) ∧ H t = some (.tup (zs.map V.str)) ∧ IsRows H (.ref u) rs
theorem PlainAg.tk {H H' : Hp} {x : V} {zs : List Str} {rs : List (List Int)} (t : Tk H H') (h : PlainAg H x zs rs) : PlainAg H' x zs rs := by
  obtain ⟨p, a, b, e, h1, h2, h3⟩ := h
  exact ⟨p, a, b, e, t p _ (fun _ z => nomatch z) h1, t.tup h2, h3.tk t⟩
def spLAgenda : Sp := fun vs H Q _ => ∃ (J : Addr) (n : Nat), vs = [.ref J, .int n] ∧ Jug H J ∧ 1 ≤ n ∧ n ≤ 5 ∧ ∀ H' x zs rs, Sb J H H' → Jug H' J → PlainAg H' x zs rs → AgOk n zs rs → Q x H'
abbrev agN : List Str := ["jug", "most", "size", "names", "rows", "turn", "found", "at", "row", "one", "by"]
theorem allT_of {K : PySem.W.Frag} {H : Hp} : ∀ {xs : List V} {rs : List (List Int)}, All2 (IsRow H) xs rs → AllT K H xs rs
  | _, _, .nil => .nil
  | _, _, .cons h t => .cons h (allT_of t)
theorem of_allT {K : PySem.W.Frag} {H : Hp} : ∀ {xs : List V} {rs : List (List Int)}, AllT K H xs rs → All2 (IsRow H) xs rs
  | _, _, .nil => .nil
  | _, _, .cons h t => .cons h (of_allT t)
theorem add_readG {σ : L2.St} {H : Hp} {Kk : VK} {t : TE} (h : t σ H fun x H1 => rIntG [x] H1 fun z H2 => rI (fun _ j => 0 < j) (fun i j => .int (i % j)) z (.int 2) H2 Kk) :
    tOp (rI (fun _ j => 0 < j) fun i j => .int (i % j)) (tCB rIntG (tCons t tNil)) (tC (.int 2)) σ H Kk := h
def sTurnR : Scope := { kind := .function, names := [(".0", .local), ("row", .local), ("tuple", .globalImplicit), ("zip", .globalImplicit), ("turn", .cell)], isGenerator := false, isCoroutine := false }
def sOneBy : Scope := { kind := .function, names := [(".0", .local), ("one", .local), ("by", .local), ("int", .globalImplicit)], isGenerator := false, isCoroutine := false }
section
variable {P : Program} {w : World} {K : PySem.W.Frag} {mg : Str → Option Value} {base : Heap}
end
end Ow

set_option Elab.async false
set_option linter.all false
set_option maxRecDepth 100000
set_option maxHeartbeats 4000000
namespace Ow
open PySem PySem.Spec PyProof.Rows L2
/-- a sign so many times -/
def timesS (c n : Nat) : Str := ⟨(List.replicate n c).toArray⟩
theorem times_fold (c : Nat) : ∀ (n : Nat) (acc : Array Nat), (List.replicate n #[c]).foldl (· ++ ·) acc = acc ++ (List.replicate n c).toArray
  | 0, acc => by simp
  | n + 1, acc => by
    rw [List.replicate_succ, List.foldl_cons, times_fold c n, List.replicate_succ]
    apply Array.toList_inj.mp
    simp
/-- a text of one sign, so many times (two or more) -/
def rRepS : R2 := fun x y H Q => ∃ c n : Nat, x = .str ⟨#[c]⟩ ∧ y = .int (n : Int) ∧ 2 ≤ n ∧ n ≤ 1000 ∧ Q (.str (timesS c n)) H
theorem op_repS {X : Cx} : OpR X (binaryOp .Mult) rRepS := by
  intro pins s σ H x y v u Q I rx ry h
  obtain ⟨c, n, rfl, rfl, h2, h3, q⟩ := h
  obtain ⟨t, rfl⟩ := rx
  obtain ⟨t', rfl⟩ := ry
  have l1 : (⟨#[c]⟩ : Str).length = 1 := rfl
  refine PySem.P.mul_str ?_ (fun _ _ => ?_) (fun _ _ => ?_) ?_
  · rw [decide_eq_false (show ¬ (n : Int) < -(2 ^ 63 : Int) by omega), decide_eq_false (show ¬ (n : Int) ≥ 2 ^ 63 by omega)]
    rfl
  · rw [l1]
    have : (1000 : Int) ≤ (2 ^ 63 - 1) / (n : Int) := by
      rw [Int.le_ediv_iff_mul_le (by omega)]
      omega
    omega
  · rw [l1, Int.toNat_natCast, Nat.one_mul]
    unfold PySem.Builtin.Str.tooLong
    have := small60 (show n ≤ 5000 by omega)
    exact decide_eq_false (by omega)
  · have e1 : ((n : Int) == 1) = false := by
      rw [beq_eq_false_iff_ne]
      omega
    have e2 : ((⟨#[c]⟩ : Str).length == 0) = false := rfl
    rw [if_neg (show ¬ (n : Int) < 1 by omega), e1, e2, if_neg (show ¬ (false || false) = true by decide), Int.toNat_natCast, times_fold]
    have e3 : (#[] ++ (List.replicate n c).toArray : Array Nat) = (List.replicate n c).toArray := by simp
    rw [e3]
    refine ⟨?_, .str (timesS c n), H, I.tok _, ⟨_, rfl⟩, q⟩
    show (List.replicate n c).toArray.size ≤ sizeLine
    rw [List.size_toArray, List.length_replicate]
    exact Nat.le_of_lt (small60 (by omega))
end Ow

set_option Elab.async false
set_option linter.all false
set_option maxRecDepth 100000
set_option maxHeartbeats 4000000
set_option exponentiation.threshold 3000
namespace Ow
open PySem PySem.Spec PyProof.Rows L2
theorem scLetter : FnScope ["jug"] ["jug"] (defScope dLetter) := ⟨rfl, rfl, rfl, by decide +kernel, rfl, by decide +kernel, by decide +kernel⟩
abbrev mnN : List Str := ["jug", "much", "body", "lot", "found", "at", "spot", "sign"]
theorem scManyNames : FnScope mnN ["jug", "much"] (defScope dManyNames) := ⟨rfl, rfl, rfl, by decide +kernel, rfl, by decide +kernel, by decide +kernel⟩
def Small (c : Nat) : Prop := 97 ≤ c ∧ c ≤ 122
def oneS (c : Nat) : Str := ⟨#[c]⟩
theorem app_toList (a b : Str) : (a ++ b).cps.toList = a.cps.toList ++ b.cps.toList := by
  show (a.cps ++ b.cps).toList = _
  exact Array.toList_append
theorem join_ones : ∀ cs : List Nat, (Str.join (Str.ofString "") (cs.map oneS)).cps.toList = cs
  | [] => rfl
  | [c] => rfl
  | c :: d :: r => by
    show (oneS c ++ Str.ofString "" ++ Str.join (Str.ofString "") ((d :: r).map oneS)).cps.toList = _
    rw [app_toList, app_toList, join_ones (d :: r)]
    rfl
theorem txt_ones (cs : List Nat) : (Txt.join (Str.ofString "") (cs.map oneS)).cps.toList = cs := by
  have e : Txt.join (Str.ofString "") (cs.map oneS) = Str.join (Str.ofString "") (cs.map oneS) := eq_of_beq (join_closes rfl)
  rw [e]
  exact join_ones cs
theorem cutS_take {z : Str} {i : Nat} (h : i ≤ z.length) : (cutS z none (some (i : Int))).cps.toList = z.cps.toList.take i := by
  unfold cutS
  have e1 : HT.sIx z.length 0 none = 0 := rfl
  have e2 : HT.sIx z.length z.length (some (i : Int)) = i := by
    rw [HT.sIx_nat]
    omega
  simp only [e1, e2]
  rw [List.drop_zero]
  rfl
theorem cutS_drop {z : Str} {i : Nat} (h : i ≤ z.length) : (cutS z (some (i : Int)) none).cps.toList = z.cps.toList.drop i := by
  unfold cutS
  have e1 : HT.sIx z.length 0 (some (i : Int)) = i := by
    rw [HT.sIx_nat]
    omega
  have e2 : HT.sIx z.length z.length none = z.length := rfl
  simp only [e1, e2]
  rw [List.take_of_length_le]
  rw [List.length_drop]
  show z.cps.toList.length - i ≤ z.cps.size - i
  rw [Array.length_toList]
  exact Nat.le_refl _
theorem name_of {z : Str} (h1 : 1 ≤ z.cps.toList.length) (h8 : z.cps.toList.length ≤ 8) (h : ∀ c ∈ z.cps.toList, Small c) : nameB (.str z) = true := by
  rw [Array.length_toList] at h1 h8
  show ((decide (1 ≤ z.length) && decide (z.length ≤ 8)) && z.cps.toList.all signB) = true
  rw [decide_eq_true (show 1 ≤ z.length from h1), decide_eq_true (show z.length ≤ 8 from h8)]
  have : z.cps.toList.all signB = true := List.all_eq_true.mpr fun c hc => by
    obtain ⟨a, b⟩ := h c hc
    unfold signB
    rw [decide_eq_true a, decide_eq_true b]
    rfl
  rw [this]
  rfl
/-- the names by their signs -/
def Nm (pl : Nat) (z : Str) (c : Nat) : Prop := nameB (.str z) = true ∧ z.cps.toList[pl]? = some c
theorem nm_nodup {pl : Nat} : ∀ {zs : List Str} {cs : List Nat}, All2 (Nm pl) zs cs → cs.Nodup → zs.Nodup
  | _, _, .nil, _ => List.nodup_nil
  | z :: zs, c :: cs, .cons h t, nd => by
    have nd' := List.nodup_cons.mp nd
    refine List.nodup_cons.mpr ⟨fun m => ?_, nm_nodup t nd'.2⟩
    obtain ⟨i, hi⟩ := List.mem_iff_getElem?.mp m
    obtain ⟨d, hd, hn⟩ := t.get hi
    have e := hn.2.symm.trans h.2
    cases e
    exact nd'.1 (List.mem_of_getElem? hd)
theorem alpha : (Str.ofString "abcdefghijklmnopqrstuvwxyz").cps.toList = (List.range 26).map (97 + ·) := by decide +kernel
/-- what a list in another order is made of -/
theorem perm_map_inv {α β : Type} {f : α → β} (g : β → α) (hg : ∀ a, g (f a) = a) {ys : List β} {l : List α} (h : ys.Perm (l.map f)) : ∃ cs : List α, ys = cs.map f ∧ cs.Perm l := by
  refine ⟨ys.map g, ?_, ?_⟩
  · rw [List.map_map]
    have : ys.map (f ∘ g) = ys.map id := List.map_congr_left fun y hy => by
      obtain ⟨a, _, rfl⟩ := List.mem_map.mp (h.mem_iff.mp hy)
      show f (g (f a)) = f a
      rw [hg]
    rw [this, List.map_id]
  · have := h.map g
    rw [List.map_map] at this
    have e : l.map (g ∘ f) = l := by
      have : l.map (g ∘ f) = l.map id := List.map_congr_left fun a _ => hg a
      rw [this, List.map_id]
    rw [e] at this
    exact this
def unS : V → Nat
  | .str z => z.cps.toList.headD 0
  | _ => 0
section
variable {P : Program} {w : World} {K : PySem.W.Frag} {mg : Str → Option Value} {base : Heap}
def spLetter : Sp := fun vs H Q _ => ∃ (J : Addr), vs = [.ref J] ∧ Jug H J ∧ ∀ H' c, Sb J H H' → Jug H' J → Small c → Q (.str (oneS c)) H'
theorem ok_letter {f fD : Addr} {fd fdD : FuncData} (F : Fun K "_law_letter" "_law_letter" dLetter f fd) (FD : FnOk P w K mg base CX0 1 fD fdD ["jug", "total"] spDip)
    (kD : PySem.W.keepIn K (.ref fD) = true) (bD : Binds K fdD ["jug", "total"] []) (gD : mg "_law_dip" = some (.ref fD)) : FnOk P w K mg base CX0 2 f fd ["jug"] spLetter := by
  refine F.ok scLetter (fun vs H Q E h => ?_) (fun cdv A outer s H vs Q E hr h => ?_)
  · obtain ⟨J, rfl, _⟩ := h
    rfl
  obtain ⟨J, rfl, hJ, q⟩ := h
  refine ⟨_, pss_one (ps_ret (pe_ix ix_str pe_str (pe_call FD hr (by rfl) gD kD bD .nil pass0 (pa_cons (pv 0) (pa_cons pe_int pa_nil))) (fun _ _ => rfl))), ?_⟩
  refine ⟨.ref J, rfl, J, 26, rfl, by decide, by decide, hJ, fun H' k sb hJ' k0 kn => ?_⟩
  refine ⟨_, k, 97 + k.toNat, rfl, rfl, by decide +kernel, ?_, q _ _ sb hJ' ⟨by omega, by omega⟩⟩
  rw [alpha]
  have e : k = (k.toNat : Int) := by omega
  rw [e]
  refine atI_nat ?_
  rw [List.getElem?_map, List.getElem?_range (by omega)]
  rfl
end
end Ow

set_option Elab.async false
set_option linter.all false
set_option maxRecDepth 100000
set_option maxHeartbeats 4000000
set_option exponentiation.threshold 3000
namespace Ow
open PySem PySem.Spec PyProof.Rows L2
theorem strs_of : ∀ {ys : List V}, (∀ y ∈ ys, ∃ c, y = .str (oneS c) ∧ Small c) → ∃ cs : List Nat, ys = (cs.map oneS).map V.str ∧ ∀ c ∈ cs, Small c
  | [], _ => ⟨[], rfl, fun _ h => nomatch h⟩
  | y :: ys, h => by
    obtain ⟨c, rfl, hc⟩ := h y List.mem_cons_self
    obtain ⟨cs, rfl, hs⟩ := strs_of fun z hz => h z (List.mem_cons_of_mem _ hz)
    exact ⟨c :: cs, rfl, fun j hj => by
      rcases List.mem_cons.mp hj with rfl | hj
      · exact hc
      · exact hs j hj⟩
theorem nat_of {k n : Int} (h0 : 0 ≤ k) (h1 : k < n) : ∃ i : Nat, k = (i : Int) ∧ (i : Int) < n := ⟨k.toNat, by omega, by omega⟩
theorem sum_ones : ∀ cs : List Nat, ((cs.map oneS).map (·.length)).sum = cs.length
  | [] => rfl
  | c :: cs => by
    rw [List.map_cons, List.map_cons, List.sum_cons, sum_ones cs, List.length_cons]
    show 1 + cs.length = _
    omega
theorem cutW_take {xs : List V} {i : Nat} (h : i ≤ xs.length) : cutV xs none (some (i : Int)) = xs.take i := by
  unfold cutV
  have e1 : HT.sIx xs.length 0 none = 0 := rfl
  have e2 : HT.sIx xs.length xs.length (some (i : Int)) = i := by
    rw [HT.sIx_nat]
    omega
  simp only [e1, e2]
  rw [List.drop_zero]
  rfl
section
variable {P : Program} {w : World} {K : PySem.W.Frag} {mg : Str → Option Value} {base : Heap}
def spNames : Sp := fun vs H Q _ => ∃ (J : Addr) (m : Nat), vs = [.ref J, .int m] ∧ Jug H J ∧ m ≤ 20 ∧ ∀ H' p (zs : List Str), Sb J H H' → Jug H' J → H p = none → H' p = some (.lst (zs.map V.str)) → zs.length = m → zs.Nodup → (∀ z ∈ zs, nameB (.str z) = true) → Q (.ref p) H'
theorem ok_manynames {f fD fL fJ : Addr} {fd fdD fdL fdJ : FuncData} (F : Fun K "_law_many_names" "_law_many_names" dManyNames f fd)
    (FD : FnOk P w K mg base CX0 1 fD fdD ["jug", "total"] spDip) (kD : PySem.W.keepIn K (.ref fD) = true) (bD : Binds K fdD ["jug", "total"] []) (gD : mg "_law_dip" = some (.ref fD))
    (FL : FnOk P w K mg base CX0 2 fL fdL ["jug"] spLetter) (kL : PySem.W.keepIn K (.ref fL) = true) (bL : Binds K fdL ["jug"] []) (gL : mg "_law_letter" = some (.ref fL))
    (FJ : FnOk P w K mg base CX0 2 fJ fdJ ["jug", "items"] spJum) (kJ : PySem.W.keepIn K (.ref fJ) = true) (bJ : Binds K fdJ ["jug", "items"] []) (gJ : mg "_law_jumbled" = some (.ref fJ))
    (mr : mg "range" = none) (ml : mg "len" = none) : FnOk P w K mg base CX0 3 f fd ["jug", "much"] spNames := by
  refine F.ok scManyNames (fun vs H Q E h => ?_) (fun cdv A outer s H vs Q E hr h => ?_)
  · obtain ⟨J, m, rfl, _⟩ := h
    rfl
  obtain ⟨J, m, rfl, hJ, hm, q⟩ := h
  refine ⟨_, pss_cons (ps_par3 (i := 2) (j := 3) (l := 4) (by rfl) scManyNames.nd rfl rfl rfl (by decide) (by decide) (by decide) rfl rfl rfl (pa_cons
        (pe_join pe_str (pe_lc (te := tCall spLetter [] E0 (tCons (tVar 0) tNil)) (own := [("at", 5)]) (g := gName 5) (tt := tYes) rfl scManyNames.nd (pi_range1 (by rfl) mr (pa_cons (pe_call FD (hr.mono (by decide)) (by rfl) gD kD bD .nil pass0 (pa_cons (pv 0) (pa_cons pe_int pa_nil))) pa_nil)) (blkOk_by (N := mnN) (sc := defScope dManyNames) (by decide +kernel))
          (fun _ _ _ _ _ => pg_name (i := 5) scManyNames.nd rfl (Or.inl rfl)) (fun _ _ _ _ _ => pts_nil)
          (fun _ _ _ _ _ => pe_call FL hr (by rfl) gL kL bL .nil pass0 (pa_cons (pv 0) pa_nil))))
        (pa_cons (pe_call FD (hr.mono (by decide)) (by rfl) gD kD bD .nil pass0 (pa_cons (pv 0) (pa_cons pe_int pa_nil))) (pa_cons (pe_lst pa_nil) pa_nil))) (by rfl))
    (pss_cons (ps_set (i := 6) scManyNames.nd rfl (.inl rfl) (pe_call FD (hr.mono (by decide)) (by rfl) gD kD bD .nil pass0 (pa_cons (pv 0) (pa_cons (pe_op op_add (pe_callB call_len_str (by rfl) ml PySem.boot_len (pa_cons (pv 2) pa_nil)) pe_int) pa_nil))))
    (pss_cons (ps_for PassesOwn.never rfl (pi_list (pe_slice sl_list (pe_call FJ hr (by rfl) gJ kJ bJ .nil pass0 (pa_cons (pv 0) (pa_cons pe_str pa_nil))) po_none (po_some (pv 1)))) (pg_name (i := 7) scManyNames.nd rfl (.inl rfl))
      (pss_one (ps_if (pt_cmpR op_eq (pv 3) pe_int (nomark _))
        (pss_one (ps_expr (pe_bm PySem.F.plainAttrs_list PySem.F.slot_list_append PySem.F.type_list_append mt_append (pv 4) (pa_cons (pe_op op_add_str (pe_op op_add_str (pe_slice sl_str (pv 2) po_none (po_some (pv 6))) (pv 7)) (pe_slice sl_str (pv 2) (po_some (pv 6)) po_none)) pa_nil))))
        (pss_one (ps_if (pt_cmpR op_eq (pv 3) pe_int (nomark _))
          (pss_one (ps_expr (pe_bm PySem.F.plainAttrs_list PySem.F.slot_list_append PySem.F.type_list_append mt_append (pv 4) (pa_cons (pe_op op_add_str (pv 7) (pe_slice sl_str (pv 2) po_none (po_some (pe_call FD (hr.mono (by decide)) (by rfl) gD kD bD .nil pass0 (pa_cons (pv 0) (pa_cons (pe_op op_add (pe_callB call_len_str (by rfl) ml PySem.boot_len (pa_cons (pv 2) pa_nil)) pe_int) pa_nil)))))) pa_nil))))
          (pss_one (ps_expr (pe_bm PySem.F.plainAttrs_list PySem.F.slot_list_append PySem.F.type_list_append mt_append (pv 4) (pa_cons (pe_slice sl_str (pe_op op_repS (pv 7) pe_int) po_none (po_some (pe_op op_add pe_int (pe_call FD (hr.mono (by decide)) (by rfl) gD kD bD .nil pass0 (pa_cons (pv 0) (pa_cons pe_int pa_nil)))))) pa_nil)))))))))
    (pss_one (ps_ret (pv 4))))), ?_⟩
  refine ⟨⟨_, rfl⟩, .ref J, rfl, J, 8, rfl, by decide, by decide, hJ, fun H1 k sb1 j1 k0 k8 => ?_⟩
  obtain ⟨kn, rfl, hkn⟩ := nat_of k0 k8
  refine ⟨kn, rfl, by omega, by omega, fun D nD => ?_⟩
  refine lc_map (M := At J) (walk_range (lo := 0) (n := kn)) (by omega) (Jg.at_ j1) nD (fun i _ y => ∃ c, y = .str (oneS c) ∧ Small c) (fun _ _ _ _ _ h => h) (fun _ _ _ => trivial)
    (fun i x Hx Hx' Kk hi g jx hY hK => ?_) (fun Hx ys g jx eD hlen hq => ?_)
  · obtain ⟨rfl, rfl⟩ := hY
    exact ⟨rfl, .ref J, rfl, J, rfl, jx.jug, fun H2 c sb2 j2 hc => hK _ _ sb2.gw (Jg.at_ j2) ⟨c, rfl, hc⟩⟩
  obtain ⟨cs, rfl, hcs⟩ := strs_of (ys := ys) fun y hy => by
    obtain ⟨i, hi⟩ := List.mem_iff_getElem?.mp hy
    exact hq i y hi
  rw [List.length_map, List.length_map] at hlen
  have sbx : Sb J H Hx := sb1.trans g.sb
  have jX := jx.jug
  refine ⟨_, D, cs.map oneS, rfl, rfl, .inl (.of eD), ?_, .ref J, rfl, J, 3, rfl, by decide, by decide, jX, fun H2 lot sb2 j2 l0 l3 => ⟨Nat.zero_le _, fun Fo nF => ⟨_, _, _, rfl, ?_⟩⟩⟩
  · rw [sum_ones]
    show cs.length + _ * 0 ≤ 16777216
    omega
  have ebody := txt_ones cs
  generalize Txt.join (Str.ofString "") (cs.map oneS) = body at ebody
  have lbody : body.length = cs.length := by
    show body.cps.size = _
    rw [← Array.length_toList, ebody]
  have FJ' : Fo ≠ J := jug_none j2 nF
  have nF0 : H Fo = none := by
    cases e : H Fo with
    | none => rfl
    | some o => rw [(sbx.trans sb2) Fo o FJ' e] at nF; cases nF
  have s3 := same_new (o := .lst []) nF
  have eF3 : upd H2 Fo (.lst []) Fo = some (.lst []) := upd_same
  have j3 := jug_same s3 j2
  have sb3 : Sb J H (upd H2 Fo (.lst [])) := sbx.trans (sb2.trans (.same s3))
  generalize upd H2 Fo (.lst []) = H3 at s3 eF3 j3 sb3 ⊢
  have small : ∀ n : Nat, n ≤ 60 → n ≤ sizeLine := fun n h => Nat.le_of_lt (small60 (by omega))
  refine ⟨.ref J, rfl, .str body, rfl, body, rfl, small _ (by omega), _, _, rfl, rfl, J, _, rfl, by omega, ?_, j3, fun H4 sp0 sb4 j4 p0 p1 => ?_⟩
  · exact Nat.lt_of_lt_of_le (by omega : ((body.length : Int) + 1).natAbs < 2 ^ 6) (Nat.pow_le_pow_right (by decide) (by decide))
  obtain ⟨spot, rfl, hspot⟩ := nat_of p0 p1
  have eF4 := sb4 _ _ FJ' eF3
  have sbH4 := sb3.trans sb4
  refine ⟨.ref J, rfl, J, .str _, signsV _, rfl, j4, .inr ⟨_, rfl, by decide +kernel, rfl⟩, by decide +kernel, fun H5 p ys sb5 j5 np hp pm => ?_⟩
  have e26 : signsV (Str.ofString "abcdefghijklmnopqrstuvwxyz") = ((List.range 26).map (97 + ·)).map fun c => V.str (oneS c) := by
    unfold signsV
    rw [alpha]
    rfl
  rw [e26] at pm
  obtain ⟨as, rfl, pa⟩ := perm_map_inv unS (fun a => rfl) pm
  have las : as.length = 26 := by rw [pa.length_eq, List.length_map, List.length_range]
  have nda : as.Nodup := pa.nodup_iff.mpr (by decide +kernel)
  have sma : ∀ c ∈ as, Small c := fun c hc => by
    obtain ⟨i, hi, rfl⟩ := List.mem_map.mp (pa.mem_iff.mp hc)
    have := List.mem_range.mp hi
    exact ⟨by omega, by omega⟩
  refine ⟨.int m, rfl, _, rfl, p, _, rfl, .of hp, fun c nc => ⟨c, rfl, ⟨_, .of upd_same⟩, ?_⟩⟩
  rw [cutW_take (by rw [List.length_map]; omega), ← List.map_take]
  have eF5 := sb5 _ _ FJ' eF4
  have sC := same_new (o := .lst ((as.take m).map fun c => V.str (oneS c))) nc
  have eC : upd H5 c (.lst ((as.take m).map fun c => V.str (oneS c))) c = some (.lst ((as.take m).map fun c => V.str (oneS c))) := upd_same
  have cJ : c ≠ J := jug_none j5 nc
  have cF : c ≠ Fo := (ne_of_none eF5 nc).symm
  have eF6 := sC _ _ eF5
  have j6 := jug_same sC j5
  have sb6 : Sb J H _ := sbH4.trans (sb5.trans (.same sC))
  generalize upd H5 c (.lst ((as.take m).map fun c => V.str (oneS c))) = H6 at eC eF6 j6 sb6 ⊢
  have lam : (as.take m).length = m := by rw [List.length_take]; omega
  refine for_list (K := K) (a := c) (xs := (as.take m).map fun c => V.str (oneS c)) (fun i σ Hx => ∃ y7 zs, σ = [some (.ref J), some (.int m), some (.str body), some (.int lot), some (.ref Fo), none, some (.int spot), y7] ∧
      (∀ b o, b ≠ J → b ≠ Fo → H6 b = some o → Hx b = some o) ∧ Jug Hx J ∧ Hx Fo = some (.lst (zs.map V.str)) ∧ All2 (Nm (if lot = 0 then spot else 0)) zs ((as.take m).take i))
    ⟨none, [], rfl, fun _ _ _ _ e => e, j6, eF6, .nil⟩ (fun i σ Hx _ h => ?_) (fun i x σ Hx hx h => ?_) (fun σ Hx h => ?_)
  · obtain ⟨_, _, _, kp, _⟩ := h
    exact .of (kp _ _ cJ cF eC)
  · obtain ⟨y7, zs, rfl, kp, jx, ef, az⟩ := h
    rw [List.getElem?_map] at hx
    cases hc : (as.take m)[i]? with
    | none => rw [hc] at hx; cases hx
    | some a =>
      rw [hc] at hx
      cases hx
      have ha := sma a (List.mem_of_mem_take (List.mem_of_getElem? hc))
      have lz := az.len
      have li : i < (as.take m).length := (List.getElem?_eq_some_iff.mp hc).1
      rw [List.length_take] at lz
      have fin : ∀ (Hy : Hp) (z : Str) (y : Option V), Sb J Hx Hy → Jug Hy J → Nm (if lot = 0 then spot else 0) z a → ∃ (y7 : Option V) (zs' : List Str), ([some (.ref J), some (.int m), some (.str body), some (.int lot), some (.ref Fo), none, some (.int spot), some (.str (oneS a))] : L2.St) = [some (.ref J), some (.int m), some (.str body), some (.int lot), some (.ref Fo), none, some (.int spot), y7] ∧
          (∀ b o, b ≠ J → b ≠ Fo → H6 b = some o → upd Hy Fo (.lst (zs.map V.str ++ [.str z])) b = some o) ∧ Jug (upd Hy Fo (.lst (zs.map V.str ++ [.str z]))) J ∧ upd Hy Fo (.lst (zs.map V.str ++ [.str z])) Fo = some (.lst (zs'.map V.str)) ∧ All2 (Nm (if lot = 0 then spot else 0)) zs' ((as.take m).take (i + 1)) := fun Hy z y sb jy hn => by
        refine ⟨_, zs ++ [z], rfl, fun b o n1 n2 e => ?_, jug_keep jy FJ', ?_, ?_⟩
        · rw [upd_ne n2]
          exact sb b o n1 (kp b o n1 n2 e)
        · rw [upd_same, List.map_append]
          rfl
        · rw [List.take_add_one, hc]
          exact az.app (.cons hn .nil)
      have sl1 : (oneS a).length = 1 := rfl
      refine ⟨.int lot, rfl, rfl, _, rfl, ite2 (fun e0 => ?_) (fun e0 => ?_)⟩
      · have e0 : lot = 0 := V.int.inj (of_decide_eq_true e0)
        have l1 := cutS_length body none (some (spot : Int))
        have l2 := cutS_length body (some (spot : Int)) none
        have t1 := cutS_take (z := body) (i := spot) (by omega)
        have t2 := cutS_drop (z := body) (i := spot) (by omega)
        refine ⟨.ref Fo, rfl, .inl ⟨rfl, _, .of ef⟩, .str body, rfl, .int spot, rfl, _, rfl, body, rfl, small _ (by omega), .str (oneS a), rfl, _, _, rfl, rfl, small _ (by omega), .str body, rfl, .int spot, rfl, _, rfl, body, rfl, small _ (by omega), _, _, rfl, rfl, ?_, Fo, _, _, rfl, rfl, ef, ?_, fin Hx _ none (Sb.refl _ _) jx ?_⟩
        · have : (cutS body none (some (spot : Int)) ++ oneS a).length = (cutS body none (some (spot : Int))).length + 1 := by
            show (_ ++ _ : Array Nat).size = _
            rw [Array.size_append]
            rfl
          exact small _ (by omega)
        · rw [List.length_map]
          exact small60 (by omega)
        · have el : ((cutS body none (some (spot : Int)) ++ oneS a) ++ cutS body (some (spot : Int)) none).cps.toList = cs.take spot ++ [a] ++ cs.drop spot := by
            rw [app_toList, app_toList, t1, t2, ebody]
            rfl
          have ls : (cs.take spot).length = spot := by rw [List.length_take]; omega
          refine ⟨name_of ?_ ?_ ?_, ?_⟩
          · rw [el, List.length_append, List.length_append, ls]
            show 1 ≤ spot + 1 + _
            omega
          · rw [el, List.length_append, List.length_append, ls, List.length_drop]
            show spot + 1 + _ ≤ 8
            omega
          · rw [el]
            intro d hd
            rcases List.mem_append.mp hd with hd | hd
            · rcases List.mem_append.mp hd with hd | hd
              · exact hcs d (List.mem_of_mem_take hd)
              · rw [List.mem_singleton.mp hd]
                exact ha
            · exact hcs d (List.mem_of_mem_drop hd)
          · rw [if_pos e0, el, List.getElem?_append_left (by rw [List.length_append, ls]; show spot < spot + 1; omega), List.getElem?_append_right (by omega), ls, Nat.sub_self]
            rfl
      have e0' : ¬ lot = 0 := fun z => e0 (decide_eq_true (by rw [z]))
      refine ⟨.int lot, rfl, rfl, _, rfl, ite2 (fun e1 => ?_) (fun e1 => ?_)⟩
      · refine ⟨.ref Fo, rfl, .inl ⟨rfl, _, .of ef⟩, .str (oneS a), rfl, .str body, rfl, .ref J, rfl, .str body, rfl, body, rfl, small _ (by omega), _, _, rfl, rfl, J, _, rfl, by omega, ?_, jx, fun Hy r0 sby jy r00 r0l => ?_⟩
        · exact Nat.lt_of_lt_of_le (by omega : ((body.length : Int) + 1).natAbs < 2 ^ 6) (Nat.pow_le_pow_right (by decide) (by decide))
        obtain ⟨r, rfl, hr⟩ := nat_of r00 r0l
        have l1 := cutS_length body none (some (r : Int))
        have t1 := cutS_take (z := body) (i := r) (by omega)
        have efy := sby _ _ FJ' ef
        refine ⟨_, rfl, body, rfl, small _ (by omega), _, _, rfl, rfl, small _ (by omega), Fo, _, _, rfl, rfl, efy, ?_, fin Hy _ none sby jy ?_⟩
        · rw [List.length_map]
          exact small60 (by omega)
        · rw [if_neg e0']
          have el : (oneS a ++ cutS body none (some (r : Int))).cps.toList = a :: cs.take r := by
            rw [app_toList, t1, ebody]
            rfl
          refine ⟨name_of ?_ ?_ ?_, ?_⟩
          · rw [el, List.length_cons]
            omega
          · rw [el, List.length_cons, List.length_take]
            omega
          · rw [el]
            intro d hd
            rcases List.mem_cons.mp hd with rfl | hd
            · exact ha
            · exact hcs d (List.mem_of_mem_take hd)
          · rw [el]
            rfl
      · refine ⟨.ref Fo, rfl, .inl ⟨rfl, _, .of ef⟩, .str (oneS a), rfl, a, 8, rfl, rfl, by decide, by decide, .ref J, rfl, J, 8, rfl, by decide, by decide, jx, fun Hy r0 sby jy r00 r0l => ?_⟩
        obtain ⟨r, rfl, hr⟩ := nat_of r00 r0l
        have efy := sby _ _ FJ' ef
        have l8 : (timesS a 8).length = 8 := rfl
        have er : (1 + (r : Int)) = ((1 + r : Nat) : Int) := by omega
        have t1 := cutS_take (z := timesS a 8) (i := 1 + r) (by omega)
        refine ⟨_, _, rfl, rfl, _, rfl, timesS a 8, rfl, small _ (by omega), Fo, _, _, rfl, rfl, efy, ?_, fin Hy _ none sby jy ?_⟩
        · rw [List.length_map]
          exact small60 (by omega)
        · rw [if_neg e0']
          show Nm 0 (cutS (timesS a 8) none (some (1 + (r : Int)))) a
          rw [er]
          have e8 : (timesS a 8).cps.toList = List.replicate 8 a := rfl
          rw [e8] at t1
          refine ⟨name_of ?_ ?_ ?_, ?_⟩
          · rw [t1, List.length_take, List.length_replicate]
            omega
          · rw [t1, List.length_take, List.length_replicate]
            omega
          · rw [t1]
            intro d hd
            rw [(List.mem_replicate.mp (List.mem_of_mem_take hd)).2]
            exact ha
          · rw [t1, List.getElem?_take_of_lt (by omega)]
            rfl
  · obtain ⟨y7, zs, rfl, kp, jx, ef, az⟩ := h
    rw [List.length_map, lam, List.take_of_length_le (by omega)] at az
    have lz := az.len
    refine ⟨.ref Fo, rfl, q Hx Fo zs (fun b o n e => kp b o n (fun z => by rw [z, nF0] at e; cases e) (sb6 b o n e)) jx nF0 ef (by omega) (nm_nodup az ?_) fun z hz => ?_⟩
    · exact (List.take_sublist m as).nodup nda
    · obtain ⟨d, _, hd⟩ := az.mem hz
      exact hd.1
end
end Ow

set_option Elab.async false
set_option linter.all false
set_option maxRecDepth 100000
set_option maxHeartbeats 4000000
set_option exponentiation.threshold 3000
set_option pp.maxSteps 900
set_option pp.deepTerms false
namespace Ow
open PySem PySem.Spec PyProof.Rows L2
theorem PS.of2 {X : Cx} {st : Stmt} {t t' : TS} (h : PS X st t) (k : ∀ D σ H, t' D σ H → t D σ H) : PS X st t' :=
  ⟨fun pins s σ H D I q => h.run pins s σ H D I (k D σ H q)⟩
abbrev waN : List Str := ["jug", "most", "size", "names", "few", "rows", "row", "at"]
theorem scWide : FnScope waN ["jug", "most"] (defScope dLWideAgenda) := ⟨rfl, rfl, rfl, by decide +kernel, rfl, by decide +kernel, by decide +kernel⟩
def sWideR : Scope := { kind := .function, names := [(".0", .local), ("row", .local), ("tuple", .globalImplicit), ("range", .globalImplicit), ("jug", .cell), ("size", .cell)], isGenerator := false, isCoroutine := false }
def sWideA : Scope := { kind := .function, names := [(".0", .local), ("at", .local), ("_law_dip", .globalImplicit), ("jug", .free)], isGenerator := false, isCoroutine := false }
/-- rows of an agenda of k issues -/
structure RowsK (k : Nat) (H : Hp) (x : V) (ms : List (List Int)) : Prop where
  at_ : IsRows H x ms
  ok : RowsOk k ms
  asc : ascR ms = true
  both : ∀ i < k, Both ms i
  few : ms.length ≤ 64
theorem RowsK.tk {k : Nat} {H H' : Hp} {x : V} {ms : List (List Int)} (t : Tk H H') (h : RowsK k H x ms) : RowsK k H' x ms := ⟨h.at_.tk t, h.ok, h.asc, h.both, h.few⟩
abbrev stW (J n L : Addr) (most sz : Nat) (x : V) (y6 y7 : Option V) : L2.St := [some (.ref J), some (.int most), some (.int sz), some (.ref n), some (.ref L), some x, y6, y7]
def tRowsW : TE := fun σ H Q => ∃ (J n L : Addr) (most sz : Nat) (xs : List V) (rs : List (List Int)), σ = [some (.ref J), some (.int most), some (.int sz), some (.ref n), some (.ref L), none, none, none] ∧ 1 ≤ sz ∧ sz ≤ 6 ∧ Jug H J ∧ L ≠ J ∧ H L = some (.lst xs) ∧ All2 (IsRow H) xs rs ∧ RowsOk sz rs ∧ rs ≠ [] ∧ rs.length ≤ 64 ∧
  ∀ H' x k ms, Sb J H H' → Jug H' J → RowsK k H' x ms → 1 ≤ k → (k = sz ∨ (k = 4 ∧ 4 < sz)) → Q x H'
def tWiden : TS := fun D σ H => ∃ (J n L : Addr) (most sz k : Nat) (x : V) (ms : List (List Int)), σ = stW J n L most sz x none none ∧ Jug H J ∧ RowsK k H x ms ∧ 1 ≤ k ∧ sz ≤ 6 ∧ (k = sz ∨ (k = 4 ∧ 4 < sz)) ∧
  ∀ H' y ms', Sb J H H' → Jug H' J → RowsK sz H' y ms' → D.nx (stW J n L most sz y none none) H'
def spWide : Sp := fun vs H Q _ => ∃ J : Addr, vs = [.ref J, .int (6 : Nat)] ∧ Jug H J ∧ ∀ H' x zs rs, Sb J H H' → Jug H' J → PlainAg H' x zs rs → AgOk 6 zs rs → Q x H'
theorem name_plain {zs : List Str} (h : ∀ z ∈ zs, nameB (.str z) = true) : Plain zs := fun z hz => by
  have h := h z hz
  unfold nameB at h
  simp only [Bool.and_eq_true, decide_eq_true_eq] at h
  obtain ⟨⟨_, h2⟩, h3⟩ := h
  refine ⟨by omega, fun c hc => ?_⟩
  have := List.all_eq_true.mp h3 c hc
  unfold signB at this
  simp only [Bool.and_eq_true, decide_eq_true_eq] at this
  omega
theorem one_cutW (ys : List V) {c : Int} (h : 0 ≤ c) : ∃ m : Nat, c = (m : Int) ∧ cutV ys none (some (1 + c)) = ys.take (m + 1) := by
  refine ⟨c.toNat, by omega, ?_⟩
  rw [show (1 + c) = ((c.toNat + 1 : Nat) : Int) by omega, cut_min]
theorem perm_rows {H : Hp} {xs : List V} {rs : List (List Int)} (a : All2 (IsRow H) xs rs) : ∀ {ys : List V}, (∀ y ∈ ys, y ∈ xs) → ∃ us : List (List Int), All2 (IsRow H) ys us ∧ ∀ r ∈ us, r ∈ rs
  | [], _ => ⟨[], .nil, fun _ h => by cases h⟩
  | y :: ys, h => by
    obtain ⟨r, hr, hy⟩ := a.mem (h y List.mem_cons_self)
    obtain ⟨us, h1, h2⟩ := perm_rows a fun z hz => h z (List.mem_cons_of_mem _ hz)
    refine ⟨r :: us, .cons hy h1, fun q hq => ?_⟩
    rcases List.mem_cons.mp hq with e | hq
    · rw [e]
      exact hr
    · exact h2 q hq
section
variable {P : Program} {w : World} {K : PySem.W.Frag} {mg : Str → Option Value} {base : Heap}
theorem ok_lwide {f fD fN fJ fA fW fR : Addr} {fd fdD fdN fdJ fdA fdW fdR : FuncData} (F : Fun K "_law_wide_agenda" "_law_wide_agenda" dLWideAgenda f fd)
    (FD : FnOk P w K mg base CX0 1 fD fdD ["jug", "total"] spDip) (kD : PySem.W.keepIn K (.ref fD) = true) (bD : Binds K fdD ["jug", "total"] []) (gD : mg "_law_dip" = some (.ref fD))
    (FN : FnOk P w K mg base CX0 3 fN fdN ["jug", "much"] spNames) (kN : PySem.W.keepIn K (.ref fN) = true) (bN : Binds K fdN ["jug", "much"] []) (gN : mg "_law_many_names" = some (.ref fN))
    (FJ : FnOk P w K mg base CX0 2 fJ fdJ ["jug", "items"] spJum) (kJ : PySem.W.keepIn K (.ref fJ) = true) (bJ : Binds K fdJ ["jug", "items"] []) (gJ : mg "_law_jumbled" = some (.ref fJ))
    (FA : FnOk P w K mg base CX0 1 fA fdA ["size"] spRowsL) (kA : PySem.W.keepIn K (.ref fA) = true) (bA : Binds K fdA ["size"] []) (gA : mg "_law_all_rows" = some (.ref fA))
    (FW : FnOk P w K mg base CX0 1 fW fdW ["rows"] spWithBothW) (kW : PySem.W.keepIn K (.ref fW) = true) (bW : Binds K fdW ["rows"] []) (gW : mg "_law_with_both" = some (.ref fW))
    (FR : FnOk P w K mg base CX0 4 fR fdR ["jug", "size"] spRowsAny) (kR : PySem.W.keepIn K (.ref fR) = true) (bR : Binds K fdR ["jug", "size"] []) (gR : mg "_law_rows_of" = some (.ref fR))
    (ms : mg "sorted" = none) (mn : mg "min" = none) (ml : mg "len" = none) (mt : mg "tuple" = none) (mr : mg "range" = none) : FnOk P w K mg base CX0 5 f fd ["jug", "most"] spWide := by
  refine F.ok scWide (fun vs H Q E h => ?_) (fun cdv A outer s H vs Q E hr h => ?_)
  · obtain ⟨J, rfl, _⟩ := h
    rfl
  obtain ⟨J, rfl, hJ, q⟩ := h
  refine ⟨_, (pss_cons (ps_set (i := 2) scWide.nd rfl (.inr rfl) (pe_op op_add pe_int (pe_call FD (hr.mono (by decide)) (by rfl) gD kD bD .nil pass0 (pa_cons (pv 0) (pa_cons (pv 1) pa_nil)))))
    (pss_cons (ps_set (i := 3) scWide.nd rfl (.inl rfl) (pe_callB cr_sortedS (by rfl) ms boot_sortedG (pa_cons (pe_call FN (hr.mono (by decide)) (by rfl) gN kN bN .nil pass0 (pa_cons (pv 0) (pa_cons (pv 2) pa_nil))) pa_nil)))
    (pss_cons (ps_set (i := 4) scWide.nd rfl (.inl rfl) (pe_slice sl_list (pe_call FJ (hr.mono (by decide)) (by rfl) gJ kJ bJ .nil pass0 (pa_cons (pv 0) (pa_cons (pe_call FA (hr.mono (by decide)) (by rfl) gA kA bA .nil pass0 (pa_cons (pv 2) pa_nil)) pa_nil))) po_none
        (po_some (pe_op op_add pe_int (pe_call FD (hr.mono (by decide)) (by rfl) gD kD bD .nil pass0 (pa_cons (pv 0) (pa_cons (pe_op op_pow pe_int pe_int) pa_nil)))))))
    (pss_cons (ps_set (i := 5) scWide.nd rfl (.inl rfl) (PE.of (t' := tRowsW) (pe_ifExp (pt_cmpR op_eq (pe_call FD (hr.mono (by decide)) (by rfl) gD kD bD .nil pass0 (pa_cons (pv 0) (pa_cons pe_int pa_nil))) pe_int (nomark _))
        (pe_call FW (hr.mono (by decide)) (by rfl) gW kW bW .nil pass0 (pa_cons (pv 4) pa_nil))
        (pe_call FR (hr.mono (by decide)) (by rfl) gR kR bR .nil pass0 (pa_cons (pv 0) (pa_cons (pe_callB (call_min2 rfl) (by rfl) mn boot_minG (pa_cons (pv 2) (pa_cons pe_int pa_nil))) pa_nil)))) ?rows))
    (pss_cons (PS.of2 (t' := tWiden) (ps_if (pt_cmpR op_lt (pe_callB call_len_seq (by rfl) ml PySem.boot_len (pa_cons (pe_ix ix_tup (pv 5) pe_int (fun _ _ => rfl)) pa_nil)) (pv 2) (nomark _))
        (pss_one (ps_set (i := 5) scWide.nd rfl (.inl rfl) (pe_call FW (hr.mono (by decide)) (by rfl) gW kW bW .nil pass0 (pa_cons
          (pe_lc (te := tOp rTCat (tVar 6) (tCB (rTupOf K) (tCons (tLc (iRng1 (tCons (tOp (rI0 fun i j => .int (i - j)) (tVar 2) (tC (.int 4))) tNil)) (gName 7) tYes (tCall spDip [] E0 (tCons (tVar 0) (tCons (tC (.int 2)) tNil))) ([(("at" : Str), 7)].map (·.2))) tNil))) (own := [("row", 6)]) (g := gName 6) (tt := tYes) rfl scWide.nd (pi_tup (pv 5)) (blkOk_by (N := waN) (sc := defScope dLWideAgenda) (by decide +kernel))
            (fun _ _ _ _ _ => pg_name (i := 6) scWide.nd rfl (Or.inl rfl)) (fun _ _ _ _ _ => pts_nil)
            (fun _ _ _ _ _ => pe_op op_tcat (pv 6) (pe_callTy call_tuple_of (by rfl) mt boot_tup (pa_cons
              (pe_lc (own := [("at", 7)]) (g := gName 7) (tt := tYes) rfl scWide.nd (pi_range1 (by rfl) mr (pa_cons (pe_op op_sub (pv 2) pe_int) pa_nil)) (blkOk_by (N := waN) (sc := sWideR) (scope := sWideA) (own := [("at", 7)]) (by decide +kernel))
                (fun _ _ _ _ _ => pg_name (i := 7) scWide.nd rfl (Or.inl rfl)) (fun _ _ _ _ _ => pts_nil)
                (fun _ _ _ _ _ => pe_call FD (hr.mono (by decide)) (by rfl) gD kD bD .nil pass0 (pa_cons (pv 0) (pa_cons pe_int pa_nil)))) pa_nil)))) pa_nil)))) pss_nil) ?widen)
    (pss_one (ps_ret (pe_disp (pps_cons pe_str (pe_callTy call_tuple_of (by rfl) mt boot_tup (pa_cons (pv 3) pa_nil)) (pps_cons pe_str (pv 5) pps_nil)) rfl rfl (fun e => nomatch e) (by show 2 ≤ 15; decide))))))))), ?red⟩
  case rows =>
    intro σ Hx Qx h
    obtain ⟨J, n, L, most, sz, xs, rs, rfl, s1, s6, jx, LJ, hL, ax, okr, ne, few, k⟩ := h
    refine ⟨.ref J, rfl, J, 3, rfl, by decide, by decide, jx, fun H1 c sb1 j1 c0 c3 => ⟨rfl, _, rfl, ?_⟩⟩
    cases decide (V.int c = V.int 0) with
    | true =>
      refine iteT ⟨.ref L, rfl, L, sz, xs, rs, rfl, sb1 _ _ LJ hL, all_tk (sb1.gw.tk (Jg.at_ jx)) ax, okr, ne, by omega, s1, s6, fun H2 x ms s2 hx okm asc both l64 => ?_⟩
      exact k H2 x sz ms (sb1.trans (.same s2)) (jug_same s2 j1) ⟨hx, okm, asc, both, l64⟩ s1 (.inl rfl)
    | false =>
      refine iteF ⟨.ref J, rfl, .int sz, rfl, _, _, rfl, ?_⟩
      obtain ⟨m, em, m1, m5, mk⟩ : ∃ m : Nat, (if (4 : Int) < (sz : Int) then (4 : Int) else (sz : Int)) = (m : Int) ∧ 1 ≤ m ∧ m ≤ 5 ∧ (m = sz ∨ (m = 4 ∧ 4 < sz)) := by
        by_cases e : (4 : Int) < (sz : Int)
        · exact ⟨4, by rw [if_pos e]; rfl, by decide, by decide, .inr ⟨rfl, by omega⟩⟩
        · exact ⟨sz, by rw [if_neg e], s1, by omega, .inl rfl⟩
      rw [em]
      refine ⟨J, m, rfl, j1, m1, m5, fun H2 x sb2 j2 hg => ?_⟩
      obtain ⟨ms, hR, okm, asc, both, l63⟩ := hg
      exact k H2 x m ms (sb1.trans sb2) j2 ⟨hR, okm, asc, both, by omega⟩ m1 mk
  case widen =>
    intro D σ Hx h
    obtain ⟨J, n, L, most, sz, k, x, ms, rfl, jx, hk, k1, s6, ks, q⟩ := h
    obtain ⟨u, xs, rfl, hu, hxs⟩ := id hk.at_
    obtain ⟨⟨r0, mr0, _⟩, _⟩ := hk.both 0 (by omega)
    have lx := hxs.len
    have pos : 0 < ms.length := List.length_pos_of_mem mr0
    obtain ⟨x0, hx0⟩ : ∃ x0, xs[0]? = some x0 := ⟨xs[0]'(by omega), List.getElem?_eq_getElem _⟩
    obtain ⟨rr, hrr, b0, rfl, hb0⟩ := hxs.get hx0
    have lr := (hk.ok rr (List.mem_of_getElem? hrr)).2
    refine ⟨.ref u, rfl, u, xs, 0, .ref b0, rfl, rfl, .of hu, atI_nat (j := 0) hx0, b0, _, rfl, .inr (.of hb0), .int sz, rfl, _, _, rfl, rfl, _, rfl, ?_⟩
    rw [List.length_map, lr]
    by_cases lt : (k : Int) < (sz : Int)
    · rw [decide_eq_true lt]
      obtain ⟨rfl, sz4⟩ : k = 4 ∧ 4 < sz := by omega
      refine iteT ⟨.ref u, rfl, u, rfl, ⟨xs, .of hu⟩, fun D2 nD2 => ?_⟩
      refine lc_map (M := At J) (walk_tup (K := K) (a := u) (xs := xs)) (by have := hk.few; omega) (Jg.at_ jx) nD2 (fun i Hy y => ∃ r, IsRow Hy y r ∧ bitsB r = true ∧ r.length = sz) (fun _ _ _ _ t ⟨r, h1, h2⟩ => ⟨r, h1.tk t, h2⟩) (fun Hy g jg => .of (g.tup (Jg.at_ jx) hu))
        (fun i x Hy Hy' Kk hi g jg hY hK => ?_) (fun Hy ys g jg eD hlen hq => ?_)
      · obtain ⟨rfl, hxi⟩ := hY
        obtain ⟨r, hr', b, rfl, hb⟩ := hxs.get hxi
        obtain ⟨rb, rl⟩ := hk.ok r (List.mem_of_getElem? hr')
        have hb2 := g.tup (Jg.at_ jx) hb
        refine ⟨rfl, .ref b, rfl, .int sz, rfl, _, _, rfl, rfl, (sz : Int) - 4, rfl, by omega, by omega, fun D3 nD3 => ?_⟩
        have en : ((sz : Int) - 4).toNat = sz - 4 := by omega
        rw [en]
        refine lc_map (M := At J) (walk_range (lo := 0) (n := sz - 4)) (by omega) jg nD3 (fun _ _ y => ∃ b : Int, y = .int b ∧ (b = 0 ∨ b = 1)) (fun _ _ _ _ _ h => h) (fun _ _ _ => trivial)
          (fun j y Hz Hz' Kk2 hj gz jz hY2 hK2 => ?_) (fun Hz zs gz jz eD3 hlen3 hq3 => ?_)
        · obtain ⟨e1, e2⟩ := hY2
          subst e1 e2
          exact ⟨rfl, .ref J, rfl, J, 2, rfl, by decide, by decide, jz.jug, fun H5 b5 sb5 j5 b0' b2 => hK2 _ _ sb5.gw (Jg.at_ j5) ⟨b5, rfl, by omega⟩⟩
        · obtain ⟨t, rfl, tb⟩ := bits_of (ys := zs) fun y hy => by
            obtain ⟨i, hi⟩ := List.mem_iff_getElem?.mp hy
            exact hq3 i y hi
          rw [List.length_map] at hlen3
          refine ⟨D3, _, rfl, .inl ⟨.of eD3, fun p np => ?_⟩⟩
          have sp := same_new (o := .tup (t.map V.int)) np
          have hb3 : upd Hz p (.tup (t.map V.int)) b = some (.tup (r.map V.int)) := sp _ _ (gz.tup jg hb2)
          refine ⟨b, p, _, _, rfl, rfl, hb3, upd_same, by rw [List.length_map, List.length_map]; omega, fun H8 p8 s8 e8 => ?_⟩
          refine hK _ _ (gz.trans (Gw.same (sp.trans s8))) ((jz.same sp).same s8) ⟨r ++ t, ⟨p8, rfl, by rw [e8, List.map_append]⟩, ?_, by rw [List.length_append]; omega⟩
          unfold bitsB at rb tb ⊢
          rw [List.all_append, rb, tb]
          rfl
      · obtain ⟨rs, ars, okr⟩ := some_rows (m := sz) (H := Hy) (ys := ys) fun y hy => by
          obtain ⟨i, hi⟩ := List.mem_iff_getElem?.mp hy
          exact hq i y hi
        have lrs := ars.len
        have l64 := hk.few
        refine ⟨D2, sz, ys, rs, rfl, eD, ars, okr, (fun e => by rw [e, List.length_nil] at lrs; omega), by omega, by omega, s6, fun H9 y ms' s9 hy okm asc both l64' => ?_⟩
        exact q H9 y ms' (g.sb.trans (.same s9)) (jug_same s9 jg.jug) ⟨hy, okm, asc, both, l64'⟩
    · rw [decide_eq_false lt]
      have e : k = sz := by omega
      subst e
      exact iteF (q Hx (.ref u) ms (Sb.refl _ _) jx hk)
  case red =>
  refine ⟨.ref J, rfl, .int (6 : Nat), rfl, J, 6, rfl, by decide, by decide, hJ, fun H1 c sb1 j1 c0 c6 => ⟨1, c, rfl, rfl, ?_⟩⟩
  obtain ⟨sz, esz, s1, s6⟩ : ∃ sz : Nat, 1 + c = (sz : Int) ∧ 1 ≤ sz ∧ sz ≤ 6 := ⟨(1 + c).toNat, by omega, by omega, by omega⟩
  dsimp only
  rw [esz]
  refine ⟨.ref J, rfl, .int sz, rfl, J, sz, rfl, j1, by omega, fun H2 p zs sb2 j2 np hp lz nd nm => ?_⟩
  refine ⟨p, zs, rfl, .of hp, by omega, fun ns S pm so nS => ?_⟩
  have sS := same_new (o := .lst (ns.map V.str)) nS
  have eS : upd H2 S (.lst (ns.map V.str)) S = some (.lst (ns.map V.str)) := upd_same
  have SJ : S ≠ J := jug_none j2 nS
  have jS := jug_same sS j2
  have sbS : Sb J H (upd H2 S (.lst (ns.map V.str))) := sb1.trans (sb2.trans (.same sS))
  generalize upd H2 S (.lst (ns.map V.str)) = H3 at eS jS sbS ⊢
  have iss : issuesB ns = true := issues_of pm so nd (by omega) (by omega) nm
  have lns : ns.length = sz := by rw [pm.length_eq, lz]
  refine ⟨.ref J, rfl, .int sz, rfl, sz, rfl, s6, fun H4 ev xs s4 nev hev ax => ?_⟩
  have lx := ax.len
  have p6 : 2 ^ sz ≤ 64 := Nat.le_trans (Nat.pow_le_pow_right (by decide) s6) (by decide)
  rw [rowsN_len] at lx
  have j4 := jug_same s4 jS
  have evJ : ev ≠ J := jug_none jS nev
  refine ⟨J, .ref ev, xs, rfl, j4, .inl ⟨ev, rfl, evJ, hev⟩, by omega, fun H5 p5 ys sb5 j5 np5 hp5 pmy => ?_⟩
  have p5J : p5 ≠ J := jug_none j4 np5
  refine ⟨.ref J, rfl, 2, 6, rfl, rfl, ⟨by decide, by decide, by decide⟩, J, 2 ^ 6, rfl, by decide, by decide, j5, fun H6 c2 sb6 j6 d0 d1 => ⟨1, c2, rfl, rfl, 1 + c2, rfl, p5, _, rfl, .of (sb6 _ _ p5J hp5), fun L nL => ?_⟩⟩
  obtain ⟨m, rfl, ecut⟩ := one_cutW ys d0
  rw [ecut]
  have sL := same_new (o := .lst (ys.take (m + 1))) nL
  have eL : upd H6 L (.lst (ys.take (m + 1))) L = some (.lst (ys.take (m + 1))) := upd_same
  have jL := jug_same sL j6
  have LJ : L ≠ J := jug_none j6 nL
  have sb4L : Sb J H4 (upd H6 L (.lst (ys.take (m + 1)))) := sb5.trans (sb6.trans (.same sL))
  have axL := all_tk (sb4L.gw.tk (Jg.at_ j4)) ax
  have eSL := (Sb.same s4).trans sb4L _ _ SJ eS
  have sbL : Sb J H (upd H6 L (.lst (ys.take (m + 1)))) := sbS.trans ((Sb.same s4).trans sb4L)
  obtain ⟨us, aus, inus⟩ := perm_rows axL (ys := ys.take (m + 1)) fun y hy => pmy.mem_iff.mp (List.mem_of_mem_take hy)
  have ly := pmy.length_eq
  have lus := aus.len
  rw [List.length_take] at lus
  have p1 : 1 ≤ 2 ^ sz := Nat.one_le_two_pow
  generalize upd H6 L (.lst (ys.take (m + 1))) = H7 at eL jL axL eSL sbL aus ⊢
  refine ⟨J, S, L, 6, sz, _, us, rfl, s1, s6, jL, LJ, eL, aus, fun r hr => rowsN_ok sz r (inus r hr), (fun e => by rw [e, List.length_nil] at lus; omega), by omega, fun H8 x k ms sb8 j8 hk k1 kk => ?_⟩
  refine ⟨J, S, L, 6, sz, k, x, ms, rfl, j8, hk, k1, s6, kk, fun H9 y ms' sb9 j9 hf => ?_⟩
  have eS9 := sb9 _ _ SJ (sb8 _ _ SJ eSL)
  have sbF := sbL.trans (sb8.trans sb9)
  obtain ⟨u, us', rfl, hu, hus⟩ := id hf.at_
  intro d nd
  have sd := same_new (o := .dK []) nd
  have dJ : d ≠ J := jug_none j9 nd
  refine ⟨.ref S, rfl, S, _, rfl, .inl ⟨.of (sd _ _ eS9), fun t nt => ?_⟩⟩
  have st := same_new (o := .tup (ns.map V.str)) nt
  have td : t ≠ d := fun z => by rw [z, upd_same] at nt; cases nt
  refine ⟨_, rfl, ?_, [(Sum.inr "issues", .ref t), (Sum.inr "rows", .ref u)], rfl, (by show 2 ≤ 15; decide), ?_⟩
  · rw [upd_ne td.symm, upd_same]
  have ed : upd (upd (upd H9 d (.dK [])) t (.tup (ns.map V.str))) d (.dK (mergeK [] [(Sum.inr "issues", V.ref t), (Sum.inr "rows", .ref u)])) d = some (.dK [(Sum.inr "issues", .ref t), (Sum.inr "rows", .ref u)]) := upd_same
  have keep : ∀ b v, b ≠ d → H9 b = some v → upd (upd (upd H9 d (.dK [])) t (.tup (ns.map V.str))) d (.dK (mergeK [] [(Sum.inr "issues", V.ref t), (Sum.inr "rows", .ref u)])) b = some v := fun b v bd e => by
    rw [upd_ne bd]
    exact st _ _ (sd _ _ e)
  have sall : Same H9 (upd (upd (upd H9 d (.dK [])) t (.tup (ns.map V.str))) d (.dK (mergeK [] [(Sum.inr "issues", V.ref t), (Sum.inr "rows", .ref u)]))) := fun b v e => keep b v (ne_of_none e nd) e
  have et : upd (upd (upd H9 d (.dK [])) t (.tup (ns.map V.str))) d (.dK (mergeK [] [(Sum.inr "issues", V.ref t), (Sum.inr "rows", .ref u)])) t = some (.tup (ns.map V.str)) := by
    rw [upd_ne td, upd_same]
  refine q _ _ ns ms' (sbF.trans (.same sall)) (jug_same sall j9) ⟨d, t, u, rfl, ed, et, hf.at_.tk (Tk.same sall)⟩ ⟨by omega, by omega, iss, name_plain fun z hz => nm z (pm.mem_iff.mp hz), by rw [lns]; exact hf.ok, hf.asc, by rw [lns]; exact hf.both⟩
end
end Ow

set_option Elab.async false
set_option linter.all false
set_option maxRecDepth 100000
set_option maxHeartbeats 4000000
set_option exponentiation.threshold 3000
namespace Ow
open PySem PySem.Spec PyProof.Rows L2
theorem scLMade : FnScope ["plain"] ["plain"] (defScope dLMadeAgenda) := ⟨rfl, rfl, rfl, by decide +kernel, rfl, by decide +kernel, by decide +kernel⟩
theorem Same.pl {H H' : Hp} {x : V} {zs : List Str} {rs : List (List Int)} (s : Same H H') (h : PlainAg H x zs rs) : PlainAg H' x zs rs := h.tk (Tk.same s)
def spLMade (C : Addr) : Sp := fun vs H Q _ => ∃ (x : V) (n : Nat) (zs : List Str) (rs : List (List Int)), vs = [x] ∧ PlainAg H x zs rs ∧ AgOk n zs rs ∧ n ≤ 6 ∧ ∀ H' a, Same H H' → H a = none → AgAt C H' a zs rs → Q (.ref a) H'
section
variable {P : Program} {w : World} {K : PySem.W.Frag} {mg : Str → Option Value} {base : Heap} {C : Addr}
theorem ok_lmade {f fi : Addr} {fd fdi : FuncData} (F : Fun K "_law_made_agenda" "_law_made_agenda" dLMadeAgenda f fd)
    (M : Mk K C fi) (Fi : FnOk P w K mg base CX0 6 fi fdi ["self", "issues", "rows"] (spInit C)) (bi : Binds K fdi ["self", "issues", "rows"] []) (gC : mg "Agenda" = some (.ref C)) : FnOk P w K mg base CX0 8 f fd ["plain"] (spLMade C) := by
  refine F.ok scLMade (fun vs H Q E h => ?_) (fun cdv A outer s H vs Q E hr h => ?_)
  · obtain ⟨x, n, zs, rs, rfl, _⟩ := h
    rfl
  obtain ⟨x, n, zs, rs, rfl, hA, ag, n6, q⟩ := h
  obtain ⟨pd, t, u, rfl, hpd, ft, hR⟩ := id hA
  have rdt : Rd H t (.tup (zs.map V.str)) := .inl ft
  refine ⟨_, pss_one (ps_ret (pe_make M Fi hr (by rfl) gC bi .nil pass0 (pa_cons (pe_dget (hu_of hr) (pv 0) pe_str (fun _ _ => rfl)) (pa_cons (pe_dget (hu_of hr) (pv 0) pe_str (fun _ _ => rfl)) pa_nil)))), ?_⟩
  refine ⟨.ref pd, rfl, pd, .ref t, rfl, DGet.k (k := Sum.inr "issues") hpd, .ref pd, rfl, pd, .ref u, rfl, DGet.k (k := Sum.inr "rows") hpd, ?_⟩
  intro a dx na ndx nex
  have s7 : Same H (upd H dx (.own a)) := same_new ndx
  have na7 : upd H dx (.own a) a = none := by rw [upd_ne nex.symm]; exact na
  have s8 : Same H (upd (upd H dx (.own a)) a (.ins C dx [])) := s7.trans (same_new na7)
  have lz := ag.le
  have few := ag.few
  have p2 : 2 ^ zs.length ≤ 2 ^ 6 := Nat.pow_le_pow_right (by decide) (by omega)
  refine ⟨a, dx, t, u, zs, rs, rfl, upd_same, rdt.same s8, hR.tk (Tk.same s8), by omega, ag.plain, ag.iss, ⟨ag.ok, ag.asc, fun k hk => (ag.both k hk).b, by omega, by omega⟩, fun H' sb at_ => ⟨rfl, ?_⟩⟩
  exact q H' a (fun b o e => sb b o (ne_of_none e na) (s8 _ _ e)) na at_
end
end Ow

set_option Elab.async false
set_option linter.all false
set_option maxRecDepth 100000
set_option maxHeartbeats 4000000
/-! a dict asked whether it is a text -/
namespace Ow
open PySem PySem.Spec PyProof.Rows L2
open AutoSeq1 (wpAny_loadPart')
open MeetsSeq
theorem dict_says_no (l : Addr) (es : Array DictEntry) (ep : Nat) (dd : Option Addr) (sl : Array (Option Value)) (b : Str) (u : Tok) :
    Meets (Builtin.«dict.__eq__» ⟨[.ref l, .str b u], []⟩) (fun _ R s => s.heap.get? l = some { cls := .type "dict", dict := dd, data := .dict es ep, slots := sl } ∧ R (.ok (.ret .notImplemented)) s) :=
  .of_wp fun prog w A R s h => by
    obtain ⟨hp, g, d, tk, os⟩ := s
    obtain ⟨hl, h⟩ := h
    have f1 := F.sub_str_dict
    wp_walk using wpAny_loadPart' hl
    exact ⟨_, rfl, h⟩
theorem str_says_no (b : Str) (u : Tok) (l : Addr) (es : Array DictEntry) (ep : Nat) (dd : Option Addr) (sl : Array (Option Value)) :
    Meets (Builtin.«str.__eq__» ⟨[.str b u, .ref l], []⟩) (fun _ R s => s.heap.get? l = some { cls := .type "dict", dict := dd, data := .dict es ep, slots := sl } ∧ R (.ok (.ret .notImplemented)) s) :=
  .of_wp fun prog w A R s h => by
    obtain ⟨hp, g, d, tk, os⟩ := s
    obtain ⟨hl, h⟩ := h
    wp_walk using wpAny_loadPart' hl, wpAny_load hl
    exact ⟨_, rfl, h⟩
section
variable {A : Around} {s : Shared}
theorem rc_dict_str {l : Addr} {o : Obj} {es : Array DictEntry} {ep : Nat} (b : Str) (u : Tok) (ho : s.heap.get? l = some o) (hc : o.cls = .type "dict") (hd : o.data = .dict es ep) (hu : A.units < cLine) : SeqAt.RcAt A s (.ref l) (.str b u) false := fun prog w E Q h => by
  obtain ⟨cls, dd, data, sl⟩ := o
  simp only at hc hd
  subst hc hd
  exact SeqAt.rc_eq_decline_or (k := false) ⟨_, ho, rfl⟩ (typeIs_str s b u) (by decide) F.sub_str_dict F.slot_dict_eq F.slot_str_eq_refl
    (fun _ hq => call_meets F.slot_dict_eq ⟨_, ho, rfl⟩ F.entry_dict_eq (F.args_dict_eq_2 _ _) (dict_says_no l es ep dd sl b u) ⟨ho, hq⟩)
    (fun _ hq => call_meets F.slot_str_eq_refl (typeIs_str s b u) F.entry_str_eq (F.args_str_eq_2 _ _) (str_says_no b u l es ep dd sl) ⟨ho, hq⟩)
    (fun _ hq => wpAny_of_eq (rfl : isSame (.ref l) (.str b u) = pure false) hq) (.inr hu) h
theorem rc_str_dict {l : Addr} {o : Obj} {es : Array DictEntry} {ep : Nat} (b : Str) (u : Tok) (ho : s.heap.get? l = some o) (hc : o.cls = .type "dict") (hd : o.data = .dict es ep) (hu : A.units < cLine) : SeqAt.RcAt A s (.str b u) (.ref l) false := fun prog w E Q h => by
  obtain ⟨cls, dd, data, sl⟩ := o
  simp only at hc hd
  subst hc hd
  exact SeqAt.rc_eq_decline_or (k := false) (typeIs_str s b u) ⟨_, ho, rfl⟩ (by decide) F.sub_dict_str F.slot_str_eq F.slot_dict_eq_refl
    (fun _ hq => call_meets F.slot_str_eq (typeIs_str s b u) F.entry_str_eq (F.args_str_eq_2 _ _) (str_says_no b u l es ep dd sl) ⟨ho, hq⟩)
    (fun _ hq => call_meets F.slot_dict_eq_refl ⟨_, ho, rfl⟩ F.entry_dict_eq (F.args_dict_eq_2 _ _) (dict_says_no l es ep dd sl b u) ⟨ho, hq⟩)
    (fun _ hq => wpAny_of_eq (rfl : isSame (.str b u) (.ref l) = pure false) hq) (.inr hu) h
theorem eq_str_dict {l : Addr} {o : Obj} {es : Array DictEntry} {ep : Nat} (b : Str) (u : Tok) (ho : s.heap.get? l = some o) (hc : o.cls = .type "dict") (hd : o.data = .dict es ep) (hu : A.units < cLine) : SeqAt.EqAt A s (.str b u) (.ref l) false := fun prog w E Q h => by
  unfold eqBool
  refine wpAny_holding ?_
  refine wpAny_ite_split (fun hab => absurd (eq_of_beq hab) nofun) (fun _ => ?_)
  exact wpAny_bind (rc_str_dict b u ho hc hd hu prog w E _ (wpAny_truthy_bool h))
end
/-- data, or a dict -/
def WordOk (K : PySem.W.Frag) (H : Hp) (v : V) : Prop := (∃ d, Dp K H v d ∧ SeqAt.shaped d = true) ∨ ∃ a kvs, v = .ref a ∧ H a = some (.dK kvs)
/-- is it this text? -/
def isTxt (v : V) (z : Str) : Bool := match v with
  | .str y => decide (y = z)
  | _ => false
theorem eqv_txt {K : PySem.W.Frag} {H : Hp} {v : V} {d : PyData} (h : Dp K H v d) (z : Str) : PyData.eqv d (.str z) = isTxt v z := by
  cases h with
  | str y =>
    show (y == z) = decide (y = z)
    by_cases e : y = z
    · rw [e]; simp
    · simp [e]
  | _ => rfl
theorem eqv_txt2 {K : PySem.W.Frag} {H : Hp} {v : V} {d : PyData} (h : Dp K H v d) (z : Str) : PyData.eqv (.str z) d = isTxt v z := by
  cases h with
  | str y =>
    show (z == y) = decide (y = z)
    by_cases e : y = z
    · rw [e]; simp
    · simp [e]
      exact fun q => e q.symm
  | _ => rfl
/-! ### x in t, t a tuple of data -/
section
variable {X : Cx}
def rInT (K : PySem.W.Frag) (neg : Bool) : R2 := fun x y H Q => ∃ d ds, Dp K H x d ∧ Dp K H y (.tuple ds) ∧ SeqAt.shaped d = true ∧ SeqAt.shaped (.list ds) = true ∧ Q (.bl (if neg then !ds.any fun z => PyData.eqv z d else ds.any fun z => PyData.eqv z d)) H
theorem op_inT (hu : X.A.units + 65 < cLine) : OpR X (compareOp .In) (rInT X.K false) := by
  intro pins s σ H x y v u Q I rx ry h
  obtain ⟨d, ds, hd, he, sd, se, q⟩ := h
  obtain ⟨as, r1⟩ := Dp.reads I d x v hd rx
  obtain ⟨bs, r2⟩ := Dp.reads I (.tuple ds) y u he ry
  exact SeqAt.in_tuple_reads r2 r1 (SeqAt.canLay_of_shaped se) (SeqAt.canLay_of_shaped sd) (room_in_shaped sd hu) ⟨.bl _, H, I, rfl, q⟩
theorem op_notInT (hu : X.A.units + 65 < cLine) : OpR X (compareOp .NotIn) (rInT X.K true) := by
  intro pins s σ H x y v u Q I rx ry h
  obtain ⟨d, ds, hd, he, sd, se, q⟩ := h
  obtain ⟨as, r1⟩ := Dp.reads I d x v hd rx
  obtain ⟨bs, r2⟩ := Dp.reads I (.tuple ds) y u he ry
  exact SeqAt.notIn_tuple_reads r2 r1 (SeqAt.canLay_of_shaped se) (SeqAt.canLay_of_shaped sd) (room_in_shaped sd hu) ⟨.bl _, H, I, rfl, q⟩
end
theorem lay_strs : ∀ zs : List Str, (∀ z ∈ zs, PyData.strOk z = true) → PyData.canLayAll0 (zs.map PyData.str) = true
  | [], _ => by simp [PyData.canLayAll0]
  | z :: zs, h => by
    rw [List.map_cons, PyData.canLayAll0, lay_strs zs fun y hy => h y (List.mem_cons_of_mem _ hy)]
    simp [PyData.canLay0, h z List.mem_cons_self]
theorem depth_strs : ∀ zs : List Str, PyData.depthAll (zs.map PyData.str) = 0
  | [] => by simp [PyData.depthAll]
  | z :: zs => by
    rw [List.map_cons, PyData.depthAll, depth_strs zs]
    simp [PyData.depth]
theorem shaped_txts (zs : List Str) (h : ∀ z ∈ zs, PyData.strOk z = true) : SeqAt.shaped (.list (zs.map PyData.str)) = true := by
  unfold SeqAt.shaped
  simp [PyData.canLay0, PyData.depth, lay_strs zs h, depth_strs zs]
theorem dp_txts {K : PySem.W.Frag} {H : Hp} : ∀ zs : List Str, DpAll K H (zs.map V.str) (zs.map PyData.str)
  | [] => .nil
  | z :: zs => .cons (.str z) (dp_txts zs)
theorem strsAre_mem : ∀ {us : List Value} {zs : List Str}, StrsAre us zs → ∀ u ∈ us, ∃ z t, u = .str z t := fun {us zs} h u hu => by
  obtain ⟨i, hi⟩ := List.mem_iff_getElem?.mp hu
  obtain ⟨y, t, e, _⟩ := PyProof.Rows.StrsAre.item h i u hi
  exact ⟨y, t, e⟩
section
variable {X : Cx}
def rEqW (K : PySem.W.Frag) : R2 := fun x y H Q => ∃ z : Str, y = .str z ∧ PyData.strOk z = true ∧ WordOk K H x ∧ Q (.bl (isTxt x z)) H
theorem op_eqW (hu : X.A.units + 64 < cLine) : OpR X (compareOp .Eq) (rEqW X.K) := by
  intro pins s σ H x y v u Q I rx ry h
  obtain ⟨z, rfl, zo, hw, q⟩ := h
  rcases hw with ⟨d, hd, sd⟩ | ⟨a, kvs, rfl, ha⟩
  · refine op_eqD hu pins s σ H x (.str z) v u Q I rx ry ⟨d, .str z, hd, .str z, sd, ?_, by rw [eqv_txt hd]; exact q⟩
    unfold SeqAt.shaped
    simp [PyData.canLay0, PyData.depth, zo]
  · obtain rfl : v = Value.ref a := rx
    obtain ⟨t, rfl⟩ := ry
    obtain ⟨_, _, vs, _, ob, es, ep, e, hx, hdt, _⟩ := (show ObjOk X.prog X.w H s.heap a (.dK kvs) from I.hok a _ ha)
    exact rc_dict_str z t e hx.1 hdt (by omega) _ _ _ _ ⟨.bl false, H, I, rfl, q⟩
/-- word in (z1, z2), a new tuple of texts -/
def rInW (K : PySem.W.Frag) : R2 := fun x y H Q => ∃ (p : Addr) (zs : List Str), y = .ref p ∧ H p = some (.tup (zs.map V.str)) ∧ (∀ z ∈ zs, PyData.strOk z = true) ∧ WordOk K H x ∧ Q (.bl (zs.any (isTxt x))) H
theorem op_inW (hu : X.A.units + 65 < cLine) : OpR X (compareOp .In) (rInW X.K) := by
  intro pins s σ H x y v u Q I rx ry h
  obtain ⟨p, zs, rfl, hp, zo, hw, q⟩ := h
  rcases hw with ⟨d, hd, sd⟩ | ⟨a, kvs, rfl, ha⟩
  · refine op_inT hu pins s σ H x (.ref p) v u Q I rx ry ⟨d, zs.map PyData.str, hd, .tup (.of hp) (dp_txts zs), sd, shaped_txts zs zo, ?_⟩
    have e : ((zs.map PyData.str).any fun y => PyData.eqv y d) = zs.any (isTxt x) := by
      rw [List.any_map]
      congr 1
      funext z
      exact eqv_txt2 hd z
    show Q (.bl ((zs.map PyData.str).any fun y => PyData.eqv y d)) H
    rw [e]
    exact q
  · obtain rfl : v = Value.ref a := rx
    obtain rfl : u = Value.ref p := ry
    obtain ⟨_, _, vs, _, ob, es, ep, e, hx, hdt, _⟩ := (show ObjOk X.prog X.w H s.heap a (.dK kvs) from I.hok a _ ha)
    obtain ⟨its, rv, pl, hz⟩ := I.tuple (SqT.of (K := X.K) hp)
    have txt : StrsAre its zs := rv.strs
    have each : ∀ y, y ∈ its.toArray → SeqAt.EqAt X.A.in1 s y (.ref a) false := fun y hy => by
      obtain ⟨z, t, rfl⟩ := strsAre_mem txt y (by simpa using hy)
      exact eq_str_dict z t e hx.1 hdt (by
        rw [Around.in1_units]
        omega)
    refine SeqAt.in_tupleAt (fun _ => false) pl each ?_
    have e1 : (its.toArray.any fun _ => false) = false := by simp
    have e2 : zs.any (isTxt (.ref a)) = false := by
      rw [List.any_eq_false]
      intro z _ c
      cases c
    rw [e1]
    rw [e2] at q
    exact ⟨.bl false, H, I, rfl, q⟩
end
end Ow

set_option Elab.async false
set_option linter.all false
set_option maxRecDepth 100000
set_option maxHeartbeats 4000000
namespace Ow
open PySem PySem.Spec PyProof.Rows L2
/-! ### own in, not in, len, str, () -/
section
variable {X : Cx} {CX : CXT} {k : Nat} {f C : Addr} {fd : FuncData} {ps : List Str} {sp : Sp} {E : XK}
def rInO (C : Addr) (sp : Sp) (E : XK) (neg : Bool) : R2 := fun x y H Q => ∃ a dx fs, y = .ref a ∧ H a = some (.ins C dx fs) ∧ sp [.ref a, x] H (fun v H' => ∃ b : Bool, v = .bl b ∧ Q (.bl (if neg then !b else b)) H') E
theorem op_inO (hm : Meth X.K C "__contains__" f) (F : FnOk X.prog X.w X.K X.mg X.base CX k f fd ps sp) (hr : Room k X.A) (hb : Binds X.K fd ps []) (hx : Passes CX X E) : OpR X (compareOp .In) (rInO C sp E false) := by
  intro pins s σ H x y v u Q I rx ry h
  obtain ⟨a, dx, fs, rfl, ha, q⟩ := h
  cases ry
  obtain ⟨mA, J, _⟩ := ins_get I.hok ha
  obtain ⟨od, J, _⟩ := J.look
  obtain ⟨m, hF⟩ := I.fr
  have rr : Vals [V.ref a, x] [Value.ref a, v] := .cons rfl (.cons rx .nil)
  refine PySem.W.in_K hF I.ok.mod.kin J hm.at_ hm.fn (wpAny_mono (run_at (A := X.A) rfl F hr hb hx I rr q) (fun r s' hq => ?_) fun _ _ z => z)
  obtain ⟨z, H', I', rz, b, rfl, q'⟩ := hq
  cases rz
  exact wpAny_truthy_bool ⟨.bl b, H', I', rfl, q'⟩
theorem op_notInO (hm : Meth X.K C "__contains__" f) (F : FnOk X.prog X.w X.K X.mg X.base CX k f fd ps sp) (hr : Room k X.A) (hb : Binds X.K fd ps []) (hx : Passes CX X E) : OpR X (compareOp .NotIn) (rInO C sp E true) := by
  intro pins s σ H x y v u Q I rx ry h
  obtain ⟨a, dx, fs, rfl, ha, q⟩ := h
  cases ry
  obtain ⟨mA, J, _⟩ := ins_get I.hok ha
  obtain ⟨od, J, _⟩ := J.look
  obtain ⟨m, hF⟩ := I.fr
  have rr : Vals [V.ref a, x] [Value.ref a, v] := .cons rfl (.cons rx .nil)
  refine PySem.W.notIn_K hF I.ok.mod.kin J hm.at_ hm.fn (wpAny_mono (run_at (A := X.A) rfl F hr hb hx I rr q) (fun r s' hq => ?_) fun _ _ z => z)
  obtain ⟨z, H', I', rz, b, rfl, q'⟩ := hq
  cases rz
  exact wpAny_truthy_bool ⟨.bl (!b), H', I', rfl, q'⟩
/-- len(o) -/
theorem call_lenO (hm : Meth X.K C "__len__" f) (F : FnOk X.prog X.w X.K X.mg X.base CX k f fd ps sp) (hr : Room (k + 1) X.A) (hb : Binds X.K fd ps []) (hx : Passes CX X E) :
    CallR X (.builtin "len") (fun xs H Q => ∃ a dx fs, xs = [.ref a] ∧ H a = some (.ins C dx fs) ∧ sp [.ref a] H (fun v H' => ∃ n : Int, v = .int n ∧ 0 ≤ n ∧ n < 2 ^ 63 ∧ Q (.int n) H') E) := by
  intro pins s σ H xs us Q I r h
  obtain ⟨a, dx, fs, rfl, ha, q⟩ := h
  obtain ⟨u, rfl, rx⟩ := vals1 r
  cases rx
  obtain ⟨mA, J, _⟩ := ins_get I.hok ha
  obtain ⟨od, J, _⟩ := J.look
  obtain ⟨m, hF⟩ := I.fr
  have rr : Vals [V.ref a] [Value.ref a] := .cons rfl .nil
  refine PySem.W.len_K hF I.ok.mod.kin J hm.at_ hm.fn (wpAny_mono (run_at (A := X.A.in1) rfl F hr.in1 hb hx I rr q) (fun r s' hq => ?_) fun _ _ z => z)
  obtain ⟨z, H', I', rz, n, rfl, h0, h1, q'⟩ := hq
  obtain ⟨t, rfl⟩ := rz
  exact ⟨⟨h0, h1⟩, .int n, H', I'.tok _, ⟨_, rfl⟩, q'⟩
/-- str(o) -/
theorem call_strO (hm : Meth X.K C "__str__" f) (F : FnOk X.prog X.w X.K X.mg X.base CX k f fd ps sp) (hr : Room (k + 2) X.A) (hb : Binds X.K fd ps []) (hx : Passes CX X E) :
    CallR X (.type "str") (fun xs H Q => ∃ a dx fs, xs = [.ref a] ∧ H a = some (.ins C dx fs) ∧ sp [.ref a] H (fun v H' => ∃ z : Str, v = .str z ∧ Q (.str z) H') E) := by
  intro pins s σ H xs us Q I r h
  obtain ⟨a, dx, fs, rfl, ha, q⟩ := h
  obtain ⟨u, rfl, rx⟩ := vals1 r
  cases rx
  obtain ⟨mA, J, _⟩ := ins_get I.hok ha
  obtain ⟨od, J, _⟩ := J.look
  have rr : Vals [V.ref a] [Value.ref a] := .cons rfl .nil
  have hr2 : Room k X.A.in1.in1 := hr.in1.in1
  have hu : X.A.in1.in1.units < cLine := by have := hr2.un; omega
  refine PySem.W.kso_call hu I.kIn J hm.at_ hm.fn (wpAny_mono (run_at (A := X.A.in1.in1) rfl F hr2 hb hx I rr q) (fun r s' hq => ?_) fun _ _ z => z)
  obtain ⟨z, H', I', rz, t, rfl, q'⟩ := hq
  obtain ⟨t', rfl⟩ := rz
  exact ⟨.str t, H', I', ⟨_, rfl⟩, q'⟩
end
end Ow

set_option Elab.async false
set_option linter.all false
set_option maxRecDepth 100000
set_option maxHeartbeats 4000000
namespace Ow
open PySem PySem.Spec PyProof.Rows L2
open PySem.Calls in
theorem callWith_O {M : Model} {A : Around} {E : Value → Shared → Prop} {s : Shared} {K : PySem.W.Frag} {x C : Addr} {first : List Value} {Q : Value → Shared → Prop} {pos : Pos} {args : List (Bool × Sem Value)} {keywords : List (Option Str × Sem Value)}
    (hplain : (args.any (·.1) || keywords.any (·.1.isNone)) = false)
    (h : wpAny M A (evalArgs (.ref x) true args keywords) (fun a s₁ => (∃ ox od, PySem.W.InstAt s₁.heap x ox C od ∧ ox.data = .plain) ∧ wpAny M A (call (.ref x) (first ++ a.pos) a.kw) Q E s₁) E s) : wpAny M A (callWith pos (.ref x) first args keywords) Q E s := by
  unfold callWith
  refine wpAny_bind (wpAny_holding (wpAny_mono h (fun a s₁ h₁ => wpAny_bind (wpAny_standAt ?_)) fun _ _ y => y))
  obtain ⟨⟨ox, od, I, hd⟩, h2⟩ := h₁
  have L := PySem.W.kco_keeper (M := M) I hd
  simp only [hplain]
  refine wpAny_bind (L.here ?_)
  have tail : ∀ {t : Sem Value}, wpAny M A t Q E s₁ → wpAny M A (t >>= fun r => holding [r] point >>= fun _ => pure r) Q E s₁ :=
    fun ht => wpAny_bind (wpAny_mono ht (fun r s₂ hr => wpAny_bind (wpAny_holding (wpAny_point (wpAny_pure hr)))) fun _ _ y => y)
  exact tail (wpAny_operateT h2)
section
variable {X : Cx} {CX : CXT} {k : Nat} {f C : Addr} {fd : FuncData} {ps : List Str} {sp : Sp} {E : XK} {x : Str} {p pos : Pos} {e : Expr} {es : List Expr} {t : TA} {tf : TE}
/-- o(e, ..), o a name that holds an instance of an own class with its own () -/
def tCallO (C : Addr) (sp : Sp) (E : XK) (tf : TE) (t : TA) : TE := fun σ H Q => tf σ H fun y H1 => ∃ a, y = .ref a ∧ t σ H1 fun vs H2 => (∃ dx fs, H2 a = some (.ins C dx fs)) ∧ sp (.ref a :: vs) H2 Q E
theorem pe_callO (hf : PE X (.Name x p) tf) (hm : Meth X.K C "__call__" f) (hfn : PySem.W.fnIn X.K f = true) (F : FnOk X.prog X.w X.K X.mg X.base CX k f fd ps sp) (hr : Room k X.A) (hb : Binds X.K fd ps []) (hx : Passes CX X E) (ha : PA X (e :: es) t)
    (he : starEach (e :: es) X.env = (false, eval e X.env) :: starEach es X.env := by rfl) (hpl : (backTo pos (starEach es X.env)).any (·.1) = false := by rfl) : PE X (.Call (.Name x p) (e :: es) [] pos) (tCallO C sp E tf t) := by
  refine ⟨fun pins s σ H Q I h => ?_⟩
  refine wpAny_Call_Name_kw (thn (hf.run pins s σ H _ I h) fun u s1 ⟨y, H1, I1, r1, a, ey, q1⟩ => ?_)
  subst ey
  obtain rfl : u = Value.ref a := r1
  rw [he]
  refine callWith_O (C := C) (K := X.K) (by show ((false || (backTo pos (starEach es X.env)).any (·.1)) || false) = false; rw [hpl]; rfl) (Calls.evalArgs_plain ?_)
  have hA := ha.run pos pins s1 σ H1 _ I1 q1
  rw [he] at hA
  refine thn hA fun us s2 ⟨vs, H2, I2, r2, ⟨dx, fs, hins⟩, q2⟩ => ?_
  obtain ⟨mA, J, _⟩ := ins_get I2.hok hins
  obtain ⟨od, J, _⟩ := J.look
  refine ⟨⟨_, _, J, rfl⟩, ?_⟩
  have rr : Vals (V.ref a :: vs) (Value.ref a :: us) := .cons rfl r2
  have hl : (Value.ref a :: us).length = ps.length := by rw [← rr.length]; exact F.len _ _ _ _ q2
  have b := hb s2 (Value.ref a :: us) I2.kIn (by rw [List.append_nil]; exact hl)
  rw [List.append_nil] at b
  refine wpAny_call (PySem.W.kco_code I2.kIn J rfl hm.at_ hm.fn hfn (codeAny_mono (F.run X.A X.stack s2 H2 ⟨Value.ref a :: us, []⟩ _ (V.ref a :: vs) Q E hr I2.env0 b rr q2) fun o s' hq => ?_))
  cases o with
  | error e => exact hx pins σ H2 s2 e s' I2 hq
  | ok fl =>
    cases fl with
    | ret u => exact I2.after hq
    | next => exact False.elim hq
    | brk => exact False.elim hq
    | cont => exact False.elim hq
end
end Ow

set_option Elab.async false
set_option linter.all false
set_option maxRecDepth 100000
set_option maxHeartbeats 4000000
namespace Ow
open PySem PySem.Spec PyProof.Rows L2 ItX
/-! ### own __iter__ that returns iter(t), t a tuple -/
/-- at it an iterator over the tuple at t, at its begin -/
def TItO (t it : Addr) : HO := .ext fun h => h.IsTupleIter it t 0
theorem tItO_ok {P : Program} {w : World} {H : Hp} {h : Heap} {t it : Addr} (e : h.IsTupleIter it t 0) : ObjOk P w H h it (TItO t it) :=
  ⟨e, let ⟨o, e, _⟩ := e; ⟨o, e⟩, fun h1 h2 q k => let ⟨o, e, r⟩ := q; ⟨o, k _ e, r⟩⟩
theorem tItO_get {X : Cx} {pins : List (Addr × Obj)} {σ : L2.St} {H : Hp} {s : Shared} {t it : Addr} (I : Inv X pins σ H s) (e : H it = some (TItO t it)) : s.heap.IsTupleIter it t 0 := (I.hok it _ e).1
section
variable {prog : Program} {w : World} {A : Around} {E : Value → Shared → Prop} {s : Shared} {l : Addr} {items : Array Value}
theorem raw_iterT {Q : Value → Shared → Prop} (hl : s.heap.IsTuple l items) (h : Q (.ref s.heap.objs.size) { s with heap := s.heap.push { cls := .type "tuple_iterator", data := .fields #[.ref l, .int 0 0] } }) : wpAny (model prog w) A (call (.builtin "iter") [.ref l]) Q E s := by
  refine Calls.call_function_entry (by decide +kernel) (by decide +kernel) PySem.W.kdk_entry_iter (PySem.W.kdk_args_iter _) ?_
  unfold Builtin.«iter»
  refine wpAny_bind (m := someArgs "iter" 1 2 _) (wpAny_of_eq (a := [Value.ref l]) (by first | rfl | kernel_rfl!) ?_)
  show wpAny _ _ (pyIter (.ref l) >>= _) _ _ _
  refine wpAny_bind (wpAny_pyIter_tuple hl ?_)
  exact wpAny_pure ⟨_, rfl, h⟩
end
/-- iter(t), t a tuple; n is below it -/
def rIterT (K : PySem.W.Frag) (n : Nat) : List V → Hp → VK → Prop := fun xs H Q => ∃ (l : Addr) (zs : List V), xs = [.ref l] ∧ SqT K H l zs ∧ ∀ it, H it = none → n ≤ it → Q (.ref it) (upd H it (TItO l it))
theorem call_iterT {X : Cx} : CallR X (.builtin "iter") (rIterT X.K X.s_0.heap.objs.size) := by
  intro pins s σ H xs us Q I r h
  obtain ⟨l, zs, rfl, hq, q⟩ := h
  obtain ⟨u, rfl, ru⟩ := vals1 r
  cases ru
  obtain ⟨its, rv, pl, hz⟩ := I.tuple hq
  refine raw_iterT (show s.heap.IsTuple l its.toArray from pl) ?_
  exact ⟨.ref s.heap.objs.size, _, I.laid (t' := s.toks) (fun b u e => Heap.get?_push_of_some _ e) (Nat.le_refl _) (tItO_ok ⟨_, Heap.get?_push_size _ rfl, rfl, rfl⟩), rfl, q _ (I.hok.fresh (Nat.le_refl _)) I.sz⟩
/-- as FnOk, with the number of objects ahead of the call -/
structure FnN (P : Program) (w : World) (K : PySem.W.Frag) (mg : Str → Option Value) (base : Heap) (CX : CXT) (k : Nat) (f : Addr) (fd : FuncData) (ps : List Str) (sp : Nat → Sp) : Prop where
  len : ∀ n vs H Q E, sp n vs H Q E → vs.length = ps.length
  run : ∀ (A : Around) (outer : List Env) (s : Shared) (H : Hp) (args : Args) (us : List Value) (vs : List V) (Q : VK) (E : XK), Room k A → Env0 P w K mg base A outer s H → BindsTo s fd args (ps.zip us) → Vals vs us → sp s.heap.objs.size vs H Q E →
    codeAny (model P w) A (.call (.ref f) args) (CR CX outer P w H s Q E) s
section
variable {P : Program} {w : World} {K : PySem.W.Frag} {mg : Str → Option Value} {base : Heap}
theorem Fun.okN {x qual : Str} {st : Stmt} {f : Addr} {fd : FuncData} {N ps : List Str} {k : Nat} {sp : Nat → Sp} (F : Fun K x qual st f fd) (S : FnScope N ps (defScope st)) (len : ∀ n vs H Q E, sp n vs H Q E → vs.length = ps.length)
    (hbody : ∀ (cdv : Value) (A : Around) (outer : List Env) (s : Shared) (H : Hp) (vs : List V) (Q : VK) (E : XK), Room k (A.deeper (envOfC qual (defScope st) s.heap.objs.size f cdv)) → sp s.heap.objs.size vs H Q E →
      ∃ t, PSs (cxOf CX0 P w K mg base N qual (defScope st) f cdv A outer s H E).nox (defBody st) t ∧ t { nx := fun _ H' => Q .non H', rt := Q } (start N vs) H) : FnN P w K mg base CX0 (k + 1) f fd ps sp := by
  obtain ⟨oc, od, kV, doc, pm, an, cdv, ct, osl, rfl, lk, hcd⟩ := F.ex
  refine ⟨len, fun A outer s H args us vs Q E hr e0 hb r hsp => ?_⟩
  have hl := len _ _ _ _ _ hsp
  have F1 : FnOk P w K mg base CX0 (k + 1) f (PySem.W.fnOf x qual (defArgs st) (defBody st) (defScope st) .none kV doc pm an cdv ct) ps (fun vs' H' Q' E' => False) := fn_of lk hcd S (fun _ _ _ _ z => z.elim) fun _ _ _ _ _ _ _ _ z => z.elim
  have KX : K.In s.heap := e0.mod.kin.keeps fun b o e => (e0.bs b o e).1
  have lim : s.heap.NoLimit := e0.mod.nolimit.keeps fun b o e => (e0.bs b o e).1
  have hkind : ∀ y ∈ ps.zip us, (defScope st).names.lookup y.1 = some .local ∨ ((defScope st).names.lookup y.1 = some .cell ∧ ((cellsFrom (s.heap.objs.size + 1) (defScope st).names []).lookup y.1).isSome = true) := fun ⟨n, v⟩ hy => by
    rcases S.par n (List.of_mem_zip hy).1 with q | q
    · exact .inl q
    · exact .inr ⟨q, PySem.W.cellsFrom_some _ _ _ (.inl q)⟩
  refine codeAny_call_function hr.depth (KX _ _ lk) rfl S.co S.gen rfl (PySem.W.codeRec_of KX hcd) (hb _ _ _ _ ?_)
  refine wpAny_newFunctionEnv_cells S.kind hkind fun env he s1 x => ?_
  subst he
  refine ⟨lim.keeps x.toInCall.keep, codeAny_func ?_⟩
  obtain ⟨t, ht0, hq⟩ := hbody cdv A outer s H vs Q E (hr.deeper _) hsp
  have ht := ht0.nox
  have I : Inv (cxOf CX0 P w K mg base N qual (defScope st) f cdv A outer s H E) [] (start N vs) H s1 := inv_start S hr.hd e0 hl r x
  refine wpAny_mono (ht.run [] s1 (start N vs) H _ I hq) (fun fl s' hs => ?_) fun e s' hs => hs
  have fin : ∀ {σ' : L2.St} {H' : Hp} {v : V} {u : Value}, Inv (cxOf CX0 P w K mg base N qual (defScope st) f cdv A outer s H E) [] σ' H' s' → RelV v u → Q v H' → CE outer P w H s Q u s' :=
    fun {σ' H' v u} J rv q => ⟨v, H', J.os, J.bare, J.base, J.hok, rv, q⟩
  cases fl with
  | ret u =>
    obtain ⟨v, σ', H', J, rv, q⟩ := hs
    exact fin J rv q
  | next =>
    obtain ⟨σ', H', J, q⟩ := hs
    exact fin (v := V.non) (u := Value.none) J rfl q
  | brk =>
    obtain ⟨_, _, _, q⟩ := hs
    exact False.elim q
  | cont =>
    obtain ⟨_, _, _, q⟩ := hs
    exact False.elim q
end
section
variable {X : Cx} {CX : CXT} {k : Nat} {f C : Addr} {fd : FuncData} {ps : List Str} {sp : Nat → Sp} {E : XK}
theorem run_atN {A : Around} (hfr : A.frames = X.A.frames) {pins : List (Addr × Obj)} {σ : L2.St} {H : Hp} {s : Shared} {Q : VK} {us : List Value} {vs : List V} (F : FnN X.prog X.w X.K X.mg X.base CX k f fd ps sp) (hr : Room k A) (hb : Binds X.K fd ps []) (hx : Passes CX X E)
    (I : Inv X pins σ H s) (r : Vals vs us) (h : sp s.heap.objs.size vs H Q E) : wpAny (model X.prog X.w) A (call (.ref f) us) (EP X pins σ Q) X.xe s := by
  have hl : us.length = ps.length := by rw [← r.length]; exact F.len _ _ _ _ _ h
  have b := hb s us I.kIn (by rw [List.append_nil]; exact hl)
  rw [List.append_nil] at b
  have e0 : Env0 X.prog X.w X.K X.mg X.base A X.stack s H := by
    have e := I.env0
    exact ⟨hfr.trans e.frames, e.mod, e.bs, e.bsz, e.funs, e.frf, e.hok, e.bare⟩
  refine wpAny_call (codeAny_mono (F.run A X.stack s H ⟨us, []⟩ us vs Q E hr e0 b r h) fun o s' hq => ?_)
  cases o with
  | error e => exact hx pins σ H s e s' I hq
  | ok fl =>
    cases fl with
    | ret u => exact I.after hq
    | next => exact False.elim hq
    | brk => exact False.elim hq
    | cont => exact False.elim hq
/-- an instance whose __iter__ is iter(t) -/
def iOwn (K : PySem.W.Frag) (C : Addr) (sp : Nat → Sp) (E : XK) (te : TE) : TI := fun σ H R => te σ H fun x H1 => ∃ a dx fs t, x = .ref a ∧ H1 a = some (.ins C dx fs) ∧
  (∀ n, sp n [.ref a] H1 (fun v H2 => ∃ it, n ≤ it ∧ v = .ref it ∧ H1 it = none ∧ H2 = upd H1 it (TItO t it)) E) ∧ R (Itt K t) H1
theorem pi_own {tg l : Expr} {tl : TE} (hl : PE X l tl) (hm : Meth X.K C "__iter__" f) (F : FnN X.prog X.w X.K X.mg X.base CX k f fd ps sp) (hr : Room k X.A) (hb : Binds X.K fd ps []) (hx : Passes CX X E) : PI X tg l (iOwn X.K C sp E tl) := by
  refine ⟨fun pins s σ H R I h => ?_⟩
  refine thn (hl.run pins s σ H _ I h) fun v s1 ⟨x, H1, I1, r1, q1⟩ => ?_
  obtain ⟨a, dx, fs, t, rfl, ha, hsp, q⟩ := q1
  cases r1
  obtain ⟨mA, J, _⟩ := ins_get I1.hok ha
  obtain ⟨od, J, _⟩ := J.look
  obtain ⟨m, hF⟩ := I1.fr
  have rr : Vals [V.ref a] [Value.ref a] := .cons rfl .nil
  refine PySem.W.owit_iter hF I1.ok.mod.kin J hm.at_ hm.fn (wpAny_mono (run_atN (A := X.A) rfl F hr hb hx I1 rr (hsp _)) (fun r s' hq => ?_) fun _ _ z => z)
  obtain ⟨z, H', I', rz, it, hn, rfl, hit, eH⟩ := hq
  cases rz
  have hi : H' it = some (TItO t it) := by rw [eH, upd_same]
  have st := tItO_get I' hi
  have ed : dropH H' it = H1 := by rw [eH]; exact dropH_upd hit
  have Id := inv_drop I' (show H' it = some (.ext _) from hi)
  have fp := inv_fp I' hi (Nat.le_trans I1.sz hn)
  rw [ed] at Id fp
  unfold PySem.W.OwitIt
  refine wpAny_specialOf (name := Str.ofString "__next__") st.typeIs PySem.F.slot_tuple_iterator_next.lookup ?_
  refine ⟨it, [it], _, _, H1, rfl, Id, turn_tuple t it, st, fun b hb => ?_, q⟩
  have e : b = it := by simpa using hb
  rw [e]
  exact fp
end
end Ow

set_option Elab.async false
set_option linter.all false
set_option maxRecDepth 100000
set_option maxHeartbeats 4000000
namespace Ow
open PySem PySem.Spec PyProof.Rows L2
/-! ### own ==, whatever stands to the right; != by it -/
section
variable {prog : Program} {w : World} {A : Around} {E : Value → Shared → Prop} {s : Shared} {K : PySem.W.Frag} {x C L f : Addr} {h₀ : Heap} {m : Str → Option Value} {ox : Obj} {od : Option Obj} {b tb : Value}
theorem cmp_one {op : CmpOp} {Q : Value → Shared → Prop} (hu : A.units < cLine) (X : K.In s.heap) (I : PySem.W.InstAt s.heap x ox C od) (hb : PySem.W.Looks (model prog w) s.heap (typeOf b) tb) (hn : PySem.W.notFirst K C tb = true)
    (one : wpAny (model prog w) A (tryCompare (.ref x) (cmpInfo op).2.1 b) (fun r s' => ∃ v, r = some v ∧ Q v s') E s) : wpAny (model prog w) A (richCompare op (.ref x) b) Q E s := by
  unfold richCompare
  simp only [PySem.oneThing_ref]
  refine wpAny_holding (wpAny_bind (wpAny_cRoomFor hu ?_))
  refine wpAny_bind (I.type.here (wpAny_bind (hb.here ?_)))
  split
  · rename_i q
    have e : PySem.W.subIn K tb (.ref C) = some false := by
      rcases Bool.or_eq_true_iff.mp hn with e | e
      · rw [beq_iff_eq.mp e] at q; simp at q
      · exact beq_iff_eq.mp e
    refine wpAny_bind ((PySem.W.looks_subIn X e).here ?_)
    simp only [Bool.false_eq_true, if_false]
    refine wpAny_bind (wpAny_mono one (fun r s' z => ?_) fun _ _ e => e)
    obtain ⟨v, rfl, hq⟩ := z
    exact wpAny_pure hq
  · refine wpAny_bind (wpAny_pure ?_)
    simp only [Bool.false_eq_true, if_false]
    refine wpAny_bind (wpAny_mono one (fun r s' z => ?_) fun _ _ e => e)
    obtain ⟨v, rfl, hq⟩ := z
    exact wpAny_pure hq
theorem slot_onInst {M : Model} {name : Str} {id : String} {args : List Value} {Q : Option Value → Shared → Prop} (X : K.In s.heap) (I : PySem.W.InstAt s.heap x ox C od) (hs : PySem.W.findIn K (.ref C) name = some (some (.builtin id))) (S : Slot "object" name id)
    (hcall : wpAny M A (call (.builtin id) (.ref x :: args)) (fun v => Q (some v)) E s) : wpAny M A (callSpecialIfBound? (.ref x) name args) Q E s := by
  simp only [callSpecialIfBound?, bindSpecialIfBound?]
  refine wpAny_holding (wpAny_bind (wpAny_bind (wpAny_bind (I.type.here ((PySem.W.looks_findIn X hs).here ?_)))))
  refine wpAny_bind (wpAny_askSetting (wpAny_ite ?_))
  have fin : wpAny M A (call (.builtin id) ([.ref x] ++ args) >>= fun v => pure (some v)) Q E s :=
    wpAny_bind (wpAny_mono hcall (fun v s' h' => wpAny_pure h') fun _ _ h' => h')
  simp only [S.bind]
  split
  · exact wpAny_bind (wpAny_pure (wpAny_pure fin))
  · exact wpAny_tryCatch (wpAny_bind (wpAny_pure (wpAny_pure fin)))
theorem check_onInst {M : Model} {id owner n : String} {rest : List Value} {Q : Unit → Shared → Prop} (hk : builtinKind id = some .slot) (hs : splitId id = some (owner, n)) (ha : argsOk id ⟨.ref x :: rest, []⟩)
    (X : K.In s.heap) (I : PySem.W.InstAt s.heap x ox C od) (hob : PySem.W.subIn K (.ref C) (.type owner) = some true) (hq : Q () s) : wpAny M A (checkBuiltinCall id ⟨.ref x :: rest, []⟩) Q E s := by
  simp only [checkBuiltinCall, hk, hs]
  refine wpAny_bind ?_
  unfold isInstance
  refine wpAny_bind (I.type.here ((PySem.W.looks_subIn X hob).here ?_))
  simp only [Bool.not_true, Bool.false_eq_true, if_false]
  cases hsig : Manifest.signature? id with
  | none => exact wpAny_pure hq
  | some sig =>
    simp only [argsOk, hsig] at ha
    have h2 : Bind.checkArgs id sig ⟨.ref x :: rest, []⟩ = pure () := ha
    show wpAny M A (Bind.checkArgs id sig ⟨.ref x :: rest, []⟩) Q E _
    rw [h2]; exact wpAny_pure hq
/-- object.__ne__, over an own __eq__ -/
theorem ne_entry {Q : Value → Shared → Prop} (hu : A.in1.units < cLine) (X : K.In s.heap) (I : PySem.W.InstAt s.heap x ox C od) (hs : PySem.W.findIn K (.ref C) "__eq__" = some (some (.ref f))) (hf : PySem.W.isFn K (.ref f) = true)
    (hn : PySem.W.findIn K (.ref C) "__ne__" = some (some (.builtin "object.__ne__"))) (hob : PySem.W.subIn K (.ref C) (.type "object") = some true)
    (h : wpAny (model prog w) A.in1 (call (.ref f) [.ref x, b]) (fun v s' => ∃ r : Bool, v = .bool r ∧ Q (.bool (!r)) s') E s) :
    wpAny (model prog w) A (tryCompare (.ref x) "__ne__" b) (fun r s' => ∃ v, r = some v ∧ Q v s') E s := by
  unfold tryCompare
  refine wpAny_bind (slot_onInst X I hn PySem.F.cmp_object.ne (wpAny_call (codeAny_call_builtin PySem.F.cmp_object.ne.plain PySem.F.cmpEntry_ne (check_onInst PySem.F.cmpKind_ne PySem.F.cmpSplit_ne (PySem.F.cmpArgs_ne _ _) X I hob ?_))))
  unfold Builtin.«object.__ne__»
  refine wpAny_bind (wpAny_of_eq (a := (Value.ref x, [b])) (by first | rfl | kernel_rfl!) ?_)
  dsimp only
  refine wpAny_bind (wpAny_cRoomFor hu ?_)
  refine wpAny_bind (PySem.W.ifBound_K X I hs hf (wpAny_mono h (fun v s' hv => ?_) fun _ _ e => e))
  obtain ⟨r, rfl, hq⟩ := hv
  dsimp only
  refine wpAny_bind (wpAny_truthy_bool ?_)
  exact wpAny_pure (wpAny_pure ⟨_, rfl, hq⟩)
end
section
variable {X : Cx} {CX : CXT} {k : Nat} {f C : Addr} {fd : FuncData} {ps : List Str} {sp : Sp} {E : XK}
/-- o == y, o != y: y no instance of a class below -/
def rEqO (K : PySem.W.Frag) (C : Addr) (sp : Sp) (E : XK) (neg : Bool) : R2 := fun x y H Q => ∃ a dx fs t, x = .ref a ∧ H a = some (.ins C dx fs) ∧ TyX K H y t ∧ PySem.W.notFirst K C t = true ∧
  sp [.ref a, y] H (fun v H' => ∃ b : Bool, v = .bl b ∧ Q (.bl (if neg then !b else b)) H') E
theorem op_eqO (hm : Meth X.K C "__eq__" f) (F : FnOk X.prog X.w X.K X.mg X.base CX k f fd ps sp) (hr : Room k X.A) (hb : Binds X.K fd ps []) (hx : Passes CX X E) : OpR X (compareOp .Eq) (rEqO X.K C sp E false) := by
  intro pins s σ H x y v u Q I rx ry h
  obtain ⟨a, dx, fs, t, rfl, ha, ty, hn, q⟩ := h
  cases rx
  obtain ⟨mA, J, _⟩ := ins_get I.hok ha
  obtain ⟨od, J, _⟩ := J.look
  obtain ⟨m, hF⟩ := I.fr
  obtain ⟨PP, Z, hp, _⟩ := kit_of I ry ty
  have rr : Vals [V.ref a, y] [Value.ref a, u] := .cons rfl (.cons ry .nil)
  refine PySem.W.cmp_K (op := .Eq) hr.units0 hF I.ok.mod.kin J (Z.ty _ _ I.kIn hp) hn hm.at_ hm.fn (wpAny_mono (run_at (A := X.A) rfl F hr hb hx I rr q) (fun r s' hq => ?_) fun _ _ z => z)
  obtain ⟨z, H', I', rz, b, rfl, q'⟩ := hq
  cases rz
  exact ⟨.bl b, H', I', rfl, q'⟩
theorem op_neO (hm : Meth X.K C "__eq__" f) (hne : PySem.W.findIn X.K (.ref C) "__ne__" = some (some (.builtin "object.__ne__"))) (hob : PySem.W.subIn X.K (.ref C) (.type "object") = some true)
    (F : FnOk X.prog X.w X.K X.mg X.base CX k f fd ps sp) (hr : Room (k + 1) X.A) (hb : Binds X.K fd ps []) (hx : Passes CX X E) : OpR X (compareOp .NotEq) (rEqO X.K C sp E true) := by
  intro pins s σ H x y v u Q I rx ry h
  obtain ⟨a, dx, fs, t, rfl, ha, ty, hn, q⟩ := h
  cases rx
  obtain ⟨mA, J, _⟩ := ins_get I.hok ha
  obtain ⟨od, J, _⟩ := J.look
  obtain ⟨PP, Z, hp, _⟩ := kit_of I ry ty
  have rr : Vals [V.ref a, y] [Value.ref a, u] := .cons rfl (.cons ry .nil)
  show wpAny _ _ (richCompare .NotEq (.ref a) u) _ _ s
  refine cmp_one (op := .NotEq) hr.units0 I.kIn J (Z.ty _ _ I.kIn hp) hn ?_
  refine ne_entry hr.in1.units0 I.kIn J hm.at_ hm.fn hne hob (wpAny_mono (run_at (A := X.A.in1) rfl F hr.in1 hb hx I rr q) (fun r s' hq => ?_) fun _ _ z => z)
  obtain ⟨z, H', I', rz, b, rfl, q'⟩ := hq
  cases rz
  exact ⟨b, rfl, .bl (!b), H', I', rfl, q'⟩
end
end Ow

set_option Elab.async false
set_option linter.all false
set_option maxRecDepth 100000
set_option maxHeartbeats 4000000
namespace Ow
open PySem PySem.Spec PyProof.Rows L2
/-- what isinstance and the comparisons ask of the class -/
def kinds : List String := ["NoneType", "int", "str", "tuple", "list"]
structure RuleI (K : PySem.W.Frag) (C : Addr) : Prop where
  ha : PySem.W.findIn K (.ref C) "__class__" = some (some (.builtin "object.__class__"))
  hn : PySem.W.specialIn K (.builtin "object.__class__") "__get__" = some (some (.builtin "getset_descriptor.__get__"))
  htk : PySem.W.takesIn K (.builtin "object.__class__") = some true
  hm : PySem.W.mroIn K C (.type "object") = some true
  own : PySem.W.kitOne K (.ref C) (.ref C) = some true
  non : ∀ T ∈ kinds, PySem.W.kitOne K (.type T) (.ref C) = some false ∧ PySem.W.notFirst K C (.type T) = true
theorem RuleI.ty {K : PySem.W.Frag} {C : Addr} {H : Hp} {a dx : Addr} {fs : List (Str × V)} (R : RuleI K C) (cl : Cls K C) (h : H a = some (.ins C dx fs)) : TyX K H (.ref a) (.ref C) := .base (.ins h cl R.ha R.hn R.htk R.hm)
theorem notFirst_self {K : PySem.W.Frag} {C : Addr} : PySem.W.notFirst K C (.ref C) = true := by
  unfold PySem.W.notFirst
  simp
/-- what != asks of the class -/
structure NeOf (K : PySem.W.Frag) (C : Addr) : Prop where
  ne : PySem.W.findIn K (.ref C) "__ne__" = some (some (.builtin "object.__ne__"))
  ob : PySem.W.subIn K (.ref C) (.type "object") = some true
end Ow

set_option Elab.async false
set_option linter.all false
set_option maxRecDepth 100000
set_option maxHeartbeats 4000000
namespace Ow
open PySem PySem.Spec PyProof.Rows L2
/-- the inner walk of a comprehension of two clauses, a test on the inner one -/
def InnerT (tt1 : TT) (te : TE) (g1 : TG) (vs1 : List Nat) (D : Addr) (After : Hp → Prop) (σ2 : L2.St) (J1 : It) (H4 : Hp) : Prop :=
  ∃ (n1 : Nat) (G1 : Hp → Prop) (Y1 : Nat → Hp → V → Hp → Prop) (Pv1 : Nat → Hp → Prop), Walk J1 n1 G1 Y1 ∧ Pv1 0 H4 ∧ (∀ j H, j ≤ n1 → Pv1 j H → G1 H) ∧ (∀ H, Pv1 n1 H → After H) ∧
    ∀ j x H H', j < n1 → Pv1 j H → Y1 j H x H' → g1 x (wipe σ2 vs1) H' fun σ3 H5 => wipe σ3 vs1 = wipe σ2 vs1 ∧ tt1 σ3 H5 fun b H6 => if b = true then te σ3 H6 fun y H7 => ∃ acc, H7 D = some (.lst acc) ∧ acc.length < sizeLine ∧ Pv1 (j + 1) (upd H7 D (.lst (acc ++ [y]))) else Pv1 (j + 1) H6
theorem lc2_itT {J : It} {n : Nat} {G : Hp → Prop} {Y : Nat → Hp → V → Hp → Prop} (w : Walk J n G Y) {g g1 : TG} {wi1 : TI} {tt1 : TT} {te : TE} {vs vs1 : List Nat} {σ : L2.St} {H1 : Hp} {D : Addr} {Qd : Hp → Prop} (Pv : Nat → Hp → Prop)
    (h0 : Pv 0 (upd H1 D (.lst []))) (hG : ∀ i H, i ≤ n → Pv i H → G H)
    (hs : ∀ i x H H' (Kg : L2.St → Hp → Prop), i < n → Pv i H → Y i H x H' → (∀ σ2 H2, wipe σ2 vs = wipe σ vs → (∀ Ki : It → Hp → Prop, (∀ J1 H4, InnerT tt1 te g1 vs1 D (Pv (i + 1)) σ2 J1 H4 → Ki J1 H4) → wi1 σ2 H2 Ki) → Kg σ2 H2) → g x (wipe σ vs) H' Kg)
    (hd : ∀ H, Pv n H → Qd H) :
    ∃ W : Nat → Nat → Hp → Prop, (∃ m, W 0 m (upd H1 D (.lst []))) ∧ ∀ i m H, W i m H →
      (J.stop i H ∧ Qd H) ∨ (J.go i H ∧ ∃ Nx : Hp → Prop, (∀ H', Nx H' → ∃ m', m' < m ∧ W (i + 1) m' H') ∧ ∀ x H', J.yld i H x H' → g x (wipe σ vs) H' fun σ2 H2 => wipe σ2 vs = wipe σ vs ∧ tYes σ2 H2 fun b H3 =>
        if b = true then wi1 σ2 H3 fun J1 H4 => ∃ W1 : Nat → Nat → Hp → Prop, (∃ m, W1 0 m H4) ∧ ∀ j k H, W1 j k H →
          (J1.stop j H ∧ Nx H) ∨ (J1.go j H ∧ ∃ Nx1 : Hp → Prop, (∀ H', Nx1 H' → ∃ k', k' < k ∧ W1 (j + 1) k' H') ∧ ∀ x H', J1.yld j H x H' → g1 x (wipe σ2 vs1) H' fun σ3 H5 => wipe σ3 vs1 = wipe σ2 vs1 ∧ tt1 σ3 H5 fun b H6 =>
            if b = true then te σ3 H6 fun y H7 => ∃ acc, H7 D = some (.lst acc) ∧ acc.length < sizeLine ∧ Nx1 (upd H7 D (.lst (acc ++ [y]))) else Nx1 H6)
        else Nx H3) := by
  refine ⟨fun i m H => m = n - i ∧ i ≤ n ∧ Pv i H, ⟨n, by simp, Nat.zero_le _, h0⟩, ?_⟩
  rintro i m H ⟨rfl, hi, p⟩
  have q := hG i H hi p
  by_cases hlt : i < n
  · refine .inr ⟨w.goes i H hlt q, Pv (i + 1), fun H' p' => ⟨n - (i + 1), by omega, rfl, hlt, p'⟩, fun x H' y => hs i x H H' _ hlt p (w.yields i H x H' hlt q y) fun σ2 H2 hw hwi => ⟨hw, ?_⟩⟩
    refine hwi _ fun J1 H4 hin => ?_
    obtain ⟨n1, G1, Y1, Pv1, w1, s1, g1', a1, t1⟩ := hin
    refine ⟨fun j k H => k = n1 - j ∧ j ≤ n1 ∧ Pv1 j H, ⟨n1, by simp, Nat.zero_le _, s1⟩, ?_⟩
    rintro j k H ⟨rfl, hj, p1⟩
    have q1 := g1' j H hj p1
    by_cases hl1 : j < n1
    · exact .inr ⟨w1.goes j H hl1 q1, Pv1 (j + 1), fun H' p' => ⟨n1 - (j + 1), by omega, rfl, hl1, p'⟩, fun x H' y => t1 j x H H' hl1 p1 (w1.yields j H x H' hl1 q1 y)⟩
    · have e : j = n1 := by omega
      subst e
      exact .inl ⟨w1.stops H q1, a1 H p1⟩
  · have e : i = n := by omega
    subst e
    exact .inl ⟨w.stops H q, hd H p⟩
end Ow

set_option Elab.async false
set_option linter.all false
set_option maxRecDepth 100000
set_option maxHeartbeats 4000000
set_option exponentiation.threshold 3000
set_option pp.maxSteps 900
set_option pp.deepTerms false
namespace Ow
open PySem PySem.Spec PyProof.Rows L2
/-- a property's getter -/
structure AgP (P : Program) (w : World) (K : PySem.W.Frag) (mg : Str → Option Value) (base : Heap) (C : Addr) (nm fld : Str) (p g : Addr) (gd : FuncData) : Prop where
  hp : PropOf K C nm p g
  F : FnOk P w K mg base CX0 1 g gd ["self"] (getSp C fld)
  b : Binds K gd ["self"] []
theorem scIsAnswer : FnScope ["value"] ["value"] (defScope dIsAnswer) := ⟨rfl, rfl, rfl, by decide +kernel, rfl, by decide +kernel, by decide +kernel⟩
theorem scContr : FnScope ["answer"] ["answer"] (defScope dContrary) := ⟨rfl, rfl, rfl, by decide +kernel, rfl, by decide +kernel, by decide +kernel⟩
theorem scAgAns : FnScope ["self", "issue", "value"] ["self"] (defScope dAgAnswers) := ⟨rfl, rfl, rfl, by decide +kernel, rfl, by decide +kernel, by decide +kernel⟩
theorem scAgGet : FnScope ["self", "issue", "at", "name"] ["self", "issue"] (defScope dAgGetitem) := ⟨rfl, rfl, rfl, by decide +kernel, rfl, by decide +kernel, by decide +kernel⟩
theorem scAgCont : FnScope ["self", "value"] ["self", "value"] (defScope dAgContains) := ⟨rfl, rfl, rfl, by decide +kernel, rfl, by decide +kernel, by decide +kernel⟩
theorem scAgEq : FnScope ["self", "other"] ["self", "other"] (defScope dAgEq) := ⟨rfl, rfl, rfl, by decide +kernel, rfl, by decide +kernel, by decide +kernel⟩
theorem scAgStr : FnScope ["self"] ["self"] (defScope dAgStr) := ⟨rfl, rfl, rfl, by decide +kernel, rfl, by decide +kernel, by decide +kernel⟩
theorem scAgIter : FnScope ["self"] ["self"] (defScope dAgIter) := ⟨rfl, rfl, rfl, by decide +kernel, rfl, by decide +kernel, by decide +kernel⟩
/-! answers -/
def NameOk (z : Str) : Prop := scOk (.str z) ∧ nameB (.str z) = true
def AnsOk (a : Str × Int) : Prop := NameOk a.1 ∧ (a.2 = 0 ∨ a.2 = 1)
def barA (c : Str × Int) : Str × Int := (c.1, 1 - c.2)
def answersN (zs : List Str) : PK := zs.flatMap fun z => [(z, 0), (z, 1)]
theorem answers_next {zs : List Str} {i : Nat} {z : Str} (h : zs[i]? = some z) : answersN (zs.take (i + 1)) = answersN (zs.take i) ++ [(z, 0), (z, 1)] := by
  unfold answersN
  rw [List.take_add_one, h, List.flatMap_append]
  simp
theorem answers_len : ∀ zs : List Str, (answersN zs).length = 2 * zs.length
  | [] => rfl
  | z :: zs => by
    show ((([(z, 0), (z, 1)] : PK) ++ answersN zs)).length = 2 * (zs.length + 1)
    rw [List.length_append, answers_len zs]
    show 2 + _ = _
    omega
theorem mem_answers {zs : List Str} {a : Str × Int} (h : a ∈ answersN zs) : a.1 ∈ zs ∧ (a.2 = 0 ∨ a.2 = 1) := by
  obtain ⟨z, hz, m⟩ := List.mem_flatMap.mp h
  simp only [List.mem_cons, List.not_mem_nil, or_false] at m
  rcases m with rfl | rfl
  · exact ⟨hz, .inl rfl⟩
  · exact ⟨hz, .inr rfl⟩
theorem name_scA {z : Str} (h : nameB (.str z) = true) : scOk (.str z) := name_plain (zs := [z]) (fun y hy => by rw [List.mem_singleton.mp hy]; exact h) z List.mem_cons_self
def spAns : Sp := fun vs H Q _ => ∃ (a : Addr) (c : Str × Int), vs = [.ref a] ∧ AnsT H (.ref a) c ∧ AnsOk c ∧ ∀ H', Same H H' → Q (.bl true) H'
def spContr : Sp := fun vs H Q _ => ∃ (a : Addr) (c : Str × Int), vs = [.ref a] ∧ AnsT H (.ref a) c ∧ AnsOk c ∧ ∀ H' v, Same H H' → AnsT H' v (barA c) → Q v H'
def spAgAns (C : Addr) : Sp := fun vs H Q _ => ∃ (a : Addr) (zs : List Str) (rs : List (List Int)), vs = [.ref a] ∧ AgAt C H a zs rs ∧ zs.length ≤ 6 ∧ ∀ H' p, Same H H' → PartT H' (.ref p) (answersN zs) → Q (.ref p) H'
def spAgGet (C : Addr) : Sp := fun vs H Q _ => ∃ (a : Addr) (zs : List Str) (rs : List (List Int)) (i : Nat) (z : Str), vs = [.ref a, .str z] ∧ AgAt C H a zs rs ∧ zs.Nodup ∧ zs[i]? = some z ∧ ∀ H', Same H H' → Q (.int i) H'
def spAgCont (C : Addr) : Sp := fun vs H Q _ => ∃ (a : Addr) (x : V) (zs : List Str) (rs : List (List Int)), vs = [.ref a, x] ∧ AgAt C H a zs rs ∧
  ((∃ J, Vl J H x ∧ rowB H x = false ∧ ∀ H', Same H H' → Q (.bl false) H') ∨ ∃ r, IsRow H x r ∧ bitsB r = true ∧ r.length ≤ 60 ∧ ∀ H', Same H H' → Q (.bl (decide (r ∈ rs))) H')
def kinds6 : List String := ["NoneType", "int", "str", "tuple", "list", "dict"]
def spAgEq (K : PySem.W.Frag) (C : Addr) : Sp := fun vs H Q _ => ∃ (a : Addr) (y : V) (zs : List Str) (rs : List (List Int)), vs = [.ref a, y] ∧ AgAt C H a zs rs ∧ Plain zs ∧
  ((∃ T ∈ kinds6, TyX K H y (.type T) ∧ Q (.bl false) H) ∨ ∃ (b : Addr) (us : List Str) (ws : List (List Int)), y = .ref b ∧ AgAt C H b us ws ∧ Plain us ∧ Q (.bl (decide (zs = us) && decide (rs = ws))) H)
def ag1 (n : Nat) : Str := (Str.empty ++ ("agenda of " : Str)) ++ (toString (n : Int) : Str)
def ag2 (n : Nat) : Str := ag1 n ++ (" issues, " : Str)
def ag3 (n m : Nat) : Str := ag2 n ++ (toString (m : Int) : Str)
def agStr (n m : Nat) : Str := ag3 n m ++ (" rows" : Str)
theorem ag_len : ∀ n < 7, ∀ m < 65, (ag1 n).length ≤ 100 ∧ (ag2 n).length ≤ 100 ∧ (ag3 n m).length ≤ 100 ∧ (agStr n m).length ≤ 100 := by decide +kernel
def spAgStr (C : Addr) : Sp := fun vs H Q _ => ∃ (a : Addr) (zs : List Str) (rs : List (List Int)), vs = [.ref a] ∧ AgAt C H a zs rs ∧ zs.length ≤ 6 ∧ rs.length ≤ 64 ∧ Q (.str (agStr zs.length rs.length)) H
def spIterA (C : Addr) : Nat → Sp := fun n vs H Q _ => ∃ (a dx t u : Addr) (xs : List V), vs = [.ref a] ∧ H a = some (.ins C dx (agF t u)) ∧ H u = some (.tup xs) ∧ ∀ it, H it = none → n ≤ it → Q (.ref it) (upd H it (TItO u it))
theorem in_rowsA (rs : List (List Int)) (r : List Int) : ((rs.map rowD).any fun z => PyData.eqv z (rowD r)) = decide (r ∈ rs) := by
  rw [List.any_map, Bool.eq_iff_iff, List.any_eq_true, decide_eq_true_iff]
  constructor
  · rintro ⟨d, hd, e⟩
    have e : PyData.eqv (rowD d) (rowD r) = true := e
    rw [eqv_row] at e
    exact of_decide_eq_true e ▸ hd
  · intro h
    exact ⟨r, h, (eqv_row r r).trans (decide_eq_true rfl)⟩
theorem row_vl {H : Hp} {b : Addr} {r : List Int} (h : H b = some (.tup (r.map V.int))) (hb : bitsB r = true) (l : r.length ≤ 60) : Vl (b + 1) H (.ref b) := by
  refine .inr ⟨b, rfl, Nat.ne_of_lt (Nat.lt_succ_self b), .inl ⟨_, h, by rw [List.length_map]; exact l, fun x hx => ?_⟩⟩
  obtain ⟨i, hi, rfl⟩ := List.mem_map.mp hx
  refine .inl (show i.natAbs < 2 ^ 400 from ?_)
  have := bits_all hb i hi
  exact Nat.lt_of_le_of_lt (show i.natAbs ≤ 1 by omega) (by decide)
theorem dp_strsA {K : PySem.W.Frag} {H : Hp} : ∀ zs : List Str, DpAll K H (zs.map V.str) (zs.map .str)
  | [] => .nil
  | z :: zs => .cons (.str z) (dp_strsA zs)
theorem eqv_strsD : ∀ zs us : List Str, PyData.eqvAll (zs.map .str) (us.map .str) = decide (zs = us)
  | [], [] => rfl
  | [], _ :: _ => rfl
  | _ :: _, [] => rfl
  | z :: zs, u :: us => by
    show ((z == u) && PyData.eqvAll (zs.map .str) (us.map .str)) = _
    rw [eqv_strsD zs us, Bool.eq_iff_iff]
    simp
theorem lay_strsA : ∀ zs : List Str, (∀ z ∈ zs, PyData.strOk z = true) → PyData.canLayAll0 (zs.map .str) = true
  | [], _ => rfl
  | z :: zs, h => by
    show (PyData.strOk z && PyData.canLayAll0 (zs.map .str)) = true
    rw [lay_strsA zs fun y hy => h y (List.mem_cons_of_mem _ hy), h z List.mem_cons_self]
    rfl
theorem depth_strsA : ∀ zs : List Str, PyData.depthAll (zs.map .str) = 0
  | [] => rfl
  | z :: zs => by
    show max 0 (PyData.depthAll (zs.map .str)) = 0
    rw [depth_strsA zs]
    rfl
theorem strOk_ofA {z : Str} (h : scOk (.str z)) : PyData.strOk z = true := by
  unfold PyData.strOk
  rw [Array.all_eq_true_iff_forall_mem]
  intro x m
  have := h.2 x (Array.mem_toList_iff.mpr m)
  exact decide_eq_true (by omega)
theorem shaped_strsA {zs : List Str} (p : Plain zs) : SeqAt.shaped (.tuple (zs.map .str)) = true := by
  unfold SeqAt.shaped
  have h1 : PyData.canLay0 (.tuple (zs.map .str)) = true := lay_strsA zs fun z hz => strOk_ofA (p z hz)
  have h2 : PyData.depth (.tuple (zs.map .str)) = 1 := by
    show PyData.depthAll (zs.map .str) + 1 = 1
    rw [depth_strsA]
  rw [h1, h2]
  rfl
section
variable {P : Program} {w : World} {K : PySem.W.Frag} {mg : Str → Option Value} {base : Heap} {C : Addr}
theorem ok_isanswer {f fN fV : Addr} {fd fdN fdV : FuncData} (F : Fun K "is_answer" "is_answer" dIsAnswer f fd) (FN : FnOk P w K mg base CX0 1 fN fdN ["value"] (spB fun _ => nameB)) (kN : PySem.W.keepIn K (.ref fN) = true) (bN : Binds K fdN ["value"] []) (gN : mg "is_name" = some (.ref fN))
    (FV : FnOk P w K mg base CX0 2 fV fdV ["value"] (spB fun _ => bitB)) (kV : PySem.W.keepIn K (.ref fV) = true) (bV : Binds K fdV ["value"] []) (gV : mg "is_value" = some (.ref fV))
    (mi : mg "isinstance" = none) (mt : mg "tuple" = none) (ml : mg "len" = none) : FnOk P w K mg base CX0 3 f fd ["value"] spAns := by
  refine F.ok scIsAnswer (fun vs H Q E h => ?_) (fun cdv A outer s H vs Q E hr h => ?_)
  · obtain ⟨a, c, rfl, _⟩ := h
    rfl
  obtain ⟨a, c, rfl, hc, co, q⟩ := h
  obtain ⟨a', e, ha⟩ := id hc
  cases e
  refine ⟨_, pss_one (ps_ret (pe_and (pe_isi (T := "tuple") (by rfl) mi (pv 0) (by rfl) mt boot_tup)
    (pe_and (pe_cmpR op_eq (pe_callB call_len_seq (by rfl) ml PySem.boot_len (pa_cons (pv 0) pa_nil)) pe_int (nomark _))
    (pe_and (pe_call FN (hr.mono (by decide)) (by rfl) gN kN bN .nil pass0 (pa_cons (pe_ix ix_tup (pv 0) pe_int (fun _ _ => rfl)) pa_nil))
      (pe_one (pe_call FV (hr.mono (by decide)) (by rfl) gV kV bV .nil pass0 (pa_cons (pe_ix ix_tup (pv 0) pe_int (fun _ _ => rfl)) pa_nil))))))), ?_⟩
  refine isi_at "tuple" rfl (.base (.tup ha)) (b := true) (by decide +kernel) ⟨true, rfl, iteT ?_⟩
  refine ⟨.ref a, rfl, a, _, rfl, .inr (.of ha), rfl, _, rfl, iteT ?_⟩
  refine ⟨.ref a, rfl, a, _, 0, .str c.1, rfl, rfl, .of ha, rfl, .str c.1, 0, rfl, .inl co.1.1, fun H1 s1 => ⟨true, congrArg V.bl co.1.2, iteT ?_⟩⟩
  have hb : bitB (.int c.2) = true := by
    rcases co.2 with e | e <;> rw [e] <;> decide
  refine ⟨.ref a, rfl, a, _, 1, .int c.2, rfl, rfl, .of (s1 _ _ ha), rfl, .int c.2, 0, rfl, .inl ?_, fun H2 s2 => ?_⟩
  · show c.2.natAbs < 2 ^ 400
    have := co.2
    exact Nat.lt_of_le_of_lt (show c.2.natAbs ≤ 1 by omega) (by decide)
  show Q (.bl (bitB (.int c.2))) H2
  rw [hb]
  exact q H2 (s1.trans s2)
theorem ok_contrary {f fA : Addr} {fd fdA : FuncData} (F : Fun K "contrary" "contrary" dContrary f fd)
    (FA : FnOk P w K mg base CX0 3 fA fdA ["value"] spAns) (kA : PySem.W.keepIn K (.ref fA) = true) (bA : Binds K fdA ["value"] []) (gA : mg "is_answer" = some (.ref fA)) : FnOk P w K mg base CX0 4 f fd ["answer"] spContr := by
  refine F.ok scContr (fun vs H Q E h => ?_) (fun cdv A outer s H vs Q E hr h => ?_)
  · obtain ⟨a, c, rfl, _⟩ := h
    rfl
  obtain ⟨a, c, rfl, hc, co, q⟩ := h
  obtain ⟨a', e, ha⟩ := id hc
  cases e
  refine ⟨_, pss_cons (ps_if (pt_not (pt_val (pe_call FA (hr.mono (by decide)) (by rfl) gA kA bA .nil pass0 (pa_cons (pv 0) pa_nil)))) (pss_one ps_never) pss_nil)
    (pss_one (ps_ret (pe_tup (pa_cons (pe_ix ix_tup (pv 0) pe_int (fun _ _ => rfl)) (pa_cons (pe_op op_sub pe_int (pe_ix ix_tup (pv 0) pe_int (fun _ _ => rfl))) pa_nil))))), ?_⟩
  refine ⟨.ref a, rfl, a, c, rfl, hc, co, fun H1 s1 => ⟨true, rfl, iteF ?_⟩⟩
  refine ⟨.ref a, rfl, a, _, 0, .str c.1, rfl, rfl, .of (s1 _ _ ha), rfl, .ref a, rfl, a, _, 1, .int c.2, rfl, rfl, .of (s1 _ _ ha), rfl, _, _, rfl, rfl, (by show 2 ≤ sizeLine; decide), fun T nT => ?_⟩
  have sT := same_new (o := .tup [.str c.1, .int (1 - c.2)]) nT
  exact q _ _ (s1.trans sT) ⟨T, rfl, upd_same⟩
theorem ok_agget {f : Addr} {fd : FuncData} (R : AgC K C) (F : Fun K "__getitem__" "Agenda.__getitem__" dAgGetitem f fd) (me : mg "enumerate" = none) : FnOk P w K mg base CX0 1 f fd ["self", "issue"] (spAgGet C) := by
  refine F.ok scAgGet (fun vs H Q E h => ?_) (fun cdv A outer s H vs Q E hr h => ?_)
  · obtain ⟨a, zs, rs, i, z, rfl, _⟩ := h
    rfl
  obtain ⟨a, zs, rs, i, z, rfl, hA, nd, hz, q⟩ := h
  obtain ⟨dx, t, u, ha, ht, hu⟩ := id hA
  refine ⟨_, (pss_cons (ps_for PassesOwn.never rfl (pi_enumT (by rfl) me (pa_cons (pe_fld (pv 0) rfl) pa_nil)) (pg_tup rfl (pgs_cons (pg_name (i := 2) scAgGet.nd rfl (.inl rfl)) (pgs_cons (pg_name (i := 3) scAgGet.nd rfl (.inl rfl)) pgs_nil)))
      (pss_one (ps_if (pt_cmpR op_eq (pv 3) (pv 1) (nomark _)) (pss_one (ps_ret (pv 2))) pss_nil)))
    (pss_one ps_never)), ?_⟩
  refine ⟨.ref a, rfl, a, C, dx, _, .ref t, rfl, ha, R.cl, R.nI, rfl, t, zs.map V.str, rfl, .inl ht, ?_⟩
  refine for_it (walk_enumT (K := K) (a := t) (xs := zs.map V.str)) (fun j σ Hx => ∃ y2 y3, σ = [some (.ref a), some (.str z), y2, y3] ∧ Same H Hx ∧ j ≤ i)
    ⟨none, none, rfl, Same.refl _, Nat.zero_le _⟩ (fun j σ Hx _ hP => ?_) (fun j x σ Hx Hx' hj hP hY => ?_) (fun σ Hx hP => ?_)
  · obtain ⟨_, _, _, sx, _⟩ := hP
    exact .inl (ht.tkT (Tk.same sx))
  · obtain ⟨y2, y3, rfl, sx, le⟩ := hP
    obtain ⟨T, x1, y1, rfl, nT, rfl, hx1, hy1⟩ := hY
    rw [List.length_map] at hj
    have hx1 : some (V.int (j : Nat)) = some x1 := hx1
    cases hx1
    have hy1 : (zs.map V.str)[j]? = some y1 := hy1
    obtain ⟨y, hy⟩ : ∃ y, zs[j]? = some y := ⟨zs[j], List.getElem?_eq_getElem hj⟩
    rw [List.getElem?_map, hy] at hy1
    cases hy1
    have sT := same_new (o := .tup [.int (j : Nat), .str y]) nT
    refine ⟨T, [.int (j : Nat), .str y], rfl, .of upd_same, rfl, _, _, rfl, _, _, rfl, rfl, ?_⟩
    refine ⟨.str y, rfl, .str z, rfl, rfl, _, rfl, ?_⟩
    by_cases e : y = z
    · have ij : j = i := by
        exact (List.getElem?_inj hj nd).mp (by rw [hy, hz, e])
      subst ij
      rw [decide_eq_true (congrArg V.str e)]
      exact iteT ⟨.int (j : Nat), rfl, q _ (sx.trans sT)⟩
    · rw [decide_eq_false fun q => e (V.str.inj q)]
      refine iteF ⟨_, _, rfl, sx.trans sT, ?_⟩
      have : j ≠ i := fun ij => by
        rw [ij, hz] at hy
        exact e (Option.some.inj hy).symm
      omega
  · obtain ⟨_, _, _, sx, le⟩ := hP
    have := (List.getElem?_eq_some_iff.mp hz).1
    rw [List.length_map] at le
    omega
theorem ok_agcont {f fV : Addr} {fd fdV : FuncData} (R : AgC K C) (F : Fun K "__contains__" "Agenda.__contains__" dAgContains f fd)
    (FV : FnOk P w K mg base CX0 3 fV fdV ["value"] (spB rowB)) (kV : PySem.W.keepIn K (.ref fV) = true) (bV : Binds K fdV ["value"] []) (gV : mg "is_values" = some (.ref fV)) : FnOk P w K mg base CX0 4 f fd ["self", "value"] (spAgCont C) := by
  refine F.ok scAgCont (fun vs H Q E h => ?_) (fun cdv A outer s H vs Q E hr h => ?_)
  · obtain ⟨a, x, zs, rs, rfl, _⟩ := h
    rfl
  obtain ⟨a, x, zs, rs, rfl, ⟨dx, t, u, ha1, ha2, ha3⟩, q⟩ := h
  have hu65 : (A.deeper (envOfC "Agenda.__contains__" (defScope dAgContains) s.heap.objs.size f cdv)).units + 65 < cLine := by
    have := hr.un
    omega
  refine ⟨_, pss_one (ps_ret (pe_and (pe_call FV hr (by rfl) gV kV bV .nil pass0 (pa_cons (pv 1) pa_nil)) (pe_one (pe_cmpR (op_inT hu65) (pv 1) (pe_fld (pv 0) rfl) (by rfl))))), ?_⟩
  rcases q with ⟨J, vl, no, q⟩ | ⟨r, ⟨b, rfl, hb⟩, br, lr, q⟩
  · refine ⟨x, rfl, x, J, rfl, vl, fun H1 s1 => ⟨_, rfl, ?_⟩⟩
    rw [no]
    exact iteF (q H1 s1)
  refine ⟨.ref b, rfl, .ref b, b + 1, rfl, row_vl hb br lr, fun H1 s1 => ⟨_, rfl, ?_⟩⟩
  rw [bits_row hb, br]
  obtain ⟨u', us, eu, hu, au⟩ := id (ha3.tk (Tk.same s1))
  cases eu
  refine iteT ⟨.ref b, rfl, .ref a, rfl, a, C, dx, _, .ref u, rfl, s1 _ _ ha1, R.cl, R.nR, rfl, rowD r, rs.map rowD, dp_row ⟨b, rfl, s1 _ _ hb⟩, .tup (.of hu) (dp_all au), shaped_row r, shaped_rowsG rs, ?_⟩
  show Q (.bl ((rs.map rowD).any fun z => PyData.eqv z (rowD r))) H1
  rw [in_rowsA]
  exact q H1 s1
theorem ok_ageq {f : Addr} {fd : FuncData} (R : AgC K C) (RI : RuleI K C) (kd : PySem.W.kitOne K (.type "dict") (.ref C) = some false) (F : Fun K "__eq__" "Agenda.__eq__" dAgEq f fd) (mi : mg "isinstance" = none) (gA : mg "Agenda" = some (.ref C)) : FnOk P w K mg base CX0 2 f fd ["self", "other"] (spAgEq K C) := by
  refine F.ok scAgEq (fun vs H Q E h => ?_) (fun cdv A outer s H vs Q E hr h => ?_)
  · obtain ⟨a, y, zs, rs, rfl, _⟩ := h
    rfl
  obtain ⟨a, y, zs, rs, rfl, ⟨dx, t, u, ha1, ha2, ha3⟩, pl, q⟩ := h
  refine ⟨_, pss_one (ps_ret (pe_and (pe_callB call_isi (by rfl) mi boot_isi (pa_cons (pv 1) (pa_cons (pe_glob (by rfl) gA (v := .ref C) rfl) pa_nil)))
    (pe_and (pe_cmpR (op_eqD hr.units) (pe_fld (pv 0) rfl) (pe_fld (pv 1) rfl) (nomark _)) (pe_one (pe_cmpR (op_eqD hr.units) (pe_fld (pv 0) rfl) (pe_fld (pv 1) rfl) (nomark _)))))), ?_⟩
  rcases q with ⟨T, hT, ty, q⟩ | ⟨b, us, ws, rfl, ⟨dy, t2, u2, hb1, hb2, hb3⟩, pu, q⟩
  · have k : PySem.W.kitOne K (.type T) (.ref C) = some false := by
      rcases List.mem_cons.mp hT with rfl | hT
      · exact (RI.non _ (by decide)).1
      rcases List.mem_cons.mp hT with rfl | hT
      · exact (RI.non _ (by decide)).1
      rcases List.mem_cons.mp hT with rfl | hT
      · exact (RI.non _ (by decide)).1
      rcases List.mem_cons.mp hT with rfl | hT
      · exact (RI.non _ (by decide)).1
      rcases List.mem_cons.mp hT with rfl | hT
      · exact (RI.non _ (by decide)).1
      rw [List.mem_singleton.mp hT]
      exact kd
    exact ⟨y, rfl, y, .ref C, .type T, .ref C, false, rfl, .own C, ty, k, false, rfl, iteF q⟩
  refine ⟨.ref b, rfl, .ref b, .ref C, .ref C, .ref C, true, rfl, .own C, RI.ty R.cl hb1, RI.own, true, rfl, iteT ?_⟩
  refine ⟨.ref a, rfl, a, C, dx, _, .ref t, rfl, ha1, R.cl, R.nI, rfl, .ref b, rfl, b, C, dy, _, .ref t2, rfl, hb1, R.cl, R.nI, rfl, .tuple (zs.map .str), .tuple (us.map .str), .tup (.inl ha2) (dp_strsA zs), .tup (.inl hb2) (dp_strsA us), shaped_strsA pl, shaped_strsA pu, _, rfl, ?_⟩
  rw [show PyData.eqv (.tuple (zs.map .str)) (.tuple (us.map .str)) = decide (zs = us) from eqv_strsD zs us]
  by_cases e : zs = us
  · rw [decide_eq_true e] at q ⊢
    refine iteT ⟨.ref a, rfl, a, C, dx, _, .ref u, rfl, ha1, R.cl, R.nR, rfl, .ref b, rfl, b, C, dy, _, .ref u2, rfl, hb1, R.cl, R.nR, rfl, rowsD rs, rowsD ws, dp_rows ha3, dp_rows hb3, shaped_rows rs, shaped_rows ws, ?_⟩
    rw [eqv_rows]
    exact q
  · rw [decide_eq_false e] at q ⊢
    exact iteF q
theorem ok_agstr {f : Addr} {fd : FuncData} (R : AgC K C) (F : Fun K "__str__" "Agenda.__str__" dAgStr f fd) (ml : mg "len" = none) : FnOk P w K mg base CX0 1 f fd ["self"] (spAgStr C) := by
  refine F.ok scAgStr (fun vs H Q E h => ?_) (fun cdv A outer s H vs Q E hr h => ?_)
  · obtain ⟨a, zs, rs, rfl, _⟩ := h
    rfl
  obtain ⟨a, zs, rs, rfl, ⟨dx, t, u, ha, ht, ⟨u', xs, eu, hu, hx⟩⟩, z6, r64, q⟩ := h
  cases eu
  refine ⟨_, pss_one (ps_ret (pe_joined (.cons pe_str (.cons (pe_fmt (pe_callB call_len_seq (by rfl) ml PySem.boot_len (pa_cons (pe_fld (pv 0) rfl) pa_nil))) (.cons pe_str (.cons (pe_fmt (pe_callB call_len_seq (by rfl) ml PySem.boot_len (pa_cons (pe_fld (pv 0) rfl) pa_nil))) (.cons pe_str .nil))))))), ?_⟩
  obtain ⟨l1, l2, l3, l4⟩ := ag_len zs.length (by omega) rs.length (by omega)
  have up : ∀ {n : Nat}, n ≤ 100 → n ≤ sizeLine := fun h => by rw [sizeLine_eq]; exact Nat.le_trans h (by decide)
  have lg : ∀ n : Nat, n < 65 → (n : Int).natAbs.log2 < 1920 := fun n h => by
    show (n : Nat).log2 < 1920
    exact Nat.lt_of_le_of_lt (Nat.log2_le_self n) (by omega)
  have lx := hx.len
  refine ⟨_, rfl, up (by decide), ?_⟩
  refine ⟨.ref a, rfl, a, C, dx, _, .ref t, rfl, ha, R.cl, R.nI, rfl, t, _, rfl, .inr (.inl ht), .inr ⟨_, rfl, lg _ (by rw [List.length_map]; omega), _, rfl, ?_, ?_⟩⟩
  · rw [List.length_map]; exact up l1
  refine ⟨_, rfl, ?_, ?_⟩
  · rw [List.length_map]; exact up l2
  refine ⟨.ref a, rfl, a, C, dx, _, .ref u, rfl, ha, R.cl, R.nR, rfl, u, _, rfl, .inr (.of hu), .inr ⟨_, rfl, lg _ (by omega), _, rfl, ?_, ?_⟩⟩
  · rw [List.length_map, lx]; exact up l3
  refine ⟨_, rfl, ?_, ?_⟩
  · rw [List.length_map, lx]; exact up l4
  · rw [List.length_map, lx]; exact q
theorem ok_agiter {f : Addr} {fd : FuncData} (R : AgC K C) (F : Fun K "__iter__" "Agenda.__iter__" dAgIter f fd) (mi : mg "iter" = none) : FnN P w K mg base CX0 1 f fd ["self"] (spIterA C) := by
  refine Fun.okN F scAgIter (fun n vs H Q E h => ?_) (fun cdv A outer s H vs Q E hr h => ?_)
  · obtain ⟨a, dx, t, u, xs, rfl, _⟩ := h
    rfl
  obtain ⟨a, dx, t, u, xs, rfl, ha, hu, q⟩ := h
  refine ⟨_, pss_one (ps_ret (pe_callB call_iterT (by rfl) mi PyProof.Rows.boot_iter (pa_cons (pe_fld (pv 0) rfl) pa_nil))), ?_⟩
  exact ⟨.ref a, rfl, a, C, dx, _, .ref u, rfl, ha, R.cl, R.nR, rfl, u, _, rfl, .of hu, q⟩
end
end Ow

set_option Elab.async false
set_option linter.all false
set_option maxRecDepth 100000
set_option maxHeartbeats 4000000
set_option exponentiation.threshold 3000
namespace Ow
open PySem PySem.Spec PyProof.Rows L2
/-! ### data whose text fits -/
structure Fit (d : PyData) (k w : Nat) : Prop where
  sh : d.showable = true
  nd : d.hasDict = false
  dp : d.depth ≤ k
  ln : d.shown.length ≤ w
theorem Fit.mono {d : PyData} {k w k' w' : Nat} (h : Fit d k w) (hk : k ≤ k') (hw : w ≤ w') : Fit d k' w' := ⟨h.sh, h.nd, Nat.le_trans h.dp hk, Nat.le_trans h.ln hw⟩
theorem shAll (ds : List PyData) : PyData.shownAll ds = ds.map PyData.shown := by
  induction ds with
  | nil => rfl
  | cons d ds ih => rw [List.map_cons, ← ih]; rfl
theorem sumLe {α : Type} {f : α → Nat} {c : Nat} : ∀ {xs : List α}, (∀ x ∈ xs, f x ≤ c) → (xs.map f).sum ≤ c * xs.length
  | [], _ => by simp
  | x :: xs, h => by
    rw [List.map_cons, List.sum_cons, List.length_cons, Nat.mul_succ]
    have a := h x List.mem_cons_self
    have b := sumLe (xs := xs) fun y hy => h y (List.mem_cons_of_mem _ hy)
    omega
theorem fitAll {k w : Nat} : ∀ {ds : List PyData}, (∀ d ∈ ds, Fit d k w) → PyData.showableAll ds = true ∧ PyData.hasDictAll ds = false ∧ PyData.depthAll ds ≤ k
  | [], _ => ⟨rfl, rfl, Nat.zero_le _⟩
  | d :: ds, h => by
    obtain ⟨a, b, c⟩ := fitAll fun e he => h e (List.mem_cons_of_mem _ he)
    have hd := h d List.mem_cons_self
    refine ⟨?_, ?_, ?_⟩
    · show (PyData.showable d && PyData.showableAll ds) = true
      rw [hd.sh, a]
      rfl
    · show (PyData.hasDict d || PyData.hasDictAll ds) = false
      rw [hd.nd, b]
      rfl
    · show max (PyData.depth d) (PyData.depthAll ds) ≤ k
      have := hd.dp
      omega
theorem Fit.list {ds : List PyData} {k w : Nat} (h : ∀ d ∈ ds, Fit d k w) : Fit (.list ds) (k + 1) ((w + 2) * ds.length + 3) := by
  obtain ⟨a, b, c⟩ := fitAll h
  refine ⟨a, b, Nat.succ_le_succ c, ?_⟩
  have e : (PyData.list ds).shown = listText (PyData.shownAll ds) := rfl
  rw [e, shAll]
  have := listText_len_le (ds.map PyData.shown)
  rw [List.map_map, List.length_map] at this
  have s := sumLe (f := (fun s : Str => s.length) ∘ PyData.shown) (c := w) (xs := ds) fun d hd => (h d hd).ln
  have m : (w + 2) * ds.length = w * ds.length + 2 * ds.length := Nat.add_mul _ _ _
  omega
theorem Fit.tuple {ds : List PyData} {k w : Nat} (h : ∀ d ∈ ds, Fit d k w) : Fit (.tuple ds) (k + 1) ((w + 2) * ds.length + 3) := by
  obtain ⟨a, b, c⟩ := fitAll h
  refine ⟨a, b, Nat.succ_le_succ c, ?_⟩
  have e : (PyData.tuple ds).shown = tupleText (PyData.shownAll ds) := rfl
  rw [e, shAll]
  have := tupleText_len_le (ds.map PyData.shown)
  rw [List.map_map, List.length_map] at this
  have s := sumLe (f := (fun s : Str => s.length) ∘ PyData.shown) (c := w) (xs := ds) fun d hd => (h d hd).ln
  have m : (w + 2) * ds.length = w * ds.length + 2 * ds.length := Nat.add_mul _ _ _
  omega
theorem small_fit : ∀ i < 60, (PyData.int ((i : Nat) : Int)).showable = true ∧ (PyData.int ((i : Nat) : Int)).shown.length ≤ 2 := by decide +kernel
theorem Fit.nat {i : Nat} (h : i < 60) : Fit (.int (i : Int)) 0 2 := ⟨(small_fit i h).1, rfl, Nat.le_refl _, (small_fit i h).2⟩
theorem Fit.bit {i : Int} (h : i = 0 ∨ i = 1) : Fit (.int i) 0 2 := by
  rcases h with rfl | rfl
  · exact Fit.nat (i := 0) (by decide)
  · exact Fit.nat (i := 1) (by decide)
theorem Fit.bool (b : Bool) : Fit (.bool b) 0 5 := ⟨rfl, rfl, Nat.zero_le _, by cases b <;> decide +kernel⟩
theorem Fit.str {z : Str} (h : z.length ≤ 8 ∧ ∀ c ∈ z.cps.toList, c < 128) : Fit (.str z) 0 82 := by
  refine ⟨rfl, rfl, Nat.zero_le _, ?_⟩
  have e : (PyData.str z).shown = reprText z := rfl
  rw [e]
  have := PySem.StrLaws.reprText_len z fun c hc => Nat.lt_of_lt_of_le (h.2 c hc) (by decide)
  omega
theorem name_fit {z : Str} (h : nameB (.str z) = true) : z.length ≤ 8 ∧ ∀ c ∈ z.cps.toList, c < 128 := by
  unfold nameB at h
  rw [Bool.and_eq_true, Bool.and_eq_true] at h
  refine ⟨of_decide_eq_true h.1.2, fun c hc => ?_⟩
  have := List.all_eq_true.mp h.2 c hc
  unfold signB at this
  rw [Bool.and_eq_true] at this
  have h2 := of_decide_eq_true this.2
  omega
theorem row_fit {r : List Int} {n : Nat} (hl : r.length ≤ n) (hb : ∀ b ∈ r, b = 0 ∨ b = 1) : Fit (rowD r) 1 (4 * n + 3) := by
  refine (Fit.tuple (ds := r.map PyData.int) (k := 0) (w := 2) fun d hd => ?_).mono (Nat.le_refl _) (by rw [List.length_map]; omega)
  obtain ⟨b, hb', rfl⟩ := List.mem_map.mp hd
  exact Fit.bit (hb b hb')
theorem Fit.told {d : PyData} {k w : Nat} (h : Fit d k w) (hk : k ≤ 40) (hw : w ≤ 5000) (hi : ∀ i, d ≠ .int i) : d.showable = true ∧ d.hasDict = false ∧ d.depth ≤ 40 ∧ d.shown.length ≤ sizeLine ∧ (∀ i : Int, d = .int i → i.natAbs.log2 < 1920) :=
  ⟨h.sh, h.nd, Nat.le_trans h.dp hk, Nat.le_of_lt (small60 (Nat.le_trans h.ln hw)), fun i e => absurd e (hi i)⟩
end Ow

set_option Elab.async false
set_option linter.all false
set_option maxRecDepth 100000
set_option maxHeartbeats 4000000
set_option exponentiation.threshold 3000
/-! sorted of a list of things, any count -/
namespace HS
open PySem PySem.Spec PyProof.Rows L2
variable {α : Type} [DecidableEq α] {W : Way α} {T : Hp → V → α → Prop}
def rSortW (K : PySem.W.Frag) (W : Way α) (T : Hp → V → α → Prop) : List V → Hp → VK → Prop := fun vs H Q => ∃ (a : Addr) (xs : List V) (p : List α), vs = [V.ref a] ∧ SqL K H a xs ∧ Ow.All2 (T H) xs p ∧ (∀ c ∈ p, ∃ x r, W.enc c = .tuple (x :: r)) ∧
  ∀ (ms : List α) (ys : List V) (b : Addr), ms.Perm p → (ms.Pairwise fun c d => PySem.W.dataLe false W.enc c d = true) → Ow.All2 (T H) ys ms → H b = none → Q (.ref b) (upd H b (.lst ys))
theorem cr_sortW {X : Cx} (wh : WayH W T) (hu : X.A.units + 64 < cLine) : CallR X (.builtin "sorted") (rSortW X.K W T) := by
  intro pins s σ H vs us Q I r h
  obtain ⟨a, xs, p, rfl, hs, hx, can, q⟩ := h
  obtain ⟨its, rv, pl, room⟩ := I.list hs
  rw [Vals.ref1 r]
  obtain ⟨ks, e1, e2, e3, e4⟩ := pairsW wh I hx rv
  subst e1 e2
  obtain ⟨r1, r2⟩ := eachW (a := a) ks e3
  have lx := hx.len
  rw [List.length_map] at lx
  refine PySem.W.sorted_data (enc := fun q : Addr × α => W.enc q.2) pl.isList r1 (r2.mono fun _ _ ⟨as, h, _⟩ => ⟨as, h⟩) (PySem.W.AllAlike.of fun b b' => W.alike b.2 b'.2) (.inl fun d hd => ?_) (by omega) (fun b _ => ?_) fun out lo eo => ?_
  · obtain ⟨c, hc, rfl⟩ := List.mem_map.mp hd
    exact can _ (List.mem_map.mpr ⟨c, hc, rfl⟩)
  · have := W.flat b.2
    omega
  · have pm : (ks.mergeSort (PySem.W.dataLe false fun q : Addr × α => W.enc q.2)).Perm ks := List.mergeSort_perm ..
    have pw := PySem.W.sort_pairwise (le := PySem.W.dataLe false fun q : Addr × α => W.enc q.2) (PySem.W.sortLe_total _ _ _) ks
    generalize ks.mergeSort (PySem.W.dataLe false fun q : Addr × α => W.enc q.2) = N at eo pm pw
    have pw2 : (N.map (·.2)).Pairwise fun c d => PySem.W.dataLe false W.enc c d = true := List.pairwise_map.mpr pw
    have eo' := of_refsW eo
    subst eo'
    obtain ⟨ep, he⟩ := PyProof.Rows.sortedAll_at s.heap (ks.map fun q => Value.ref q.1) (N.map fun q => Value.ref q.1).toArray
    have ly : (N.map fun q => V.ref q.1).length ≤ sizeLine := by
      rw [List.length_map, pm.length_eq]
      omega
    exact ⟨.ref _, upd H (s.heap.objs.size + 1) (.lst (N.map fun q => V.ref q.1)), I.laid (t' := s.toks) (fun b o e => PyProof.Rows.sortedAll_old e) (Nat.le_add_right _ 1) ⟨ly, _, ep, valsW N, he⟩, rfl,
      q (N.map (·.2)) _ _ (pm.map (·.2)) pw2 (refsW N fun q hq => e4 q (pm.mem_iff.mp hq)) (I.hok.fresh (Nat.le_add_right _ 1))⟩
end HS

set_option Elab.async false
set_option linter.all false
set_option maxRecDepth 100000
set_option maxHeartbeats 4000000
/-! t * n and "x" * n, n from 1 -/
namespace L2
open PySem PySem.Spec PyProof.Rows
theorem tuple_mul_one (l : Addr) (items : Array Value) (n : Nat) (sl : Array (Option Value)) (u : Tok) (dd : Option Addr) :
    Meets (Builtin.«tuple.__mul__» ⟨[.ref l, .int 1 u], []⟩) (fun _ R s => s.heap.get? l = some { cls := .type "tuple", dict := dd, data := .seq items n, slots := sl } ∧ R (.ok (.ret (Value.ref l))) s) :=
  .of_wp fun prog w A R s h => by
    obtain ⟨hp, g, d, tk, os⟩ := s
    obtain ⟨hl, h⟩ := h
    have f1 := AutoSeq1.idx_int
    have c0 : (decide ((1 : Int) < -(2 ^ 63)) || decide ((1 : Int) ≥ 2 ^ 63)) = false := by decide
    wp_walk using wpAny_loadPart' hl
    exact ⟨_, rfl, h⟩
/-- (..) * n, n from 1: the same for 1 -/
def rRepT1 : R2 := fun x y H Q => ∃ l k xs, x = .ref l ∧ y = .int k ∧ H l = some (.tup xs) ∧ xs ≠ [] ∧ 1 ≤ k ∧ k ≤ 1000 ∧ xs.length ≤ 1000 ∧ ∀ H' p, Same H H' → H' p = some (.tup (List.replicate k.toNat xs).flatten) → Q (.ref p) H'
theorem op_repT1 {X : Cx} : OpR X (binaryOp .Mult) rRepT1 := by
  intro pins s σ H x y v u Q I rx ry h
  obtain ⟨l, k, xs, rfl, rfl, hT, hne, h1, h2, hz, q⟩ := h
  by_cases hk : 2 ≤ k
  · exact op_repT pins s σ H _ _ v u Q I rx ry ⟨l, k, xs, rfl, rfl, .of hT, hne, hk, h2, hz, fun p np => q _ p (Ow.same_new np) upd_same⟩
  have e1 : k = 1 := by omega
  subst e1
  cases rx
  obtain ⟨t, rfl⟩ := ry
  obtain ⟨its, r, ⟨⟨cls, dd, data, sl⟩, ho, hc, n, hd⟩, hs⟩ := I.tuple (SqT.of hT)
  simp only at hc hd
  subst hc hd
  refine wpAny_binaryOp_repeat_ref (T := "tuple") (U := "int") (by decide) ⟨_, ho, rfl⟩ (fun s' => typeIs_int s' 1 t) noFill_tuple_mul F.fills_int_mul F.slot_int_rmul repeat_tuple F.slot_int_index.lookup
    (call_meets F.slot_int_rmul (typeIs_int s 1 t) F.entry_int_rmul (F.args_int_rmul_2 _ _) (int_rmul_tuple 1 t l its.toArray n dd sl)
      ⟨ho, rfl, ⟨_, ho, rfl⟩, call_meets F.slot_tuple_mul ⟨_, ho, rfl⟩ F.entry_tuple_mul (F.args_tuple_mul_2 _ _) (tuple_mul_one l its.toArray n sl t dd) ⟨ho, ?_⟩⟩)
  exact ⟨.ref l, H, I, rfl, q H l (fun _ _ e => e) (by rw [hT]; simp)⟩
end L2
namespace Ow
open PySem PySem.Spec PyProof.Rows L2
def rRepS1 : R2 := fun x y H Q => ∃ c n : Nat, x = .str ⟨#[c]⟩ ∧ y = .int (n : Int) ∧ 1 ≤ n ∧ n ≤ 1000 ∧ Q (.str (timesS c n)) H
theorem op_repS1 {X : Cx} : OpR X (binaryOp .Mult) rRepS1 := by
  intro pins s σ H x y v u Q I rx ry h
  obtain ⟨c, n, rfl, rfl, h2, h3, q⟩ := h
  by_cases h2' : 2 ≤ n
  · exact op_repS pins s σ H _ _ v u Q I rx ry ⟨c, n, rfl, rfl, h2', h3, q⟩
  have e1 : n = 1 := by omega
  subst e1
  obtain ⟨t, rfl⟩ := rx
  obtain ⟨t', rfl⟩ := ry
  refine PySem.P.mul_str (by decide) (fun _ h => ?_) (fun _ h => ?_) ?_
  · cases h
  · cases h
  · rw [if_neg (by decide), if_pos (show (((1 : Nat) : Int) == 1 || (⟨#[c]⟩ : Str).length == 0) = true from rfl)]
    exact ⟨.str ⟨#[c]⟩, H, I, ⟨_, rfl⟩, q⟩
end Ow

set_option Elab.async false
set_option linter.all false
set_option maxRecDepth 100000
set_option maxHeartbeats 4000000
set_option exponentiation.threshold 3000
set_option pp.maxSteps 900
set_option pp.deepTerms false
namespace Ow
open PySem PySem.Spec PyProof.Rows L2
theorem scLAns : FnScope ["plain", "found", "name"] ["plain"] (defScope dLAnswers) := ⟨rfl, rfl, rfl, by decide +kernel, rfl, by decide +kernel, by decide +kernel⟩
theorem scIsA : FnScope ["made", "plain"] ["made", "plain"] (defScope dLIsAgenda) := ⟨rfl, rfl, rfl, by decide +kernel, rfl, by decide +kernel, by decide +kernel⟩
theorem scWith : FnScope ["record", "word", "value", "found"] ["record", "word", "value"] (defScope dLWith) := ⟨rfl, rfl, rfl, by decide +kernel, rfl, by decide +kernel, by decide +kernel⟩
def spLAns : Sp := fun vs H Q _ => ∃ (x : V) (zs : List Str) (rs : List (List Int)), vs = [x] ∧ PlainAg H x zs rs ∧ zs.length ≤ 6 ∧ ∀ H' D ys, Same H H' → H' D = some (.lst ys) → All2 (AnsT H') ys (answersN zs) → Q (.ref D) H'
theorem rows_fit {rs : List (List Int)} {n m : Nat} (h : ∀ r ∈ rs, r.length ≤ n ∧ ∀ b ∈ r, b = 0 ∨ b = 1) (l : rs.length ≤ m) : Fit (rowsD rs) 2 ((4 * n + 5) * m + 3) := by
  refine (Fit.tuple (ds := rs.map rowD) (k := 1) (w := 4 * n + 3) fun d hd => ?_).mono (Nat.le_refl _) ?_
  · obtain ⟨r, hr, rfl⟩ := List.mem_map.mp hd
    exact row_fit (h r hr).1 (h r hr).2
  · rw [List.length_map]
    exact Nat.add_le_add_right (Nat.mul_le_mul_left _ l) 3
theorem names_fitN {zs : List Str} (nm : ∀ z ∈ zs, nameB (.str z) = true) (z6 : zs.length ≤ 6) : Fit (.tuple (zs.map .str)) 1 600 := by
  refine (Fit.tuple (ds := zs.map .str) (k := 0) (w := 82) fun d hd => ?_).mono (Nat.le_refl _) ?_
  · obtain ⟨z, hz, rfl⟩ := List.mem_map.mp hd
    exact Fit.str (name_fit (nm z hz))
  · rw [List.length_map]
    omega
theorem issues_nm {zs : List Str} (h : issuesB zs = true) : ∀ z ∈ zs, nameB (.str z) = true := fun z hz => by
  unfold issuesB namesB at h
  simp only [Bool.and_eq_true] at h
  exact List.all_eq_true.mp h.1.1 z hz

def spIsA (C : Addr) : Sp := fun vs H Q _ => ∃ (a : Addr) (x : V) (zs : List Str) (rs : List (List Int)), vs = [.ref a, x] ∧ AgAt C H a zs rs ∧ PlainAg H x zs rs ∧ AgOk 6 zs rs ∧ ∀ H', Same H H' → Q (.bl true) H'
def spWith : Sp := fun vs H Q _ => ∃ (x y : V) (zs : List Str) (rs us : List (List Int)), vs = [x, .str "rows", y] ∧ PlainAg H x zs rs ∧ IsRows H y us ∧ ∀ H' x', Same H H' → PlainAg H' x' zs us → Q x' H'
theorem AgOk.few64 {zs : List Str} {rs : List (List Int)} (h : AgOk 6 zs rs) : rs.length ≤ 64 := Nat.le_trans h.few (Nat.le_trans (Nat.pow_le_pow_right (by decide) h.le) (by decide))
theorem ag_fit {zs : List Str} {rs : List (List Int)} (h : AgOk 6 zs rs) : Fit (.list [.tuple (zs.map .str), rowsD rs]) 3 4000 := by
  have f1 := names_fitN (issues_nm h.iss) h.le
  have f2 : Fit (rowsD rs) 2 1859 := rows_fit (n := 6) (m := 64) (fun r hr => ⟨by have := (h.ok r hr).2; have := h.le; omega, bits_all (h.ok r hr).1⟩) h.few64
  refine (Fit.list (ds := [.tuple (zs.map .str), rowsD rs]) (k := 2) (w := 1900) fun d hd => ?_).mono (Nat.le_refl _) (by simp)
  simp only [List.mem_cons, List.not_mem_nil, or_false] at hd
  rcases hd with rfl | rfl
  · exact f1.mono (by decide) (by decide)
  · exact f2.mono (by decide) (by decide)
theorem items_two {H : Hp} {ts : List Addr} {t u : V} (h : Paired (fun (a : Addr) (q : Key × V) => H a = some (.tup [kV q.1, q.2])) ts [(Sum.inr "issues", t), (Sum.inr "rows", u)]) {K : PySem.W.Frag} : Paired (fun p (kv : Key × V) => SqT K H p [kV kv.1, kv.2]) ts [(Sum.inr "issues", t), (Sum.inr "rows", u)] := by
  cases h with
  | cons a h =>
    cases h with
    | cons b h =>
      cases h
      exact .cons (.of a) (.cons (.of b) .nil)
section
variable {P : Program} {w : World} {K : PySem.W.Frag} {mg : Str → Option Value} {base : Heap} {C : Addr}
theorem ok_agans {f : Addr} {fd : FuncData} (R : AgC K C) (F : Fun K "answers" "Agenda.answers" dAgAnswers f fd) (mt : mg "tuple" = none) : FnOk P w K mg base CX0 1 f fd ["self"] (spAgAns C) := by
  refine F.ok scAgAns (fun vs H Q E h => ?_) (fun cdv A outer s H vs Q E hr h => ?_)
  · obtain ⟨a, zs, rs, rfl, _⟩ := h
    rfl
  obtain ⟨a, zs, rs, rfl, hA, l6, q⟩ := h
  obtain ⟨dx, t, u, ha, ht, hu⟩ := id hA
  refine ⟨_, pss_one (ps_ret (pe_callTy call_tuple_of (by rfl) mt boot_tup (pa_cons
    (pe_lc2 (te := tTup (tCons (tVar 1) (tCons (tVar 2) tNil))) (own := [("issue", 1), ("value", 2)]) (vs1 := [2]) (g := gName 1) (g1 := gName 2) (tt := tYes) (tt1 := tYes) (wi1 := iTup K (tTup (tCons (tC (.int 0)) (tCons (tC (.int 1)) tNil)))) rfl scAgAns.nd (pi_tup (pe_fld (pv 0) rfl)) (blkOk_by (N := ["self", "issue", "value"]) (sc := defScope dAgAnswers) (by decide +kernel)) (by decide)
      (fun _ _ _ _ _ => pg_name (i := 1) scAgAns.nd rfl (Or.inl rfl)) (fun _ _ _ _ _ => pts_nil) (fun _ _ _ _ _ => pi_tup (pe_tup (pa_cons pe_int (pa_cons pe_int pa_nil)))) (fun _ _ _ _ _ => pg_name (i := 2) scAgAns.nd rfl (Or.inl rfl)) (fun _ _ _ _ _ => pts_nil)
      (fun _ _ _ _ _ => pe_tup (pa_cons (pv 1) (pa_cons (pv 2) pa_nil)))) pa_nil))), ?_⟩
  refine ⟨.ref a, rfl, a, C, dx, _, .ref t, rfl, ha, R.cl, R.nI, rfl, t, rfl, ⟨_, .inl ht⟩, fun D nD => ?_⟩
  refine lc2_it (walk_tup (K := K) (a := t) (xs := zs.map V.str)) (fun j Hy => Same H Hy ∧ ∃ ys, Hy D = some (.lst ys) ∧ All2 (AnsT Hy) ys (answersN (zs.take j))) ⟨same_new nD, [], upd_same, .nil⟩ (fun j Hy _ hQ => .inl (ht.tkT (Tk.same hQ.1)))
      (fun j x Hy Hy' Kg hj hQ hY hK => ?_) (fun Hy hQ => ?_)
  · obtain ⟨rfl, hx⟩ := hY
    obtain ⟨sy, ys, eD, az⟩ := hQ
    rw [List.getElem?_map] at hx
    obtain ⟨z, hz, rfl⟩ := Option.map_eq_some_iff.mp hx
    have lz := az.len
    rw [answers_len, List.length_take] at lz
    refine hK _ _ (by rfl) fun Ki hKi => ?_
    refine ⟨(by show 2 ≤ sizeLine; decide), fun T nT => ⟨T, rfl, ⟨_, .of upd_same⟩, hKi _ _ ?_⟩⟩
    refine ⟨2, _, _, fun k Hz => Same H Hz ∧ Hz T = some (.tup [.int 0, .int 1]) ∧ ∃ ws, Hz D = some (.lst ws) ∧ All2 (AnsT Hz) ws (answersN (zs.take j) ++ [(z, 0), (z, 1)].take k), walk_tup (K := K) (a := T) (xs := [.int 0, .int 1]),
      ⟨sy.trans (same_new nT), upd_same, ys, ?_, ?_⟩, (fun k Hw _ h => .of h.2.1), (fun Hz h => ?_), fun k y Hz Hz' hk h hY2 => ?_⟩
    · rw [upd_ne (ne_of_none eD nT)]
      exact eD
    · rw [List.take_zero, List.append_nil]
      exact az.imp fun _ _ h => h.tk (Tk.new nT)
    · obtain ⟨sz, eT, ws, eD', az'⟩ := h
      exact ⟨sz, ws, eD', by rw [answers_next hz]; exact az'⟩
    · obtain ⟨eHz, hy⟩ := hY2
      have eHz' := eHz.symm
      subst eHz'
      obtain ⟨sz, eT, ws, eD', az'⟩ := h
      obtain ⟨b, rfl, hb⟩ : ∃ b : Int, y = .int b ∧ [(z, (0 : Int)), (z, 1)][k]? = some (z, b) := by
        match k, hk with
        | 0, _ => exact ⟨0, by simpa using hy.symm, rfl⟩
        | 1, _ => exact ⟨1, by simpa using hy.symm, rfl⟩
      have lz' := az'.len
      rw [List.length_append, List.length_take, answers_len, List.length_take] at lz'
      have l2 : ([(z, (0 : Int)), (z, 1)] : List (Str × Int)).length = 2 := rfl
      refine ⟨rfl, .str z, rfl, .int b, rfl, (by show 2 ≤ sizeLine; decide), fun p np => ?_⟩
      have eD2 : upd Hz p (.tup [.str z, .int b]) D = some (.lst ws) := by
        rw [upd_ne (ne_of_none eD' np)]
        exact eD'
      refine ⟨ws, eD2, small60 (by omega), fun c o ec => ?_, ?_, ws ++ [.ref p], upd_same, ?_⟩
      · rw [upd_ne (ne_of_none ec nD)]
        exact (sz.trans (same_new np)) _ _ ec
      · rw [upd_ne (ne_of eT eD' (by intro z; cases z)), upd_ne (ne_of_none eT np)]
        exact eT
      · have tk : Tk Hz (upd (upd Hz p (.tup [.str z, .int b])) D (.lst (ws ++ [.ref p]))) := (Tk.new np).trans (Tk.lst eD2)
        have tl : Tk (upd Hz p (.tup [.str z, .int b])) (upd (upd Hz p (.tup [.str z, .int b])) D (.lst (ws ++ [.ref p]))) := Tk.lst eD2
        rw [List.take_add_one, hb, ← List.append_assoc]
        exact (az'.imp fun _ _ h => h.tk tk).app (.cons ⟨p, rfl, tl.tup upd_same⟩ .nil)
  · obtain ⟨sy, ys, eD, az⟩ := hQ
    rw [List.length_map, List.take_length] at az
    refine ⟨D, ys, rfl, .inl ⟨.of eD, fun p np => ?_⟩⟩
    exact q _ p (sy.trans (same_new np)) ⟨p, ys, rfl, upd_same, az.imp fun _ _ h => h.tk (Tk.new np)⟩
theorem ok_lanswers {f : Addr} {fd : FuncData} (F : Fun K "_law_answers" "_law_answers" dLAnswers f fd) : FnOk P w K mg base CX0 1 f fd ["plain"] spLAns := by
  refine F.ok scLAns (fun vs H Q E h => ?_) (fun cdv A outer s H vs Q E hr h => ?_)
  · obtain ⟨x, zs, rs, rfl, _⟩ := h
    rfl
  obtain ⟨x, zs, rs, rfl, hA, l6, q⟩ := h
  refine ⟨_, pss_cons (ps_set (i := 1) scLAns.nd rfl (.inl rfl) (pe_lst pa_nil))
    (pss_cons (ps_for PassesOwn.never rfl (pi_tup (pe_dget (hu_of hr) (pv 0) pe_str (fun _ _ => rfl))) (pg_name (i := 2) scLAns.nd rfl (.inl rfl))
      (pss_one (ps_set (i := 1) scLAns.nd rfl (.inl rfl) (pe_op op_cat (pv 1) (pe_lst (pa_cons (pe_tup (pa_cons (pv 2) (pa_cons pe_int pa_nil))) (pa_cons (pe_tup (pa_cons (pv 2) (pa_cons pe_int pa_nil))) pa_nil)))))))
    (pss_one (ps_ret (pv 1)))), ?_⟩
  obtain ⟨pd, t, u, rfl, hpd, ft, hR⟩ := id hA
  refine ⟨Nat.zero_le _, fun L0 nL0 => ?_⟩
  have s0 := same_new (o := .lst []) nL0
  have eL0 : upd H L0 (.lst []) L0 = some (.lst []) := upd_same
  generalize upd H L0 (.lst []) = H1 at s0 eL0 ⊢
  refine ⟨.ref pd, rfl, pd, .ref t, rfl, DGet.k (k := Sum.inr "issues") (s0 _ _ hpd), t, rfl, ⟨zs.map V.str, .of (s0 _ _ ft)⟩, ?_⟩
  refine for_tup (K := K) (xs := zs.map V.str) (fun i σ Hx => ∃ L ys y2, σ = [some (.ref pd), some (.ref L), y2] ∧ Same H1 Hx ∧ Hx L = some (.lst ys) ∧ All2 (AnsT Hx) ys (answersN (zs.take i)))
    ⟨L0, [], none, rfl, Same.refl _, eL0, .nil⟩ (fun i σ Hx _ hP => ?_) (fun i x σ Hx hxi hP => ?_) (fun σ Hx hP => ?_)
  · obtain ⟨_, _, _, _, sx, _⟩ := hP
    exact .of ((s0.trans sx) _ _ ft)
  · obtain ⟨L, ys, y2, rfl, sx, eL, ay⟩ := hP
    rw [List.getElem?_map] at hxi
    obtain ⟨z, hz, rfl⟩ := Option.map_eq_some_iff.mp hxi
    have ly := ay.len
    rw [answers_len] at ly
    have l6' : (zs.take i).length ≤ 6 := by rw [List.length_take]; omega
    refine ⟨.ref L, rfl, .str z, rfl, (by show 2 ≤ sizeLine; decide), fun T1 n1 => ⟨.str z, rfl, (by show 2 ≤ sizeLine; decide), fun T2 n2 => ⟨(by show 2 ≤ sizeLine; decide), fun M nM => ?_⟩⟩⟩
    have s1 := same_new (o := .tup [.str z, .int 0]) n1
    have e1 : upd Hx T1 (.tup [.str z, .int 0]) T1 = some (.tup [.str z, .int 0]) := upd_same
    generalize upd Hx T1 (.tup [.str z, .int 0]) = Ha at s1 e1 n2 nM ⊢
    have s2 := same_new (o := .tup [.str z, .int 1]) n2
    have e2 : upd Ha T2 (.tup [.str z, .int 1]) T2 = some (.tup [.str z, .int 1]) := upd_same
    have e1' := s2 _ _ e1
    generalize upd Ha T2 (.tup [.str z, .int 1]) = Hb at s2 e2 e1' nM ⊢
    have sM := same_new (o := .lst [.ref T1, .ref T2]) nM
    have eM : upd Hb M (.lst [.ref T1, .ref T2]) M = some (.lst [.ref T1, .ref T2]) := upd_same
    have s3 := s1.trans (s2.trans sM)
    have e1M := sM _ _ e1'
    have e2M := sM _ _ e2
    generalize upd Hb M (.lst [.ref T1, .ref T2]) = Hc at sM eM s3 e1M e2M ⊢
    refine ⟨L, M, ys, [.ref T1, .ref T2], rfl, rfl, s3 _ _ eL, eM, ?_, fun N nN => ?_⟩
    · exact Nat.le_of_lt (small60 (by show ys.length + 2 ≤ 5000; omega))
    have sN := same_new (o := .lst (ys ++ [.ref T1, .ref T2])) nN
    have sA := s3.trans sN
    refine ⟨N, ys ++ [.ref T1, .ref T2], _, rfl, sx.trans sA, upd_same, ?_⟩
    rw [answers_next hz]
    exact (ay.imp fun _ _ h => h.tk (Tk.same sA)).app (.cons ⟨T1, rfl, sN _ _ e1M⟩ (.cons ⟨T2, rfl, sN _ _ e2M⟩ .nil))
  · obtain ⟨L, ys, y2, rfl, sx, eL, ay⟩ := hP
    rw [List.length_map, List.take_length] at ay
    exact ⟨.ref L, rfl, q Hx L ys (s0.trans sx) eL ay⟩
theorem ok_isagenda {f pI gI pR gR : Addr} {fd dI dR : FuncData} (R : AgC K C) (PI : AgP P w K mg base C "issues" "_issues" pI gI dI) (PR : AgP P w K mg base C "rows" "_rows" pR gR dR) (F : Fun K "_law_is_agenda" "_law_is_agenda" dLIsAgenda f fd) (mp : mg "repr" = none) : FnG P w K mg base 3 f fd ["made", "plain"] (spIsA C) := by
  refine okG F scIsA (fun vs H Q E h => ?_) (fun cdv A outer s H vs Q E gB hr h => ?_)
  · obtain ⟨a, x, zs, rs, rfl, _⟩ := h
    rfl
  obtain ⟨a, x, zs, rs, rfl, hA, hP, ag, q⟩ := h
  obtain ⟨dx, t, u, ha, ht, hu⟩ := id hA
  obtain ⟨pd, t2, u2, rfl, hpd, ht2, hu2⟩ := id hP
  refine ⟨_, (pss_one (ps_ret (pe_cmpR op_eq (pe_callB (call_repr gB hr.units) (by rfl) mp boot_repr (pa_cons (pe_lst (pa_cons (pe_prop (pv 0) R.cl PI.hp PI.F (hr.mono (by decide)) PI.b .nil pass0 (by rfl)) (pa_cons (pe_prop (pv 0) R.cl PR.hp PR.F (hr.mono (by decide)) PR.b .nil pass0 (by rfl)) pa_nil))) pa_nil))
      (pe_callB (call_repr gB hr.units) (by rfl) mp boot_repr (pa_cons (pe_lst (pa_cons (pe_dget (hu_of hr) (pv 1) pe_str (fun _ _ => rfl)) (pa_cons (pe_dget (hu_of hr) (pv 1) pe_str (fun _ _ => rfl)) pa_nil))) pa_nil)) (nomark _)))), ?_⟩
  refine ⟨.ref a, rfl, a, dx, _, rfl, ha, a, dx, _, .ref t, rfl, ha, rfl, .ref a, rfl, a, dx, _, rfl, ha, a, dx, _, .ref u, rfl, ha, rfl, (by show 2 ≤ sizeLine; decide), fun L1 nL1 => ?_⟩
  have s1 := same_new (o := .lst [.ref t, .ref u]) nL1
  have e1 : upd H L1 (.lst [.ref t, .ref u]) L1 = some (.lst [.ref t, .ref u]) := upd_same
  generalize upd H L1 (.lst [.ref t, .ref u]) = H1 at s1 e1 ⊢
  obtain ⟨t1, t2', t3, t4, t5⟩ := (ag_fit ag).told (by decide) (by decide) (fun i e => nomatch e)
  refine ⟨.ref L1, .list [.tuple (zs.map .str), rowsD rs], rfl, .lst (.of e1) (.cons (.tup (.inl (ht.same s1)) (dp_strsA zs)) (.cons (dp_rows (hu.tk (Tk.same s1))) .nil)), t1, t2', t3, t4, t5, ?_⟩
  refine ⟨.ref pd, rfl, pd, .ref t2, rfl, DGet.k (k := Sum.inr "issues") (s1 _ _ hpd), .ref pd, rfl, pd, .ref u2, rfl, DGet.k (k := Sum.inr "rows") (s1 _ _ hpd), (by show 2 ≤ sizeLine; decide), fun L2 nL2 => ?_⟩
  have s2 := same_new (o := .lst [.ref t2, .ref u2]) nL2
  refine ⟨.ref L2, .list [.tuple (zs.map .str), rowsD rs], rfl, .lst (.of upd_same) (.cons (.tup (.of (s2 _ _ (s1 _ _ ht2))) (dp_strsA zs)) (.cons (dp_rows (hu2.tk (Tk.same (s1.trans s2)))) .nil)), t1, t2', t3, t4, t5, rfl, ?_⟩
  rw [decide_eq_true rfl]
  exact q _ (s1.trans s2)
theorem ok_with {f : Addr} {fd : FuncData} (F : Fun K "_law_with" "_law_with" dLWith f fd) (md : mg "dict" = none) (mls : mg "list" = none) : FnOk P w K mg base CX0 1 f fd ["record", "word", "value"] spWith := by
  refine F.ok scWith (fun vs H Q E h => ?_) (fun cdv A outer s H vs Q E hr h => ?_)
  · obtain ⟨x, y, zs, rs, us, rfl, _⟩ := h
    rfl
  obtain ⟨x, y, zs, rs, us, rfl, hP, hy, q⟩ := h
  obtain ⟨pd, t, u, rfl, hpd, ht, hu⟩ := id hP
  refine ⟨_, (pss_cons (ps_set (i := 3) scWith.nd rfl (.inl rfl) (pe_callTy (call_dictP rfl) (by rfl) md (by decide +kernel) (pa_cons (LiI.pe_listItems rfl (pv 0) (by rfl) mls (by decide +kernel)) pa_nil)))
    (pss_cons (ps_dput (hu_of hr) (pv 3) (pv 1) (pv 2) (by rfl))
    (pss_one (ps_ret (pv 3))))), ?_⟩
  refine ⟨.ref pd, rfl, pd, _, rfl, hpd, fun H1 p ts s1 np nts pts hp1 pr => ⟨p, ts, _, rfl, .of hp1, items_two pr, fun d nd => ?_⟩⟩
  have sd := same_new (o := .dK [(Sum.inr "issues", .ref t), (Sum.inr "rows", .ref u)]) nd
  have ed : upd H1 d (.dK [(Sum.inr "issues", .ref t), (Sum.inr "rows", .ref u)]) d = some (.dK [(Sum.inr "issues", .ref t), (Sum.inr "rows", .ref u)]) := upd_same
  obtain ⟨yb, ys, rfl, hyb, ays⟩ := id hy
  refine ⟨.ref yb, rfl, .ref d, rfl, .str "rows", rfl, d, _, rfl, DPut.k (k := Sum.inr "rows") ed (by show 2 < sizeLine; decide), .ref d, rfl, ?_⟩
  have sall : Same H (upd (upd H1 d (.dK [(Sum.inr "issues", .ref t), (Sum.inr "rows", .ref u)])) d (.dK [(Sum.inr "issues", .ref t), (Sum.inr "rows", .ref yb)])) := fun b v e => by
    have e1 := s1 b v e
    rw [upd_ne (ne_of_none e1 nd)]
    exact sd _ _ e1
  exact q _ (.ref d) sall ⟨d, t, yb, rfl, upd_same, sall _ _ ht, hy.tk (Tk.same sall)⟩
end
end Ow

set_option Elab.async false
set_option linter.all false
set_option maxRecDepth 100000
set_option maxHeartbeats 4000000
set_option exponentiation.threshold 3000
set_option pp.maxSteps 900
set_option pp.deepTerms false
namespace Ow
open PySem PySem.Spec PyProof.Rows L2
theorem par_read {i j : Nat} {ta tb : TE} {r : TS} {D : Ends} {σ : L2.St} {H : Hp} (h : ta σ H fun x H1 => tb σ H1 fun y H2 => ∃ v w, [x, y] = [v, w] ∧ r D ((σ.set i (some v)).set j (some w)) H2) :
    tSeq (tPar i j (tCons ta (tCons tb tNil))) r D σ H := h
abbrev neN : List Str := ["jug", "plain", "lot", "size", "row", "at", "rows"]
theorem scNear : FnScope neN ["jug", "plain"] (defScope dNear) := ⟨rfl, rfl, rfl, by decide +kernel, rfl, by decide +kernel, by decide +kernel⟩
def spNear : Sp := fun vs H Q _ => ∃ (J : Addr) (x : V) (zs : List Str) (rs : List (List Int)), vs = [.ref J, x] ∧ Jug H J ∧ PlainAg H x zs rs ∧ AgOk 6 zs rs ∧ ∀ H' x' us, Sb J H H' → Jug H' J → PlainAg H' x' zs us → AgOk 6 zs us → Q x' H'
theorem tkJ {J : Addr} {H H' : Hp} (s : Sb J H H') (j : Jug H J) : Tk H H' := s.gw.tk (Jg.at_ j)
theorem rows_in {m : Nat} {rs : List (List Int)} (h : RowsOk m rs) : ∀ r ∈ rs, r ∈ rowsN m := fun r hr => rowsN_has m r (h r hr).2 (bits_all (h r hr).1)
theorem rowsN_few {m : Nat} (h : m ≤ 6) : (rowsN m).length ≤ 64 := by
  rw [rowsN_len]
  exact Nat.le_trans (Nat.pow_le_pow_right (by decide) h) (by decide)
theorem row_can {m : Nat} (m1 : 1 ≤ m) {rs : List (List Int)} (h : RowsOk m rs) : ∀ c ∈ rs, ∃ x r, wayR.enc c = .tuple (x :: r) := fun c hc => by
  have lc := (h c hc).2
  cases c with
  | nil => exact absurd lc (by show ¬ (0 = m); omega)
  | cons x c => exact ⟨.int x, c.map .int, rfl⟩
theorem flipR_off {r : List Int} {i k : Nat} (n : k ≠ i) (h : i < r.length) : rowAt k (flipR r i) = rowAt k r := by
  unfold rowAt flipR
  rw [List.getD_eq_getElem?_getD, List.getD_eq_getElem?_getD]
  congr 1
  by_cases l : k < i
  · rw [List.getElem?_append_left (by rw [List.length_append, List.length_take]; simp; omega), List.getElem?_append_left (by rw [List.length_take]; omega), List.getElem?_take_of_lt l]
  · rw [List.getElem?_append_right (by rw [List.length_append, List.length_take]; simp; omega), List.length_append, List.length_take, List.getElem?_drop]
    congr 1
    simp
    omega
theorem flipR_inj {a b : List Int} {i : Nat} (ha : i < a.length) (e : a.length = b.length) (h : flipR a i = flipR b i) : a = b := by
  refine List.ext_getElem? fun k => ?_
  by_cases l : k < a.length
  · have g : ∀ r : List Int, k < r.length → r[k]? = some (rowAt k r) := fun r hr => by
      unfold rowAt
      rw [List.getD_eq_getElem?_getD, List.getElem?_eq_getElem hr]
      rfl
    rw [g a l, g b (by omega)]
    congr 1
    by_cases ki : k = i
    · subst ki
      have h1 := flipR_at ha
      have h2 := flipR_at (r := b) (i := k) (by omega)
      rw [h] at h1
      omega
    · have h1 := flipR_off ki ha
      rw [h] at h1
      have h2 := flipR_off (r := b) ki (by omega)
      rw [← h1, h2]
  · rw [List.getElem?_eq_none (by omega), List.getElem?_eq_none (by omega)]
theorem Both.flip {rs : List (List Int)} {i k m : Nat} (ok : RowsOk m rs) (hi : i < m) (h : Both rs k) : Both (rs.map fun r => flipR r i) k := by
  obtain ⟨⟨r, hr, e⟩, ⟨p, hp, e2⟩⟩ := h
  have lr := (ok r hr).2
  have lp := (ok p hp).2
  have mr : flipR r i ∈ rs.map fun r => flipR r i := List.mem_map.mpr ⟨r, hr, rfl⟩
  have mp : flipR p i ∈ rs.map fun r => flipR r i := List.mem_map.mpr ⟨p, hp, rfl⟩
  by_cases ki : k = i
  · subst ki
    exact ⟨⟨_, mp, by rw [flipR_at (by omega), e2]; rfl⟩, ⟨_, mr, by rw [flipR_at (by omega), e]; rfl⟩⟩
  · exact ⟨⟨_, mr, by rw [flipR_off ki (by omega), e]⟩, ⟨_, mp, by rw [flipR_off ki (by omega), e2]⟩⟩
section
variable {P : Program} {w : World} {K : PySem.W.Frag} {mg : Str → Option Value} {base : Heap}
theorem ok_near {f fD fC fA fW : Addr} {fd fdD fdC fdA fdW : FuncData} (F : Fun K "_law_near" "_law_near" dNear f fd)
    (FD : FnOk P w K mg base CX0 1 fD fdD ["jug", "total"] spDip) (kD : PySem.W.keepIn K (.ref fD) = true) (bD : Binds K fdD ["jug", "total"] []) (gD : mg "_law_dip" = some (.ref fD))
    (FC : FnOk P w K mg base CX0 2 fC fdC ["jug", "items"] spChoice) (kC : PySem.W.keepIn K (.ref fC) = true) (bC : Binds K fdC ["jug", "items"] []) (gC : mg "_law_choice" = some (.ref fC))
    (FA : FnOk P w K mg base CX0 1 fA fdA ["size"] spRowsL) (kA : PySem.W.keepIn K (.ref fA) = true) (bA : Binds K fdA ["size"] []) (gA : mg "_law_all_rows" = some (.ref fA))
    (FW : FnOk P w K mg base CX0 1 fW fdW ["record", "word", "value"] spWith) (kW : PySem.W.keepIn K (.ref fW) = true) (bW : Binds K fdW ["record", "word", "value"] []) (gW : mg "_law_with" = some (.ref fW))
    (mso : mg "sorted" = none) (mse : mg "set" = none) (ml : mg "len" = none) (mt : mg "tuple" = none) (md : mg "dict" = none) (mls : mg "list" = none) : FnOk P w K mg base CX0 3 f fd ["jug", "plain"] spNear := by
  refine F.ok scNear (fun vs H Q E h => ?_) (fun cdv A outer s H vs Q E hr h => ?_)
  · obtain ⟨J, x, zs, rs, rfl, _⟩ := h
    rfl
  obtain ⟨J, x, zs, rs, rfl, hJ, hP, ag, q⟩ := h
  have hu64 : (A.deeper (envOfC "_law_near" (defScope dNear) s.heap.objs.size f cdv)).units + 64 < cLine := hr.units
  refine ⟨_, (pss_cons (ps_par (i := 2) (j := 3) (by rfl) scNear.nd rfl rfl (by decide) rfl rfl (pa_cons (pe_call FD (hr.mono (by decide)) (by rfl) gD kD bD .nil pass0 (pa_cons (pv 0) (pa_cons pe_int pa_nil)))
        (pa_cons (pe_callB call_len_seq (by rfl) ml PySem.boot_len (pa_cons (pe_dget (hu_of hr) (pv 1) pe_str (fun _ _ => rfl)) pa_nil)) pa_nil)) (by rfl))
    (pss_cons (ps_if (pt_cmpR op_eq (pv 2) pe_int (nomark _))
      (pss_cons (ps_set (i := 4) scNear.nd rfl (.inl rfl) (pe_call FC (hr.mono (by decide)) (by rfl) gC kC bC .nil pass0 (pa_cons (pv 0) (pa_cons (pe_call FA (hr.mono (by decide)) (by rfl) gA kA bA .nil pass0 (pa_cons (pv 3) pa_nil)) pa_nil))))
    (pss_one (ps_ret (pe_call FW (hr.mono (by decide)) (by rfl) gW kW bW .nil pass0 (pa_cons (pv 1) (pa_cons pe_str (pa_cons (pe_callTy call_tuple_of (by rfl) mt boot_tup (pa_cons
          (HS.pe_sortSetW wayR_h rfl hu64 (by rfl) mso (by rfl) mse (pe_op op_tcat (pe_dget (hu_of hr) (pv 1) pe_str (fun _ _ => rfl)) (pe_tup (pa_cons (pv 4) pa_nil)))) pa_nil)) pa_nil))))))) pss_nil)
    (pss_cons (ps_if (pt_cmpR op_eq (pv 2) pe_int (nomark _))
      (pss_cons (ps_set (i := 5) scNear.nd rfl (.inr rfl) (pe_call FD (hr.mono (by decide)) (by rfl) gD kD bD .nil pass0 (pa_cons (pv 0) (pa_cons (pv 3) pa_nil))))
    (pss_cons (ps_setLc (i := 6) (te := tOp rTCat (tOp rTCat (tSl rTSl (tVar 4) tNoPart (tPart (tVar 5))) (tTup (tCons (tOp (rI0 fun i j => .int (i - j)) (tC (.int 1)) (tOp (rIxT K) (tVar 4) (tVar 5))) tNil))) (tSl rTSl (tVar 4) (tPart (tOp (rI0 fun i j => .int (i + j)) (tVar 5) (tC (.int 1)))) tNoPart))
          (own := [("row", 4)]) (g := gName 4) (tt := tYes) rfl scNear.nd rfl rfl (sw_true rfl rfl rfl (by decide +kernel)) (pi_tup (pe_dget (hu_of hr) (pv 1) pe_str (fun _ _ => rfl))) (blkOk_by (N := neN) (sc := defScope dNear) (by decide +kernel))
            (fun _ _ _ _ _ => pg_name (i := 4) scNear.nd rfl (Or.inl rfl)) (fun _ _ _ _ _ => pts_nil)
            (fun _ _ _ _ _ => pe_op op_tcat (pe_op op_tcat (pe_slice sl_tup (pv 4) po_none (po_some (pv 5))) (pe_tup (pa_cons (pe_op op_sub pe_int (pe_ix ix_tup (pv 4) (pv 5) (fun _ _ => rfl))) pa_nil)))
              (pe_slice sl_tup (pv 4) (po_some (pe_op op_add (pv 5) pe_int)) po_none)))
    (pss_one (ps_ret (pe_call FW (hr.mono (by decide)) (by rfl) gW kW bW .nil pass0 (pa_cons (pv 1) (pa_cons pe_str (pa_cons (pe_callTy call_tuple_of (by rfl) mt boot_tup (pa_cons
          (pe_callB (HS.cr_sortW wayR_h hu64) (by rfl) mso boot_sortedG (pa_cons (pv 6) pa_nil)) pa_nil)) pa_nil)))))))) pss_nil)
    (pss_one (ps_ret (pe_callTy (call_dictP rfl) (by rfl) md (by decide +kernel) (pa_cons (LiI.pe_listItems rfl (pv 1) (by rfl) mls (by decide +kernel)) pa_nil))))))), ?_⟩
  have z1 := ag.one
  have z6 := ag.le
  refine par_read ?_
  refine ⟨.ref J, rfl, J, 3, rfl, by decide, by decide, hJ, fun H1 c sb1 j1 c0 c3 => ?_⟩
  have hP1 := hP.tk (tkJ sb1 hJ)
  clear hP
  obtain ⟨pd, t, u, rfl, hpd, ht, hu⟩ := id hP1
  refine ⟨.ref pd, rfl, pd, .ref t, rfl, DGet.k (k := Sum.inr "issues") hpd, t, _, rfl, .inr (.of ht), .int c, .int zs.length, by rw [List.length_map], ?_⟩
  obtain ⟨u', xs, eu, hxs, axs⟩ := id hu
  cases eu
  have lx := axs.len
  have few := ag.few64
  refine ⟨.int c, rfl, rfl, _, rfl, ?_⟩
  cases decide (V.int c = V.int 0) with
  | true =>
    refine iteT ⟨.ref J, rfl, .int zs.length, rfl, zs.length, rfl, z6, fun H2 ev ys s2 nev hev ax => ?_⟩
    have ly := ax.len
    have n64 := rowsN_few z6
    have pos : 0 < (rowsN zs.length).length := by
      rw [rowsN_len]
      exact Nat.two_pow_pos _
    refine ⟨J, ev, ys, rfl, jug_none j1 nev, hev, (fun e => by rw [e, List.length_nil] at ly; omega), by omega, jug_same s2 j1, fun H3 y sb3 j3 my => ?_⟩
    have tk3 := tkJ sb3 (jug_same s2 j1)
    obtain ⟨r, mr, hr3⟩ := ax.mem my
    have hr3 := hr3.tk tk3
    have rk := rowsN_ok _ r mr
    have tk13 := (Tk.same s2).trans tk3
    have hP3 := hP1.tk tk13
    have hpd3 := tk13 pd (.dK [(Sum.inr "issues", .ref t), (Sum.inr "rows", .ref u)]) (fun _ z => nomatch z) hpd
    have hxs3 := tk13.tup hxs
    have axs3 := all_tk tk13 axs
    refine ⟨.ref pd, rfl, .ref pd, rfl, pd, .ref u, rfl, DGet.k (k := Sum.inr "rows") hpd3, y, rfl, (by show 1 ≤ sizeLine; decide), fun T nT => ?_⟩
    have sT := same_new (o := .tup [y]) nT
    refine ⟨u, T, xs, [y], rfl, rfl, sT _ _ hxs3, upd_same, by show xs.length + 1 ≤ 5000; omega, fun H4 p s4 hp => ?_⟩
    have s34 := sT.trans s4
    have ax4 : All2 (IsRow H4) (xs ++ [y]) (rs ++ [r]) := (all_tk (Tk.same s34) axs3).app (.cons (hr3.tk (Tk.same s34)) .nil)
    have okr : RowsOk zs.length (rs ++ [r]) := fun a ha => by
      rcases List.mem_append.mp ha with h | h
      · exact ag.ok a h
      · rw [List.mem_singleton.mp h]
        exact rk
    refine ⟨p, xs ++ [y], rs ++ [r], rfl, .of hp, ax4, ⟨rowsN zs.length, by omega, rows_in okr⟩, .inl (row_can z1 okr), fun ms vs b nd mem so hv nb => ?_⟩
    have sb := same_new (o := .lst vs) nb
    refine ⟨b, vs, rfl, .inl ⟨.of upd_same, fun v nv => ?_⟩⟩
    have sv := same_new (o := .tup vs) nv
    have s36 := s34.trans (sb.trans sv)
    refine ⟨_, _, zs, rs, ms, rfl, hP3.tk (Tk.same s36), ⟨v, vs, rfl, upd_same, hv.imp fun _ _ h => h.tk (Tk.same (sb.trans sv))⟩, fun H7 x7 s7 hP7 => ?_⟩
    have s37 := s36.trans s7
    have okm : RowsOk zs.length ms := fun a ha => okr a ((mem a).mp ha)
    exact q H7 x7 ms (sb1.trans ((Sb.same s2).trans (sb3.trans (.same s37)))) (jug_same s37 j3) hP7 ⟨z1, z6, ag.iss, ag.plain, okm, asc_of_data nd so, fun k hk => (ag.both k hk).sub fun a ha => (mem a).mpr (List.mem_append_left _ ha)⟩
  | false =>
  refine iteF ⟨.int c, rfl, rfl, _, rfl, ?_⟩
  cases decide (V.int c = V.int 1) with
  | true =>
    refine iteT ⟨.ref J, rfl, .int zs.length, rfl, J, zs.length, rfl, by omega, by omega, j1, fun H2 kc sb2 j2 k0 k1 => ?_⟩
    obtain ⟨i, rfl, hi⟩ : ∃ i : Nat, kc = (i : Int) ∧ i < zs.length := ⟨kc.toNat, by omega, by omega⟩
    have tk2 := tkJ sb2 j1
    have hP2 := hP1.tk tk2
    have hpd2 := tk2 pd (.dK [(Sum.inr "issues", .ref t), (Sum.inr "rows", .ref u)]) (fun _ z => nomatch z) hpd
    have hxs2 := tk2.tup hxs
    have axs2 := all_tk tk2 axs
    refine ⟨.ref pd, rfl, pd, .ref u, rfl, DGet.k (k := Sum.inr "rows") hpd2, u, rfl, ⟨xs, .of hxs2⟩, fun D nD => ?_⟩
    refine lc_map (M := No) (walk_tup (K := K) (a := u) (xs := xs)) (by omega) Jg.no nD (fun j Hy y => ∃ r, rs[j]? = some r ∧ IsRow Hy y (flipR r i)) (fun _ _ _ _ t ⟨r, h1, h2⟩ => ⟨r, h1, h2.tk t⟩) (fun Hx g _ => .of (g.toSame _ _ hxs2))
      (fun j x Hx Hx' Kk hj g _ hY hK => ?_) (fun Hx ys g _ eD hlen hq => ?_)
    · obtain ⟨rfl, hxj⟩ := hY
      obtain ⟨r, hr', a, rfl, ha⟩ := axs2.get hxj
      have ha := g.toSame _ _ ha
      obtain ⟨rb, rl⟩ := ag.ok r (List.mem_of_getElem? hr')
      have gi : r[i]? = some (r.getD i 0) := by rw [List.getD_eq_getElem?_getD, List.getElem?_eq_getElem (by omega)]; rfl
      refine ⟨rfl, .ref a, rfl, .int (i : Int), rfl, _, rfl, a, _, rfl, ha, fun Ha b1 t1 hb1 => ⟨.ref a, rfl, .int (i : Int), rfl, a, _, _, .int (r.getD i 0), rfl, rfl, .of (t1 _ _ ha), ?_, _, _, rfl, rfl, (by show 1 ≤ sizeLine; decide), fun c1 n1 => ?_⟩⟩
      · exact atI_nat (by rw [List.getElem?_map, gi]; rfl)
      rw [cutR_take (by omega)] at hb1
      refine ⟨b1, c1, _, _, rfl, rfl, same_new n1 _ _ hb1, upd_same, ?_, fun Hb b2 t2 hb2 => ?_⟩
      · rw [List.length_map, List.length_take]
        show min i r.length + 1 ≤ 5000
        omega
      have t12 : Same Hx' Hb := t1.trans ((same_new n1).trans t2)
      refine ⟨.ref a, rfl, .int (i : Int), rfl, _, _, rfl, rfl, _, rfl, a, _, rfl, t12 _ _ ha, fun Hc b3 t3 hb3 => ?_⟩
      have ei : ((i : Int) + 1) = ((i + 1 : Nat) : Int) := by omega
      rw [ei, cutR_drop (by omega)] at hb3
      refine ⟨b2, b3, _, _, rfl, rfl, t3 _ _ hb2, hb3, ?_, fun Hd b4 t4 hb4 => ?_⟩
      · rw [List.length_append, List.length_map, List.length_map, List.length_take, List.length_drop]
        show min i r.length + 1 + (r.length - (i + 1)) ≤ 5000
        omega
      have t14 : Same Hx' Hd := t12.trans (t3.trans t4)
      have hb5 : Hd b4 = some (.tup ((flipR r i).map V.int)) := by
        rw [hb4]
        unfold flipR
        rw [List.map_append, List.map_append]
        rfl
      exact hK _ _ (Gw.same t14) Jg.no ⟨r, hr', b4, rfl, hb5⟩
    · have sx := g.toSame
      have ay : All2 (IsRow Hx) ys (rs.map fun r => flipR r i) := .of_get (by rw [List.length_map]; omega) fun j y p ey ep => by
        obtain ⟨r, hr', hy⟩ := hq j y ey
        rw [List.getElem?_map, hr'] at ep
        cases ep
        exact hy
      have okr : RowsOk zs.length (rs.map fun r => flipR r i) := fun a ha => by
        obtain ⟨r, hr', rfl⟩ := List.mem_map.mp ha
        obtain ⟨rb, rl⟩ := ag.ok r hr'
        exact ⟨flipR_bits rb (by omega), by rw [flipR_len (by omega), rl]⟩
      have nd : (rs.map fun r => flipR r i).Nodup := by
        refine List.Pairwise.map _ (fun a b h => h) ?_
        have pr := ag.nd
        refine List.Pairwise.imp_of_mem (fun {a b} ha hb n e => n ?_) pr
        exact flipR_inj (by rw [(ag.ok a ha).2]; exact hi) (by rw [(ag.ok a ha).2, (ag.ok b hb).2]) e
      refine ⟨.ref pd, rfl, .ref D, rfl, D, ys, _, rfl, .of eD, ay, row_can z1 okr, fun ms vs b pm so hv nb => ?_⟩
      have sb := same_new (o := .lst vs) nb
      refine ⟨b, vs, rfl, .inl ⟨.of upd_same, fun v nv => ?_⟩⟩
      have sv := same_new (o := .tup vs) nv
      have s36 := sx.trans (sb.trans sv)
      refine ⟨_, _, zs, rs, ms, rfl, hP2.tk (Tk.same s36), ⟨v, vs, rfl, upd_same, hv.imp fun _ _ h => h.tk (Tk.same (sb.trans sv))⟩, fun H7 x7 s7 hP7 => ?_⟩
      have s37 := s36.trans s7
      have okm : RowsOk zs.length ms := fun a ha => okr a (pm.mem_iff.mp ha)
      exact q H7 x7 ms (sb1.trans (sb2.trans (.same s37))) (jug_same s37 j2) hP7 ⟨z1, z6, ag.iss, ag.plain, okm, asc_of_data (pm.nodup_iff.mpr nd) so, fun k hk => ((ag.both k hk).flip ag.ok hi).sub fun a ha => pm.mem_iff.mpr ha⟩
  | false =>
  refine iteF ⟨.ref pd, rfl, pd, _, rfl, hpd, fun H2 p ts s2 np nts pts hp pr => ⟨p, ts, _, rfl, .of hp, items_two pr, fun d nd => ?_⟩⟩
  have sd := (show Same H1 H2 from s2).trans (same_new (o := .dK [(Sum.inr "issues", .ref t), (Sum.inr "rows", .ref u)]) nd)
  exact q _ (.ref d) rs (sb1.trans (.same sd)) (jug_same sd j1) ⟨d, t, u, rfl, upd_same, sd _ _ ht, hu.tk (Tk.same sd)⟩ ag
end
end Ow

set_option Elab.async false
set_option linter.all false
set_option maxRecDepth 100000
set_option maxHeartbeats 4000000
set_option exponentiation.threshold 3000
set_option pp.maxSteps 900
set_option pp.deepTerms false
namespace Ow
open PySem PySem.Spec PyProof.Rows L2
abbrev arN : List Str := ["made", "plain", "names", "rows", "text", "row", "odd", "name", "value", "one"]
theorem scAllR : FnScope arN ["made", "plain"] (defScope dAllRight) := ⟨rfl, rfl, rfl, by decide +kernel, rfl, by decide +kernel, by decide +kernel⟩
def spAllR (C : Addr) : Sp := fun vs H Q _ => ∃ (a : Addr) (x : V) (zs : List Str) (rs : List (List Int)), vs = [.ref a, x] ∧ AgAt C H a zs rs ∧ PlainAg H x zs rs ∧ AgOk 6 zs rs ∧ ∀ H', Same H H' → Q (.bl true) H'
/-- the text of an agenda -/
def textA (n m : Nat) : Str := (((("agenda of " : Str) ++ (toString (n : Int) : Str)) ++ (" issues, " : Str)) ++ (toString (m : Int) : Str)) ++ (" rows" : Str)
theorem textA_eq (n m : Nat) : textA n m = agStr n m := by
  have e : (Str.empty ++ ("agenda of " : Str)) = ("agenda of " : Str) := by decide +kernel
  unfold textA agStr ag3 ag2 ag1
  rw [e]
theorem textA_len : ∀ n : Nat, n < 7 → ∀ m : Nat, m < 65 → ("agenda of " : Str).length + (toString (n : Int) : Str).length ≤ 200 ∧ (("agenda of " : Str) ++ (toString (n : Int) : Str)).length + (" issues, " : Str).length ≤ 200 ∧
    ((("agenda of " : Str) ++ (toString (n : Int) : Str)) ++ (" issues, " : Str)).length + (toString (m : Int) : Str).length ≤ 200 ∧ (((("agenda of " : Str) ++ (toString (n : Int) : Str)) ++ (" issues, " : Str)) ++ (toString (m : Int) : Str)).length + (" rows" : Str).length ≤ 200 := by decide +kernel
def tTextA : TE := fun σ H Q => ∃ (t u : Addr) (xs ys : List V), σ[2]? = some (some (.ref t)) ∧ σ[3]? = some (some (.ref u)) ∧ H t = some (.tup xs) ∧ H u = some (.tup ys) ∧ xs.length < 7 ∧ ys.length < 65 ∧ ∀ tx : Str, tx = agStr xs.length ys.length → Q (.str tx) H
/-- what stands throughout -/
structure ArF (C a pd t u : Addr) (zs : List Str) (rs : List (List Int)) (xs : List V) (H : Hp) : Prop where
  hA : AgAt C H a zs rs
  hP : PlainAg H (.ref pd) zs rs
  ht : H t = some (.tup (zs.map V.str))
  hu : H u = some (.tup xs)
  ax : All2 (IsRow H) xs rs
theorem AgAt.tkS {C : Addr} {H H' : Hp} {a : Addr} {zs : List Str} {rs : List (List Int)} (h : AgAt C H a zs rs) (s : Same H H') : AgAt C H' a zs rs := by
  obtain ⟨dx, t, u, h1, h2, h3⟩ := h
  exact ⟨dx, t, u, s _ _ h1, h2.same s, h3.tk (Tk.same s)⟩
theorem ArF.same {C a pd t u : Addr} {zs : List Str} {rs : List (List Int)} {xs : List V} {H H' : Hp} (h : ArF C a pd t u zs rs xs H) (s : Same H H') : ArF C a pd t u zs rs xs H' :=
  ⟨h.hA.tkS s, h.hP.tk (Tk.same s), s _ _ h.ht, s _ _ h.hu, all_tk (Tk.same s) h.ax⟩
abbrev stA (a pd t u : Addr) (zs : List Str) (rs : List (List Int)) (y5 y6 y7 y8 y9 : Option V) : L2.St := [some (.ref a), some (.ref pd), some (.ref t), some (.ref u), some (.str (agStr zs.length rs.length)), y5, y6, y7, y8, y9]
/-- a statement that changes nothing -/
def tKeep (C : Addr) : TS := fun D σ H => ∃ (a pd t u : Addr) (zs : List Str) (rs : List (List Int)) (xs : List V) (y5 y6 y7 y8 y9 : Option V), AgOk 6 zs rs ∧ σ = stA a pd t u zs rs y5 y6 y7 y8 y9 ∧ ArF C a pd t u zs rs xs H ∧
  ∀ H' z5, Same H H' → D.nx (stA a pd t u zs rs z5 y6 y7 y8 y9) H'
def stmtA (i : Nat) : Stmt := (defBody dAllRight).getD i (.Pass ⟨0, 0, 0, 0⟩)
abbrev cxA (P : Program) (w : World) (K : PySem.W.Frag) (mg : Str → Option Value) (base : Heap) (f : Addr) (cdv : Value) (A : Around) (outer : List Env) (s : Shared) (H : Hp) (E : XK) : Cx := (cxOf CX0 P w K mg base arN "_law_all_right" (defScope dAllRight) f cdv A outer s H E).nox
section
variable {P : Program} {w : World} {K : PySem.W.Frag} {mg : Str → Option Value} {base : Heap} {C : Addr}
theorem ps_ar2 {fI fL fS fT : Addr} {fdI fdL fdS fdT : FuncData} (R : AgC K C)
    (FI : FnG P w K mg base 3 fI fdI ["made", "plain"] (spIsA C)) (kI : PySem.W.keepIn K (.ref fI) = true) (bI : Binds K fdI ["made", "plain"] []) (gI : mg "_law_is_agenda" = some (.ref fI))
    (mL : Meth K C "__len__" fL) (FL : FnOk P w K mg base CX0 1 fL fdL ["self"] (spLen C)) (bL : Binds K fdL ["self"] [])
    (mS : Meth K C "__str__" fS) (FS : FnOk P w K mg base CX0 1 fS fdS ["self"] (spAgStr C)) (bS : Binds K fdS ["self"] [])
    (mT : Meth K C "__iter__" fT) (FT : FnN P w K mg base CX0 1 fT fdT ["self"] (spIterA C)) (bT : Binds K fdT ["self"] [])
    (ml : mg "len" = none) (ms : mg "str" = none) (mls : mg "list" = none)
    {f : Addr} {cdv : Value} {A : Around} {outer : List Env} {s : Shared} {H : Hp} {E : XK} (gB : A.guards = some []) (hr : Room 5 (A.deeper (envOfC "_law_all_right" (defScope dAllRight) s.heap.objs.size f cdv))) :
    PS (cxA P w K mg base f cdv A outer s H E) (stmtA 2) (tKeep C) := by
  have hu64 : (A.deeper (envOfC "_law_all_right" (defScope dAllRight) s.heap.objs.size f cdv)).units + 64 < cLine := hr.units
  refine PS.of2 (ps_if (PW.pt (pw_or (pt_not (pt_val (pe_callG FI gB (hr.mono (by decide)) (by rfl) gI kI bI (pa_cons (pv 0) (pa_cons (pv 1) pa_nil)))))
      (pw_or (pt_cmpR op_ne (pe_callB (call_lenO mL FL (hr.mono (by decide)) bL pass0) (by rfl) ml PySem.boot_len (pa_cons (pv 0) pa_nil)) (pe_callB call_len_seq (by rfl) ml PySem.boot_len (pa_cons (pv 3) pa_nil)) (nomark _))
      (pw_or (pt_cmpR op_ne (pe_callTy (call_strO mS FS (hr.mono (by decide)) bS pass0) (by rfl) ms (by decide +kernel) (pa_cons (pv 0) pa_nil)) (pv 4) (nomark _))
      (pw_or1 (pt_cmpR (op_neD hu64) (pe_lc (te := tVar 5) (own := [("row", 5)]) (g := gName 5) (tt := tYes) rfl scAllR.nd (pi_own (pv 0) mT FT (hr.mono (by decide)) bT pass0) (blkOk_by (N := arN) (sc := defScope dAllRight) (by decide +kernel))
            (fun _ _ _ _ _ => pg_name (i := 5) scAllR.nd rfl (Or.inl rfl)) (fun _ _ _ _ _ => pts_nil) (fun _ _ _ _ _ => pv 5))
          (pe_callTy call_list_of (by rfl) mls (by decide +kernel) (pa_cons (pv 3) pa_nil)) (nomark _))))))) (pss_one (ps_ret pe_bl)) pss_nil) ?red
  case red =>
  intro D σ H h
  obtain ⟨a, pd, t, u, zs, rs, xs, y5, y6, y7, y8, y9, ag, rfl, F, k⟩ := h
  obtain ⟨dx, t2, u2, ha, ht2, hu2⟩ := id F.hA
  have few := ag.few64
  have z6 := ag.le
  refine ⟨.ref a, rfl, .ref pd, rfl, a, _, zs, rs, rfl, F.hA, F.hP, ag, fun H1 s1 => ⟨true, rfl, iteF ?_⟩⟩
  have F1 := F.same s1
  have ha1 := s1 _ _ ha
  have lx := F.ax.len
  refine ⟨.ref a, rfl, a, dx, _, rfl, ha1, a, zs, rs, rfl, F1.hA, _, rfl, Int.natCast_nonneg _, by omega, .ref u, rfl, u, _, rfl, .inr (.of F1.hu), rfl, false, ?_, iteF ?_⟩
  · rw [lx, decide_eq_true rfl]
    rfl
  refine ⟨.ref a, rfl, a, dx, _, rfl, ha1, a, zs, rs, rfl, F1.hA, z6, few, _, rfl, .str (agStr zs.length rs.length), rfl, rfl, false, ?_, iteF ?_⟩
  · rw [decide_eq_true rfl]
    rfl
  obtain ⟨ub, us, eu, hub, aub⟩ := id (hu2.tk (Tk.same s1))
  cases eu
  refine ⟨.ref a, rfl, a, dx, _, u2, rfl, ha1, fun n => ⟨a, dx, t2, u2, us, rfl, ha1, hub, fun it hit hn => ⟨it, hn, rfl, hit, rfl⟩⟩, fun L nL => ?_⟩
  refine lc_map (M := No) (walk_tup (K := K) (a := u2) (xs := us)) (by have := aub.len; omega) Jg.no nL (fun i _ y => us[i]? = some y) (fun _ _ _ _ _ h => h) (fun Hx g _ => .of (g.toSame _ _ hub))
    (fun i x Hx Hx' Kk hi g _ hY hK => ?_) (fun H4 ys g _ eL hlen hq => ?_)
  · obtain ⟨rfl, hx⟩ := hY
    exact ⟨rfl, x, rfl, hK _ _ (Gw.refl _) Jg.no hx⟩
  have s34 := g.toSame
  have eys : ys = us := List.ext_getElem? fun i => by
    cases hy : ys[i]? with
    | none => rw [List.getElem?_eq_none (by have := List.getElem?_eq_none_iff.mp hy; omega)]
    | some y => exact (hq i y hy).symm
  rw [eys] at eL
  refine ⟨.ref u, rfl, u, _, rfl, .inr (.of (s34 _ _ F1.hu)), fun l nl => ?_⟩
  have s45 : Same H4 (upd H4 l (.lst xs)) := same_new nl
  refine ⟨.list (rs.map rowD), .list (rs.map rowD), .lst (.of (s45 _ _ eL)) (dp_all (all_tk (Tk.same (s34.trans s45)) aub)), .lst (.of upd_same) (dp_all (all_tk (Tk.same (s34.trans s45)) F1.ax)), shaped_rowsG _, shaped_rowsG _, false, ?_, iteF ?_⟩
  · rw [show PyData.eqv (.list (rs.map rowD)) (.list (rs.map rowD)) = true from (eqv_rows rs rs).trans (decide_eq_true rfl)]
    rfl
  exact k _ y5 (s1.trans (s34.trans s45))
end
end Ow

set_option Elab.async false
set_option linter.all false
set_option maxRecDepth 100000
set_option maxHeartbeats 4000000
set_option exponentiation.threshold 3000
set_option pp.maxSteps 900
set_option pp.deepTerms false
namespace Ow
open PySem PySem.Spec PyProof.Rows L2
theorem enc_fit {z : Str} {b : Int} (nz : nameB (.str z) = true) (hb : b = 0 ∨ b = 1) : Fit (encA (z, b)) 1 171 := by
  refine (Fit.tuple (ds := [.str z, .int b]) (k := 0) (w := 82) fun d hd => ?_).mono (Nat.le_refl _) (by simp)
  simp only [List.mem_cons, List.not_mem_nil, or_false] at hd
  rcases hd with rfl | rfl
  · exact Fit.str (name_fit nz)
  · exact (Fit.bit hb).mono (by decide) (by decide)
theorem part_fit {zs : List Str} (nm : ∀ z ∈ zs, nameB (.str z) = true) (z6 : zs.length ≤ 6) : Fit (encP (answersN zs)) 2 2100 := by
  refine (Fit.tuple (ds := (answersN zs).map encA) (k := 1) (w := 171) fun d hd => ?_).mono (Nat.le_refl _) ?_
  · obtain ⟨c, hc, rfl⟩ := List.mem_map.mp hd
    obtain ⟨h1, h2⟩ := mem_answers hc
    exact enc_fit (nm _ h1) h2
  · rw [List.length_map, answers_len]
    omega
theorem dp_intsA {K : PySem.W.Frag} {H : Hp} : ∀ l : List Int, DpAll K H (l.map V.int) (l.map .int)
  | [] => .nil
  | i :: l => .cons (.int i) (dp_intsA l)
def upto (n : Nat) : List Int := (List.range n).map fun i => ((i : Nat) : Int)
theorem rgV_upto (n : Nat) : rgV 0 (n : Int) = (upto n).map V.int := by
  unfold rgV upto
  rw [List.map_map, Int.sub_zero, Int.toNat_natCast]
  refine List.map_congr_left fun i _ => ?_
  show V.int (0 + (i : Int)) = V.int (i : Int)
  rw [Int.zero_add]
theorem strs_nodup : ∀ {zs : List Str}, ascB zs = true → zs.Pairwise (fun a b => ltS a b = true)
  | [], _ => .nil
  | [_], _ => .cons (fun _ h => nomatch h) .nil
  | a :: b :: r, h => by
    unfold ascB at h
    have h : ((ltS a b) :: ((b :: r).zip (b :: r).tail).map fun p => ltS p.1 p.2).all id = true := h
    rw [List.all_cons, Bool.and_eq_true] at h
    have ih := strs_nodup (zs := b :: r) h.2
    refine .cons (fun c hc => ?_) ih
    rcases List.mem_cons.mp hc with rfl | hc
    · exact h.1
    · have bc := (List.pairwise_cons.mp ih).1 c hc
      have ab : ltS a b = true := h.1
      unfold ltS at ab bc ⊢
      exact decide_eq_true (List.lt_trans (of_decide_eq_true ab) (of_decide_eq_true bc))
theorem issues_nd {zs : List Str} (h : issuesB zs = true) : zs.Nodup := by
  unfold issuesB namesB at h
  simp only [Bool.and_eq_true] at h
  refine (strs_nodup h.1.2).imp fun {a b} e z => ?_
  rw [z] at e
  unfold ltS at e
  exact absurd (of_decide_eq_true e) (List.lt_irrefl _)
section
variable {P : Program} {w : World} {K : PySem.W.Frag} {mg : Str → Option Value} {base : Heap} {C : Addr}
theorem ps_ar3 {pP gP fA fG : Addr} {dP fdA fdG : FuncData} (R : AgC K C)
    (hpP : PropOf K C "answers" pP gP) (FP : FnOk P w K mg base CX0 1 gP dP ["self"] (spAgAns C)) (bP : Binds K dP ["self"] [])
    (FA : FnOk P w K mg base CX0 1 fA fdA ["plain"] spLAns) (kA : PySem.W.keepIn K (.ref fA) = true) (bA : Binds K fdA ["plain"] []) (gA : mg "_law_answers" = some (.ref fA))
    (hn : PySem.W.noSeq K C = true) (mG : Meth K C "__getitem__" fG) (hfG : PySem.W.fnIn K fG = true) (FG : FnOk P w K mg base CX0 1 fG fdG ["self", "issue"] (spAgGet C)) (bG : Binds K fdG ["self", "issue"] [])
    (ml : mg "len" = none) (mp : mg "repr" = none) (mls : mg "list" = none) (mt : mg "tuple" = none) (mr : mg "range" = none)
    {f : Addr} {cdv : Value} {A : Around} {outer : List Env} {s : Shared} {H : Hp} {E : XK} (gB : A.guards = some []) (hr : Room 5 (A.deeper (envOfC "_law_all_right" (defScope dAllRight) s.heap.objs.size f cdv))) :
    PS (cxA P w K mg base f cdv A outer s H E) (stmtA 3) (tKeep C) := by
  have hu64 : (A.deeper (envOfC "_law_all_right" (defScope dAllRight) s.heap.objs.size f cdv)).units + 64 < cLine := hr.units
  refine PS.of2 (ps_if (PW.pt (pw_or (pt_cmpR op_ne (pe_callB (call_repr gB hr.units) (by rfl) mp boot_repr (pa_cons (pe_prop (pv 0) R.cl hpP FP (hr.mono (by decide)) bP .nil pass0 (by rfl)) pa_nil))
        (pe_callB (call_repr gB hr.units) (by rfl) mp boot_repr (pa_cons (pe_callTy call_tuple_of (by rfl) mt boot_tup (pa_cons (pe_call FA (hr.mono (by decide)) (by rfl) gA kA bA .nil pass0 (pa_cons (pv 1) pa_nil)) pa_nil)) pa_nil)) (nomark _))
      (pw_or1 (pt_cmpR (op_neD hu64) (pe_lc (te := tIxO C (spAgGet C) E0 (tVar 0) (tVar 7)) (own := [("name", 7)]) (g := gName 7) (tt := tYes) rfl scAllR.nd (pi_tup (pv 2)) (blkOk_by (N := arN) (sc := defScope dAllRight) (by decide +kernel))
            (fun _ _ _ _ _ => pg_name (i := 7) scAllR.nd rfl (Or.inl rfl)) (fun _ _ _ _ _ => pts_nil) (fun _ _ _ _ _ => pe_ixO (pv 0) (pv 7) hn mG hfG FG (hr.mono (by decide)) bG pass0))
          (pe_listRg rfl (by rfl) mls (prg_1 (by rfl) mr (pe_callB call_len_seq (by rfl) ml PySem.boot_len (pa_cons (pv 2) pa_nil)))) (nomark _))))) (pss_one (ps_ret pe_bl)) pss_nil) ?red
  case red =>
  intro D σ H h
  obtain ⟨a, pd, t, u, zs, rs, xs, y5, y6, y7, y8, y9, ag, rfl, F, k⟩ := h
  obtain ⟨dx, t2, u2, ha, ht2, hu2⟩ := id F.hA
  have z6 := ag.le
  have nm := issues_nm ag.iss
  obtain ⟨f1, f2, f3, f4, f5⟩ := (part_fit nm z6).told (by decide) (by decide) (fun i e => nomatch e)
  refine ⟨.ref a, rfl, a, dx, _, rfl, ha, a, zs, rs, rfl, F.hA, z6, fun H1 p s1 hp => ?_⟩
  refine ⟨.ref p, encP (answersN zs), rfl, dpP hp, f1, f2, f3, f4, f5, ?_⟩
  have F1 := F.same s1
  refine ⟨.ref pd, rfl, _, zs, rs, rfl, F1.hP, z6, fun H2 L ys s2 hL ay => ⟨L, ys, rfl, .inl ⟨.of hL, fun T nT => ?_⟩⟩⟩
  have sT := same_new (o := .tup ys) nT
  have ayT := ay.imp fun _ _ h => h.tk (Tk.same sT)
  refine ⟨.ref T, encP (answersN zs), rfl, dpP ⟨T, ys, rfl, upd_same, ayT⟩, f1, f2, f3, f4, f5, rfl, false, ?_, iteF ?_⟩
  · rw [decide_eq_true rfl]
    rfl
  have s02 := s1.trans (s2.trans sT)
  have F2 := F.same s02
  generalize upd H2 T (.tup ys) = H3 at s02 F2 ⊢
  have ha3 := s02 _ _ ha
  have lz := ag.one
  refine ⟨.ref t, rfl, t, rfl, ⟨_, .of F2.ht⟩, fun D2 nD => ?_⟩
  refine lc_map (M := No) (walk_tup (K := K) (a := t) (xs := zs.map V.str)) (by rw [List.length_map]; omega) Jg.no nD (fun i _ y => y = .int (i : Nat)) (fun _ _ _ _ _ h => h) (fun Hx g _ => .of (g.toSame _ _ F2.ht))
    (fun i x Hx Hx' Kk hi g _ hY hK => ?_) (fun H4 ys g _ eL hlen hq => ?_)
  · obtain ⟨rfl, hx⟩ := hY
    rw [List.getElem?_map] at hx
    obtain ⟨z, hz, rfl⟩ := Option.map_eq_some_iff.mp hx
    have sx := g.toSame
    exact ⟨rfl, .ref a, rfl, .str z, rfl, a, dx, _, rfl, sx _ _ ha3, a, zs, rs, i, z, rfl, (F2.same sx).hA, issues_nd ag.iss, hz, fun H5 s5 => hK _ _ (Gw.same s5) Jg.no rfl⟩
  have s34 := g.toSame
  have F4 := F2.same s34
  have eys : ys = (upto zs.length).map V.int := by
    unfold upto
    rw [List.map_map]
    rw [List.length_map] at hlen
    exact list_eq (zs := List.range zs.length) (f := V.int ∘ fun i : Nat => (i : Int)) hlen List.length_range fun i y hy => by
      have e := hq i y hy
      have l : i < ys.length := (List.getElem?_eq_some_iff.mp hy).1
      exact ⟨i, List.getElem?_range (by omega), e⟩
  subst eys
  refine ⟨.ref t, rfl, t, _, rfl, .inr (.of F4.ht), _, rfl, ?_⟩
  rw [List.length_map]
  refine ⟨RgOk.of_le (by omega) (by omega) (by omega) (by omega), fun q nq => ?_⟩
  rw [rgV_upto]
  have sq := same_new (o := .lst ((upto zs.length).map V.int)) nq
  refine ⟨.list ((upto zs.length).map .int), .list ((upto zs.length).map .int), .lst (.of (sq _ _ eL)) (dp_intsA _), .lst (.of upd_same) (dp_intsA _), shaped_row (upto zs.length), shaped_row (upto zs.length), false, ?_, iteF ?_⟩
  · rw [show PyData.eqv (.list ((upto zs.length).map .int)) (.list ((upto zs.length).map .int)) = true from (eqv_row (upto zs.length) (upto zs.length)).trans (decide_eq_true rfl)]
    rfl
  exact k _ y5 (s02.trans (s34.trans sq))
end
end Ow

set_option Elab.async false
set_option linter.all false
set_option maxRecDepth 100000
set_option maxHeartbeats 4000000
set_option exponentiation.threshold 3000
set_option pp.maxSteps 900
set_option pp.deepTerms false
namespace Ow
open PySem PySem.Spec PyProof.Rows L2
section
variable {P : Program} {w : World} {K : PySem.W.Frag} {mg : Str → Option Value} {base : Heap} {C : Addr}
theorem ps_ar4 {fA fC : Addr} {fdA fdC : FuncData} (R : AgC K C)
    (FA : FnOk P w K mg base CX0 1 fA fdA ["size"] spRowsL) (kA : PySem.W.keepIn K (.ref fA) = true) (bA : Binds K fdA ["size"] []) (gA : mg "_law_all_rows" = some (.ref fA))
    (mC : Meth K C "__contains__" fC) (FC : FnOk P w K mg base CX0 4 fC fdC ["self", "value"] (spAgCont C)) (bC : Binds K fdC ["self", "value"] [])
    (ml : mg "len" = none) (mp : mg "repr" = none)
    {f : Addr} {cdv : Value} {A : Around} {outer : List Env} {s : Shared} {H : Hp} {E : XK} (gB : A.guards = some []) (hr : Room 5 (A.deeper (envOfC "_law_all_right" (defScope dAllRight) s.heap.objs.size f cdv))) :
    PS (cxA P w K mg base f cdv A outer s H E) (stmtA 4) (tKeep C) := by
  have hu65 : (A.deeper (envOfC "_law_all_right" (defScope dAllRight) s.heap.objs.size f cdv)).units + 65 < cLine := by
    have := hr.un
    omega
  refine PS.of2 (ps_for PassesOwn.never rfl (pi_list (pe_call FA (hr.mono (by decide)) (by rfl) gA kA bA .nil pass0 (pa_cons (pe_callB call_len_seq (by rfl) ml PySem.boot_len (pa_cons (pv 2) pa_nil)) pa_nil))) (pg_name (i := 5) scAllR.nd rfl (.inl rfl))
      (pss_one (ps_if (pt_cmpR op_ne (pe_callB (call_repr gB hr.units) (by rfl) mp boot_repr (pa_cons (pe_cmpR (op_inO mC FC (hr.mono (by decide)) bC pass0) (pv 5) (pv 0) (by rfl)) pa_nil))
        (pe_callB (call_repr gB hr.units) (by rfl) mp boot_repr (pa_cons (pe_cmpR (op_inT hu65) (pv 5) (pv 3) (by rfl)) pa_nil)) (nomark _)) (pss_one (ps_ret pe_bl)) pss_nil))) ?red
  case red =>
  intro D σ H h
  obtain ⟨a, pd, t, u, zs, rs, xs, y5, y6, y7, y8, y9, ag, rfl, F, k⟩ := h
  obtain ⟨dx, t2, u2, ha, ht2, hu2⟩ := id F.hA
  have z6 := ag.le
  refine ⟨.ref t, rfl, t, _, rfl, .inr (.of F.ht), zs.length, by rw [List.length_map]; rfl, z6, fun H1 ev vs s1 nev hev ax => ⟨ev, rfl, ⟨_, .of hev⟩, ?_⟩⟩
  refine for_list (K := K) (xs := vs) (fun i σ Hy => ∃ z5, σ = stA a pd t u zs rs z5 y6 y7 y8 y9 ∧ Same H1 Hy) ⟨y5, rfl, Same.refl _⟩ (fun i σ Hy _ h => ?_) (fun i x σ Hy hv h => ?_) (fun σ Hy h => ?_)
  · obtain ⟨_, _, sy⟩ := h
    exact .of (sy _ _ hev)
  · obtain ⟨z5, rfl, sy⟩ := h
    obtain ⟨r, hr', hrv⟩ := ax.get hv
    obtain ⟨rb, rl⟩ := rowsN_ok _ r (List.mem_of_getElem? hr')
    have hrv := hrv.tk (Tk.same sy)
    have F1 := F.same (s1.trans sy)
    have ha1 := (s1.trans sy) _ _ ha
    refine ⟨x, rfl, .ref a, rfl, a, dx, _, rfl, ha1, a, x, zs, rs, rfl, F1.hA, .inr ⟨r, hrv, rb, by omega, fun H2 s2 => ⟨_, rfl, ?_⟩⟩⟩
    obtain ⟨t1, t2', t3, t4, t5⟩ := (Fit.bool (decide (r ∈ rs))).told (by decide) (by decide) (fun i e => nomatch e)
    refine ⟨.bl (decide (r ∈ rs)), .bool (decide (r ∈ rs)), rfl, .bl _, t1, t2', t3, t4, t5, ?_⟩
    have F2 := F1.same s2
    refine ⟨x, rfl, .ref u, rfl, rowD r, rs.map rowD, dp_row (hrv.tk (Tk.same s2)), .tup (.of F2.hu) (dp_all F2.ax), shaped_row r, shaped_rowsG rs, ?_⟩
    rw [show ((if false = true then !((rs.map rowD).any fun z => PyData.eqv z (rowD r)) else (rs.map rowD).any fun z => PyData.eqv z (rowD r)) : Bool) = decide (r ∈ rs) from in_rowsA rs r]
    refine ⟨.bl (decide (r ∈ rs)), .bool (decide (r ∈ rs)), rfl, .bl _, t1, t2', t3, t4, t5, rfl, false, ?_, iteF ⟨_, rfl, sy.trans s2⟩⟩
    rw [decide_eq_true (rfl : V.str (PyData.bool (decide (r ∈ rs))).shown = _)]
    rfl
  · obtain ⟨z5, rfl, sy⟩ := h
    exact k Hy z5 (s1.trans sy)
end
end Ow

set_option Elab.async false
set_option linter.all false
set_option maxRecDepth 100000
set_option maxHeartbeats 4000000
set_option exponentiation.threshold 3000
set_option pp.maxSteps 900
set_option pp.deepTerms false
namespace Ow
open PySem PySem.Spec PyProof.Rows L2
/-- no row of the agenda -/
def OddV (rs : List (List Int)) (H : Hp) (x : V) : Prop := (∃ J, Vl J H x ∧ rowB H x = false) ∨ ∃ r, IsRow H x r ∧ bitsB r = true ∧ r.length ≤ 60 ∧ r ∉ rs
theorem rowB_same {J : Addr} {H H' : Hp} {x : V} (s : Same H H') (v : Vl J H x) : rowB H' x = rowB H x := by
  rcases v with h | ⟨a, rfl, _, h⟩
  · cases x with
    | ref a => exact h.elim
    | _ => rfl
  · have e : ∃ o, H a = some o := by
      rcases h with ⟨xs, h, _⟩ | ⟨xs, h⟩ | ⟨xs, h⟩ <;> exact ⟨_, h⟩
    obtain ⟨o, e⟩ := e
    have e2 := s _ _ e
    show (match H' a with | some (.tup xs) => xs.all bitB | _ => false) = (match H a with | some (.tup xs) => xs.all bitB | _ => false)
    rw [e, e2]
theorem OddV.same {rs : List (List Int)} {H H' : Hp} {x : V} (h : OddV rs H x) (s : Same H H') : OddV rs H' x := by
  rcases h with ⟨J, v, n⟩ | ⟨r, h1, h2, h3, h4⟩
  · exact .inl ⟨J, v.mono (.same s), by rw [rowB_same s v]; exact n⟩
  · exact .inr ⟨r, h1.tk (Tk.same s), h2, h3, h4⟩
theorem OddV.sc {rs : List (List Int)} {H : Hp} {x : V} (h : scOk x) : OddV rs H x := .inl ⟨0, .inl h, by
  cases x with
  | ref a => exact h.elim
  | _ => rfl⟩
theorem OddV.lst {rs : List (List Int)} {H : Hp} {a : Addr} {xs : List V} (h : H a = some (.lst xs)) : OddV rs H (.ref a) := .inl ⟨a + 1, .inr ⟨a, rfl, Nat.ne_of_lt (Nat.lt_succ_self a), .inr (.inl ⟨_, h⟩)⟩, by
  show (match H a with | some (.tup xs) => xs.all bitB | _ => false) = false
  rw [h]⟩
theorem OddV.dk {rs : List (List Int)} {H : Hp} {a : Addr} {xs : List (Key × V)} (h : H a = some (.dK xs)) : OddV rs H (.ref a) := .inl ⟨a + 1, .inr ⟨a, rfl, Nat.ne_of_lt (Nat.lt_succ_self a), .inr (.inr ⟨_, h⟩)⟩, by
  show (match H a with | some (.tup xs) => xs.all bitB | _ => false) = false
  rw [h]⟩
theorem OddV.tup {rs : List (List Int)} {H : Hp} {a : Addr} {xs : List V} {x : V} (h : H a = some (.tup xs)) (l : xs.length ≤ 60) (sc : ∀ y ∈ xs, scOk y) (hx : x ∈ xs) (nb : bitB x = false) : OddV rs H (.ref a) :=
  .inl ⟨a + 1, .inr ⟨a, rfl, Nat.ne_of_lt (Nat.lt_succ_self a), .inl ⟨_, h, l, fun y hy => .inl (sc y hy)⟩⟩, by
    show (match H a with | some (.tup xs) => xs.all bitB | _ => false) = false
    rw [h]
    refine Bool.eq_false_iff.mpr fun e => ?_
    have := List.all_eq_true.mp e x hx
    rw [nb] at this
    cases this⟩
theorem OddV.rep {rs : List (List Int)} {H : Hp} {a : Addr} {n : Nat} {x : V} (h : H a = some (.tup (List.replicate (n : Int).toNat [x]).flatten)) (n1 : 1 ≤ n) (l : n ≤ 60) (sc : scOk x) (nb : bitB x = false) : OddV rs H (.ref a) := by
  have e : (List.replicate (n : Int).toNat [x]).flatten = List.replicate n x := by simp
  rw [e] at h
  refine OddV.tup h (by rw [List.length_replicate]; exact l) (fun y hy => ?_) (x := x) (List.mem_replicate.mpr ⟨by omega, rfl⟩) nb
  rw [(List.mem_replicate.mp hy).2]
  exact sc
theorem OddV.row {m : Nat} {rs : List (List Int)} {H : Hp} {x : V} {r : List Int} (ok : RowsOk m rs) (h : IsRow H x r) (b : bitsB r = true) (l : r.length ≤ 60) (n : r.length ≠ m) : OddV rs H x :=
  .inr ⟨r, h, b, l, fun hr => n (ok r hr).2⟩
def tOdd (C : Addr) : TS := fun D σ H => ∃ (a pd t u : Addr) (zs : List Str) (rs : List (List Int)) (xs : List V) (y5 y6 y7 y8 y9 : Option V), AgOk 6 zs rs ∧ σ = stA a pd t u zs rs y5 y6 y7 y8 y9 ∧ ArF C a pd t u zs rs xs H ∧
  ∀ H' L vs, Same H H' → H' L = some (.lst vs) → vs.length ≤ 9 → (∀ x ∈ vs, OddV rs H' x) → D.nx (stA a pd t u zs rs y5 (some (.ref L)) y7 y8 y9) H'
section
variable {P : Program} {w : World} {K : PySem.W.Frag} {mg : Str → Option Value} {base : Heap} {C : Addr}
theorem ps_ar5 (R : AgC K C) (ml : mg "len" = none) (mls : mg "list" = none)
    {f : Addr} {cdv : Value} {A : Around} {outer : List Env} {s : Shared} {H : Hp} {E : XK} (gB : A.guards = some []) (hr : Room 5 (A.deeper (envOfC "_law_all_right" (defScope dAllRight) s.heap.objs.size f cdv))) :
    PS (cxA P w K mg base f cdv A outer s H E) (stmtA 5) (tOdd C) := by
  refine PS.of2 (ps_set (i := 6) scAllR.nd rfl (.inl rfl) (pe_lst (pa_cons pe_non (pa_cons pe_int (pa_cons (pe_tup pa_nil) (pa_cons (pe_op op_repS1 pe_str (pe_callB call_len_seq (by rfl) ml PySem.boot_len (pa_cons (pv 2) pa_nil)))
    (pa_cons (pe_callTy call_list_of (by rfl) mls (by decide +kernel) (pa_cons (pe_ix ix_tup (pv 3) pe_int (fun _ _ => rfl)) pa_nil))
    (pa_cons (pe_op op_tcat (pe_ix ix_tup (pv 3) pe_int (fun _ _ => rfl)) (pe_tup (pa_cons pe_int pa_nil)))
    (pa_cons (pe_slice sl_tup (pe_ix ix_tup (pv 3) pe_int (fun _ _ => rfl)) (po_some pe_int) po_none)
    (pa_cons (pe_op op_repT1 (pe_tup (pa_cons pe_bl pa_nil)) (pe_callB call_len_seq (by rfl) ml PySem.boot_len (pa_cons (pv 2) pa_nil)))
    (pa_cons (pe_op op_repT1 (pe_tup (pa_cons pe_non pa_nil)) (pe_callB call_len_seq (by rfl) ml PySem.boot_len (pa_cons (pv 2) pa_nil))) pa_nil))))))))))) ?red
  case red =>
  intro D σ H h
  obtain ⟨a, pd, t, u, zs, rs, xs, y5, y6, y7, y8, y9, ag, rfl, F, k⟩ := h
  have z1 := ag.one
  have z6 := ag.le
  have lx := F.ax.len
  obtain ⟨r0, hr0⟩ : ∃ r0, rs[0]? = some r0 := by
    obtain ⟨⟨r, hr, _⟩, _⟩ := ag.both 0 (by omega)
    have := List.length_pos_of_mem hr
    exact ⟨_, List.getElem?_eq_getElem this⟩
  obtain ⟨r0b, r0l⟩ := ag.ok r0 (List.mem_of_getElem? hr0)
  obtain ⟨x0, hx0, b0, rfl, hb0⟩ := F.ax.get' hr0
  have at0 : ∀ {Hz : Hp}, atI xs 0 = some (.ref b0) := fun {_} => atI_nat (j := 0) hx0
  refine ⟨Nat.zero_le _, fun T nT => ?_⟩
  have sT := same_new (o := .tup []) nT
  have eT : upd H T (.tup []) T = some (.tup []) := upd_same
  have F1 := F.same sT
  have hb1 := sT _ _ hb0
  generalize upd H T (.tup []) = H1 at sT eT F1 hb1 ⊢
  refine ⟨.ref t, rfl, t, _, rfl, .inr (.of F1.ht), 48, zs.length, congrArg V.str (by decide +kernel), by rw [List.length_map], z1, by omega, ?_⟩
  refine ⟨.ref u, rfl, u, xs, 0, .ref b0, rfl, rfl, .of F1.hu, atI_nat (j := 0) hx0, b0, _, rfl, .inr (.of hb1), fun L1 n1 => ?_⟩
  have s2 := same_new (o := .lst (r0.map V.int)) n1
  have e1 : upd H1 L1 (.lst (r0.map V.int)) L1 = some (.lst (r0.map V.int)) := upd_same
  have F2 := F1.same s2
  have hb2 := s2 _ _ hb1
  have s02 := sT.trans s2
  generalize upd H1 L1 (.lst (r0.map V.int)) = H2 at s2 e1 F2 hb2 s02 ⊢
  refine ⟨.ref u, rfl, u, xs, 0, .ref b0, rfl, rfl, .of F2.hu, atI_nat (j := 0) hx0, (by show 1 ≤ sizeLine; decide), fun T2 n2 => ?_⟩
  have s3 := same_new (o := .tup [.int 0]) n2
  refine ⟨b0, T2, _, _, rfl, rfl, s3 _ _ hb2, upd_same, by rw [List.length_map]; show r0.length + 1 ≤ 5000; omega, fun H3 p1 s3' hp1 => ?_⟩
  have s23 := s3.trans s3'
  have F3 := F2.same s23
  have hb3 := s23 _ _ hb2
  refine ⟨.ref u, rfl, u, xs, 0, .ref b0, rfl, rfl, .of F3.hu, atI_nat (j := 0) hx0, 1, rfl, b0, _, rfl, hb3, fun H4 p2 s4 hp2 => ?_⟩
  have F4 := F3.same s4
  refine ⟨(by show 1 ≤ sizeLine; decide), fun T3 n3 => ?_⟩
  have s5 := same_new (o := .tup [.bl true]) n3
  refine ⟨.ref t, rfl, t, _, rfl, .inr (.of (s5 _ _ F4.ht)), T3, _, [.bl true], rfl, rfl, upd_same, by simp, by rw [List.length_map]; omega, by rw [List.length_map]; omega, by decide, fun H5 p3 s5' hp3 => ?_⟩
  have s45 := s5.trans s5'
  have F5 := F4.same s45
  refine ⟨(by show 1 ≤ sizeLine; decide), fun T4 n4 => ?_⟩
  have s6 := same_new (o := .tup [V.non]) n4
  refine ⟨.ref t, rfl, t, _, rfl, .inr (.of (s6 _ _ F5.ht)), T4, _, [V.non], rfl, rfl, upd_same, by simp, by rw [List.length_map]; omega, by rw [List.length_map]; omega, by decide, fun H6 p4 s6' hp4 => ⟨(by show 9 ≤ sizeLine; decide), fun L nL => ?_⟩⟩
  rw [List.length_map] at hp3 hp4
  have s56 := s6.trans s6'
  have sL := same_new (o := .lst [V.non, .int 0, .ref T, .str (timesS 48 zs.length), .ref L1, .ref p1, .ref p2, .ref p3, .ref p4]) nL
  have s6L := sL
  have s5L := s56.trans sL
  have s4L := s45.trans s5L
  have s3L := s4.trans s4L
  have s2L := s23.trans s3L
  have s1L := s2.trans s2L
  refine k _ L _ (sT.trans s1L) upd_same (Nat.le_refl 9) fun x hx => ?_
  simp only [List.mem_cons, List.not_mem_nil, or_false] at hx
  rcases hx with rfl | rfl | rfl | rfl | rfl | rfl | rfl | rfl | rfl
  · exact .sc trivial
  · exact .sc (show (0 : Int).natAbs < 2 ^ 400 by decide)
  · exact .row ag.ok (r := []) ⟨T, rfl, s1L _ _ eT⟩ rfl (Nat.zero_le _) (by show 0 ≠ _; omega)
  · refine .sc ⟨?_, fun c hc => ?_⟩
    · show (List.replicate zs.length 48).toArray.size ≤ 4000
      rw [List.size_toArray, List.length_replicate]
      omega
    · have hc : c ∈ (List.replicate zs.length 48).toArray.toList := hc
      rw [List.toList_toArray] at hc
      rw [(List.mem_replicate.mp hc).2]
      decide
  · exact .lst (s2L _ _ e1)
  · refine .row ag.ok (r := r0 ++ [0]) ⟨p1, rfl, s3L _ _ (by rw [hp1, List.map_append]; rfl)⟩ ?_ (by rw [List.length_append]; show r0.length + 1 ≤ 60; omega) (by rw [List.length_append]; show r0.length + 1 ≠ _; omega)
    unfold bitsB at r0b ⊢
    rw [List.all_append, r0b]
    rfl
  · have ec := cutR_drop (r := r0) (i := 1) (by omega)
    have ec : cutV (r0.map V.int) (some 1) none = (r0.drop 1).map V.int := ec
    refine .row ag.ok (r := r0.drop 1) ⟨p2, rfl, s4L _ _ (by rw [hp2, ec])⟩ ?_ (by rw [List.length_drop]; omega) (by rw [List.length_drop]; omega)
    unfold bitsB at r0b ⊢
    exact List.all_eq_true.mpr fun y hy => List.all_eq_true.mp r0b y (List.mem_of_mem_drop hy)
  · exact .rep (s5L _ _ hp3) z1 (by omega) trivial (by decide)
  · exact .rep (sL _ _ hp4) z1 (by omega) trivial (by decide)
end
end Ow

set_option Elab.async false
set_option linter.all false
set_option maxRecDepth 100000
set_option maxHeartbeats 4000000
set_option exponentiation.threshold 3000
set_option pp.maxSteps 900
set_option pp.deepTerms false
namespace Ow
open PySem PySem.Spec PyProof.Rows L2
def tNoOdd (C : Addr) : TS := fun D σ H => ∃ (a pd t u L : Addr) (zs : List Str) (rs : List (List Int)) (xs vs : List V) (y5 y7 y8 y9 : Option V), AgOk 6 zs rs ∧ σ = stA a pd t u zs rs y5 (some (.ref L)) y7 y8 y9 ∧ ArF C a pd t u zs rs xs H ∧
  H L = some (.lst vs) ∧ vs.length ≤ 9 ∧ (∀ x ∈ vs, OddV rs H x) ∧ ∀ H', Same H H' → D.nx (stA a pd t u zs rs y5 (some (.ref L)) y7 y8 y9) H'
section
variable {P : Program} {w : World} {K : PySem.W.Frag} {mg : Str → Option Value} {base : Heap} {C : Addr}
theorem ps_ar6 {fC : Addr} {fdC : FuncData} (R : AgC K C)
    (mC : Meth K C "__contains__" fC) (FC : FnOk P w K mg base CX0 4 fC fdC ["self", "value"] (spAgCont C)) (bC : Binds K fdC ["self", "value"] [])
    (ml : mg "len" = none)
    {f : Addr} {cdv : Value} {A : Around} {outer : List Env} {s : Shared} {H : Hp} {E : XK} (gB : A.guards = some []) (hr : Room 5 (A.deeper (envOfC "_law_all_right" (defScope dAllRight) s.heap.objs.size f cdv))) :
    PS (cxA P w K mg base f cdv A outer s H E) (stmtA 6) (tNoOdd C) := by
  have hu64 : (A.deeper (envOfC "_law_all_right" (defScope dAllRight) s.heap.objs.size f cdv)).units + 64 < cLine := hr.units
  refine PS.of2 (ps_if (pt_cmpR (op_neD hu64) (pe_lc (te := tVar 8) (own := [("value", 8)]) (g := gName 8) (tt := tTest (tOp (rInO C (spAgCont C) E0 false) (tVar 8) (tVar 0))) rfl scAllR.nd
      (pi_list (pe_op op_cat (pv 6) (pe_lst (pa_cons (pe_op op_repT1 (pe_tup (pa_cons pe_int pa_nil)) (pe_callB call_len_seq (by rfl) ml PySem.boot_len (pa_cons (pv 2) pa_nil))) (pa_cons pe_dnewK (pa_cons (pv 2) pa_nil)))))) (blkOk_by (N := arN) (sc := defScope dAllRight) (by decide +kernel))
        (fun _ _ _ _ _ => pg_name (i := 8) scAllR.nd rfl (Or.inl rfl)) (fun _ _ _ _ _ => pts_one (pt_cmpR (op_inO mC FC (hr.mono (by decide)) bC pass0) (pv 8) (pv 0) (by rfl))) (fun _ _ _ _ _ => pv 8)) (pe_lst pa_nil) (nomark _)) (pss_one (ps_ret pe_bl)) pss_nil) ?red
  case red =>
  intro D σ H h
  obtain ⟨a, pd, t, u, L, zs, rs, xs, vs, y5, y7, y8, y9, ag, rfl, F, hL, lv, odd, k⟩ := h
  have z1 := ag.one
  have z6 := ag.le
  have nm := issues_nm ag.iss
  refine ⟨.ref L, rfl, (by show 1 ≤ sizeLine; decide), fun T nT => ?_⟩
  have sT := same_new (o := .tup [.int 2]) nT
  have F1 := F.same sT
  refine ⟨.ref t, rfl, t, _, rfl, .inr (.of F1.ht), T, _, [.int 2], rfl, rfl, upd_same, by simp, by rw [List.length_map]; omega, by rw [List.length_map]; omega, by decide, fun H2 p s2 hp => ?_⟩
  rw [List.length_map] at hp
  intro d nd
  have sd := same_new (o := .dK []) nd
  have ed : upd H2 d (.dK []) d = some (.dK []) := upd_same
  have hp' := sd _ _ hp
  have s02 := sT.trans (s2.trans sd)
  generalize upd H2 d (.dK []) = H3 at ed hp' s02 ⊢
  refine ⟨.ref t, rfl, (by show 3 ≤ sizeLine; decide), fun M nM => ?_⟩
  have sM := same_new (o := .lst [.ref p, .ref d, .ref t]) nM
  have s03 := s02.trans sM
  refine ⟨L, M, vs, [.ref p, .ref d, .ref t], rfl, rfl, s03 _ _ hL, upd_same, Nat.le_of_lt (small60 (by show vs.length + 3 ≤ 5000; omega)), fun N nN => ?_⟩
  have sN := same_new (o := .lst (vs ++ [.ref p, .ref d, .ref t])) nN
  have eN : upd (upd H3 M (.lst [.ref p, .ref d, .ref t])) N (.lst (vs ++ [.ref p, .ref d, .ref t])) N = some (.lst (vs ++ [.ref p, .ref d, .ref t])) := upd_same
  have sMN := sM.trans sN
  have s04 := s03.trans sN
  have hp4 := sMN _ _ hp'
  have ed4 := sMN _ _ ed
  generalize upd (upd H3 M (.lst [.ref p, .ref d, .ref t])) N (.lst (vs ++ [.ref p, .ref d, .ref t])) = H4 at eN s04 hp4 ed4 ⊢
  have F4 := F.same s04
  have oddN : ∀ x ∈ vs ++ [.ref p, .ref d, .ref t], OddV rs H4 x := fun x hx => by
    rcases List.mem_append.mp hx with hx | hx
    · exact (odd x hx).same s04
    simp only [List.mem_cons, List.not_mem_nil, or_false] at hx
    rcases hx with rfl | rfl | rfl
    · exact .rep hp4 z1 (by omega) (show (2 : Int).natAbs < 2 ^ 400 by decide) (by decide)
    · exact .dk ed4
    · cases zs with
      | nil => exact absurd z1 (by show ¬ 1 ≤ 0; omega)
      | cons z zr =>
        refine .tup F4.ht (by rw [List.length_map]; omega) (fun y hy => ?_) (x := .str z) List.mem_cons_self (by unfold bitB; simp)
        obtain ⟨z', hz', rfl⟩ := List.mem_map.mp hy
        exact name_scA (nm z' hz')
  obtain ⟨dx, t2, u2, ha, _⟩ := id F4.hA
  refine ⟨N, rfl, ⟨_, .of eN⟩, fun L3 nL3 => ?_⟩
  refine lc_it (walk_list (K := K) (a := N) (xs := vs ++ [.ref p, .ref d, .ref t])) (fun i Hy => Same H4 Hy ∧ Hy L3 = some (.lst [])) ⟨same_new nL3, upd_same⟩ (fun i Hy _ h => .of (h.1 _ _ eN)) (fun i x Hy Hy' hi h hY => ?_) (fun H8 h => ?_)
  · obtain ⟨sy, eD⟩ := h
    obtain ⟨rfl, hx⟩ := hY
    have F5 := F4.same sy
    refine ⟨rfl, x, rfl, .ref a, rfl, a, dx, _, rfl, sy _ _ ha, a, x, zs, rs, rfl, F5.hA, ?_⟩
    rcases (oddN x (List.mem_of_getElem? hx)).same sy with ⟨J, v, n⟩ | ⟨r, h1, h2, h3, h4⟩
    · exact .inl ⟨J, v, n, fun H6 s6 => ⟨false, rfl, false, rfl, iteF ⟨sy.trans s6, s6 _ _ eD⟩⟩⟩
    · refine .inr ⟨r, h1, h2, h3, fun H6 s6 => ⟨_, rfl, false, ?_, iteF ⟨sy.trans s6, s6 _ _ eD⟩⟩⟩
      rw [decide_eq_false h4]
      rfl
  obtain ⟨s78, eL3⟩ := h
  refine ⟨Nat.zero_le _, fun e3 ne3 => ?_⟩
  have s89 : Same H8 (upd H8 e3 (.lst [])) := same_new ne3
  exact ⟨.list [], .list [], .lst (.of (s89 _ _ eL3)) .nil, .lst (.of upd_same) .nil, rfl, rfl, false, rfl, iteF (k _ (s04.trans (s78.trans s89)))⟩
theorem eqv_ans (c : Str × Int) : PyData.eqv (encA c) (encA c) = true := by
  have e : PyData.eqvAll ([c.2].map .int) ([c.2].map .int) = true := (eqv_row [c.2] [c.2]).trans (decide_eq_true rfl)
  show ((c.1 == c.1) && PyData.eqvAll ([c.2].map .int) ([c.2].map .int)) = true
  rw [e]
  simp
theorem ok_allright {fI fL fS fT fA fG fR fC fO gP pP : Addr} {fd fdI fdL fdS fdT fdA fdG fdR fdC fdO dP : FuncData} {f : Addr} (R : AgC K C) (F : Fun K "_law_all_right" "_law_all_right" dAllRight f fd)
    (FI : FnG P w K mg base 3 fI fdI ["made", "plain"] (spIsA C)) (kI : PySem.W.keepIn K (.ref fI) = true) (bI : Binds K fdI ["made", "plain"] []) (gI : mg "_law_is_agenda" = some (.ref fI))
    (mL : Meth K C "__len__" fL) (FL : FnOk P w K mg base CX0 1 fL fdL ["self"] (spLen C)) (bL : Binds K fdL ["self"] [])
    (mS : Meth K C "__str__" fS) (FS : FnOk P w K mg base CX0 1 fS fdS ["self"] (spAgStr C)) (bS : Binds K fdS ["self"] [])
    (mT : Meth K C "__iter__" fT) (FT : FnN P w K mg base CX0 1 fT fdT ["self"] (spIterA C)) (bT : Binds K fdT ["self"] [])
    (hpP : PropOf K C "answers" pP gP) (FP : FnOk P w K mg base CX0 1 gP dP ["self"] (spAgAns C)) (bP : Binds K dP ["self"] [])
    (FA : FnOk P w K mg base CX0 1 fA fdA ["plain"] spLAns) (kA : PySem.W.keepIn K (.ref fA) = true) (bA : Binds K fdA ["plain"] []) (gA : mg "_law_answers" = some (.ref fA))
    (hn : PySem.W.noSeq K C = true) (mG : Meth K C "__getitem__" fG) (hfG : PySem.W.fnIn K fG = true) (FG : FnOk P w K mg base CX0 1 fG fdG ["self", "issue"] (spAgGet C)) (bG : Binds K fdG ["self", "issue"] [])
    (FR : FnOk P w K mg base CX0 1 fR fdR ["size"] spRowsL) (kR : PySem.W.keepIn K (.ref fR) = true) (bR : Binds K fdR ["size"] []) (gR : mg "_law_all_rows" = some (.ref fR))
    (mC : Meth K C "__contains__" fC) (FC : FnOk P w K mg base CX0 4 fC fdC ["self", "value"] (spAgCont C)) (bC : Binds K fdC ["self", "value"] [])
    (FO : FnOk P w K mg base CX0 4 fO fdO ["answer"] spContr) (kO : PySem.W.keepIn K (.ref fO) = true) (bO : Binds K fdO ["answer"] []) (gO : mg "contrary" = some (.ref fO))
    (ml : mg "len" = none) (ms : mg "str" = none) (mls : mg "list" = none) (mp : mg "repr" = none) (mt : mg "tuple" = none) (mr : mg "range" = none) : FnG P w K mg base 6 f fd ["made", "plain"] (spAllR C) := by
  refine okG F scAllR (fun vs H Q E h => ?_) (fun cdv A outer s H vs Q E gB hr h => ?_)
  · obtain ⟨a, x, zs, rs, rfl, _⟩ := h
    rfl
  obtain ⟨a, x, zs, rs, rfl, hA, hP, ag, q⟩ := h
  have hu64 : (A.deeper (envOfC "_law_all_right" (defScope dAllRight) s.heap.objs.size f cdv)).units + 64 < cLine := hr.units
  have L2 : PS (cxA P w K mg base f cdv A outer s H E) (stmtA 2) (tKeep C) := ps_ar2 R FI kI bI gI mL FL bL mS FS bS mT FT bT ml ms mls gB hr
  have L3 : PS (cxA P w K mg base f cdv A outer s H E) (stmtA 3) (tKeep C) := ps_ar3 R hpP FP bP FA kA bA gA hn mG hfG FG bG ml mp mls mt mr gB hr
  have L4 : PS (cxA P w K mg base f cdv A outer s H E) (stmtA 4) (tKeep C) := ps_ar4 R FR kR bR gR mC FC bC ml mp gB hr
  have L5 : PS (cxA P w K mg base f cdv A outer s H E) (stmtA 5) (tOdd C) := ps_ar5 R ml mls gB hr
  have L6 : PS (cxA P w K mg base f cdv A outer s H E) (stmtA 6) (tNoOdd C) := ps_ar6 R mC FC bC ml gB hr
  refine ⟨_, (pss_cons (ps_par (i := 2) (j := 3) (by rfl) scAllR.nd rfl rfl (by decide) rfl rfl (pa_cons (pe_dget (hu_of hr) (pv 1) pe_str (fun _ _ => rfl)) (pa_cons (pe_dget (hu_of hr) (pv 1) pe_str (fun _ _ => rfl)) pa_nil)) (by rfl))
    (pss_cons (ps_set (i := 4) scAllR.nd rfl (.inl rfl) (PE.of (t' := tTextA) (pe_op op_add_str (pe_op op_add_str (pe_op op_add_str (pe_op op_add_str pe_str (pe_callTy call_str_int (by rfl) ms (by decide +kernel) (pa_cons (pe_callB call_len_seq (by rfl) ml PySem.boot_len (pa_cons (pv 2) pa_nil)) pa_nil))) pe_str)
        (pe_callTy call_str_int (by rfl) ms (by decide +kernel) (pa_cons (pe_callB call_len_seq (by rfl) ml PySem.boot_len (pa_cons (pv 3) pa_nil)) pa_nil))) pe_str) ?txt))
    (pss_cons (L2)
    (pss_cons (L3)
    (pss_cons (L4)
    (pss_cons (L5)
    (pss_cons (L6)
    (pss_one (ps_ret (pe_cmpR (op_eqD hu64) (pe_lc (te := tVar 9) (own := [("one", 9)]) (g := gName 9) (tt := tTest (tOp (rNeD K) (tCall spContr [] E0 (tCons (tVar 9) tNil)) (tTup (tCons (tOp (rIxT K) (tVar 9) (tC (.int 0))) (tCons (tOp (rI0 fun i j => .int (i - j)) (tC (.int 1)) (tOp (rIxT K) (tVar 9) (tC (.int 1)))) tNil))))) rfl scAllR.nd
          (pi_tup (pe_prop (pv 0) R.cl hpP FP (hr.mono (by decide)) bP .nil pass0 (by rfl))) (blkOk_by (N := arN) (sc := defScope dAllRight) (by decide +kernel))
            (fun _ _ _ _ _ => pg_name (i := 9) scAllR.nd rfl (Or.inl rfl)) (fun _ _ _ _ _ => pts_one (pt_cmpR (op_neD hu64) (pe_call FO (hr.mono (by decide)) (by rfl) gO kO bO .nil pass0 (pa_cons (pv 9) pa_nil))
              (pe_tup (pa_cons (pe_ix ix_tup (pv 9) pe_int (fun _ _ => rfl)) (pa_cons (pe_op op_sub pe_int (pe_ix ix_tup (pv 9) pe_int (fun _ _ => rfl))) pa_nil))) (nomark _))) (fun _ _ _ _ _ => pv 9)) (pe_lst pa_nil) (nomark _))))))))))), ?red⟩
  case txt =>
    intro σ Hx Qx h
    obtain ⟨t, u, xs, ys, e1, e2, ht, hu, l1, l2, k⟩ := h
    obtain ⟨b1, b2, b3, b4⟩ := textA_len xs.length l1 ys.length l2
    have up : ∀ {n : Nat}, n ≤ 200 → n ≤ sizeLine := fun h => by rw [sizeLine_eq]; exact Nat.le_trans h (by decide)
    have lg : ∀ n : Nat, n < 70 → (n : Int).natAbs.log2 < 1920 := fun n h => by
      show (n : Nat).log2 < 1920
      exact Nat.lt_of_le_of_lt (Nat.log2_le_self n) (by omega)
    refine ⟨.ref t, e1, t, _, rfl, .inr (.of ht), _, rfl, lg _ (by omega), _, _, rfl, rfl, up b1, _, _, rfl, rfl, up b2, .ref u, e2, u, _, rfl, .inr (.of hu), _, rfl, lg _ (by omega), _, _, rfl, rfl, up b3, _, _, rfl, rfl, up b4, ?_⟩
    exact k (textA xs.length ys.length) (textA_eq _ _)
  case red =>
  obtain ⟨pd, t, u, rfl, hpd, ht, hu⟩ := id hP
  obtain ⟨u', xs, eu, hxs, ax⟩ := id hu
  cases eu
  have lx := ax.len
  have z6 := ag.le
  have few := ag.few64
  refine par_read ?_
  refine ⟨.ref pd, rfl, pd, .ref t, rfl, DGet.k (k := Sum.inr "issues") hpd, .ref pd, rfl, pd, .ref u, rfl, DGet.k (k := Sum.inr "rows") hpd, _, _, rfl, ?_⟩
  refine ⟨t, u, _, _, rfl, rfl, ht, hxs, by rw [List.length_map]; omega, by omega, fun tx etx => ?_⟩
  rw [List.length_map, lx] at etx
  subst etx
  have F0 : ArF C a pd t u zs rs xs H := ⟨hA, hP, ht, hxs, ax⟩
  refine ⟨a, pd, t, u, zs, rs, xs, _, _, _, _, _, ag, rfl, F0, fun H1 w1 s1 => ?_⟩
  have F1 := F0.same s1
  refine ⟨a, pd, t, u, zs, rs, xs, _, _, _, _, _, ag, rfl, F1, fun H2 w2 s2 => ?_⟩
  have F2 := F1.same s2
  refine ⟨a, pd, t, u, zs, rs, xs, _, _, _, _, _, ag, rfl, F2, fun H3 w3 s3 => ?_⟩
  have F3 := F2.same s3
  refine ⟨a, pd, t, u, zs, rs, xs, _, _, _, _, _, ag, rfl, F3, fun H4 L vs s4 hL lv odd => ?_⟩
  have F4 := F3.same s4
  refine ⟨a, pd, t, u, L, zs, rs, xs, vs, _, _, _, _, ag, rfl, F4, hL, lv, odd, fun H5 s5 => ?_⟩
  have F5 := F4.same s5
  have s05 := s1.trans (s2.trans (s3.trans (s4.trans s5)))
  have nm := issues_nm ag.iss
  obtain ⟨dx, t2, u2, ha, _⟩ := id F5.hA
  refine ⟨.ref a, rfl, a, dx, _, rfl, ha, a, zs, rs, rfl, F5.hA, z6, fun H6 p s6 hp => ?_⟩
  obtain ⟨p', ys, ep, hp, ay⟩ := hp
  cases ep
  refine ⟨p, rfl, ⟨_, .of hp⟩, fun L3 nL3 => ?_⟩
  refine lc_it (walk_tup (K := K) (a := p) (xs := ys)) (fun i Hy => Same H6 Hy ∧ Hy L3 = some (.lst [])) ⟨same_new nL3, upd_same⟩ (fun i Hy _ h => .of (h.1 _ _ hp)) (fun i x Hy Hy' hi h hY => ?_) (fun H8 h => ?_)
  · obtain ⟨sy, eD⟩ := h
    obtain ⟨rfl, hx⟩ := hY
    obtain ⟨c, hc, hcv⟩ := ay.get hx
    have hcv := hcv.tk (Tk.same sy)
    obtain ⟨ca, rfl, hca⟩ := id hcv
    obtain ⟨m1, m2⟩ := mem_answers (List.mem_of_getElem? hc)
    refine ⟨rfl, .ref ca, rfl, ca, c, rfl, hcv, ⟨⟨name_scA (nm _ m1), nm _ m1⟩, m2⟩, fun H7 v s7 hv => ?_⟩
    have hca7 := s7 _ _ hca
    refine ⟨.ref ca, rfl, ca, _, 0, .str c.1, rfl, rfl, .of hca7, rfl, .ref ca, rfl, ca, _, 1, .int c.2, rfl, rfl, .of hca7, rfl, _, _, rfl, rfl, (by show 2 ≤ sizeLine; decide), fun T nT => ?_⟩
    have sT := same_new (o := .tup [.str c.1, .int (1 - c.2)]) nT
    have sz : SeqAt.shaped (encA (barA c)) = true := by
      have := strOk_ofA (name_scA (nm _ m1))
      unfold encA SeqAt.shaped
      simp [PyData.canLay0, PyData.canLayAll0, PyData.depth, PyData.depthAll, barA, this]
    refine ⟨encA (barA c), encA (barA c), dpA (hv.tk (Tk.same sT)), dpA ⟨T, rfl, upd_same⟩, sz, sz, false, ?_, iteF ⟨sy.trans (s7.trans sT), sT _ _ (s7 _ _ eD)⟩⟩
    rw [eqv_ans]
    rfl
  obtain ⟨s78, eL3⟩ := h
  refine ⟨Nat.zero_le _, fun e3 ne3 => ?_⟩
  have s89 : Same H8 (upd H8 e3 (.lst [])) := same_new ne3
  exact ⟨.list [], .list [], .lst (.of (s89 _ _ eL3)) .nil, .lst (.of upd_same) .nil, rfl, rfl, q _ (s05.trans (s6.trans (s78.trans s89)))⟩
end
end Ow

set_option Elab.async false
set_option linter.all false
set_option maxRecDepth 100000
set_option maxHeartbeats 4000000
/-! a == b, two dicts of the same two keys, their values data -/
namespace L2
open PySem PySem.Spec PyProof.Rows
def rEqDD (K : PySem.W.Frag) : R2 := fun x y H Q => ∃ (a b : Addr) (k1 k2 : Key) (x1 x2 y1 y2 : V) (d1 d2 e1 e2 : PyData), x = .ref a ∧ y = .ref b ∧ H a = some (.dK [(k1, x1), (k2, x2)]) ∧ H b = some (.dK [(k1, y1), (k2, y2)]) ∧ k1 ≠ k2 ∧
  Dp K H x1 d1 ∧ Dp K H x2 d2 ∧ Dp K H y1 e1 ∧ Dp K H y2 e2 ∧ SeqAt.shaped d1 = true ∧ SeqAt.shaped d2 = true ∧ SeqAt.shaped e1 = true ∧ SeqAt.shaped e2 = true ∧ Q (.bl (PyData.eqv d1 e1 && PyData.eqv d2 e2)) H
theorem op_eqDD {X : Cx} (hu : X.A.units + 65 < cLine) : OpR X (compareOp .Eq) (rEqDD X.K) := by
  intro pins s σ H x y v u Q I rx ry h
  obtain ⟨a, b, k1, k2, x1, x2, y1, y2, d1, d2, e1, e2, rfl, rfl, ha, hb, ne, p1, p2, q1, q2, s1, s2, t1, t2, q⟩ := h
  cases (show v = Value.ref a from rx)
  cases (show u = Value.ref b from ry)
  obtain ⟨_, ya, va, ra, da⟩ := (show ObjOk X.prog X.w H s.heap a (.dK [(k1, x1), (k2, x2)]) from I.hok a _ ha)
  obtain ⟨_, yb, vb, rb, db⟩ := (show ObjOk X.prog X.w H s.heap b (.dK [(k1, y1), (k2, y2)]) from I.hok b _ hb)
  have g1 : RelO (some y1) (valueAt vb k1) := by
    have := rb.val k1
    rwa [show valV [(k1, y1), (k2, y2)] k1 = some y1 by unfold valV; simp] at this
  have g2 : RelO (some y2) (valueAt vb k2) := by
    have := rb.val k2
    rwa [show valV [(k1, y1), (k2, y2)] k2 = some y2 by unfold valV; simp [ne]] at this
  obtain ⟨w1, hw1, rw1⟩ := g1.some_of
  obtain ⟨w2, hw2, rw2⟩ := g2.some_of
  have lb : vb.length = 2 := by rw [← rb.length]; rfl
  have hu1 : X.A.in1.units + 64 < cLine := by
    show X.A.units + 1 + 64 < cLine
    omega
  have key : ∀ {x y : V} {d e : PyData} {v w : Value}, Dp X.K H x d → Dp X.K H y e → SeqAt.shaped d = true → SeqAt.shaped e = true → RelV x v → RelV y w → SeqAt.EqP X.prog X.w X.A.in1 s v w (PyData.eqv d e) := fun {x y d e v w} p q sd se rx ry => by
    obtain ⟨as, r1⟩ := Dp.reads I d x v p rx
    obtain ⟨bs, r2⟩ := Dp.reads I e y w q ry
    exact (SeqAt.eqAt_reads d e X.A.in1 s v w as bs r1 r2 (SeqAt.canLay_of_shaped sd) (SeqAt.canLay_of_shaped se) (SeqAt.room_of_shaped sd hu1)).eqP
  cases ra with
  | @cons _ c _ _ h1 t =>
    obtain ⟨c1, v1⟩ := c
    obtain ⟨h1, r1⟩ := h1
    have h1 : k1 = c1 := h1
    subst h1
    cases t with
    | @cons _ c _ _ h2 t =>
      obtain ⟨c2, v2⟩ := c
      obtain ⟨h2, r2⟩ := h2
      have h2 : k2 = c2 := h2
      subst h2
      cases t
      refine PySem.W.rcP_dicts (knd := mixKind X.prog X.w) (r := PyData.eqv d1 e1 && PyData.eqv d2 e2) ya yb da db (by omega) (fun _ => ?_) _ _ ?_
      · have := PySem.W.KeqHitsP.hit hw1 (key p1 q1 s1 t1 r1 rw1) (.hit hw2 (key p2 q2 s2 t2 r2 rw2) .nil)
        rwa [Bool.and_true] at this
      · rw [lb]
        show EP X pins σ Q (.bool (true && _)) s
        rw [Bool.true_and]
        exact ⟨.bl _, H, I, rfl, q⟩
end L2

set_option Elab.async false
set_option linter.all false
set_option maxRecDepth 100000
set_option maxHeartbeats 4000000
set_option exponentiation.threshold 3000
set_option pp.maxSteps 900
set_option pp.deepTerms false
namespace Ow
open PySem PySem.Spec PyProof.Rows L2
abbrev ceN : List Str := ["jug", "plain", "other", "one", "two", "twin", "turn", "found", "odd", "value"]
theorem scCell : FnScope ceN ["jug"] (defScope dCell) := ⟨rfl, rfl, rfl, by decide +kernel, rfl, by decide +kernel, by decide +kernel⟩
def spCell : Sp := fun vs H Q _ => ∃ J : Addr, vs = [.ref J] ∧ Jug H J ∧ ∀ H', Sb J H H' → Q (.bl true) H'
abbrev cxC (P : Program) (w : World) (K : PySem.W.Frag) (mg : Str → Option Value) (base : Heap) (f : Addr) (cdv : Value) (A : Around) (outer : List Env) (s : Shared) (H : Hp) (E : XK) : Cx := (cxOf CX0 P w K mg base ceN "_law_cell_right" (defScope dCell) f cdv A outer s H E).nox
def stmtC (i : Nat) : Stmt := (defBody dCell).getD i (.Pass ⟨0, 0, 0, 0⟩)
abbrev stC (J pd po o1 o2 o3 : Addr) (y6 y7 y8 y9 : Option V) : L2.St := [some (.ref J), some (.ref pd), some (.ref po), some (.ref o1), some (.ref o2), some (.ref o3), y6, y7, y8, y9]
structure CeF (C pd po o1 o2 o3 : Addr) (zs : List Str) (rs us : List (List Int)) (H : Hp) : Prop where
  p1 : PlainAg H (.ref pd) zs rs
  p2 : PlainAg H (.ref po) zs us
  a1 : AgAt C H o1 zs rs
  a2 : AgAt C H o2 zs us
  a3 : AgAt C H o3 zs rs
theorem CeF.same {C pd po o1 o2 o3 : Addr} {zs : List Str} {rs us : List (List Int)} {H H' : Hp} (h : CeF C pd po o1 o2 o3 zs rs us H) (s : Same H H') : CeF C pd po o1 o2 o3 zs rs us H' :=
  ⟨h.p1.tk (Tk.same s), h.p2.tk (Tk.same s), h.a1.tkS s, h.a2.tkS s, h.a3.tkS s⟩
def tLoop (C : Addr) : TS := fun D σ H => ∃ (J pd po o1 o2 o3 : Addr) (zs : List Str) (rs us : List (List Int)) (y6 y7 y8 y9 : Option V), AgOk 6 zs rs ∧ AgOk 6 zs us ∧ σ = stC J pd po o1 o2 o3 y6 y7 y8 y9 ∧ CeF C pd po o1 o2 o3 zs rs us H ∧
  ∀ H' z6 z7 z8, Same H H' → D.nx (stC J pd po o1 o2 o3 z6 z7 z8 y9) H'
theorem eq_ag {K : PySem.W.Frag} {C a b : Addr} {zs : List Str} {rs us : List (List Int)} {e neg : Bool} {H : Hp} {Qv : VK} (R : AgC K C) (RI : RuleI K C) (pl : Plain zs) (ra : AgAt C H a zs rs) (rb : AgAt C H b zs us)
    (he : decide (rs = us) = e) (q : Qv (.bl (if neg then !e else e)) H) : rEqO K C (spAgEq K C) E0 neg (.ref a) (.ref b) H Qv := by
  obtain ⟨dx, t, d, ha, _⟩ := id ra
  obtain ⟨dx', t', d', hb, _⟩ := id rb
  refine ⟨a, dx, _, .ref C, rfl, ha, RI.ty R.cl hb, notFirst_self, a, .ref b, zs, rs, rfl, ra, pl, .inr ⟨b, zs, us, rfl, rb, pl, e, ?_, q⟩⟩
  rw [he, decide_eq_true rfl]
  rfl
theorem eq_else {K : PySem.W.Frag} {C a : Addr} {x : V} {zs : List Str} {rs : List (List Int)} {neg : Bool} {H : Hp} {Qv : VK} {T : String} (RI : RuleI K C) (kd : PySem.W.notFirst K C (.type "dict") = true) (pl : Plain zs) (ra : AgAt C H a zs rs) (hT : T ∈ kinds6) (ty : TyX K H x (.type T))
    (q : Qv (.bl (if neg then true else false)) H) : rEqO K C (spAgEq K C) E0 neg (.ref a) x H Qv := by
  obtain ⟨dx, t, d, ha, _⟩ := id ra
  have nf : PySem.W.notFirst K C (.type T) = true := by
    rcases List.mem_cons.mp hT with rfl | hT
    · exact (RI.non _ (by decide)).2
    rcases List.mem_cons.mp hT with rfl | hT
    · exact (RI.non _ (by decide)).2
    rcases List.mem_cons.mp hT with rfl | hT
    · exact (RI.non _ (by decide)).2
    rcases List.mem_cons.mp hT with rfl | hT
    · exact (RI.non _ (by decide)).2
    rcases List.mem_cons.mp hT with rfl | hT
    · exact (RI.non _ (by decide)).2
    rw [List.mem_singleton.mp hT]
    exact kd
  exact ⟨a, dx, _, .type T, rfl, ha, ty, nf, a, x, zs, rs, rfl, ra, pl, .inl ⟨T, hT, ty, false, rfl, q⟩⟩
theorem four_fit (a b c d : Bool) : Fit (.list [.bool a, .bool b, .bool c, .bool d]) 1 60 := (Fit.list (k := 0) (w := 5) fun x hx => by
  rcases List.mem_cons.mp hx with rfl | hx
  · exact Fit.bool _
  rcases List.mem_cons.mp hx with rfl | hx
  · exact Fit.bool _
  rcases List.mem_cons.mp hx with rfl | hx
  · exact Fit.bool _
  rw [List.mem_singleton.mp hx]
  exact Fit.bool _).mono (Nat.le_refl _) (by show 7 * 4 + 3 ≤ 60; decide)
section
variable {P : Program} {w : World} {K : PySem.W.Frag} {mg : Str → Option Value} {base : Heap} {C : Addr}
theorem ps_loop {fE fS fA : Addr} {fdE fdS fdA : FuncData} (R : AgC K C) (RI : RuleI K C) (NE : NeOf K C) (kd : PySem.W.notFirst K C (.type "dict") = true)
    (mE : Meth K C "__eq__" fE) (FE : FnOk P w K mg base CX0 2 fE fdE ["self", "other"] (spAgEq K C)) (bE : Binds K fdE ["self", "other"] [])
    (mS : Meth K C "__str__" fS) (FS : FnOk P w K mg base CX0 1 fS fdS ["self"] (spAgStr C)) (bS : Binds K fdS ["self"] [])
    (FA : FnG P w K mg base 6 fA fdA ["made", "plain"] (spAllR C)) (kA : PySem.W.keepIn K (.ref fA) = true) (bA : Binds K fdA ["made", "plain"] []) (gA : mg "_law_all_right" = some (.ref fA))
    (mr : mg "range" = none) (mp : mg "repr" = none) (ms : mg "str" = none)
    {f : Addr} {cdv : Value} {A : Around} {outer : List Env} {s : Shared} {H : Hp} {E : XK} (gB : A.guards = some []) (hr : Room 9 (A.deeper (envOfC "_law_cell_right" (defScope dCell) s.heap.objs.size f cdv))) :
    PS (cxC P w K mg base f cdv A outer s H E) (stmtC 3) (tLoop C) := by
  have hu64 : (A.deeper (envOfC "_law_cell_right" (defScope dCell) s.heap.objs.size f cdv)).units + 64 < cLine := hr.units
  have hu65 : (A.deeper (envOfC "_law_cell_right" (defScope dCell) s.heap.objs.size f cdv)).units + 65 < cLine := by
    have := hr.un
    omega
  refine PS.of2 (ps_for PassesOwn.never rfl (pi_range1 (by rfl) mr (pa_cons pe_int pa_nil)) (pg_name (i := 6) scCell.nd rfl (.inl rfl))
    (pss_cons (ps_if (PW.pt (pw_or (pt_not (pt_val (pe_callG FA gB (hr.mono (by decide)) (by rfl) gA kA bA (pa_cons (pv 3) (pa_cons (pv 1) pa_nil)))))
        (pw_or (pt_not (pt_val (pe_callG FA gB (hr.mono (by decide)) (by rfl) gA kA bA (pa_cons (pv 4) (pa_cons (pv 2) pa_nil)))))
          (pw_or1 (pt_cmpR (op_neO mE NE.ne NE.ob FE (hr.mono (by decide)) bE pass0) (pv 3) (pv 5) (by rfl)))))) (pss_one (ps_ret pe_bl)) pss_nil)
    (pss_cons (ps_set (i := 7) scCell.nd rfl (.inl rfl) (pe_lst (pa_cons (pe_cmpR (op_eqO mE FE (hr.mono (by decide)) bE pass0) (pv 3) (pv 4) (by rfl)) (pa_cons (pe_cmpR (op_eqO mE FE (hr.mono (by decide)) bE pass0) (pv 4) (pv 3) (by rfl))
          (pa_cons (pe_not (pe_cmpR (op_neO mE NE.ne NE.ob FE (hr.mono (by decide)) bE pass0) (pv 3) (pv 4) (by rfl))) (pa_cons (pe_not (pe_cmpR (op_neO mE NE.ne NE.ob FE (hr.mono (by decide)) bE pass0) (pv 4) (pv 3) (by rfl))) pa_nil))))))
    (pss_cons (ps_if (pt_cmpR op_ne (pe_callB (call_repr gB hr.units) (by rfl) mp boot_repr (pa_cons (pv 7) pa_nil))
        (pe_callB (call_repr gB hr.units) (by rfl) mp boot_repr (pa_cons (pe_op op_rep (pe_lst (pa_cons (pe_cmpR (op_eqDD hu65) (pv 1) (pv 2) (nomark _)) pa_nil)) pe_int) pa_nil)) (nomark _)) (pss_one (ps_ret pe_bl)) pss_nil)
    (pss_cons (ps_set (i := 8) scCell.nd rfl (.inl rfl) (pe_lst (pa_cons pe_non (pa_cons pe_int (pa_cons (pv 1) (pa_cons (pe_dget (hu_of hr) (pv 1) pe_str (fun _ _ => rfl)) (pa_cons (pe_callTy (call_strO mS FS (hr.mono (by decide)) bS pass0) (by rfl) ms (by decide +kernel) (pa_cons (pv 3) pa_nil)) (pa_cons (pe_lst (pa_cons (pv 3) pa_nil)) pa_nil))))))))
    (pss_one (ps_if (pt_cmpR (op_neD hu64)
        (pe_lc (te := tVar 9) (own := [("value", 9)]) (g := gName 9) (tt := tOr (tTest (tOp (rEqO K C (spAgEq K C) E0 false) (tVar 3) (tVar 9))) (tNot (tTest (tOp (rEqO K C (spAgEq K C) E0 true) (tVar 3) (tVar 9))))) rfl scCell.nd
          (pi_list (pv 8)) (blkOk_by (N := ceN) (sc := defScope dCell) (by decide +kernel))
          (fun _ _ _ _ _ => pg_name (i := 9) scCell.nd rfl (Or.inl rfl))
          (fun _ _ _ _ _ => pts_one (PW.pt (pw_or (pt_cmpR (op_eqO mE FE (hr.mono (by decide)) bE pass0) (pv 3) (pv 9) (by rfl)) (pw_or1 (pt_not (pt_cmpR (op_neO mE NE.ne NE.ob FE (hr.mono (by decide)) bE pass0) (pv 3) (pv 9) (by rfl)))))))
          (fun _ _ _ _ _ => pv 9)) (pe_lst pa_nil) (nomark _)) (pss_one (ps_ret pe_bl)) pss_nil))))))) ?red
  case red =>
  intro D σ Hx h
  obtain ⟨J, pd, po, o1, o2, o3, zs, rs, us, y6, y7, y8, y9, g1, g2, rfl, F, k⟩ := h
  have pl := g1.plain
  have z6 := g1.le
  refine ⟨2, rfl, by decide, by decide, ?_⟩
  refine for_range (lo := 0) (n := 2) (fun i σ Hy => ∃ z6 z7 z8, σ = stC J pd po o1 o2 o3 z6 z7 z8 y9 ∧ Same Hx Hy) ⟨y6, y7, y8, rfl, Same.refl _⟩ (fun i σ Hy hi hP => ?_) (fun σ Hy hP => ?_)
  · obtain ⟨z6', z7, z8, rfl, sy⟩ := hP
    have F1 := F.same sy
    refine ⟨.ref o1, rfl, .ref pd, rfl, o1, _, zs, rs, rfl, F1.a1, F1.p1, g1, fun H1 s1 => ⟨true, rfl, iteF ?_⟩⟩
    have F2 := F1.same s1
    refine ⟨.ref o2, rfl, .ref po, rfl, o2, _, zs, us, rfl, F2.a2, F2.p2, g2, fun H2 s2 => ⟨true, rfl, iteF ?_⟩⟩
    have F3 := F2.same s2
    refine ⟨.ref o1, rfl, .ref o3, rfl, eq_ag R RI pl F3.a1 F3.a3 (e := true) (decide_eq_true rfl) ⟨false, rfl, iteF ?_⟩⟩
    have e21 : decide (us = rs) = decide (rs = us) := decide_eq_decide.mpr ⟨Eq.symm, Eq.symm⟩
    generalize hee : decide (rs = us) = e at e21
    refine ⟨.ref o1, rfl, .ref o2, rfl, eq_ag R RI pl F3.a1 F3.a2 hee ⟨.ref o2, rfl, .ref o1, rfl, eq_ag R RI pl F3.a2 F3.a1 e21 ⟨.ref o1, rfl, .ref o2, rfl, eq_ag R RI pl F3.a1 F3.a2 hee ⟨_, rfl, .ref o2, rfl, .ref o1, rfl, eq_ag R RI pl F3.a2 F3.a1 e21 ⟨_, rfl, (by show 4 ≤ sizeLine; decide), fun L nL => ?_⟩⟩⟩⟩⟩
    have e4 : ∀ b : Bool, [V.bl (if false = true then !b else b), V.bl (if false = true then !b else b), V.bl (!(if true = true then !b else b)), V.bl (!(if true = true then !b else b))] = [.bl b, .bl b, .bl b, .bl b] := fun b => by cases b <;> rfl
    rw [e4]
    have sL := same_new (o := .lst [V.bl e, .bl e, .bl e, .bl e]) nL
    have eL : upd H2 L (.lst [V.bl e, .bl e, .bl e, .bl e]) L = some (.lst [V.bl e, .bl e, .bl e, .bl e]) := upd_same
    have s03 := s1.trans (s2.trans sL)
    have F4 := F3.same sL
    generalize upd H2 L (.lst [V.bl e, .bl e, .bl e, .bl e]) = H3 at sL eL s03 F4 ⊢
    obtain ⟨t1, t2, t3, t4, t5⟩ := (four_fit e e e e).told (by decide) (by decide) fun i z => nomatch z
    refine ⟨.ref L, rfl, .ref L, .list [.bool e, .bool e, .bool e, .bool e], rfl, .lst (.of eL) (.cons (.bl _) (.cons (.bl _) (.cons (.bl _) (.cons (.bl _) .nil)))), t1, t2, t3, t4, t5, ?_⟩
    obtain ⟨pd', t, u, epd, hpd, ht, hu⟩ := id F4.p1
    cases epd
    obtain ⟨po', tb, ub, epo, hpo, htb, hub⟩ := id F4.p2
    cases epo
    refine ⟨.ref pd, rfl, .ref po, rfl, pd, po, Sum.inr "issues", Sum.inr "rows", .ref t, .ref u, .ref tb, .ref ub, .tuple (zs.map .str), rowsD rs, .tuple (zs.map .str), rowsD us, rfl, rfl, hpd, hpo, by decide +kernel, .tup (.of ht) (dp_strsA zs), dp_rows hu, .tup (.of htb) (dp_strsA zs), dp_rows hub,
      shaped_strsA pl, shaped_rows _, shaped_strsA pl, shaped_rows _, (by show 1 ≤ sizeLine; decide), fun L2 nL2 => ?_⟩
    rw [show PyData.eqv (.tuple (zs.map .str)) (.tuple (zs.map .str)) = true from (eqv_strsD zs zs).trans (decide_eq_true rfl), Bool.true_and, eqv_rows, hee]
    have s2' := same_new (o := .lst [.bl e]) nL2
    refine ⟨L2, 4, [.bl e], rfl, rfl, upd_same, by decide, by decide, (by show 1 * 4 ≤ sizeLine; decide), fun L3 nL3 => ?_⟩
    have e3 : ∀ {Hz : Hp}, upd Hz L3 (.lst (List.replicate (Int.toNat 4) [V.bl e]).flatten) L3 = some (.lst [.bl e, .bl e, .bl e, .bl e]) := upd_same
    have s3' := s2'.trans (same_new (o := .lst (List.replicate (Int.toNat 4) [V.bl e]).flatten) nL3)
    refine ⟨.ref L3, .list [.bool e, .bool e, .bool e, .bool e], rfl, .lst (.of e3) (.cons (.bl _) (.cons (.bl _) (.cons (.bl _) (.cons (.bl _) .nil)))), t1, t2, t3, t4, t5, rfl, false, ?_, iteF ?_⟩
    · rw [decide_eq_true rfl]
      rfl
    have F5 := F4.same s3'
    have s05 := s03.trans s3'
    change _
    generalize upd (upd H3 L2 (.lst [.bl e])) L3 (.lst (List.replicate (Int.toNat 4) [V.bl e]).flatten) = H5 at F5 s05 s3' ⊢
    have hpd5 := s3' _ _ hpd
    obtain ⟨ur, xs, eur, hxs, _⟩ := hu.tk (Tk.same s3')
    cases eur
    obtain ⟨dx, t0, d0, ho1, _⟩ := id F5.a1
    refine ⟨.ref pd, rfl, .ref pd, rfl, pd, .ref u, rfl, DGet.k (k := Sum.inr "rows") hpd5, .ref o1, rfl, o1, dx, _, rfl, ho1, o1, zs, rs, rfl, F5.a1, z6, g1.few64, _, rfl, .ref o1, rfl, (by show 1 ≤ sizeLine; decide), fun M1 nM1 => ⟨(by show 6 ≤ sizeLine; decide), fun M2 nM2 => ?_⟩⟩
    have sM1 := same_new (o := .lst [.ref o1]) nM1
    have sM2 := sM1.trans (same_new (o := .lst [V.non, .int 0, .ref pd, .ref u, .str (agStr zs.length rs.length), .ref M1]) nM2)
    have eM1 : upd (upd H5 M1 (.lst [.ref o1])) M2 (.lst [V.non, .int 0, .ref pd, .ref u, .str (agStr zs.length rs.length), .ref M1]) M1 = some (.lst [.ref o1]) := same_new nM2 _ _ upd_same
    have eM2 : upd (upd H5 M1 (.lst [.ref o1])) M2 (.lst [V.non, .int 0, .ref pd, .ref u, .str (agStr zs.length rs.length), .ref M1]) M2 = some (.lst [V.non, .int 0, .ref pd, .ref u, .str (agStr zs.length rs.length), .ref M1]) := upd_same
    have F6 := F5.same sM2
    have hxs6 := sM2 _ _ hxs
    have hpd6 := sM2 _ _ hpd5
    have s56 := s05.trans sM2
    generalize upd (upd H5 M1 (.lst [.ref o1])) M2 (.lst [V.non, .int 0, .ref pd, .ref u, .str (agStr zs.length rs.length), .ref M1]) = H6 at eM1 eM2 F6 hxs6 hpd6 s56 ⊢
    refine ⟨.ref M2, rfl, M2, rfl, ⟨_, .of eM2⟩, fun Lc nLc => ?_⟩
    refine lc_it (walk_list (K := K) (a := M2) (xs := [V.non, .int 0, .ref pd, .ref u, .str (agStr zs.length rs.length), .ref M1])) (fun i Hy => Same H6 Hy ∧ Hy Lc = some (.lst [])) ⟨same_new nLc, upd_same⟩ (fun i Hy _ h => .of (h.1 _ _ eM2)) (fun i x Hy Hy' hi h hY => ?_) (fun H7 h => ?_)
    · obtain ⟨sz, eD⟩ := h
      obtain ⟨rfl, hx⟩ := hY
      have F7 := F6.same sz
      have ty : ∃ T ∈ kinds6, TyX K Hy' x (.type T) := by
        have m := List.mem_of_getElem? hx
        rcases List.mem_cons.mp m with rfl | m
        · exact ⟨"NoneType", by decide, .base .non⟩
        rcases List.mem_cons.mp m with rfl | m
        · exact ⟨"int", by decide, .base (.int 0)⟩
        rcases List.mem_cons.mp m with rfl | m
        · exact ⟨"dict", by decide, .base (.dK (sz _ _ hpd6))⟩
        rcases List.mem_cons.mp m with rfl | m
        · exact ⟨"tuple", by decide, .base (.tup (sz _ _ hxs6))⟩
        rcases List.mem_cons.mp m with rfl | m
        · exact ⟨"str", by decide, .base (.str _)⟩
        rw [List.mem_singleton.mp m]
        exact ⟨"list", by decide, .base (.lst (sz _ _ eM1))⟩
      obtain ⟨T, hT, tx⟩ := ty
      refine ⟨rfl, .ref o1, rfl, x, rfl, eq_else RI kd pl F7.a1 hT tx ⟨false, rfl, iteF ?_⟩⟩
      exact ⟨.ref o1, rfl, x, rfl, eq_else RI kd pl F7.a1 hT tx ⟨true, rfl, iteF ⟨sz, eD⟩⟩⟩
    obtain ⟨s67, eLc⟩ := h
    refine ⟨Nat.zero_le _, fun e4 ne4 => ?_⟩
    have s78 : Same H7 (upd H7 e4 (.lst [])) := same_new ne4
    exact ⟨.list [], .list [], .lst (.of (s78 _ _ eLc)) .nil, .lst (.of upd_same) .nil, rfl, rfl, false, rfl, iteF ⟨_, _, _, rfl, sy.trans (s56.trans (s67.trans s78))⟩⟩
  · obtain ⟨z6', z7, z8, rfl, sy⟩ := hP
    exact k Hy z6' z7 z8 sy
end
end Ow

set_option Elab.async false
set_option linter.all false
set_option maxRecDepth 100000
set_option maxHeartbeats 4000000
set_option exponentiation.threshold 3000
set_option pp.maxSteps 900
set_option pp.deepTerms false
namespace Ow
open PySem PySem.Spec PyProof.Rows L2
theorem AgAt.tkT {C : Addr} {H H' : Hp} {a : Addr} {zs : List Str} {rs : List (List Int)} (h : AgAt C H a zs rs) {J : Addr} (s : Sb J H H') (j : Jug H J) (n : a ≠ J) : AgAt C H' a zs rs := by
  obtain ⟨dx, t, u, h1, h2, h3⟩ := h
  have tk := tkJ s j
  refine ⟨dx, t, u, s _ _ n h1, ?_, h3.tk tk⟩
  exact h2.tkT tk
section
variable {P : Program} {w : World} {K : PySem.W.Frag} {mg : Str → Option Value} {base : Heap} {C : Addr}
theorem ok_cell {f fE fS fA fW fN fM : Addr} {fd fdE fdS fdA fdW fdN fdM : FuncData} (R : AgC K C) (RI : RuleI K C) (NE : NeOf K C) (kd : PySem.W.notFirst K C (.type "dict") = true) (F : Fun K "_law_cell_right" "_law_cell_right" dCell f fd)
    (mE : Meth K C "__eq__" fE) (FE : FnOk P w K mg base CX0 2 fE fdE ["self", "other"] (spAgEq K C)) (bE : Binds K fdE ["self", "other"] [])
    (mS : Meth K C "__str__" fS) (FS : FnOk P w K mg base CX0 1 fS fdS ["self"] (spAgStr C)) (bS : Binds K fdS ["self"] [])
    (FA : FnG P w K mg base 6 fA fdA ["made", "plain"] (spAllR C)) (kA : PySem.W.keepIn K (.ref fA) = true) (bA : Binds K fdA ["made", "plain"] []) (gA : mg "_law_all_right" = some (.ref fA))
    (FW : FnOk P w K mg base CX0 5 fW fdW ["jug", "most"] spWide) (kW : PySem.W.keepIn K (.ref fW) = true) (bW : Binds K fdW ["jug", "most"] []) (gW : mg "_law_wide_agenda" = some (.ref fW))
    (FN : FnOk P w K mg base CX0 3 fN fdN ["jug", "plain"] spNear) (kN : PySem.W.keepIn K (.ref fN) = true) (bN : Binds K fdN ["jug", "plain"] []) (gN : mg "_law_near" = some (.ref fN))
    (FM : FnOk P w K mg base CX0 8 fM fdM ["plain"] (spLMade C)) (kM : PySem.W.keepIn K (.ref fM) = true) (bM : Binds K fdM ["plain"] []) (gM : mg "_law_made_agenda" = some (.ref fM))
    (mr : mg "range" = none) (mp : mg "repr" = none) (ms : mg "str" = none) : FnG P w K mg base 10 f fd ["jug"] spCell := by
  refine okG F scCell (fun vs H Q E h => ?_) (fun cdv A outer s H vs Q E gB hr h => ?_)
  · obtain ⟨J, rfl, _⟩ := h
    rfl
  obtain ⟨J, rfl, hJ, q⟩ := h
  have L : PS (cxC P w K mg base f cdv A outer s H E) (stmtC 3) (tLoop C) := ps_loop R RI NE kd mE FE bE mS FS bS FA kA bA gA mr mp ms gB hr
  refine ⟨_, (pss_cons (ps_set (i := 1) scCell.nd rfl (.inl rfl) (pe_call FW (hr.mono (by decide)) (by rfl) gW kW bW .nil pass0 (pa_cons (pv 0) (pa_cons pe_int pa_nil))))
    (pss_cons (ps_set (i := 2) scCell.nd rfl (.inl rfl) (pe_call FN (hr.mono (by decide)) (by rfl) gN kN bN .nil pass0 (pa_cons (pv 0) (pa_cons (pv 1) pa_nil))))
    (pss_cons (ps_asg (pe_tup (pa_cons (pe_call FM (hr.mono (by decide)) (by rfl) gM kM bM .nil pass0 (pa_cons (pv 1) pa_nil)) (pa_cons (pe_call FM (hr.mono (by decide)) (by rfl) gM kM bM .nil pass0 (pa_cons (pv 2) pa_nil)) (pa_cons (pe_call FM (hr.mono (by decide)) (by rfl) gM kM bM .nil pass0 (pa_cons (pv 1) pa_nil)) pa_nil))))
        (pg_tup (by rfl) (pgs_cons (pg_name (i := 3) scCell.nd rfl (.inr rfl)) (pgs_cons (pg_name (i := 4) scCell.nd rfl (.inl rfl)) (pgs_cons (pg_name (i := 5) scCell.nd rfl (.inl rfl)) pgs_nil)))))
    (pss_cons (L)
    (pss_one (ps_ret pe_bl)))))), ?_⟩
  refine ⟨.ref J, rfl, J, rfl, hJ, fun H1 x zs rs sb1 j1 hP ag => ?_⟩
  obtain ⟨pd, _, _, rfl, _⟩ := id hP
  refine ⟨.ref J, rfl, .ref pd, rfl, J, _, zs, rs, rfl, j1, hP, ag, fun H2 x2 us sb2 j2 hP2 ag2 => ?_⟩
  obtain ⟨po, _, _, rfl, _⟩ := id hP2
  have hP1 := hP.tk (tkJ sb2 j1)
  refine ⟨.ref pd, rfl, _, 6, zs, rs, rfl, hP1, ag, by decide, fun H3 o1 s3 n3 h1 => ?_⟩
  refine ⟨.ref po, rfl, _, 6, zs, us, rfl, hP2.tk (Tk.same s3), ag2, by decide, fun H4 o2 s4 n4 h2 => ?_⟩
  have s34 := s3.trans s4
  refine ⟨.ref pd, rfl, _, 6, zs, rs, rfl, hP1.tk (Tk.same s34), ag, by decide, fun H5 o3 s5 n5 h3 => ⟨(by show 3 ≤ sizeLine; decide), fun T nT => ?_⟩⟩
  have sT := same_new (o := .tup [.ref o1, .ref o2, .ref o3]) nT
  have s25 := s34.trans (s5.trans sT)
  refine ⟨T, [.ref o1, .ref o2, .ref o3], rfl, .of upd_same, rfl, _, _, rfl, _, _, rfl, _, _, rfl, rfl, ?_⟩
  have F5 : CeF C pd po o1 o2 o3 zs rs us (upd H5 T (.tup [.ref o1, .ref o2, .ref o3])) := ⟨hP1.tk (Tk.same s25), hP2.tk (Tk.same s25), h1.tkS (s4.trans (s5.trans sT)), h2.tkS (s5.trans sT), h3.tkS sT⟩
  refine ⟨J, pd, po, o1, o2, o3, zs, rs, us, _, _, _, _, ag, ag2, rfl, F5, fun H6 z6 z7 z8 s6 => ?_⟩
  exact q H6 (sb1.trans (sb2.trans (.same (s25.trans s6))))
end
theorem scLaw : FnScope ["script", "at"] ["script"] (defScope dLaw) := ⟨rfl, rfl, rfl, by decide +kernel, rfl, by decide +kernel, by decide +kernel⟩
def spLaw (K : PySem.W.Frag) : Sp := fun vs H Q _ => ∃ (a : Addr) (ns : List Int), vs = [.ref a] ∧ SqL K H a (ns.map V.int) ∧ ns.length ≤ 63 ∧ ∀ H', Q (.bl true) H'
abbrev rw2 : List (List Int) := [[0, 1], [1, 0]]
theorem rw2_right : RightR 2 rw2 := ⟨by unfold RowsOk; decide +kernel, by decide +kernel, by decide +kernel, by decide, by decide⟩
theorem iss2 : (issuesB ["a", "b"] = true ∧ issuesB ["a", "c"] = true) ∧ ([("a" : Str), "b"] : List Str) ≠ [("a" : Str), "c"] := by decide +kernel
theorem plain2 : Plain ["a", "b"] ∧ Plain ["a", "c"] := by unfold Plain; decide +kernel
theorem make_read {C : Addr} {σ : L2.St} {H : Hp} {Q : VK} {E : XK} {z y : Str} (pl : Plain [z, y]) (iss : issuesB [z, y] = true) (q : ∀ H' x, Same H H' → AgAt C H' x [z, y] rw2 → Q (.ref x) H') :
    tMake C (spInit C) [] E (tCons (tTup (tCons (tC (.str z)) (tCons (tC (.str y)) tNil))) (tCons (tTup (tCons (tTup (tCons (tC (.int 0)) (tCons (tC (.int 1)) tNil))) (tCons (tTup (tCons (tC (.int 1)) (tCons (tC (.int 0)) tNil))) tNil))) tNil)) σ H Q := by
  refine ⟨(by show 2 ≤ sizeLine; decide), fun t nt => ⟨(by show 2 ≤ sizeLine; decide), fun r1 n1 => ⟨(by show 2 ≤ sizeLine; decide), fun r2 n2 => ⟨(by show 2 ≤ sizeLine; decide), fun u nu => ?_⟩⟩⟩⟩
  have s1 := same_new (o := .tup [.str z, .str y]) nt
  have et : upd H t (.tup [.str z, .str y]) t = some (.tup [.str z, .str y]) := upd_same
  generalize upd H t (.tup [.str z, .str y]) = H1 at s1 et n1 n2 nu ⊢
  have s2 := same_new (o := .tup [.int 0, .int 1]) n1
  have e1 : upd H1 r1 (.tup [.int 0, .int 1]) r1 = some (.tup [.int 0, .int 1]) := upd_same
  generalize upd H1 r1 (.tup [.int 0, .int 1]) = H2 at s2 e1 n2 nu ⊢
  have s3 := same_new (o := .tup [.int 1, .int 0]) n2
  have e2 : upd H2 r2 (.tup [.int 1, .int 0]) r2 = some (.tup [.int 1, .int 0]) := upd_same
  generalize upd H2 r2 (.tup [.int 1, .int 0]) = H3 at s3 e2 nu ⊢
  have s4 := same_new (o := .tup [.ref r1, .ref r2]) nu
  have eu : upd H3 u (.tup [.ref r1, .ref r2]) u = some (.tup [.ref r1, .ref r2]) := upd_same
  generalize upd H3 u (.tup [.ref r1, .ref r2]) = H4 at s4 eu ⊢
  intro a dx na ndx nex
  have s5 : Same H4 (upd H4 dx (.own a)) := same_new ndx
  have na7 : upd H4 dx (.own a) a = none := by rw [upd_ne nex.symm]; exact na
  have s6 : Same H4 (upd (upd H4 dx (.own a)) a (.ins C dx [])) := s5.trans (same_new na7)
  have s04 := s1.trans (s2.trans (s3.trans s4))
  have hu : IsRows (upd (upd H4 dx (.own a)) a (.ins C dx [])) (.ref u) rw2 := ⟨u, _, rfl, s6 _ _ eu, .cons ⟨r1, rfl, (s3.trans (s4.trans s6)) _ _ e1⟩ (.cons ⟨r2, rfl, (s4.trans s6) _ _ e2⟩ .nil)⟩
  refine ⟨a, dx, t, u, [z, y], rw2, rfl, upd_same, .inl ((s2.trans (s3.trans (s4.trans s6))) _ _ et), hu, (by show 2 ≤ 60; decide), pl, iss, rw2_right, fun H' sb at_ => ⟨rfl, ?_⟩⟩
  exact q H' a (fun b o e => sb b o (ne_of_none (s04 _ _ e) na) (s6 _ _ (s04 _ _ e))) at_
theorem op_read {r : R2} {ta tb : TE} {σ : L2.St} {H : Hp} {Q : VK} (h : ta σ H fun x H1 => tb σ H1 fun y H2 => r x y H2 Q) : tOp r ta tb σ H Q := h
theorem ret_read {t : TE} {D : Ends} {σ : L2.St} {H : Hp} (h : t σ H D.rt) : tRet t D σ H := h
section
variable {P : Program} {w : World} {K : PySem.W.Frag} {mg : Str → Option Value} {base : Heap} {C : Addr}
theorem ok_law {f fC fJ fi fE : Addr} {fd fdC fdJ fdi fdE : FuncData} (R : AgC K C) (RI : RuleI K C) (NE : NeOf K C) (F : Fun K "law" "law" dLaw f fd)
    (FC : FnG P w K mg base 10 fC fdC ["jug"] spCell) (kC : PySem.W.keepIn K (.ref fC) = true) (bC : Binds K fdC ["jug"] []) (gC : mg "_law_cell_right" = some (.ref fC))
    (FJ : FnOk P w K mg base CX0 1 fJ fdJ ["script", "at"] (spJug K)) (kJ : PySem.W.keepIn K (.ref fJ) = true) (bJ : Binds K fdJ ["script", "at"] []) (gJ : mg "_law_jug" = some (.ref fJ))
    (M : Mk K C fi) (Fi : FnOk P w K mg base CX0 6 fi fdi ["self", "issues", "rows"] (spInit C)) (bi : Binds K fdi ["self", "issues", "rows"] []) (gA : mg "Agenda" = some (.ref C))
    (mE : Meth K C "__eq__" fE) (FE : FnOk P w K mg base CX0 2 fE fdE ["self", "other"] (spAgEq K C)) (bE : Binds K fdE ["self", "other"] [])
    {tX : Nat} (mX : mg "MAX_ISSUES" = some (.int 6 tX))
    (mr : mg "range" = none) (ml : mg "len" = none) (mx : mg "max" = none) (mn : mg "min" = none) : FnG P w K mg base 11 f fd ["script"] (spLaw K) := by
  refine okG F scLaw (fun vs H Q E h => ?_) (fun cdv A outer s H vs Q E gB hr h => ?_)
  · obtain ⟨a, ns, rfl, _⟩ := h
    rfl
  obtain ⟨a, ns, rfl, hS, hl, q⟩ := h
  refine ⟨_, (pss_cons (ps_if (pt_cmpR op_ne (pe_glob (v := .int 6) (by rfl) mX ⟨_, rfl⟩) pe_int (nomark _)) (pss_one (ps_ret pe_bl)) pss_nil)
    (pss_cons (ps_for PassesOwn.never rfl (pi_range1 (by rfl) mr (pa_cons (pe_callB (call_max2 rfl) (by rfl) mx boot_max (pa_cons pe_int
        (pa_cons (pe_callB (call_min2 rfl) (by rfl) mn boot_minG (pa_cons pe_int (pa_cons (pe_callB call_len_seq (by rfl) ml PySem.boot_len (pa_cons (pv 0) pa_nil)) pa_nil))) pa_nil))) pa_nil)) (pg_name (i := 1) scLaw.nd rfl (.inl rfl))
      (pss_one (ps_if (pt_not (pt_val (pe_callG FC gB hr (by rfl) gC kC bC (pa_cons (pe_call FJ (hr.mono (by decide)) (by rfl) gJ kJ bJ .nil pass0 (pa_cons (pv 0) (pa_cons (pv 1) pa_nil))) pa_nil)))) (pss_one (ps_ret pe_bl)) pss_nil)))
    (pss_one (ps_ret (pe_cmpR (op_neO mE NE.ne NE.ob FE (hr.mono (by decide)) bE pass0)
        (pe_make M Fi (hr.mono (by decide)) (by rfl) gA bi .nil pass0 (pa_cons (pe_tup (pa_cons pe_str (pa_cons pe_str pa_nil))) (pa_cons (pe_tup (pa_cons (pe_tup (pa_cons pe_int (pa_cons pe_int pa_nil))) (pa_cons (pe_tup (pa_cons pe_int (pa_cons pe_int pa_nil))) pa_nil))) pa_nil)))
        (pe_make M Fi (hr.mono (by decide)) (by rfl) gA bi .nil pass0 (pa_cons (pe_tup (pa_cons pe_str (pa_cons pe_str pa_nil))) (pa_cons (pe_tup (pa_cons (pe_tup (pa_cons pe_int (pa_cons pe_int pa_nil))) (pa_cons (pe_tup (pa_cons pe_int (pa_cons pe_int pa_nil))) pa_nil))) pa_nil))) (by rfl)))))), ?_⟩
  refine ⟨rfl, false, rfl, iteF ?_⟩
  refine ⟨.ref a, rfl, a, _, rfl, .inl hS, 6, _, rfl, 1, _, rfl, _, rfl, ?_, ?_, ?_⟩
  · split <;> split <;> omega
  · split <;> split <;> omega
  generalize (if (if (((ns.map V.int).length : Nat) : Int) < 6 then (((ns.map V.int).length : Nat) : Int) else 6) > 1 then (if (((ns.map V.int).length : Nat) : Int) < 6 then (((ns.map V.int).length : Nat) : Int) else 6) else 1) = m
  refine for_range (lo := 0) (n := m.toNat) (fun t σ Hx => ∃ y, σ = [some (.ref a), y] ∧ Same H Hx)
    ⟨none, rfl, Same.refl _⟩ (fun t σ Hx ht hP => ?_) (fun σ Hx hP => ?_)
  · obtain ⟨y, rfl, sx⟩ := hP
    refine ⟨.ref a, rfl, .int (0 + (t : Int)), rfl, a, ns, t, ?_, sx.seq hS, fun H1 J s1 nJ jJ => ⟨J, rfl, jJ, fun H2 sb2 => ⟨true, rfl, iteF ⟨_, rfl, sx.trans fun b o e => ?_⟩⟩⟩⟩
    · show [V.ref a, V.int (0 + (t : Int))] = _
      rw [Int.zero_add]
    · exact sb2 b o (ne_of_none e nJ) (s1 _ _ e)
  obtain ⟨y, rfl, sx⟩ := hP
  dsimp only
  refine ret_read (op_read ?_)
  refine make_read plain2.1 iss2.1.1 fun H1 r1 s1 hR1 => ?_
  refine make_read plain2.2 iss2.1.2 fun H2 r2 s2 hR2 => ?_
  obtain ⟨dx, t, d, ha, _⟩ := hR1.tkS s2
  obtain ⟨dx', t', d', hb, _⟩ := id hR2
  refine ⟨r1, dx, _, .ref C, rfl, ha, RI.ty R.cl hb, notFirst_self, r1, .ref r2, _, _, rfl, hR1.tkS s2, plain2.1, .inr ⟨r2, _, _, rfl, hR2, plain2.2, false, ?_, q H2⟩⟩
  rw [decide_eq_false iss2.2]
  rfl
end
end Ow

set_option Elab.async false
set_option linter.all false
set_option maxRecDepth 100000
set_option maxHeartbeats 4000000
set_option exponentiation.threshold 3000
namespace Ow
open PySem PySem.Spec PyProof.Rows L2
/-- a def found by its name -/
theorem Fun.ofD {K : PySem.W.Frag} {x qual : Str} {st : Stmt} {f : Addr} {fd : FuncData} (F : FunD K x qual (defArgs st) (defBody st) (defScope st) [] [] f fd) : Fun K x qual st f fd := by
  obtain ⟨oc, od, dV, kV, doc, pm, an, cdv, ct, osl, rfl, lk, hcd, hD, hK⟩ := F.ex
  rcases hD with ⟨_, rfl⟩ | ⟨e, _⟩
  · exact ⟨⟨oc, od, kV, doc, pm, an, cdv, ct, osl, rfl, lk, hcd⟩, F.kp⟩
  · exact absurd rfl e
theorem seen_fun {K : PySem.W.Frag} {x q : Str} {st : Stmt} {a : Addr} (e : seen K a = want x q st) (c : coded K a q = true) (k : PySem.W.keepIn K (.ref a) = true) : ∃ fd, FunD K x q (defArgs st) (defBody st) (defScope st) [] [] a fd := by
  unfold coded at c
  unfold seen want at e
  cases r : K.lookup a with
  | none =>
    rw [r] at c
    cases c
  | some o =>
    obtain ⟨oc, od, dt, osl⟩ := o
    rw [r] at c e
    cases dt with
    | func d =>
      obtain ⟨n1, n2, n3, n4, n5, n6, n7, n8, n9, n10, n11, n12, n13, n14, n15⟩ := d
      have e2 : (some (n1, n2, n3, n4, n5, n6, n7, n8, n15) : Seen) = some (x, q, defArgs st, .stmts (defBody st), defScope st, mainGlobals, [], .none, builtinsNs) := e
      simp only [Option.some.injEq, Prod.mk.injEq] at e2
      obtain ⟨h1, h2, h3, h4, h5, h6, h7, h8, h9⟩ := e2
      subst h1 h2 h3 h4 h5 h6 h7 h8 h9
      exact ⟨_, ⟨oc, od, .none, n9, n10, n11, n12, n13, n14, osl, rfl, r, c, .inl ⟨rfl, rfl⟩, .inl rfl⟩, k⟩
    | _ => cases c
theorem recB_ok {K : PySem.W.Frag} {p : Addr} {T : String} (h : recB K p T = true) : ∃ rest, PySem.W.recIn K p T = some (.ref (recA K p T) :: rest) := by
  unfold recB at h
  unfold recA
  split at h
  · rename_i g r e
    rw [e]
    exact ⟨r, rfl⟩
  · cases h
theorem propB_ok {K : PySem.W.Frag} {C : Addr} {f : Str} (h : propB K C f = true) : PropOf K C f (He.ma K C f) (recA K (He.ma K C f) "property") := by
  obtain ⟨h1, h⟩ := He.ba h
  obtain ⟨h2, h⟩ := He.ba h
  obtain ⟨h3, h4⟩ := He.ba h
  exact ⟨He.eqO_ok h1, He.eqO_ok h2, of_decide_eq_true h3, recB_ok h4⟩
theorem cmB_ok {K : PySem.W.Frag} {C : Addr} {f : Str} (h : cmB K C f = true) : ClX.CMet K C (.type "type") f (He.ma K C f) (recA K (He.ma K C f) "classmethod") := by
  obtain ⟨h1, h⟩ := He.ba h
  obtain ⟨h2, h3⟩ := He.ba h
  refine ⟨?_, recB_ok h2, h3⟩
  split at h1
  · rename_i b p c e
    obtain ⟨e1, h1⟩ := He.ba h1
    obtain ⟨e2, e3⟩ := He.ba h1
    rw [e, of_decide_eq_true e1, of_decide_eq_true e2, of_decide_eq_true e3]
  · cases h1
theorem crB_ok {K : PySem.W.Frag} {C : Addr} (h : crB K C = true) : ClX.CRead K C (.type "type") := by
  obtain ⟨h1, h2⟩ := He.ba h
  exact ⟨h1, He.eqO_ok h2⟩
theorem kindB_ok {K : PySem.W.Frag} {C : Addr} (h : kindB K C = true) : RuleI K C := by
  obtain ⟨h1, h⟩ := He.ba h
  obtain ⟨h2, h⟩ := He.ba h
  obtain ⟨h3, h⟩ := He.ba h
  obtain ⟨h4, h⟩ := He.ba h
  obtain ⟨h5, h6⟩ := He.ba h
  exact ⟨He.eqO_ok h1, He.eqO_ok h2, of_decide_eq_true h3, of_decide_eq_true h4, of_decide_eq_true h5, fun T hT => by
    obtain ⟨a, b⟩ := He.ba (List.all_eq_true.mp h6 T hT)
    exact ⟨of_decide_eq_true a, b⟩⟩
theorem neB_ok {K : PySem.W.Frag} {C : Addr} (h : neB K C = true) : NeOf K C := ⟨He.eqO_ok (He.ba h).1, of_decide_eq_true (He.ba h).2⟩
theorem insB_ok {K : PySem.W.Frag} {C : Addr} (cl : Cls K C) (h : insB K C = true) : C8.InsC K C := by
  obtain ⟨h1, h⟩ := He.ba h
  obtain ⟨h2, h⟩ := He.ba h
  obtain ⟨h3, h⟩ := He.ba h
  obtain ⟨h4, h5⟩ := He.ba h
  exact ⟨cl, He.eqO_ok h1, He.eqO_ok h2, of_decide_eq_true h3, of_decide_eq_true h4, of_decide_eq_true h5⟩
theorem facts {P : Program} {w : World} {K : PySem.W.Frag} {h : Heap} {mg : Str → Option Value} {f : Addr} (X : K.In h) (G : h.Ns mainGlobals mg) (hfa : mg ("law" : Str) = some (.ref f)) (c : He.SaysD fas fns K) (xx : xtra K = true) (sn : seens K = wants) :
    ∃ fd : FuncData, (∀ (s : Shared) (v : Value), BindsTo s fd ⟨[v], []⟩ [("script", v)]) ∧ ∀ base : Heap, K.In base → base.Ns mainGlobals mg → FnG P w K mg base 11 f fd ["script"] (spLaw K) := by
  obtain ⟨xb, xc⟩ := He.ba xx
  obtain ⟨xp_A_issues, xb⟩ := He.ba xb
  obtain ⟨xp_A_rows, xb⟩ := He.ba xb
  obtain ⟨xp_A_answers, xb⟩ := He.ba xb
  obtain ⟨xcrA, xb⟩ := He.ba xb
  obtain ⟨xinA, xb⟩ := He.ba xb
  obtain ⟨xkdA, xb⟩ := He.ba xb
  obtain ⟨xneA, xb⟩ := He.ba xb
  obtain ⟨xgb_0, xb⟩ := He.ba xb
  obtain ⟨xgb_1, xb⟩ := He.ba xb
  obtain ⟨xgb_2, xgb_3⟩ := He.ba xb
  obtain ⟨xc_A_issues, xc⟩ := He.ba xc
  obtain ⟨xk_A_issues, xc⟩ := He.ba xc
  obtain ⟨xc_A_rows, xc⟩ := He.ba xc
  obtain ⟨xk_A_rows, xc⟩ := He.ba xc
  obtain ⟨xc_A_answers, xk_A_answers⟩ := He.ba xc
  have p_A_issues := propB_ok xp_A_issues
  have p_A_rows := propB_ok xp_A_rows
  have p_A_answers := propB_ok xp_A_answers
  have crA := crB_ok xcrA
  have riA := kindB_ok xkdA
  have neA := neB_ok xneA
  injection sn with s0 sn
  injection sn with s1 sn
  injection sn with s2 sn
  obtain ⟨fd_SA_issues, D_SA_issues⟩ := seen_fun (st := inS 25 2) s0 xc_A_issues xk_A_issues
  obtain ⟨fd_SA_rows, D_SA_rows⟩ := seen_fun (st := inS 25 3) s1 xc_A_rows xk_A_rows
  obtain ⟨fd_SA_answers, D_SA_answers⟩ := seen_fun (st := inS 25 4) s2 xc_A_answers xk_A_answers
  obtain ⟨fd_is_integer, D_is_integer⟩ := c.def_ 0 (d := dd 10 "is_integer") rfl
  obtain ⟨fd_is_value, D_is_value⟩ := c.def_ 1 (d := dd 12 "is_value") rfl
  obtain ⟨fd_is_name, D_is_name⟩ := c.def_ 2 (d := dd 11 "is_name") rfl
  obtain ⟨fd_is_values, D_is_values⟩ := c.def_ 3 (d := dd 13 "is_values") rfl
  obtain ⟨fd__law_dip, D__law_dip⟩ := c.def_ 4 (d := dd 29 "_law_dip") rfl
  obtain ⟨fd__law_jug, D__law_jug⟩ := c.def_ 5 (d := dd 28 "_law_jug") rfl
  obtain ⟨fd__law_choice, D__law_choice⟩ := c.def_ 6 (d := dd 30 "_law_choice") rfl
  obtain ⟨fd_has_values, D_has_values⟩ := c.def_ 7 (d := dd 14 "has_values") rfl
  obtain ⟨fd__law_all_rows, D__law_all_rows⟩ := c.def_ 8 (d := dd 32 "_law_all_rows") rfl
  obtain ⟨fd_is_ascending, D_is_ascending⟩ := c.def_ 9 (d := dd 15 "is_ascending") rfl
  obtain ⟨fd_is_set_of_names, D_is_set_of_names⟩ := c.def_ 10 (d := dd 16 "is_set_of_names") rfl
  obtain ⟨fd_is_issues, D_is_issues⟩ := c.def_ 11 (d := dd 19 "is_issues") rfl
  obtain ⟨fd__law_jumbled, D__law_jumbled⟩ := c.def_ 12 (d := dd 31 "_law_jumbled") rfl
  obtain ⟨fd__has_both, D__has_both⟩ := c.def_ 13 (d := dd 22 "_has_both") rfl
  obtain ⟨fd__are_rows, D__are_rows⟩ := c.def_ 14 (d := dd 23 "_are_rows") rfl
  obtain ⟨fd_MA___init__, D_MA___init__⟩ := c.def_ 15 (d := dm "Agenda" (inS 25 0) "__init__" "Agenda.__init__") rfl
  obtain ⟨fd_MA___len__, D_MA___len__⟩ := c.def_ 16 (d := dm "Agenda" (inS 25 7) "__len__" "Agenda.__len__") rfl
  obtain ⟨fd__law_sum_of, D__law_sum_of⟩ := c.def_ 17 (d := dd 33 "_law_sum_of") rfl
  obtain ⟨fd__law_joined_row, D__law_joined_row⟩ := c.def_ 18 (d := dd 34 "_law_joined_row") rfl
  obtain ⟨fd__law_closed_by, D__law_closed_by⟩ := c.def_ 19 (d := dd 35 "_law_closed_by") rfl
  obtain ⟨fd__law_with_both, D__law_with_both⟩ := c.def_ 20 (d := dd 36 "_law_with_both") rfl
  obtain ⟨fd__law_rows_any, D__law_rows_any⟩ := c.def_ 21 (d := dd 37 "_law_rows_any") rfl
  obtain ⟨fd__law_rows_of, D__law_rows_of⟩ := c.def_ 22 (d := dd 38 "_law_rows_of") rfl
  obtain ⟨fd__law_letter, D__law_letter⟩ := c.def_ 23 (d := dd 40 "_law_letter") rfl
  obtain ⟨fd__law_many_names, D__law_many_names⟩ := c.def_ 24 (d := dd 41 "_law_many_names") rfl
  obtain ⟨fd__law_wide_agenda, D__law_wide_agenda⟩ := c.def_ 25 (d := dd 42 "_law_wide_agenda") rfl
  obtain ⟨fd__law_made_agenda, D__law_made_agenda⟩ := c.def_ 26 (d := dd 39 "_law_made_agenda") rfl
  obtain ⟨fd_is_answer, D_is_answer⟩ := c.def_ 27 (d := dd 20 "is_answer") rfl
  obtain ⟨fd_contrary, D_contrary⟩ := c.def_ 28 (d := dd 21 "contrary") rfl
  obtain ⟨fd_MA___getitem__, D_MA___getitem__⟩ := c.def_ 29 (d := dm "Agenda" (inS 25 5) "__getitem__" "Agenda.__getitem__") rfl
  obtain ⟨fd_MA___contains__, D_MA___contains__⟩ := c.def_ 30 (d := dm "Agenda" (inS 25 6) "__contains__" "Agenda.__contains__") rfl
  obtain ⟨fd_MA___eq__, D_MA___eq__⟩ := c.def_ 31 (d := dm "Agenda" (inS 25 8) "__eq__" "Agenda.__eq__") rfl
  obtain ⟨fd_MA___str__, D_MA___str__⟩ := c.def_ 32 (d := dm "Agenda" (inS 25 9) "__str__" "Agenda.__str__") rfl
  obtain ⟨fd_MA___iter__, D_MA___iter__⟩ := c.def_ 33 (d := dm "Agenda" (inS 25 10) "__iter__" "Agenda.__iter__") rfl
  obtain ⟨fd__law_answers, D__law_answers⟩ := c.def_ 34 (d := dd 27 "_law_answers") rfl
  obtain ⟨fd__law_is_agenda, D__law_is_agenda⟩ := c.def_ 35 (d := dd 43 "_law_is_agenda") rfl
  obtain ⟨fd__law_with, D__law_with⟩ := c.def_ 36 (d := dd 44 "_law_with") rfl
  obtain ⟨fd__law_near, D__law_near⟩ := c.def_ 37 (d := dd 45 "_law_near") rfl
  obtain ⟨fd__law_all_right, D__law_all_right⟩ := c.def_ 38 (d := dd 46 "_law_all_right") rfl
  obtain ⟨fd__law_cell_right, D__law_cell_right⟩ := c.def_ 39 (d := dd 47 "_law_cell_right") rfl
  obtain ⟨fd_law, D_law⟩ := c.def_ 40 (d := dd 48 "law") rfl
  have e := hfa.symm.trans (He.glo_ok X G (c.fact 33 (f := .glo "law") rfl))
  cases e
  have g_is_integer := He.glo_ok X G (c.fact 0 (f := .glo "is_integer") rfl)
  have g_is_value := He.glo_ok X G (c.fact 1 (f := .glo "is_value") rfl)
  have g_is_name := He.glo_ok X G (c.fact 2 (f := .glo "is_name") rfl)
  have g_is_values := He.glo_ok X G (c.fact 3 (f := .glo "is_values") rfl)
  have g__law_dip := He.glo_ok X G (c.fact 4 (f := .glo "_law_dip") rfl)
  have g__law_jug := He.glo_ok X G (c.fact 5 (f := .glo "_law_jug") rfl)
  have g__law_choice := He.glo_ok X G (c.fact 6 (f := .glo "_law_choice") rfl)
  have g_has_values := He.glo_ok X G (c.fact 7 (f := .glo "has_values") rfl)
  have g__law_all_rows := He.glo_ok X G (c.fact 8 (f := .glo "_law_all_rows") rfl)
  have g_is_ascending := He.glo_ok X G (c.fact 9 (f := .glo "is_ascending") rfl)
  have g_is_set_of_names := He.glo_ok X G (c.fact 10 (f := .glo "is_set_of_names") rfl)
  have g_is_issues := He.glo_ok X G (c.fact 11 (f := .glo "is_issues") rfl)
  have g__law_jumbled := He.glo_ok X G (c.fact 12 (f := .glo "_law_jumbled") rfl)
  have g__has_both := He.glo_ok X G (c.fact 13 (f := .glo "_has_both") rfl)
  have g__are_rows := He.glo_ok X G (c.fact 14 (f := .glo "_are_rows") rfl)
  have g__law_sum_of := He.glo_ok X G (c.fact 15 (f := .glo "_law_sum_of") rfl)
  have g__law_joined_row := He.glo_ok X G (c.fact 16 (f := .glo "_law_joined_row") rfl)
  have g__law_closed_by := He.glo_ok X G (c.fact 17 (f := .glo "_law_closed_by") rfl)
  have g__law_with_both := He.glo_ok X G (c.fact 18 (f := .glo "_law_with_both") rfl)
  have g__law_rows_any := He.glo_ok X G (c.fact 19 (f := .glo "_law_rows_any") rfl)
  have g__law_rows_of := He.glo_ok X G (c.fact 20 (f := .glo "_law_rows_of") rfl)
  have g__law_letter := He.glo_ok X G (c.fact 21 (f := .glo "_law_letter") rfl)
  have g__law_many_names := He.glo_ok X G (c.fact 22 (f := .glo "_law_many_names") rfl)
  have g__law_wide_agenda := He.glo_ok X G (c.fact 23 (f := .glo "_law_wide_agenda") rfl)
  have g__law_made_agenda := He.glo_ok X G (c.fact 24 (f := .glo "_law_made_agenda") rfl)
  have g_is_answer := He.glo_ok X G (c.fact 25 (f := .glo "is_answer") rfl)
  have g_contrary := He.glo_ok X G (c.fact 26 (f := .glo "contrary") rfl)
  have g__law_answers := He.glo_ok X G (c.fact 27 (f := .glo "_law_answers") rfl)
  have g__law_is_agenda := He.glo_ok X G (c.fact 28 (f := .glo "_law_is_agenda") rfl)
  have g__law_with := He.glo_ok X G (c.fact 29 (f := .glo "_law_with") rfl)
  have g__law_near := He.glo_ok X G (c.fact 30 (f := .glo "_law_near") rfl)
  have g__law_all_right := He.glo_ok X G (c.fact 31 (f := .glo "_law_all_right") rfl)
  have g__law_cell_right := He.glo_ok X G (c.fact 32 (f := .glo "_law_cell_right") rfl)
  have g_law := He.glo_ok X G (c.fact 33 (f := .glo "law") rfl)
  have g_Agenda := He.glo_ok X G (c.fact 34 (f := .glo "Agenda") rfl)
  obtain ⟨t__BOUND, mI0__BOUND⟩ := He.int_ok X G (c.fact 35 (f := .int "_BOUND" 1000000000000000000000000000000000000000000000000000000000000) rfl)
  have mI__BOUND : mg "_BOUND" = some (.int (10 ^ 60) t__BOUND) := by
    rw [mI0__BOUND, show (10 : Int) ^ 60 = 1000000000000000000000000000000000000000000000000000000000000 by decide +kernel]
  obtain ⟨t_MAX_LETTERS, mI_MAX_LETTERS⟩ := He.int_ok X G (c.fact 36 (f := .int "MAX_LETTERS" 8) rfl)
  obtain ⟨t_MAX_ISSUES, mI_MAX_ISSUES⟩ := He.int_ok X G (c.fact 37 (f := .int "MAX_ISSUES" 6) rfl)
  have m_isinstance := He.free_ok X G (c.fact 38 (f := .free "isinstance") rfl)
  have m_int := He.free_ok X G (c.fact 39 (f := .free "int") rfl)
  have m_bool := He.free_ok X G (c.fact 40 (f := .free "bool") rfl)
  have m_str := He.free_ok X G (c.fact 41 (f := .free "str") rfl)
  have m_len := He.free_ok X G (c.fact 42 (f := .free "len") rfl)
  have m_all := He.free_ok X G (c.fact 43 (f := .free "all") rfl)
  have m_tuple := He.free_ok X G (c.fact 44 (f := .free "tuple") rfl)
  have m_abs := He.free_ok X G (c.fact 45 (f := .free "abs") rfl)
  have m_max := He.free_ok X G (c.fact 46 (f := .free "max") rfl)
  have m_range := He.free_ok X G (c.fact 47 (f := .free "range") rfl)
  have m_list := He.free_ok X G (c.fact 48 (f := .free "list") rfl)
  have m_zip := He.free_ok X G (c.fact 49 (f := .free "zip") rfl)
  have m_sum := He.free_ok X G (c.fact 50 (f := .free "sum") rfl)
  have m_min := He.free_ok X G (c.fact 51 (f := .free "min") rfl)
  have m_sorted := He.free_ok X G (c.fact 52 (f := .free "sorted") rfl)
  have m_dict := He.free_ok X G (c.fact 53 (f := .free "dict") rfl)
  have m_set := He.free_ok X G (c.fact 54 (f := .free "set") rfl)
  have m_enumerate := He.free_ok X G (c.fact 55 (f := .free "enumerate") rfl)
  have m_iter := He.free_ok X G (c.fact 56 (f := .free "iter") rfl)
  have m_repr := He.free_ok X G (c.fact 57 (f := .free "repr") rfl)
  have RCA : AgC K (He.ga K "Agenda") := ⟨He.cls_ok (c.fact 58 (f := .cls "Agenda") rfl), He.noat_ok (c.fact 59 (f := .noat "Agenda" "_issues") rfl), He.noat_ok (c.fact 60 (f := .noat "Agenda" "_rows") rfl)⟩
  have mtA___len__ := He.meth_ok (c.fact 61 (f := .meth "Agenda" "__len__") rfl)
  have mtA___str__ := He.meth_ok (c.fact 62 (f := .meth "Agenda" "__str__") rfl)
  have mtA___iter__ := He.meth_ok (c.fact 63 (f := .meth "Agenda" "__iter__") rfl)
  have mtA___getitem__ := He.meth_ok (c.fact 64 (f := .meth "Agenda" "__getitem__") rfl)
  have mtA___contains__ := He.meth_ok (c.fact 65 (f := .meth "Agenda" "__contains__") rfl)
  have mtA___eq__ := He.meth_ok (c.fact 66 (f := .meth "Agenda" "__eq__") rfl)
  have mkA := He.mkr_ok (c.fact 67 (f := .mkr "Agenda") rfl)
  have icA := insB_ok RCA.cl xinA
  have gb_0 := of_decide_eq_true xgb_0
  have gb_1 := of_decide_eq_true xgb_1
  have gb_2 := of_decide_eq_true xgb_2
  have gb_3 := of_decide_eq_true xgb_3
  have b_is_integer : Binds K fd_is_integer ["value"] [] := D_is_integer.bindsN fun _ _ _ _ _ _ us hl => match us, hl with | [_], _ => rfl
  have b_is_value : Binds K fd_is_value ["value"] [] := D_is_value.bindsN fun _ _ _ _ _ _ us hl => match us, hl with | [_], _ => rfl
  have b_is_name : Binds K fd_is_name ["value"] [] := D_is_name.bindsN fun _ _ _ _ _ _ us hl => match us, hl with | [_], _ => rfl
  have b_is_values : Binds K fd_is_values ["value"] [] := D_is_values.bindsN fun _ _ _ _ _ _ us hl => match us, hl with | [_], _ => rfl
  have b__law_dip : Binds K fd__law_dip ["jug", "total"] [] := D__law_dip.bindsN fun _ _ _ _ _ _ us hl => match us, hl with | [_, _], _ => rfl
  have b__law_jug : Binds K fd__law_jug ["script", "at"] [] := D__law_jug.bindsN fun _ _ _ _ _ _ us hl => match us, hl with | [_, _], _ => rfl
  have b__law_choice : Binds K fd__law_choice ["jug", "items"] [] := D__law_choice.bindsN fun _ _ _ _ _ _ us hl => match us, hl with | [_, _], _ => rfl
  have b_has_values : Binds K fd_has_values ["value", "many"] [] := D_has_values.bindsN fun _ _ _ _ _ _ us hl => match us, hl with | [_, _], _ => rfl
  have b__law_all_rows : Binds K fd__law_all_rows ["size"] [] := D__law_all_rows.bindsN fun _ _ _ _ _ _ us hl => match us, hl with | [_], _ => rfl
  have b_is_ascending : Binds K fd_is_ascending ["items"] [] := D_is_ascending.bindsN fun _ _ _ _ _ _ us hl => match us, hl with | [_], _ => rfl
  have b_is_set_of_names : Binds K fd_is_set_of_names ["value"] [] := D_is_set_of_names.bindsN fun _ _ _ _ _ _ us hl => match us, hl with | [_], _ => rfl
  have b_is_issues : Binds K fd_is_issues ["value"] [] := D_is_issues.bindsN fun _ _ _ _ _ _ us hl => match us, hl with | [_], _ => rfl
  have b__law_jumbled : Binds K fd__law_jumbled ["jug", "items"] [] := D__law_jumbled.bindsN fun _ _ _ _ _ _ us hl => match us, hl with | [_, _], _ => rfl
  have b__has_both : Binds K fd__has_both ["rows", "at"] [] := D__has_both.bindsN fun _ _ _ _ _ _ us hl => match us, hl with | [_, _], _ => rfl
  have b__are_rows : Binds K fd__are_rows ["value", "many"] [] := D__are_rows.bindsN fun _ _ _ _ _ _ us hl => match us, hl with | [_, _], _ => rfl
  have b_MA___init__ : Binds K fd_MA___init__ ["self", "issues", "rows"] [] := D_MA___init__.bindsN fun _ _ _ _ _ _ us hl => match us, hl with | [_, _, _], _ => rfl
  have b_SA_issues : Binds K fd_SA_issues ["self"] [] := D_SA_issues.bindsN fun _ _ _ _ _ _ us hl => match us, hl with | [_], _ => rfl
  have b_SA_rows : Binds K fd_SA_rows ["self"] [] := D_SA_rows.bindsN fun _ _ _ _ _ _ us hl => match us, hl with | [_], _ => rfl
  have b_MA___len__ : Binds K fd_MA___len__ ["self"] [] := D_MA___len__.bindsN fun _ _ _ _ _ _ us hl => match us, hl with | [_], _ => rfl
  have b__law_sum_of : Binds K fd__law_sum_of ["rows"] [] := D__law_sum_of.bindsN fun _ _ _ _ _ _ us hl => match us, hl with | [_], _ => rfl
  have b__law_joined_row : Binds K fd__law_joined_row ["kind", "one", "other", "last"] [] := D__law_joined_row.bindsN fun _ _ _ _ _ _ us hl => match us, hl with | [_, _, _, _], _ => rfl
  have b__law_closed_by : Binds K fd__law_closed_by ["kind", "rows"] [] := D__law_closed_by.bindsN fun _ _ _ _ _ _ us hl => match us, hl with | [_, _], _ => rfl
  have b__law_with_both : Binds K fd__law_with_both ["rows"] [] := D__law_with_both.bindsN fun _ _ _ _ _ _ us hl => match us, hl with | [_], _ => rfl
  have b__law_rows_any : Binds K fd__law_rows_any ["jug", "size"] [] := D__law_rows_any.bindsN fun _ _ _ _ _ _ us hl => match us, hl with | [_, _], _ => rfl
  have b__law_rows_of : Binds K fd__law_rows_of ["jug", "size"] [] := D__law_rows_of.bindsN fun _ _ _ _ _ _ us hl => match us, hl with | [_, _], _ => rfl
  have b__law_letter : Binds K fd__law_letter ["jug"] [] := D__law_letter.bindsN fun _ _ _ _ _ _ us hl => match us, hl with | [_], _ => rfl
  have b__law_many_names : Binds K fd__law_many_names ["jug", "much"] [] := D__law_many_names.bindsN fun _ _ _ _ _ _ us hl => match us, hl with | [_, _], _ => rfl
  have b__law_wide_agenda : Binds K fd__law_wide_agenda ["jug", "most"] [] := D__law_wide_agenda.bindsN fun _ _ _ _ _ _ us hl => match us, hl with | [_, _], _ => rfl
  have b__law_made_agenda : Binds K fd__law_made_agenda ["plain"] [] := D__law_made_agenda.bindsN fun _ _ _ _ _ _ us hl => match us, hl with | [_], _ => rfl
  have b_is_answer : Binds K fd_is_answer ["value"] [] := D_is_answer.bindsN fun _ _ _ _ _ _ us hl => match us, hl with | [_], _ => rfl
  have b_contrary : Binds K fd_contrary ["answer"] [] := D_contrary.bindsN fun _ _ _ _ _ _ us hl => match us, hl with | [_], _ => rfl
  have b_MA___getitem__ : Binds K fd_MA___getitem__ ["self", "issue"] [] := D_MA___getitem__.bindsN fun _ _ _ _ _ _ us hl => match us, hl with | [_, _], _ => rfl
  have b_MA___contains__ : Binds K fd_MA___contains__ ["self", "value"] [] := D_MA___contains__.bindsN fun _ _ _ _ _ _ us hl => match us, hl with | [_, _], _ => rfl
  have b_MA___eq__ : Binds K fd_MA___eq__ ["self", "other"] [] := D_MA___eq__.bindsN fun _ _ _ _ _ _ us hl => match us, hl with | [_, _], _ => rfl
  have b_MA___str__ : Binds K fd_MA___str__ ["self"] [] := D_MA___str__.bindsN fun _ _ _ _ _ _ us hl => match us, hl with | [_], _ => rfl
  have b_MA___iter__ : Binds K fd_MA___iter__ ["self"] [] := D_MA___iter__.bindsN fun _ _ _ _ _ _ us hl => match us, hl with | [_], _ => rfl
  have b_SA_answers : Binds K fd_SA_answers ["self"] [] := D_SA_answers.bindsN fun _ _ _ _ _ _ us hl => match us, hl with | [_], _ => rfl
  have b__law_answers : Binds K fd__law_answers ["plain"] [] := D__law_answers.bindsN fun _ _ _ _ _ _ us hl => match us, hl with | [_], _ => rfl
  have b__law_is_agenda : Binds K fd__law_is_agenda ["made", "plain"] [] := D__law_is_agenda.bindsN fun _ _ _ _ _ _ us hl => match us, hl with | [_, _], _ => rfl
  have b__law_with : Binds K fd__law_with ["record", "word", "value"] [] := D__law_with.bindsN fun _ _ _ _ _ _ us hl => match us, hl with | [_, _, _], _ => rfl
  have b__law_near : Binds K fd__law_near ["jug", "plain"] [] := D__law_near.bindsN fun _ _ _ _ _ _ us hl => match us, hl with | [_, _], _ => rfl
  have b__law_all_right : Binds K fd__law_all_right ["made", "plain"] [] := D__law_all_right.bindsN fun _ _ _ _ _ _ us hl => match us, hl with | [_, _], _ => rfl
  have b__law_cell_right : Binds K fd__law_cell_right ["jug"] [] := D__law_cell_right.bindsN fun _ _ _ _ _ _ us hl => match us, hl with | [_], _ => rfl
  have b_law := FunD.bindsA (ps := ["script"]) D_law fun _ _ _ _ _ _ us hl => match us, hl with | [_], _ => rfl
  refine ⟨fd_law, fun s v => b_law s [v] rfl, fun base _ _ => ?_⟩
  have F_is_integer : FnOk P w K mg base CX0 1 _ fd_is_integer ["value"] (spB fun _ => shortB) := ok_integer (Fun.ofD D_is_integer) m_isinstance m_int m_bool mI__BOUND
  have F_is_value : FnOk P w K mg base CX0 2 _ fd_is_value ["value"] (spB fun _ => bitB) := ok_value (Fun.ofD D_is_value) F_is_integer D_is_integer.kp b_is_integer g_is_integer
  have F_is_name : FnOk P w K mg base CX0 1 _ fd_is_name ["value"] (spB fun _ => nameB) := ok_name (Fun.ofD D_is_name) m_isinstance m_str m_len m_all mI_MAX_LETTERS
  have F_is_values : FnOk P w K mg base CX0 3 _ fd_is_values ["value"] (spB rowB) := ok_values (Fun.ofD D_is_values) F_is_value D_is_value.kp b_is_value g_is_value m_isinstance m_tuple m_all
  have F__law_dip : FnOk P w K mg base CX0 1 _ fd__law_dip ["jug", "total"] (spDip) := ok_dip (Fun.ofD D__law_dip) m_int
  have F__law_jug : FnOk P w K mg base CX0 1 _ fd__law_jug ["script", "at"] (spJug K) := ok_jug (Fun.ofD D__law_jug) m_int m_len m_abs m_max
  have F__law_choice : FnOk P w K mg base CX0 2 _ fd__law_choice ["jug", "items"] (spChoice) := ok_choice (Fun.ofD D__law_choice) F__law_dip D__law_dip.kp b__law_dip g__law_dip m_len
  have F_has_values : FnOk P w K mg base CX0 4 _ fd_has_values ["value", "many"] (spHV) := ok_hasvalues (Fun.ofD D_has_values) F_is_values D_is_values.kp b_is_values g_is_values m_len
  have F__law_all_rows : FnOk P w K mg base CX0 1 _ fd__law_all_rows ["size"] (spRowsL) := ok_allrows (Fun.ofD D__law_all_rows) m_range m_list
  have F_is_ascending : FnOk P w K mg base CX0 1 _ fd_is_ascending ["items"] (spAsc) := ok_asc (Fun.ofD D_is_ascending) m_zip m_all
  have F_is_set_of_names : FnOk P w K mg base CX0 2 _ fd_is_set_of_names ["value"] (spTexts namesB) := ok_setnames (Fun.ofD D_is_set_of_names) F_is_name D_is_name.kp b_is_name g_is_name F_is_ascending D_is_ascending.kp b_is_ascending g_is_ascending m_isinstance m_tuple m_all
  have F_is_issues : FnOk P w K mg base CX0 3 _ fd_is_issues ["value"] (spTexts issuesB) := ok_issues (Fun.ofD D_is_issues) F_is_set_of_names D_is_set_of_names.kp b_is_set_of_names g_is_set_of_names m_len mI_MAX_ISSUES
  have F__law_jumbled : FnOk P w K mg base CX0 2 _ fd__law_jumbled ["jug", "items"] (spJum) := ok_jumbled (Fun.ofD D__law_jumbled) F__law_dip D__law_dip.kp b__law_dip g__law_dip m_list m_len
  have F__has_both : FnOk P w K mg base CX0 1 _ fd__has_both ["rows", "at"] (spBoth) := ok_hasboth (Fun.ofD D__has_both) m_len
  have F_is_ascending_ok_ascr : FnOk P w K mg base CX0 1 _ fd_is_ascending ["items"] (spAscR) := ok_ascr (Fun.ofD D_is_ascending) m_zip m_all
  have F__are_rows : FnOk P w K mg base CX0 5 _ fd__are_rows ["value", "many"] (spAreR) := ok_arerows (Fun.ofD D__are_rows) F_has_values D_has_values.kp b_has_values g_has_values F_is_ascending_ok_ascr D_is_ascending.kp b_is_ascending g_is_ascending F__has_both D__has_both.kp b__has_both g__has_both m_isinstance m_tuple m_all m_range
  have F_MA___init__ : FnOk P w K mg base CX0 6 _ fd_MA___init__ ["self", "issues", "rows"] (spInit (He.ga K "Agenda")) := ok_init RCA (Fun.ofD D_MA___init__) F_is_issues D_is_issues.kp b_is_issues g_is_issues F__are_rows D__are_rows.kp b__are_rows g__are_rows m_len
  have F_SA_issues : FnOk P w K mg base CX0 1 _ fd_SA_issues ["self"] (getSp (He.ga K "Agenda") "_issues") := ok_pissues RCA (Fun.ofD D_SA_issues)
  have RPA_issues : AgP P w K mg base (He.ga K "Agenda") "issues" "_issues" _ _ fd_SA_issues := ⟨p_A_issues, F_SA_issues, b_SA_issues⟩
  have F_SA_rows : FnOk P w K mg base CX0 1 _ fd_SA_rows ["self"] (getSp (He.ga K "Agenda") "_rows") := ok_prows RCA (Fun.ofD D_SA_rows)
  have RPA_rows : AgP P w K mg base (He.ga K "Agenda") "rows" "_rows" _ _ fd_SA_rows := ⟨p_A_rows, F_SA_rows, b_SA_rows⟩
  have F_MA___len__ : FnOk P w K mg base CX0 1 _ fd_MA___len__ ["self"] (spLen (He.ga K "Agenda")) := ok_len RCA (Fun.ofD D_MA___len__) m_len
  have F__law_sum_of : FnOk P w K mg base CX0 1 _ fd__law_sum_of ["rows"] (spLSum) := ok_lsumof (Fun.ofD D__law_sum_of) m_tuple m_range m_int m_len m_sum
  have F__law_joined_row : FnOk P w K mg base CX0 2 _ fd__law_joined_row ["kind", "one", "other", "last"] (spJoin) := ok_ljoined (Fun.ofD D__law_joined_row) F__law_sum_of D__law_sum_of.kp b__law_sum_of g__law_sum_of m_tuple m_zip m_min m_max m_sorted
  have F__law_closed_by : FnOk P w K mg base CX0 3 _ fd__law_closed_by ["kind", "rows"] (spClosed) := ok_lclosed (Fun.ofD D__law_closed_by) F__law_joined_row D__law_joined_row.kp b__law_joined_row g__law_joined_row m_dict m_len m_sorted m_tuple
  have F__law_with_both : FnOk P w K mg base CX0 1 _ fd__law_with_both ["rows"] (spWithBoth) := ok_lwithboth (Fun.ofD D__law_with_both) m_list m_len m_set m_sorted m_tuple m_range
  have F__law_rows_any : FnOk P w K mg base CX0 3 _ fd__law_rows_any ["jug", "size"] (spRowsAny) := ok_lrowsany (Fun.ofD D__law_rows_any) F__law_dip D__law_dip.kp b__law_dip g__law_dip F__law_choice D__law_choice.kp b__law_choice g__law_choice F__law_all_rows D__law_all_rows.kp b__law_all_rows g__law_all_rows F__law_with_both D__law_with_both.kp b__law_with_both g__law_with_both
  have F__law_rows_of : FnOk P w K mg base CX0 4 _ fd__law_rows_of ["jug", "size"] (spRowsAny) := ok_lrowsof (Fun.ofD D__law_rows_of) F__law_dip D__law_dip.kp b__law_dip g__law_dip F__law_choice D__law_choice.kp b__law_choice g__law_choice F__law_all_rows D__law_all_rows.kp b__law_all_rows g__law_all_rows F__law_with_both D__law_with_both.kp b__law_with_both g__law_with_both F__law_rows_any D__law_rows_any.kp b__law_rows_any g__law_rows_any F__law_jumbled D__law_jumbled.kp b__law_jumbled g__law_jumbled F__law_closed_by D__law_closed_by.kp b__law_closed_by g__law_closed_by m_tuple m_int m_sum
  have F__law_with_both_ok_lwithbothW : FnOk P w K mg base CX0 1 _ fd__law_with_both ["rows"] (spWithBothW) := ok_lwithbothW (Fun.ofD D__law_with_both) m_list m_len m_set m_sorted m_tuple m_range
  have F__law_letter : FnOk P w K mg base CX0 2 _ fd__law_letter ["jug"] (spLetter) := ok_letter (Fun.ofD D__law_letter) F__law_dip D__law_dip.kp b__law_dip g__law_dip
  have F__law_many_names : FnOk P w K mg base CX0 3 _ fd__law_many_names ["jug", "much"] (spNames) := ok_manynames (Fun.ofD D__law_many_names) F__law_dip D__law_dip.kp b__law_dip g__law_dip F__law_letter D__law_letter.kp b__law_letter g__law_letter F__law_jumbled D__law_jumbled.kp b__law_jumbled g__law_jumbled m_range m_len
  have F__law_wide_agenda : FnOk P w K mg base CX0 5 _ fd__law_wide_agenda ["jug", "most"] (spWide) := ok_lwide (Fun.ofD D__law_wide_agenda) F__law_dip D__law_dip.kp b__law_dip g__law_dip F__law_many_names D__law_many_names.kp b__law_many_names g__law_many_names F__law_jumbled D__law_jumbled.kp b__law_jumbled g__law_jumbled F__law_all_rows D__law_all_rows.kp b__law_all_rows g__law_all_rows F__law_with_both_ok_lwithbothW D__law_with_both.kp b__law_with_both g__law_with_both F__law_rows_of D__law_rows_of.kp b__law_rows_of g__law_rows_of m_sorted m_min m_len m_tuple m_range
  have F__law_made_agenda : FnOk P w K mg base CX0 8 _ fd__law_made_agenda ["plain"] (spLMade (He.ga K "Agenda")) := ok_lmade (Fun.ofD D__law_made_agenda) mkA F_MA___init__ b_MA___init__ g_Agenda
  have F_is_answer : FnOk P w K mg base CX0 3 _ fd_is_answer ["value"] (spAns) := ok_isanswer (Fun.ofD D_is_answer) F_is_name D_is_name.kp b_is_name g_is_name F_is_value D_is_value.kp b_is_value g_is_value m_isinstance m_tuple m_len
  have F_contrary : FnOk P w K mg base CX0 4 _ fd_contrary ["answer"] (spContr) := ok_contrary (Fun.ofD D_contrary) F_is_answer D_is_answer.kp b_is_answer g_is_answer
  have F_MA___getitem__ : FnOk P w K mg base CX0 1 _ fd_MA___getitem__ ["self", "issue"] (spAgGet (He.ga K "Agenda")) := ok_agget RCA (Fun.ofD D_MA___getitem__) m_enumerate
  have F_MA___contains__ : FnOk P w K mg base CX0 4 _ fd_MA___contains__ ["self", "value"] (spAgCont (He.ga K "Agenda")) := ok_agcont RCA (Fun.ofD D_MA___contains__) F_is_values D_is_values.kp b_is_values g_is_values
  have F_MA___eq__ : FnOk P w K mg base CX0 2 _ fd_MA___eq__ ["self", "other"] (spAgEq K (He.ga K "Agenda")) := ok_ageq RCA riA gb_0 (Fun.ofD D_MA___eq__) m_isinstance g_Agenda
  have F_MA___str__ : FnOk P w K mg base CX0 1 _ fd_MA___str__ ["self"] (spAgStr (He.ga K "Agenda")) := ok_agstr RCA (Fun.ofD D_MA___str__) m_len
  have F_MA___iter__ : FnN P w K mg base CX0 1 _ fd_MA___iter__ ["self"] (spIterA (He.ga K "Agenda")) := ok_agiter RCA (Fun.ofD D_MA___iter__) m_iter
  have F_SA_answers : FnOk P w K mg base CX0 1 _ fd_SA_answers ["self"] (spAgAns (He.ga K "Agenda")) := ok_agans RCA (Fun.ofD D_SA_answers) m_tuple
  have F__law_answers : FnOk P w K mg base CX0 1 _ fd__law_answers ["plain"] (spLAns) := ok_lanswers (Fun.ofD D__law_answers)
  have F__law_is_agenda : FnG P w K mg base 3 _ fd__law_is_agenda ["made", "plain"] (spIsA (He.ga K "Agenda")) := ok_isagenda RCA RPA_issues RPA_rows (Fun.ofD D__law_is_agenda) m_repr
  have F__law_with : FnOk P w K mg base CX0 1 _ fd__law_with ["record", "word", "value"] (spWith) := ok_with (Fun.ofD D__law_with) m_dict m_list
  have F__law_near : FnOk P w K mg base CX0 3 _ fd__law_near ["jug", "plain"] (spNear) := ok_near (Fun.ofD D__law_near) F__law_dip D__law_dip.kp b__law_dip g__law_dip F__law_choice D__law_choice.kp b__law_choice g__law_choice F__law_all_rows D__law_all_rows.kp b__law_all_rows g__law_all_rows F__law_with D__law_with.kp b__law_with g__law_with m_sorted m_set m_len m_tuple m_dict m_list
  have F__law_all_right : FnG P w K mg base 6 _ fd__law_all_right ["made", "plain"] (spAllR (He.ga K "Agenda")) := ok_allright RCA (Fun.ofD D__law_all_right) F__law_is_agenda D__law_is_agenda.kp b__law_is_agenda g__law_is_agenda mtA___len__ F_MA___len__ b_MA___len__ mtA___str__ F_MA___str__ b_MA___str__ mtA___iter__ F_MA___iter__ b_MA___iter__ p_A_answers F_SA_answers b_SA_answers F__law_answers D__law_answers.kp b__law_answers g__law_answers gb_1 mtA___getitem__ gb_2 F_MA___getitem__ b_MA___getitem__ F__law_all_rows D__law_all_rows.kp b__law_all_rows g__law_all_rows mtA___contains__ F_MA___contains__ b_MA___contains__ F_contrary D_contrary.kp b_contrary g_contrary m_len m_str m_list m_repr m_tuple m_range
  have F__law_cell_right : FnG P w K mg base 10 _ fd__law_cell_right ["jug"] (spCell) := ok_cell RCA riA neA gb_3 (Fun.ofD D__law_cell_right) mtA___eq__ F_MA___eq__ b_MA___eq__ mtA___str__ F_MA___str__ b_MA___str__ F__law_all_right D__law_all_right.kp b__law_all_right g__law_all_right F__law_wide_agenda D__law_wide_agenda.kp b__law_wide_agenda g__law_wide_agenda F__law_near D__law_near.kp b__law_near g__law_near F__law_made_agenda D__law_made_agenda.kp b__law_made_agenda g__law_made_agenda m_range m_repr m_str
  exact ok_law RCA riA neA (Fun.ofD D_law) F__law_cell_right D__law_cell_right.kp b__law_cell_right g__law_cell_right F__law_jug D__law_jug.kp b__law_jug g__law_jug mkA F_MA___init__ b_MA___init__ g_Agenda mtA___eq__ F_MA___eq__ b_MA___eq__ mI_MAX_ISSUES m_range m_len m_max m_min
end Ow

set_option Elab.async false
set_option linter.all false
set_option maxRecDepth 100000
set_option maxHeartbeats 0
open PySem PySem.W PySem.Calls PyProof.Rows
theorem PySem.Challenge.cw_oneswill_k02_agendas_told_holds : PySem.Challenge.rw_oneswill_k02_agendas_told.Holds := by
  w_on; o_law
  refine HandSHeadRun.head_any (r := OpenLaw.row PySem.Challenge.rw_oneswill_k02_agendas_told) (q := view (OpenLaw.row PySem.Challenge.rw_oneswill_k02_agendas_told).prog [48]) (H := Ow.hk) (ob := Ow.ob) (M := 9000) (loose := Ow.loose) (d := HandSHeadRun.topDef (OpenLaw.row PySem.Challenge.rw_oneswill_k02_agendas_told).prog 48) (kwd := []) Ow.ob_eq
    (by kernel_rfl) (fun s => by kernel_rfl) Ow.run (by kernel_rfl) (by kernel_rfl) (by kernel_rfl) (by rfl) (by first | assumption | decide +kernel) (by decide +kernel) ⟨rfl, rfl, rfl, rfl, rfl, by decide +kernel⟩ ?hw ?hc
  case hw => w_witness2
  case hc =>
    refine Att.attach_call (n := 63) rfl (by kernel_rfl) fun w s₀ s₁ mg mb fa o pm cd doc a vs ns G Y ho hd hcd hmg0 hobj hints hlen hg => ?_
    obtain ⟨K, KX, c, xt, sn⟩ := Y
    have hmg : mg ("law" : PySem.Str) = some (.ref fa) := by
      have e : (HandSHeadRun.topDef (OpenLaw.row PySem.Challenge.rw_oneswill_k02_agendas_told).prog 48).name = ("law" : PySem.Str) := by kernel_rfl
      rw [← e]
      exact hmg0
    obtain ⟨fd, hb, hF⟩ := Ow.facts (P := PySem.Challenge.rw_oneswill_k02_agendas_told.prog) (w := w) KX G.T.g hmg c xt sn
    exact Ow.endG (k := 11) KX G.T.g G.T.b G.T.builtins G.T.nolimit hg hobj hints (Nat.le_trans hlen (by decide)) ⟨rfl, by decide, by decide⟩ hF hb fun H hO hS => ⟨a, ns, rfl, hS, hlen, fun _ => rfl⟩
