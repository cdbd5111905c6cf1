import PyProof.Rows.All
import Wide.All
import OpenK.AllK
import Wide.FinOn
import PySem.Challenge.RW_oneswill_k50_whole_orders_and_rows
import HandS.ForMost
import HandS.IsInst
import HandS.Wide
import HandS.TupAny
import HandS.TupMul
import HandS.Style
import HandS.Conv
import PyProof.ReprRoads
import HandS.Dict
import HandS.DictComp
import HandS.Zip
import HandS.Deep
import HandS.More
import HandS.Star
import HandS.WideBits
import HandS.ClsMeth
import HandS.Walk
import KE.GoesMore
import KE.GoesZip
import KE.KItemsList
import KE.KStar
import PyProof.ListStr
import HandS.Property
import HandS.TupSets
import HandS.Keys
import HandS.SetBool
import HandS.Comp
import HandS.Strs
import HandS.Defaults
import OpenK.KOps
import KE.KCallOwn
import HandS.HeadHook1
import HandS.HeadHook2
import Lean
import HandS.Ends
import HandS.Words
import HandS.WordsExc
import HandS.Head0
import HandS.Head1
import HandS.Head2
import HandS.HeadEnd
set_option Elab.async false
set_option linter.all false
set_option maxRecDepth 100000
set_option maxHeartbeats 4000000
namespace Ow
open PySem PySem.Spec PyProof.Rows L2

/-! a def's promise where no repr runs around the call -/
structure FnG (P : Program) (w : World) (K : PySem.W.Frag) (mg : Str → Option Value)
    (base : Heap) (k : Nat) (f : Addr) (fd : FuncData) (ps : List Str) (sp : Sp) : Prop where
  ln : ∀ vs H Q E, sp vs H Q E → vs.length = ps.length
  go : ∀ (B : Around) (up : List Env) (s : Shared) (H : Hp) (ar : Args) (ws : List Value) (vs : List V)
    (Q : VK) (E : XK), B.guards = some [] → Room k B → Env0 P w K mg base B up s H →
    BindsTo s fd ar (ps.zip ws) → Vals vs ws → sp vs H Q E →
    codeAny (model P w) B (.call (.ref f) ar) (CR CX0 up P w H s Q E) s
theorem FnG.of {P : Program} {w : World} {K : PySem.W.Frag} {mg : Str → Option Value} {base : Heap}
    {k : Nat} {f : Addr} {fd : FuncData} {ps : List Str} {sp : Sp}
    (F : FnOk P w K mg base CX0 k f fd ps sp) : FnG P w K mg base k f fd ps sp :=
  ⟨F.len, fun B up s H ar ws vs Q E _ => F.run B up s H ar ws vs Q E⟩

section
variable {P : Program} {w : World} {K : PySem.W.Frag} {mg : Str → Option Value} {base : Heap}
theorem guardsDeep {B : Around} {env : Env} : (B.deeper env).guards = B.guards := rfl
/-- a def of the text, by its body, with nothing guarded -/
theorem okG {x qual : Str} {st : Stmt} {f : Addr} {fd : FuncData} {N ps : List Str} {k : Nat} {sp : Sp}
    (F : Fun K x qual st f fd) (S : FnScope N ps (defScope st))
    (ln : ∀ vs H Q E, sp vs H Q E → vs.length = ps.length)
    (body : ∀ (cd : Value) (B : Around) (up : List Env) (s : Shared) (H : Hp) (vs : List V) (Q : VK) (E : XK),
      B.guards = some [] → Room k (B.deeper (envOfC qual (defScope st) s.heap.objs.size f cd)) → sp vs H Q E →
      ∃ t, PSs (cxOf CX0 P w K mg base N qual (defScope st) f cd B up s H E).nox (defBody st) t ∧
        t { nx := fun _ H' => Q .non H', rt := Q } (start N vs) H) :
    FnG P w K mg base (k + 1) f fd ps sp := by
  obtain ⟨oc, od, kV, doc, pm, an, cd, ct, osl, rfl, lk, hcd⟩ := F.ex
  refine ⟨ln, fun B up s H ar ws vs Q E gB hr e0 hb r hsp => ?_⟩
  have nvs := ln _ _ _ _ hsp
  have inK : K.In s.heap := e0.mod.kin.keeps fun b o e => (e0.bs b o e).1
  have noL : s.heap.NoLimit := e0.mod.nolimit.keeps fun b o e => (e0.bs b o e).1
  have kinds : ∀ y ∈ ps.zip ws, (defScope st).names.lookup y.1 = some .local ∨
      ((defScope st).names.lookup y.1 = some .cell ∧
        ((cellsFrom (s.heap.objs.size + 1) (defScope st).names []).lookup y.1).isSome = true) := by
    intro ⟨n, v⟩ hy
    rcases S.par n (List.of_mem_zip hy).1 with q | q
    · exact .inl q
    · exact .inr ⟨q, PySem.W.cellsFrom_some _ _ _ (.inl q)⟩
  refine codeAny_call_function hr.depth (inK _ _ lk) rfl S.co S.gen rfl
    (PySem.W.codeRec_of inK hcd) (hb _ _ _ _ ?_)
  refine wpAny_newFunctionEnv_cells S.kind kinds fun env he s1 z => ?_
  subst he
  refine ⟨noL.keeps z.toInCall.keep, codeAny_func ?_⟩
  obtain ⟨t, ht, hq⟩ := body cd B up s H vs Q E gB (hr.deeper _) hsp
  have J0 : Inv (cxOf CX0 P w K mg base N qual (defScope st) f cd B up s H E) [] (start N vs) H s1 :=
    inv_start S hr.hd e0 nvs r z
  refine wpAny_mono (ht.nox.run [] s1 (start N vs) H _ J0 hq) (fun fl s' hs => ?_) fun e s' hs => hs
  cases fl with
  | ret u =>
    obtain ⟨v, σ', H', J, rv, q⟩ := hs
    exact ⟨v, H', J.os, J.bare, J.base, J.hok, rv, q⟩
  | next =>
    obtain ⟨σ', H', J, q⟩ := hs
    exact ⟨V.non, H', J.os, J.bare, J.base, J.hok, rfl, q⟩
  | brk =>
    obtain ⟨_, _, _, q⟩ := hs
    exact False.elim q
  | cont =>
    obtain ⟨_, _, _, q⟩ := hs
    exact False.elim q
end
section
variable {X : Cx} {k : Nat} {f : Addr} {fd : FuncData} {ps : List Str} {sp : Sp}
  {x : Str} {p pos : Pos} {e : Expr} {es : List Expr} {t : TA}
/-- f(..) of such a def, in a body around which nothing is guarded -/
theorem pe_callG (F : FnG X.prog X.w X.K X.mg X.base k f fd ps sp) (gX : X.A.guards = some [])
    (hr : Room k X.A) (hg : Gl X x) (hm : X.mg x = some (.ref f)) (hk : PySem.W.keepIn X.K (.ref f) = true)
    (hb : Binds X.K fd ps []) (ha : PA X (e :: es) t)
    (hdb : (x == ("__debug__" : Str)) = false := by decide)
    (he : starEach (e :: es) X.env = (false, eval e X.env) :: starEach es X.env := by rfl)
    (hpl : (backTo pos (starEach es X.env)).any (·.1) = false := by rfl) :
    PE X (.Call (.Name x p) (e :: es) [] pos) (tCall sp [] E0 t) := by
  refine ⟨fun pins s σ H Q I h => ?_⟩
  refine wpAny_Call_Name_kw (ld_glob I hg hm ?_ hdb)
  refine PySem.W.callWith_K (h₀ := X.base) I.ok.mod.kin hk
    (thn (ha.run pos pins s σ H _ I h) fun us s1 hs1 => ?_) he hpl
  obtain ⟨vs, H1, I1, r, q⟩ := hs1
  refine ⟨I1.kIn, ?_⟩
  have q' : sp (vs ++ []) H1 Q E0 := q
  rw [List.append_nil] at q'
  have hl : (us ++ []).length = ps.length := by
    rw [List.append_nil, ← r.length]
    exact F.ln _ _ _ _ q'
  have bt := hb s1 us I1.kIn hl
  rw [List.append_nil] at bt
  refine wpAny_call (codeAny_mono (F.go X.A X.stack s1 H1 ⟨us, []⟩ us vs Q E0 gX hr I1.env0 bt r q') ?_)
  intro r' s' hq
  cases r' with
  | error er => exact False.elim hq
  | ok fl =>
    cases fl with
    | ret u => exact I1.after hq
    | next => exact False.elim hq
    | brk => exact False.elim hq
    | cont => exact False.elim hq
end

/-! repr of data -/
section
variable {X : Cx}
/-- repr(x): x data whose text is known to fit -/
def rRepr (K : PySem.W.Frag) : List V → Hp → VK → Prop := fun xs H Q => ∃ (x : V) (d : PyData), xs = [x] ∧
  Dp K H x d ∧ d.showable = true ∧ d.hasDict = false ∧ d.depth ≤ 40 ∧ d.shown.length ≤ sizeLine ∧
  (∀ i : Int, d = .int i → i.natAbs.log2 < 1920) ∧ Q (.str d.shown) H
theorem call_repr (gX : X.A.guards = some []) (hu : X.A.units + 64 < cLine) :
    CallR X (.builtin "repr") (rRepr X.K) := by
  intro pins s σ H xs us Q I r h
  obtain ⟨x, d, rfl, hd, hsh, hno, hde, hsz, hint, q⟩ := h
  obtain ⟨u, rfl, ru⟩ := vals1 r
  cases hd with
  | non =>
    cases ru
    exact PySem.P.repr_of_none ⟨.str _, H, I.tok _, ⟨_, rfl⟩, q⟩
  | bl b =>
    cases ru
    refine PySem.P.repr_of_bool ⟨.str _, H, I.tok _, ⟨_, rfl⟩, ?_⟩
    cases b <;> exact q
  | int i =>
    obtain ⟨t, rfl⟩ := ru
    exact PySem.P.repr_of_int (hint i rfl) ⟨.str _, H, I.tok _, ⟨_, rfl⟩, q⟩
  | str z =>
    obtain ⟨t, rfl⟩ := ru
    exact PySem.P.repr_of_str ⟨.str _, H, I.tok _, ⟨_, rfl⟩, q⟩ hsz
  | @lst a ys ds hs ha =>
    obtain ⟨as, rd⟩ := Dp.reads I (.list ds) (.ref a) u (.lst hs ha) ru
    cases ru
    refine repr_of_reads' rd hsh (fun z => absurd (hno.symm.trans z) Bool.false_ne_true) gX (by omega)
      (fun _ _ e => e) (fun h' t' tk hk => ?_) hsz
    exact ⟨.str _, H, I.kept (t' := tk) hk, ⟨_, rfl⟩, q⟩
  | @tup a ys ds hs ha =>
    obtain ⟨as, rd⟩ := Dp.reads I (.tuple ds) (.ref a) u (.tup hs ha) ru
    cases ru
    refine repr_of_reads' rd hsh (fun z => absurd (hno.symm.trans z) Bool.false_ne_true) gX (by omega)
      (fun _ _ e => e) (fun h' t' tk hk => ?_) hsz
    exact ⟨.str _, H, I.kept (t' := tk) hk, ⟨_, rfl⟩, q⟩
end
end Ow

set_option Elab.async false
set_option linter.all false
set_option maxRecDepth 100000
set_option maxHeartbeats 4000000
namespace Ow
open PySem PySem.Spec PyProof.Rows L2

/-- what the law's end asks of the call -/
abbrev EndOf (s₁ : Shared) : Result → Shared → Prop := fun r s' =>
  r = .ok (.ret (.bool true)) ∧ OldK s₁.heap s'.heap ∧ s'.os = s₁.os ∧ AllBare s'.gens
section
variable {P : Program} {w : World} {K : PySem.W.Frag} {mg mb : Str → Option Value} {k : Nat} {fa a : Addr}
  {fd : FuncData} {x : Str} {sp : Sp} {s₁ : Shared} {vs : List Value} {ns : List Int}
/-- .. where at most the script, known to its object, is tracked -/
theorem endG1 {H : Hp} (ob : Obj) (hob : s₁.heap.get? a = some ob) (hda : ∀ es ep, ob.data ≠ .dict es ep)
    (inK : K.In s₁.heap) (nsM : s₁.heap.Ns mainGlobals mg) (nsB : s₁.heap.Ns builtinsNs mb)
    (boot : ∀ y : Str, y ≠ "__name__" → mb y = bootBuiltins y) (noL : s₁.heap.NoLimit)
    (g0 : s₁.gens = #[]) (hr : Room k callerA)
    (F : ∀ base : Heap, K.In base → base.Ns mainGlobals mg → FnG P w K mg base k fa fd [x] sp)
    (bind : ∀ (s : Shared) (u : Value), BindsTo s fd ⟨[u], []⟩ [(x, u)])
    (hs : sp [.ref a] H (fun v _ => v = .bl true) fun _ _ _ => False) (only : Only H)
    (hok : HOk P w H s₁.heap) (hA : ∀ b, H b ≠ none → b = a) (hK : H a ≠ none → K.lookup a = none) :
    codeAny (model P w) callerA (.call (.ref fa) ⟨[.ref a], []⟩) (EndOf s₁) s₁ := by
  have free : ∀ {b : Addr}, b ≠ a → H b = none := fun {b} n => by
    cases e : H b with
    | none => rfl
    | some u => exact absurd (hA b (by rw [e]; exact fun z => nomatch z)) n
  have hid : ∀ {b : Addr} {o : Obj}, s₁.heap.get? b = some o → H b = none → (hidT s₁.heap H).get? b = some o :=
    fun e n => hidT_get e n
  have dictFree : ∀ {b : Addr} {o : Obj} {es : Array DictEntry} {ep : Nat},
      s₁.heap.get? b = some o → o.data = .dict es ep → H b = none := fun {b o es ep} e d => by
    refine free fun z => ?_
    rw [z, hob] at e
    exact hda es ep (by rw [Option.some.inj e]; exact d)
  have nsOf : ∀ {b : Addr} {m : Str → Option Value}, s₁.heap.Ns b m → (hidT s₁.heap H).Ns b m := by
    intro b m q
    obtain ⟨o, es, ep, e, d, r⟩ := q
    exact ⟨o, es, ep, hid e (dictFree e d), d, r⟩
  have inB : K.In (hidT s₁.heap H) := fun b o e => hid (inK b o e) (by
    by_cases hb : b = a
    · cases q : H b with
      | none => rfl
      | some u =>
        rw [hb] at e q
        rw [hK (by rw [q]; exact fun z => nomatch z)] at e
        cases e
    · exact free hb)
  have hM : Mod K mg (hidT s₁.heap H) := by
    obtain ⟨mc, h1, h2⟩ := noL
    exact ⟨inB, nsOf nsM, ⟨mb, nsOf nsB, boot⟩, mc, nsOf h1, h2⟩
  have e0 : Env0 P w K mg (hidT s₁.heap H) callerA [] s₁ H :=
    { frames := rfl, mod := hM, bs := fun b o e => of_hidT e, bsz := Nat.le_of_eq (hidT_size _ _)
      funs := trivial, frf := fun b hb => (nomatch (show b ∈ ([] : List Addr) from hb)), hok := hok, bare := .of_eq g0 }
  have run := (F _ inB (nsOf nsM)).go callerA [] s₁ H ⟨[.ref a], []⟩ [.ref a] [.ref a] _ _ rfl hr e0
    (bind s₁ (.ref a)) (.cons rfl .nil) hs
  refine codeAny_mono run fun r s' h => ?_
  cases r with
  | error e => exact False.elim h
  | ok fl =>
    cases fl with
    | next => exact False.elim h
    | brk => exact False.elim h
    | cont => exact False.elim h
    | ret u =>
      obtain ⟨v, H', os, bare, un, hok', rv, q⟩ := h
      have q' : v = .bl true := q
      subst q'
      have eu : u = Value.bool true := rv
      subst eu
      refine ⟨rfl, OldK.of_keep fun b o e => ?_, os, bare⟩
      rcases only b with z | ⟨ob, xs, z⟩
      · exact un.keep b o e z (fun m => nomatch (show b ∈ ([] : List Addr) from m)) (fun m => nomatch m)
      · obtain ⟨e1, _⟩ := hok b _ z
        obtain ⟨e2, _⟩ := hok' b _ (un.frzs b ob _ z)
        rw [e] at e1
        rw [Option.some.inj e1]
        exact e2
theorem endG (inK : K.In s₁.heap) (nsM : s₁.heap.Ns mainGlobals mg) (nsB : s₁.heap.Ns builtinsNs mb)
    (boot : ∀ y : Str, y ≠ "__name__" → mb y = bootBuiltins y) (noL : s₁.heap.NoLimit)
    (g0 : s₁.gens = #[]) (hob : s₁.heap.get? a = some { cls := .type "list", data := .seq vs.toArray })
    (hi : IntsAre vs ns) (hl : ns.length ≤ sizeLine) (hr : Room k callerA)
    (F : ∀ base : Heap, K.In base → base.Ns mainGlobals mg → FnG P w K mg base k fa fd [x] sp)
    (bind : ∀ (s : Shared) (u : Value), BindsTo s fd ⟨[u], []⟩ [(x, u)])
    (hs : ∀ H : Hp, Only H → SqL K H a (ns.map V.int) → sp [.ref a] H (fun v _ => v = .bl true) fun _ _ _ => False) :
    codeAny (model P w) callerA (.call (.ref fa) ⟨[.ref a], []⟩) (EndOf s₁) s₁ := by
  have rv := vals_ints hi
  have nd : ∀ es ep, (Obj.data { cls := .type "list", data := .seq vs.toArray }) ≠ .dict es ep := fun es ep z => by cases z
  cases hk : K.lookup a with
  | some o =>
    have e := inK a o hk
    rw [hob] at e
    cases e
    have O : Only (fun _ => none) := fun _ => .inl rfl
    refine endG1 (H := fun _ => none) _ hob nd inK nsM nsB boot noL g0 hr F bind (hs _ O (.inr ?_)) O
      (fun b u z => nomatch z) (fun b z => absurd rfl z) (fun z => absurd rfl z)
    exact ⟨_, vs.toArray, _, hk, rfl, rfl, rfl, by rw [List.size_toArray, hi.length]; exact hl, rv⟩
  | none =>
    have at_ : ∀ b u, (fun b => if b = a then some (HO.frz { cls := .type "list", data := .seq vs.toArray }
        (.lst (ns.map V.int))) else none) b = some u → b = a ∧ u = HO.frz { cls := .type "list", data := .seq vs.toArray } (.lst (ns.map V.int)) := by
      intro b u z
      by_cases hb : b = a
      · exact ⟨hb, (Option.some.inj ((if_pos hb).symm.trans z)).symm⟩
      · exact nomatch (if_neg hb).symm.trans z
    have O : Only (fun b => if b = a then some (HO.frz { cls := .type "list", data := .seq vs.toArray }
        (.lst (ns.map V.int))) else none) := by
      intro b
      by_cases hb : b = a
      · exact .inr ⟨_, _, if_pos hb⟩
      · exact .inl (if_neg hb)
    refine endG1 _ hob nd inK nsM nsB boot noL g0 hr F bind (hs _ O (.inl (.inr ⟨_, if_pos rfl⟩))) O ?_ ?_ (fun _ => hk)
    · intro b u z
      obtain ⟨rfl, rfl⟩ := at_ b u z
      exact ⟨hob, by rw [List.length_map]; exact hl, vs, _, rv, hob⟩
    · intro b z
      cases q : (fun b => if b = a then some (HO.frz { cls := .type "list", data := .seq vs.toArray }
        (.lst (ns.map V.int))) else none) b with
      | none => exact absurd q z
      | some u => exact (at_ b u q).1
end
/-- the head's goal, from the law's promise with nothing guarded -/
theorem walkG {l : PySem.W.OpenLaw} {n k : Nat} {q : Program} {loose : List Str} {XP : (Str → Option Value) → Heap → Prop}
    {YP : World → Heap → Prop} {d : DefRec} {K : Params → PySem.W.Frag} {sp : PySem.W.Frag → Sp} {x : Str}
    (hn : l.most = some n) (hn2 : n ≤ sizeLine) (hdf : d.params.defaults = []) (hr : Room k callerA)
    (hY : ∀ (w : World) (h : Heap), YP w h → (K w.params).In h)
    (F : ∀ (w : World) (mg : Str → Option Value) (fa : Addr) (h : Heap), (K w.params).In h → h.Ns mainGlobals mg →
      mg d.name = some (.ref fa) → ∃ fd : FuncData, (∀ (s : Shared) (u : Value), BindsTo s fd ⟨[u], []⟩ [(x, u)]) ∧
        ∀ base : Heap, (K w.params).In base → base.Ns mainGlobals mg →
          FnG l.prog w (K w.params) mg base k fa fd [x] (sp (K w.params)))
    (hs : ∀ (K : PySem.W.Frag) (H : Hp) (a : Addr) (ns : List Int), ns.length ≤ n → Only H →
      SqL K H a (ns.map V.int) → sp K [.ref a] H (fun v _ => v = .bl true) fun _ _ _ => False) :
    PySem.W.WalkO q loose XP YP l.row.toRowW d [] (fun f vs => PySem.call f vs) := by
  refine Att.attach_call hn hdf fun w s₀ s₁ mg mb fa o pm cd doc a vs ns G Y ho hd hcd hmg hobj hints hlen hg => ?_
  have inK := hY w _ Y
  obtain ⟨fd, hb, hF⟩ := F w mg fa _ inK G.T.g hmg
  exact endG inK G.T.g G.T.b G.T.builtins G.T.nolimit hg hobj hints (Nat.le_trans hlen hn2) hr hF hb
    fun H hO hS => hs _ H a ns hlen hO hS
end Ow

set_option Elab.async false
set_option linter.all false
set_option maxRecDepth 100000
set_option maxHeartbeats 4000000
namespace Ow
open PySem PySem.Spec PyProof.Rows L2

/-! powers of greater numbers -/
def CPowB (i j : Int) : Prop := 0 ≤ j ∧ (Builtin.Int.intBits i : Int) * j ≤ 2 ^ 27
section
variable {X : Cx}
theorem op_powB : OpR X (binaryOp .Pow) (rI CPowB fun i j => .int (i ^ j.toNat)) :=
  opI fun _ _ _ _ _ _ _ hc q => pow_int hc.1 hc.2 q
end

/-! a tuple backwards: some of its items -/
theorem vals_pick {xs : List V} {its : List Value} (r : Vals xs its) (f : Nat → Nat) : ∀ l : List Nat,
    Vals (l.filterMap fun m => xs[f m]?) (l.filterMap fun m => its[f m]?)
  | [] => .nil
  | m :: l => by
    have ih := vals_pick r f l
    cases e : xs[f m]? with
    | none =>
      simp only [List.filterMap_cons, e, r.none_of e]
      exact ih
    | some x =>
      obtain ⟨u, hu, rv⟩ := r.get e
      simp only [List.filterMap_cons, e, hu]
      exact .cons rv ih
theorem back_places (n : Nat) : Builtin.Slice.slicePlaces ((n : Int) - 1) (-1) (-1) = n := by
  unfold Builtin.Slice.slicePlaces
  rw [if_neg (by decide)]
  by_cases h : (n : Int) - 1 > -1
  · rw [if_pos h]
    simp only [Int.neg_neg, Int.ediv_one]
    omega
  · rw [if_neg h]
    omega
theorem back_adjust (n : Nat) : Builtin.Slice.sliceAdjust none none (-1) (n : Int) = ((n : Int) - 1, -1) := by
  unfold Builtin.Slice.sliceAdjust
  simp
section
variable {prog : Program} {w : World} {A : Around} {E : Value → Shared → Prop} {s : Shared}
theorem back_applied {sl : Addr} {vs : Value} {n : Nat} {Q : Int × Int × Nat → Shared → Prop}
    (hs : s.heap.IsSliceOf sl .none .none vs) (p : IsPart vs (some (-1))) (h : Q ((n : Int) - 1, -1, n) s) :
    wpAny (model prog w) A (Builtin.Slice.sliceApplied (.ref sl) (pure (n : Int))) Q E s := by
  obtain ⟨os, hos, hcs, hds⟩ := id hs
  unfold Builtin.Slice.sliceApplied Builtin.Slice.sliceFields
  refine wpAny_bind (wpAny_bind (wpAny_field hos hds (x := .none) rfl ?_))
  refine wpAny_bind (wpAny_field hos hds (x := .none) rfl ?_)
  refine wpAny_bind (wpAny_field hos hds (x := vs) rfl (wpAny_pure ?_))
  refine wpAny_bind (HT.slicePart_ p ?_)
  show wpAny _ _ (if ((-1 : Int) == 0) = true then _ else _) _ _ s
  rw [if_neg (by decide)]
  refine wpAny_bind (slicePart_none (wpAny_bind (slicePart_none (wpAny_bind (wpAny_pure ?_)))))
  show wpAny _ _ (match Builtin.Slice.sliceAdjust none none (-1) (n : Int) with
    | (lo, hi) => pure (lo, (-1 : Int), Builtin.Slice.slicePlaces lo hi (-1))) _ _ s
  rw [back_adjust]
  show wpAny _ _ (pure ((n : Int) - 1, (-1 : Int), Builtin.Slice.slicePlaces ((n : Int) - 1) (-1) (-1))) _ _ s
  rw [back_places]
  exact wpAny_pure h
theorem back_item {t sl : Addr} {items : Array Value} {vs : Value} {Q : Value → Shared → Prop}
    (ht : IsTup s.heap t items) (hs : s.heap.IsSliceOf sl .none .none vs) (p : IsPart vs (some (-1)))
    (hsz : items.size ≤ sizeLine)
    (h : Q (.ref s.heap.objs.size) { s with heap := s.heap.push { cls := .type "tuple", data := .seq ((List.range items.size).filterMap fun (k : Nat) => items[((items.size : Int) - 1 + (k : Int) * -1).toNat]?).toArray } }) :
    wpAny (model prog w) A (getItem (.ref t) (.ref sl)) Q E s := by
  have hz : sizeOk (.seq ((List.range items.size).filterMap fun (k : Nat) =>
      items[((items.size : Int) - 1 + (k : Int) * -1).toNat]?).toArray) := by
    show Array.size _ ≤ sizeLine
    rw [List.size_toArray]
    refine Nat.le_trans (List.length_filterMap_le _ _) ?_
    rw [List.length_range]
    exact hsz
  obtain ⟨os, hos, hcs, hds⟩ := id hs
  have isS : s.TypeIs (.ref sl) "slice" := ⟨os, hos, hcs⟩
  unfold getItem
  try with_reducible refine wpAny_holding ?_
  first | refine wpAny_bind (wpAny_pure ?_) | skip
  refine wpAny_bind (wpAny_sequenceKey ht.typeIs (by decide) ?_)
  refine wpAny_bind (wpAny_callSpecial?_slot (name := Str.ofString "__getitem__") ht.typeIs
    PyProof.Rows.slot_tuple_getitem (wpAny_call_entry PyProof.Rows.slot_tuple_getitem ht.typeIs
      entry_tuple_getitem ?_ (args_tuple_getitem _ _)))
  show wpAny _ _ (Builtin.Tuple.tupleItemsOf (.ref t) >>= _) _ _ s
  refine wpAny_bind (tupleItemsOf_ ht ?_)
  refine wpAny_bind (wpAny_typeOf isS ?_)
  rw [if_pos (by decide)]
  refine wpAny_bind (back_applied hs p ?_)
  have no : ¬ ((((items.size : Int) - 1) == 0 && (-1 : Int) == 1 && items.size == items.size) = true) := by
    intro q
    rw [Bool.and_eq_true, Bool.and_eq_true] at q
    exact absurd q.1.2 (by decide)
  show wpAny _ _ (if (((items.size : Int) - 1) == 0 && (-1 : Int) == 1 && items.size == items.size) = true then _ else _) _ _ s
  rw [if_neg no]
  first
    | exact wpAny_bind (m := Builtin.Tuple.tupleExact _) (wpAny_newObj_type (wpAny_pure ⟨_, rfl, wpAny_pure h⟩) hz)
    | exact wpAny_bind (m := Builtin.Tuple.tupleExact _)
        (wpAny_newObj_type (wpAny_bind (wpAny_pure (wpAny_pure ⟨_, rfl, wpAny_pure h⟩))) hz)
    | exact wpAny_bind (wpAny_bind (m := Builtin.Tuple.tupleExact _)
        (wpAny_newObj_type (wpAny_pure (wpAny_pure ⟨_, rfl, wpAny_pure h⟩)) hz))
    | exact wpAny_bind (wpAny_bind (m := Builtin.Tuple.tupleExact _)
        (wpAny_newObj_type (wpAny_pure ⟨_, rfl, wpAny_pure h⟩) hz))
end
def tBack (K : PySem.W.Frag) (te : TE) : TE := fun σ H Q => te σ H fun x H1 => ∃ a xs, x = .ref a ∧ SqT K H1 a xs ∧
  ∀ p zs, H1 p = none → (∀ z ∈ zs, z ∈ xs) → zs.length ≤ xs.length → Q (.ref p) (upd H1 p (.tup zs))
section
variable {X : Cx}
theorem pe_back {e : Expr} {te : TE} {k : Nat} {p1 p2 p3 pos : Pos} (he : PE X e te) :
    PE X (.Subscript e (.Slice none none (some (.UnaryOp .USub (.Constant (.int 1) k p1) p2)) p3) pos) (tBack X.K te) := by
  refine ⟨fun pins s σ H Q I h => ?_⟩
  refine Subscript_ (thn (he.run pins s σ H _ I h) fun v s1 hv => ?_)
  obtain ⟨x, H1, I1, r1, a, xs, ex, hx, q⟩ := hv
  subst ex
  cases r1
  have hst : PO X (some (.UnaryOp .USub (.Constant (.int 1) k p1) p2)) (tPart (tUn (rU fun i => .int (-i)) (tC (.int 1)))) :=
    po_some (pe_un un_neg pe_int)
  refine wpAny_Slice (thn (po_none.run pins s1 σ H1 (fun o H2 => o = none ∧ H2 = H1) I1 ⟨rfl, rfl⟩) fun vl s2 hl => ?_)
  obtain ⟨l, H2, I2, pl, el, e2⟩ := hl
  subst el e2
  refine thn (po_none.run pins s2 σ H2 (fun o H3 => o = none ∧ H3 = H2) I2 ⟨rfl, rfl⟩) fun vu s3 hl => ?_
  obtain ⟨u, H3, I3, pu, eu, e3⟩ := hl
  subst eu e3
  refine thn (hst.run pins s3 σ H3 (fun o H4 => o = some (-1) ∧ H4 = H3) I3 ⟨1, rfl, -1, rfl, rfl, rfl⟩) fun vs s4 hl => ?_
  obtain ⟨o, H4, I4, ps, eo, e4⟩ := hl
  subst eo e4
  cases pl
  cases pu
  have I5 : Inv X pins σ H4 { s4 with heap := s4.heap.push { cls := .type "slice", data := .fields #[.none, .none, vs] } } :=
    I4.kept (t' := s4.toks) fun b ob q => Heap.get?_push_of_some _ q
  obtain ⟨its, r, ht, hz⟩ := I5.tuple hx
  have hlen := r.length
  refine tail_any (ops := [.ref a, .ref s4.heap.objs.size]) ht.typeIs (PyProof.Rows.slot_tuple_getitem.lookup) ?_ (by with_unfolding_all rfl)
  refine back_item ht (Heap.IsSliceOf.new _ .none .none vs) ps (by rw [List.size_toArray]; omega) ?_
  have hsz : its.toArray.size = xs.length := by rw [List.size_toArray]; exact hlen.symm
  rw [hsz]
  let f : Nat → Nat := fun k => ((xs.length : Int) - 1 + (k : Int) * -1).toNat
  have hv := vals_pick r f (List.range xs.length)
  have le : ((List.range xs.length).filterMap fun m => xs[f m]?).length ≤ xs.length :=
    Nat.le_trans (List.length_filterMap_le _ _) (by rw [List.length_range]; exact Nat.le_refl _)
  refine ⟨.ref _, _, I5.laid (t' := s4.toks) (o := .tup ((List.range xs.length).filterMap fun m => xs[f m]?))
    (fun b ob q => Heap.get?_push_of_some _ q) (Nat.le_refl _) ?_, rfl,
    q _ _ (I5.hok.fresh (Nat.le_refl _)) (fun z hz => ?_) le⟩
  · refine ⟨Nat.le_trans le hz, (List.range xs.length).filterMap fun m => its[f m]?, hv, ?_⟩
    have e : (List.filterMap (fun (k : Nat) => its.toArray[((xs.length : Int) - 1 + (k : Int) * -1).toNat]?) (List.range xs.length)) =
        ((List.range xs.length).filterMap fun m => its[f m]?) := by
      congr 1
      funext m
      simp [f]
    rw [e]
    exact IsTup.new _ _
  · obtain ⟨m, _, hm⟩ := List.mem_filterMap.mp hz
    exact List.mem_of_getElem? hm
end

/-! a comprehension over a text's signs -/
theorem lc_signs {z : Str} {g : TG} {tt : TT} {te : TE} {vs : List Nat} {σ : L2.St} {H1 : Hp} {D : Addr} {Qd : Hp → Prop}
    (I : Nat → Hp → Prop) (h0 : I 0 (upd H1 D (.lst [])))
    (hs : ∀ i c H, z.cps[i]? = some c → I i H → g (.str ⟨#[c]⟩) (wipe σ vs) H fun σ2 H2 => wipe σ2 vs = wipe σ vs ∧
      tt σ2 H2 fun b H3 => if b = true then te σ2 H3 fun y H4 => ∃ acc, H4 D = some (.lst acc) ∧
        acc.length < sizeLine ∧ I (i + 1) (upd H4 D (.lst (acc ++ [y]))) else I (i + 1) H3)
    (hd : ∀ H, I z.cps.size H → Qd H) :
    ∃ W : Nat → Nat → Hp → Prop, (∃ m, W 0 m (upd H1 D (.lst []))) ∧ ∀ i m H, W i m H →
      ((Its z).stop i H ∧ Qd H) ∨ ((Its z).go i H ∧ ∃ Nx : Hp → Prop, (∀ H', Nx H' → ∃ m', m' < m ∧ W (i + 1) m' H') ∧
        ∀ x H', (Its z).yld i H x H' → g x (wipe σ vs) H' fun σ2 H2 => wipe σ2 vs = wipe σ vs ∧ tt σ2 H2 fun b H3 =>
          if b = true then te σ2 H3 fun y H4 => ∃ acc, H4 D = some (.lst acc) ∧ acc.length < sizeLine ∧
            Nx (upd H4 D (.lst (acc ++ [y]))) else Nx H3) := by
  refine ⟨fun i m H => m + i = z.cps.size ∧ I i H, ⟨z.cps.size, by omega, h0⟩, fun i m H hW => ?_⟩
  obtain ⟨hm, hI⟩ := hW
  by_cases hi : i < z.cps.size
  · refine .inr ⟨hi, I (i + 1), fun H' h' => ⟨m - 1, by omega, by omega, h'⟩, fun x H' hy => ?_⟩
    obtain ⟨rfl, c, hc, rfl⟩ := hy
    exact hs i c _ hc hI
  · have e : i = z.cps.size := by omega
    subst e
    exact .inl ⟨Nat.le_refl _, hd H hI⟩
end Ow

set_option Elab.async false
set_option linter.all false
set_option maxRecDepth 100000
set_option maxHeartbeats 4000000
namespace Ow
open PySem PySem.Spec PyProof.Rows L2

/-! ### the text -/
def topS (i : Nat) : Stmt := PySem.Challenge.pw_oneswill_k50_whole_orders_and_rows.main.body.getD i (.Pass ⟨0, 0, 0, 0⟩)
def inS (i j : Nat) : Stmt := match topS i with
  | .ClassDef _ _ _ b _ _ _ _ _ _ _ => b.getD j (.Pass ⟨0, 0, 0, 0⟩)
  | _ => .Pass ⟨0, 0, 0, 0⟩
abbrev dInteger : Stmt := topS 10
abbrev dName : Stmt := topS 11
abbrev dValue : Stmt := topS 12
abbrev dValues : Stmt := topS 13
abbrev dHasValues : Stmt := topS 14
abbrev dAscending : Stmt := topS 15
abbrev dSetNames : Stmt := topS 16
abbrev dIssues : Stmt := topS 19
abbrev dHasBoth : Stmt := topS 20
abbrev dAreRows : Stmt := topS 21
abbrev dNeedThings : Stmt := topS 25
abbrev dPairs : Stmt := topS 26
abbrev dIssuesOf : Stmt := topS 27
abbrev dAllOrders : Stmt := topS 28
abbrev dRow : Stmt := topS 29
abbrev dOrdersAgenda : Stmt := topS 30
abbrev dRowOf : Stmt := topS 31
abbrev dNeedValues : Stmt := topS 32
abbrev dOrderOf : Stmt := topS 33
abbrev dRing : Stmt := topS 34
abbrev dJug : Stmt := topS 36
abbrev dDip : Stmt := topS 37
abbrev dChoice : Stmt := topS 38
abbrev dJumbled : Stmt := topS 39
abbrev dAllRows : Stmt := topS 40
abbrev dLPairs : Stmt := topS 41
abbrev dLOrders : Stmt := topS 42
abbrev dLRow : Stmt := topS 43
abbrev dThings : Stmt := topS 44
abbrev dIsAhead : Stmt := topS 45
abbrev dTupleRight : Stmt := topS 46
abbrev dRight : Stmt := topS 47
abbrev dLaw : Stmt := topS 48
abbrev dInit : Stmt := inS 23 0
abbrev dPIssues : Stmt := inS 23 2
abbrev dPRows : Stmt := inS 23 3
abbrev dLen : Stmt := inS 23 7

/-! ### heaps that grow, but for the jug at J -/
def Sb (J : Addr) (H H' : Hp) : Prop := ∀ b o, b ≠ J → H b = some o → H' b = some o
theorem Sb.refl (J : Addr) (H : Hp) : Sb J H H := fun _ _ _ e => e
theorem Sb.trans {J : Addr} {H H1 H2 : Hp} (a : Sb J H H1) (b : Sb J H1 H2) : Sb J H H2 :=
  fun c o n e => b c o n (a c o n e)
theorem Sb.same {J : Addr} {H H' : Hp} (a : Same H H') : Sb J H H' := fun c o _ e => a c o e
theorem same_new {H : Hp} {p : Addr} {o : HO} (h : H p = none) : Same H (upd H p o) := fun b x e => by
  rw [upd_ne (ne_of_none e h)]
  exact e
theorem Sb.new {J : Addr} {H : Hp} {p : Addr} {o : HO} (h : H p = none) : Sb J H (upd H p o) := .same (same_new h)
theorem Sb.at {J : Addr} {H : Hp} {o : HO} : Sb J H (upd H J o) := fun b x n e => by
  rw [upd_ne n]
  exact e

/-! ### the values that the law asks about -/
/-- no reference; small enough to be told as a text -/
def scOk : V → Prop
  | .non => True
  | .bl _ => True
  | .int i => i.natAbs < 2 ^ 400
  | .str z => z.length ≤ 4000 ∧ ∀ c ∈ z.cps.toList, c < 128
  | _ => False
/-- (), (0,), [] -/
def Gr (H : Hp) (a : Addr) : Prop := H a = some (.tup []) ∨ H a = some (.tup [.int 0]) ∨ H a = some (.lst [])
def Im (J : Addr) (H : Hp) (v : V) : Prop := scOk v ∨ ∃ a, v = .ref a ∧ a ≠ J ∧ Gr H a
def Vl (J : Addr) (H : Hp) (v : V) : Prop := scOk v ∨ ∃ a, v = .ref a ∧ a ≠ J ∧
  ((∃ xs, H a = some (.tup xs) ∧ xs.length ≤ 60 ∧ ∀ x ∈ xs, Im J H x) ∨ (∃ xs, H a = some (.lst xs)) ∨ ∃ kvs, H a = some (.dK kvs))
theorem Gr.mono {J : Addr} {H H' : Hp} {a : Addr} (s : Sb J H H') (n : a ≠ J) (h : Gr H a) : Gr H' a := by
  rcases h with h | h | h
  · exact .inl (s _ _ n h)
  · exact .inr (.inl (s _ _ n h))
  · exact .inr (.inr (s _ _ n h))
theorem Im.mono {J : Addr} {H H' : Hp} {v : V} (s : Sb J H H') (h : Im J H v) : Im J H' v := by
  rcases h with h | ⟨a, e, n, g⟩
  · exact .inl h
  · exact .inr ⟨a, e, n, g.mono s n⟩
theorem Vl.mono {J : Addr} {H H' : Hp} {v : V} (s : Sb J H H') (h : Vl J H v) : Vl J H' v := by
  rcases h with h | ⟨a, e, n, g⟩
  · exact .inl h
  · refine .inr ⟨a, e, n, ?_⟩
    rcases g with ⟨xs, h, l, q⟩ | ⟨xs, h⟩ | ⟨kvs, h⟩
    · exact .inl ⟨xs, s _ _ n h, l, fun x hx => (q x hx).mono s⟩
    · exact .inr (.inl ⟨xs, s _ _ n h⟩)
    · exact .inr (.inr ⟨kvs, s _ _ n h⟩)
theorem Im.vl {J : Addr} {H : Hp} {v : V} (h : Im J H v) : Vl J H v := by
  rcases h with h | ⟨a, e, n, g⟩
  · exact .inl h
  · refine .inr ⟨a, e, n, ?_⟩
    rcases g with h | h | h
    · exact .inl ⟨_, h, Nat.zero_le _, fun x hx => nomatch hx⟩
    · refine .inl ⟨_, h, by decide, fun x hx => ?_⟩
      rw [List.mem_singleton] at hx
      rw [hx]
      exact .inl (by show Int.natAbs 0 < 2 ^ 400; decide)
    · exact .inr (.inl ⟨_, h⟩)
/-- what is told of a value -/
def bitB (v : V) : Bool := decide (v = .int 0) || decide (v = .int 1)
def shortB : V → Bool
  | .int i => decide (-(10 ^ 60) < i) && decide (i < 10 ^ 60)
  | _ => false
def signB (c : Nat) : Bool := decide (97 ≤ c) && decide (c ≤ 122)
def nameB : V → Bool
  | .str z => (decide (1 ≤ z.length) && decide (z.length ≤ 8)) && z.cps.toList.all signB
  | _ => false
def rowB (H : Hp) : V → Bool
  | .ref a => match H a with
    | some (.tup xs) => xs.all bitB
    | _ => false
  | _ => false
/-- a def that tells a truth of a value, and changes nothing -/
def spB (g : Hp → V → Bool) : Sp := fun vs H Q _ => ∃ v J, vs = [v] ∧ Vl J H v ∧ ∀ H', Same H H' → Q (.bl (g H v)) H'
theorem spB_len {g : Hp → V → Bool} : ∀ vs H Q E, spB g vs H Q E → vs.length = 1 := by
  intro vs H Q E h
  obtain ⟨v, J, rfl, _⟩ := h
  rfl
/-- the classes of such values -/
theorem Vl.ty {K : PySem.W.Frag} {J : Addr} {H : Hp} {v : V} (h : Vl J H v) : ∃ T : String, TyX K H v (.type T) ∧
    ((∃ i, v = .int i) ∧ T = "int" ∨ (∃ b, v = .bl b) ∧ T = "bool" ∨ (v = .non) ∧ T = "NoneType" ∨ (∃ z, v = .str z ∧ z.length ≤ 4000 ∧ ∀ c ∈ z.cps.toList, c < 128) ∧ T = "str" ∨
      (∃ a xs, v = .ref a ∧ H a = some (.tup xs) ∧ xs.length ≤ 60 ∧ ∀ x ∈ xs, Im J H x) ∧ T = "tuple" ∨
      (∃ a xs, v = .ref a ∧ H a = some (.lst xs)) ∧ T = "list" ∨ (∃ a kvs, v = .ref a ∧ H a = some (.dK kvs)) ∧ T = "dict") := by
  rcases h with h | ⟨a, rfl, n, h⟩
  · cases v with
    | non => exact ⟨"NoneType", .base .non, .inr (.inr (.inl ⟨rfl, rfl⟩))⟩
    | bl b => exact ⟨"bool", .base (.bl b), .inr (.inl ⟨⟨b, rfl⟩, rfl⟩)⟩
    | int i => exact ⟨"int", .base (.int i), .inl ⟨⟨i, rfl⟩, rfl⟩⟩
    | str z => exact ⟨"str", .base (.str z), .inr (.inr (.inr (.inl ⟨⟨z, rfl, h⟩, rfl⟩)))⟩
    | byt _ => exact False.elim h
    | flt _ => exact False.elim h
    | ref _ => exact False.elim h
    | ty _ => exact False.elim h
  · rcases h with ⟨xs, h, l, q⟩ | ⟨xs, h⟩ | ⟨kvs, h⟩
    · exact ⟨"tuple", .base (.tup h), .inr (.inr (.inr (.inr (.inl ⟨⟨a, xs, rfl, h, l, q⟩, rfl⟩))))⟩
    · exact ⟨"list", .base (.lst h), .inr (.inr (.inr (.inr (.inr (.inl ⟨⟨a, xs, rfl, h⟩, rfl⟩)))))⟩
    · exact ⟨"dict", .base (.dK h), .inr (.inr (.inr (.inr (.inr (.inr ⟨⟨a, kvs, rfl, h⟩, rfl⟩)))))⟩
end Ow

set_option Elab.async false
set_option linter.all false
set_option maxRecDepth 100000
set_option maxHeartbeats 4000000
set_option exponentiation.threshold 3000
namespace Ow
open PySem PySem.Spec PyProof.Rows L2
theorem scInteger : FnScope ["value"] ["value"] (defScope dInteger) := ⟨rfl, rfl, rfl, by decide +kernel, rfl, by decide +kernel, by decide +kernel⟩
theorem scValue : FnScope ["value"] ["value"] (defScope dValue) := ⟨rfl, rfl, rfl, by decide +kernel, rfl, by decide +kernel, by decide +kernel⟩
theorem boot_isi : bootBuiltins "isinstance" = some (.builtin "isinstance") := by decide +kernel
section
variable {P : Program} {w : World} {K : PySem.W.Frag} {mg : Str → Option Value} {base : Heap}
/-- isinstance(x, T), T a built-in class -/
theorem pe_isi {X : Cx} {e : Expr} {te : TE} {T : String} {n : Str} {p p2 pos : Pos} (g : Gl X "isinstance") (m : X.mg "isinstance" = none)
    (he : PE X e te) (g2 : Gl X n) (m2 : X.mg n = none) (hv : bootBuiltins n = some (.type T)) (nn : n ≠ "__name__" := by decide) (nd : (n == ("__debug__" : Str)) = false := by decide)
    (h1 : starEach [e, .Name n p2] X.env = (false, eval e X.env) :: starEach [.Name n p2] X.env := by rfl) (h2 : (backTo pos (starEach [.Name n p2] X.env)).any (·.1) = false := by rfl) :
    PE X (.Call (.Name "isinstance" p) [e, .Name n p2] [] pos) (tCB (rIsi X.K) (tCons te (tCons (tC (.ty T)) tNil))) :=
  pe_callB call_isi g m boot_isi (pa_cons he (pa_cons (pe_bltn g2 m2 hv rfl nn nd) pa_nil (by rfl)) h1) (by decide) (by decide) h1 h2
def isT (T U : String) : Bool := (kitB T U).getD false
theorem isi_at {K : PySem.W.Frag} {H : Hp} {v : V} {T : String} {b : Bool} {Q : VK} {i : Nat} {σ : L2.St} (U : String) (hi : σ[i]? = some (some v)) (ty : TyX K H v (.type T)) (k : kitB T U = some b) (q : Q (.bl b) H) :
    tCB (rIsi K) (tCons (tVar i) (tCons (tC (.ty U)) tNil)) σ H Q := ⟨v, hi, v, .ty U, .type T, .type U, b, rfl, .ty U, ty, kit_ty k, q⟩
theorem ok_integer {f : Addr} {fd : FuncData} {t : Tok} (F : Fun K "is_integer" "is_integer" dInteger f fd) (mi : mg "isinstance" = none) (mn : mg "int" = none) (mb : mg "bool" = none)
    (mB : mg "_BOUND" = some (.int (10 ^ 60) t)) : FnOk P w K mg base CX0 1 f fd ["value"] (spB fun _ => shortB) := by
  refine F.ok scInteger spB_len (fun cdv A outer s H vs Q E hr h => ?_)
  obtain ⟨v, J, rfl, hv, q⟩ := h
  refine ⟨_, pss_one (ps_ret (pe_and (pe_isi (by rfl) mi (pv 0) (by rfl) mn boot_int)
    (pe_and (pe_not (pe_isi (T := "bool") (by rfl) mi (pv 0) (by rfl) mb (by decide +kernel)))
      (pe_one (pe_chain op_lt op_lt (pe_un un_neg (pe_glob (v := .int (10 ^ 60)) (by rfl) mB ⟨_, rfl⟩)) (pv 0) (pe_glob (v := .int (10 ^ 60)) (by rfl) mB ⟨_, rfl⟩)))))), ?_⟩
  obtain ⟨T, ty, c⟩ := hv.ty (K := K)
  have fin : ∀ b, b = shortB v → Q (.bl b) H := fun b e => by
    rw [e]
    exact q H (Same.refl H)
  rcases c with ⟨⟨i, rfl⟩, rfl⟩ | ⟨⟨b, rfl⟩, rfl⟩ | ⟨rfl, rfl⟩ | ⟨⟨z, rfl, _⟩, rfl⟩ | ⟨⟨a, xs, rfl, _⟩, rfl⟩ | ⟨⟨a, xs, rfl, _⟩, rfl⟩ | ⟨⟨a, xs, rfl, _⟩, rfl⟩
  · refine isi_at "int" rfl ty (b := true) (by decide +kernel) ⟨true, rfl, iteT (isi_at "bool" rfl ty (b := false) (by decide +kernel) ⟨false, rfl, true, rfl, iteT ?_⟩)⟩
    refine ⟨10 ^ 60, rfl, .int i, rfl, _, _, rfl, rfl, _, rfl, ?_⟩
    by_cases h : -(10 ^ 60) < i
    · rw [decide_eq_true h]
      refine iteT ⟨_, _, rfl, rfl, fin _ ?_⟩
      show _ = (decide (-(10 ^ 60) < i) && _)
      rw [decide_eq_true h]
      rfl
    · rw [decide_eq_false h]
      refine iteF (fin _ ?_)
      show _ = (decide (-(10 ^ 60) < i) && _)
      rw [decide_eq_false h]
      rfl
  · exact isi_at "int" rfl ty (b := true) (by decide +kernel) ⟨true, rfl, iteT (isi_at "bool" rfl ty (b := true) (by decide +kernel) ⟨true, rfl, false, rfl, iteF (fin _ rfl)⟩)⟩
  · exact isi_at "int" rfl ty (b := false) (by decide +kernel) ⟨false, rfl, iteF (fin _ rfl)⟩
  · exact isi_at "int" rfl ty (b := false) (by decide +kernel) ⟨false, rfl, iteF (fin _ rfl)⟩
  · exact isi_at "int" rfl ty (b := false) (by decide +kernel) ⟨false, rfl, iteF (fin _ rfl)⟩
  · exact isi_at "int" rfl ty (b := false) (by decide +kernel) ⟨false, rfl, iteF (fin _ rfl)⟩
  · exact isi_at "int" rfl ty (b := false) (by decide +kernel) ⟨false, rfl, iteF (fin _ rfl)⟩
/-- is_value: an integer, 0 or 1 -/
theorem ok_value {f fI : Addr} {fd fdI : FuncData} (F : Fun K "is_value" "is_value" dValue f fd) (FI : FnOk P w K mg base CX0 1 fI fdI ["value"] (spB fun _ => shortB))
    (kI : PySem.W.keepIn K (.ref fI) = true) (bI : Binds K fdI ["value"] []) (gI : mg "is_integer" = some (.ref fI)) : FnOk P w K mg base CX0 2 f fd ["value"] (spB fun _ => bitB) := by
  refine F.ok scValue spB_len (fun cdv A outer s H vs Q E hr h => ?_)
  obtain ⟨v, J, rfl, hv, q⟩ := h
  refine ⟨_, pss_one (ps_ret (pe_and (pe_call FI hr (by rfl) gI kI bI .nil pass0 (pa_cons (pv 0) pa_nil))
    (pe_one (pe_chain op_le op_le pe_int (pv 0) pe_int)))), ?_⟩
  refine ⟨v, rfl, v, J, rfl, hv, fun H1 sm => ⟨_, rfl, ?_⟩⟩
  have fin : ∀ b, b = bitB v → Q (.bl b) H1 := fun b e => by
    rw [e]
    exact q H1 sm
  by_cases hs : shortB v = true
  · show if shortB v = true then _ else _
    rw [hs]
    refine iteT ?_
    cases v with
    | int i =>
      refine ⟨.int i, rfl, 0, i, rfl, rfl, _, rfl, ?_⟩
      have e : bitB (.int i) = (decide (0 ≤ i) && decide (i ≤ 1)) := by
        unfold bitB
        rw [Bool.eq_iff_iff]
        simp only [Bool.or_eq_true, Bool.and_eq_true, decide_eq_true_eq, V.int.injEq]
        omega
      by_cases h : 0 ≤ i
      · rw [decide_eq_true h]
        refine iteT ⟨_, _, rfl, rfl, fin _ ?_⟩
        rw [e, decide_eq_true h]
        rfl
      · rw [decide_eq_false h]
        refine iteF (fin _ ?_)
        rw [e, decide_eq_false h]
        rfl
    | _ => exact absurd (show false = true from hs) Bool.false_ne_true
  · have e : shortB v = false := Bool.eq_false_iff.mpr hs
    show if shortB v = true then _ else _
    rw [e]
    refine iteF (fin _ ?_)
    cases v with
    | int i =>
      symm
      have e2 : (decide (-(10 ^ 60) < i) && decide (i < 10 ^ 60)) = false := e
      unfold bitB
      rw [Bool.or_eq_false_iff]
      constructor
      · refine decide_eq_false fun z => ?_
        have z : i = 0 := V.int.inj z
        subst z
        exact absurd e2 (by decide)
      · refine decide_eq_false fun z => ?_
        have z : i = 1 := V.int.inj z
        subst z
        exact absurd e2 (by decide)
    | _ =>
      symm
      unfold bitB
      rw [Bool.or_eq_false_iff]
      exact ⟨decide_eq_false (fun z => (nomatch z)), decide_eq_false (fun z => (nomatch z))⟩
end
end Ow

set_option Elab.async false
set_option linter.all false
set_option maxRecDepth 100000
set_option maxHeartbeats 4000000
set_option exponentiation.threshold 3000
namespace Ow
open PySem PySem.Spec PyProof.Rows L2
theorem scName : FnScope ["value", "sign"] ["value"] (defScope dName) := ⟨rfl, rfl, rfl, by decide +kernel, rfl, by decide +kernel, by decide +kernel⟩
theorem scValues : FnScope ["value", "item"] ["value"] (defScope dValues) := ⟨rfl, rfl, rfl, by decide +kernel, rfl, by decide +kernel, by decide +kernel⟩
theorem boot_all : bootBuiltins "all" = some (.builtin "all") := by decide +kernel
theorem lt1 (c d : Nat) : decide (([c] : List Nat) < [d]) = decide (c < d) := by
  rw [Bool.eq_iff_iff]
  simp only [decide_eq_true_eq, List.cons_lt_cons_iff]
  constructor
  · intro h
    rcases h with h | ⟨_, h⟩
    · exact h
    · exact absurd h (List.not_lt_nil _)
  · exact .inl
theorem small60 {n : Nat} (h : n ≤ 5000) : n < sizeLine := Nat.lt_of_le_of_lt h (by decide)
section
variable {P : Program} {w : World} {K : PySem.W.Frag} {mg : Str → Option Value} {base : Heap}
theorem ok_name {f : Addr} {fd : FuncData} {t : Tok} (F : Fun K "is_name" "is_name" dName f fd) (mi : mg "isinstance" = none) (ms : mg "str" = none) (ml : mg "len" = none) (ma : mg "all" = none)
    (mM : mg "MAX_LETTERS" = some (.int 8 t)) : FnOk P w K mg base CX0 1 f fd ["value"] (spB fun _ => nameB) := by
  refine F.ok scName spB_len (fun cdv A outer s H vs Q E hr h => ?_)
  obtain ⟨v, J, rfl, hv, q⟩ := h
  refine ⟨_, pss_cons (ps_if (PW.pt (pw_or (pt_not (pt_val (pe_isi (T := "str") (by rfl) mi (pv 0) (by rfl) ms (by decide +kernel))))
      (pw_or1 (pt_not (pt_chain op_le op_le pe_int (pe_callB call_len_str (by rfl) ml PySem.boot_len (pa_cons (pv 0) pa_nil)) (pe_glob (v := .int 8) (by rfl) mM ⟨_, rfl⟩))))))
      (pss_one (ps_ret pe_bl)) pss_nil)
    (pss_one (ps_ret (pe_callB (cr_all rfl) (by rfl) ma boot_all (pa_cons
      (pe_lc (own := [("sign", 1)]) (g := gName 1) (tt := tYes) rfl scName.nd (pi_str (pv 0)) (blkOk_by (N := ["value", "sign"]) (sc := defScope dName) (by decide +kernel))
        (fun _ _ _ _ _ => pg_name (i := 1) scName.nd rfl (Or.inl rfl)) (fun _ _ _ _ _ => pts_nil)
        (fun _ _ _ _ _ => pe_chain op_le_str op_le_str pe_str (pv 1) pe_str)) pa_nil)))), ?_⟩
  obtain ⟨T, ty, c⟩ := hv.ty (K := K)
  have fin : ∀ b H', Same H H' → b = nameB v → Q (.bl b) H' := fun b H' sm e => by
    rw [e]
    exact q H' sm
  rcases c with ⟨⟨i, rfl⟩, rfl⟩ | ⟨⟨b, rfl⟩, rfl⟩ | ⟨rfl, rfl⟩ | ⟨⟨z, rfl, hz, hc⟩, rfl⟩ | ⟨⟨a, xs, rfl, _⟩, rfl⟩ | ⟨⟨a, xs, rfl, _⟩, rfl⟩ | ⟨⟨a, xs, rfl, _⟩, rfl⟩
  · exact isi_at "str" rfl ty (b := false) (by decide +kernel) ⟨false, rfl, iteT (iteT (fin _ _ (Same.refl H) rfl))⟩
  · exact isi_at "str" rfl ty (b := false) (by decide +kernel) ⟨false, rfl, iteT (iteT (fin _ _ (Same.refl H) rfl))⟩
  · exact isi_at "str" rfl ty (b := false) (by decide +kernel) ⟨false, rfl, iteT (iteT (fin _ _ (Same.refl H) rfl))⟩
  · refine isi_at "str" rfl ty (b := true) (by decide +kernel) ⟨true, rfl, iteF ?_⟩
    refine ⟨.str z, rfl, z, rfl, Nat.le_of_lt (small60 (by omega)), 1, _, rfl, rfl, _, rfl, ?_⟩
    by_cases h1 : (1 : Int) ≤ (z.length : Int)
    · rw [decide_eq_true h1]
      refine iteT ⟨_, _, rfl, rfl, _, rfl, ?_⟩
      by_cases h8 : (z.length : Int) ≤ 8
      · rw [decide_eq_true h8]
        refine iteF ?_
        have hsz : z.length = z.cps.toList.length := by rw [Array.length_toList]; rfl
        refine ⟨.str z, rfl, z, rfl, fun D nD => ?_⟩
        refine lc_signs (fun i Hx => Same H Hx ∧ Hx D = some (.lst (((z.cps.toList.take i).map signB).map V.bl))) ⟨same_new nD, upd_same⟩ (fun i c Hx hi hI => ?_) (fun Hx hI => ?_)
        · obtain ⟨sm, eD⟩ := hI
          have hi' : z.cps.toList[i]? = some c := by rw [Array.getElem?_toList]; exact hi
          refine ⟨rfl, ?_⟩
          have next : ∀ b, b = signB c → ∃ acc, Hx D = some (.lst acc) ∧ acc.length < sizeLine ∧
              (Same H (upd Hx D (.lst (acc ++ [V.bl b]))) ∧ (upd Hx D (.lst (acc ++ [V.bl b]))) D = some (.lst (((z.cps.toList.take (i + 1)).map signB).map V.bl))) := by
            intro b e
            refine ⟨_, eD, ?_, fun b o e => ?_, ?_⟩
            · rw [List.length_map, List.length_map]
              refine small60 (Nat.le_trans (List.length_take_le _ _) ?_)
              have hi2 := (List.getElem?_eq_some_iff.mp hi').1
              omega
            · rw [upd_ne (ne_of_none e nD)]
              exact sm _ _ e
            · rw [upd_same, List.take_add_one, hi', List.map_append, List.map_append, e]
              rfl
          refine ⟨.str ⟨#[c]⟩, rfl, _, _, rfl, rfl, _, rfl, ?_⟩
          show if (!decide (([c] : List Nat) < [97])) = true then _ else _
          rw [lt1]
          by_cases hl : c < 97
          · rw [decide_eq_true hl]
            refine iteF (next _ ?_)
            unfold signB
            rw [decide_eq_false (show ¬ 97 ≤ c by omega)]
            rfl
          · rw [decide_eq_false hl]
            refine iteT ⟨_, _, rfl, rfl, next _ ?_⟩
            show (!decide (([122] : List Nat) < [c])) = signB c
            rw [lt1]
            unfold signB
            rw [decide_eq_true (show 97 ≤ c by omega)]
            by_cases hh : 122 < c
            · rw [decide_eq_true hh, decide_eq_false (show ¬ c ≤ 122 by omega)]
              rfl
            · rw [decide_eq_false hh, decide_eq_true (show c ≤ 122 by omega)]
              rfl
        · obtain ⟨sm, eD⟩ := hI
          rw [List.take_of_length_le (by rw [Array.length_toList]; exact Nat.le_refl _)] at eD
          refine ⟨D, _, rfl, .of eD, fin _ _ sm ?_⟩
          show _ = ((decide (1 ≤ z.length) && decide (z.length ≤ 8)) && z.cps.toList.all signB)
          rw [decide_eq_true (show 1 ≤ z.length by omega), decide_eq_true (show z.length ≤ 8 by omega), List.all_map]
          rfl
      · rw [decide_eq_false h8]
        refine iteT (fin _ _ (Same.refl H) ?_)
        show _ = ((_ && decide (z.length ≤ 8)) && _)
        rw [decide_eq_false (show ¬ z.length ≤ 8 by omega), Bool.and_false, Bool.false_and]
    · rw [decide_eq_false h1]
      refine iteF ⟨_, rfl, iteT (fin _ _ (Same.refl H) ?_)⟩
      show _ = ((decide (1 ≤ z.length) && _) && _)
      rw [decide_eq_false (show ¬ 1 ≤ z.length by omega), Bool.false_and, Bool.false_and]
  · exact isi_at "str" rfl ty (b := false) (by decide +kernel) ⟨false, rfl, iteT (iteT (fin _ _ (Same.refl H) rfl))⟩
  · exact isi_at "str" rfl ty (b := false) (by decide +kernel) ⟨false, rfl, iteT (iteT (fin _ _ (Same.refl H) rfl))⟩
  · exact isi_at "str" rfl ty (b := false) (by decide +kernel) ⟨false, rfl, iteT (iteT (fin _ _ (Same.refl H) rfl))⟩
end
end Ow

set_option Elab.async false
set_option linter.all false
set_option maxRecDepth 100000
set_option maxHeartbeats 4000000
set_option exponentiation.threshold 3000
namespace Ow
open PySem PySem.Spec PyProof.Rows L2
section
variable {P : Program} {w : World} {K : PySem.W.Frag} {mg : Str → Option Value} {base : Heap}
theorem boot_tup : bootBuiltins "tuple" = some (.type "tuple") := by decide +kernel
theorem ok_values {f fV : Addr} {fd fdV : FuncData} (F : Fun K "is_values" "is_values" dValues f fd) (FV : FnOk P w K mg base CX0 2 fV fdV ["value"] (spB fun _ => bitB))
    (kV : PySem.W.keepIn K (.ref fV) = true) (bV : Binds K fdV ["value"] []) (gV : mg "is_value" = some (.ref fV))
    (mi : mg "isinstance" = none) (mt : mg "tuple" = none) (ma : mg "all" = none) : FnOk P w K mg base CX0 3 f fd ["value"] (spB rowB) := by
  refine F.ok scValues spB_len (fun cdv A outer s H vs Q E hr h => ?_)
  obtain ⟨v, J, rfl, hv, q⟩ := h
  refine ⟨_, pss_one (ps_ret (pe_and (pe_isi (T := "tuple") (by rfl) mi (pv 0) (by rfl) mt boot_tup)
    (pe_one (pe_callB (cr_all rfl) (by rfl) ma boot_all (pa_cons
      (pe_lc (own := [("item", 1)]) (g := gName 1) (tt := tYes) rfl scValues.nd (pi_tup (pv 0)) (blkOk_by (N := ["value", "item"]) (sc := defScope dValues) (by decide +kernel))
        (fun _ _ _ _ _ => pg_name (i := 1) scValues.nd rfl (Or.inl rfl)) (fun _ _ _ _ _ => pts_nil)
        (fun _ _ _ _ _ => pe_call FV hr (by rfl) gV kV bV .nil pass0 (pa_cons (pv 1) pa_nil))) pa_nil))))), ?_⟩
  obtain ⟨T, ty, c⟩ := hv.ty (K := K)
  have fin : ∀ b H', Same H H' → b = rowB H v → Q (.bl b) H' := fun b H' sm e => by
    rw [e]
    exact q H' sm
  rcases c with ⟨⟨i, rfl⟩, rfl⟩ | ⟨⟨b, rfl⟩, rfl⟩ | ⟨rfl, rfl⟩ | ⟨⟨z, rfl, hz, hc⟩, rfl⟩ | ⟨⟨a, xs, rfl, ha, hl, hi⟩, rfl⟩ | ⟨⟨a, xs, rfl, ha⟩, rfl⟩ | ⟨⟨a, xs, rfl, ha⟩, rfl⟩
  · exact isi_at "tuple" rfl ty (b := false) (by decide +kernel) ⟨false, rfl, iteF (fin _ _ (Same.refl H) rfl)⟩
  · exact isi_at "tuple" rfl ty (b := false) (by decide +kernel) ⟨false, rfl, iteF (fin _ _ (Same.refl H) rfl)⟩
  · exact isi_at "tuple" rfl ty (b := false) (by decide +kernel) ⟨false, rfl, iteF (fin _ _ (Same.refl H) rfl)⟩
  · exact isi_at "tuple" rfl ty (b := false) (by decide +kernel) ⟨false, rfl, iteF (fin _ _ (Same.refl H) rfl)⟩
  · refine isi_at "tuple" rfl ty (b := true) (by decide +kernel) ⟨true, rfl, iteT ?_⟩
    refine ⟨.ref a, rfl, a, rfl, ⟨xs, .of ha⟩, fun D nD => ?_⟩
    refine lc_tup (K := K) (a := a) (xs := xs) (fun i Hx => Same H Hx ∧ Hx D = some (.lst (((xs.take i).map bitB).map V.bl))) ⟨same_new nD, upd_same⟩
      (fun i Hx _ hI => .of (hI.1 _ _ ha)) (fun i x Hx hx hI => ?_) (fun Hx hI => ?_)
    · obtain ⟨sm, eD⟩ := hI
      refine ⟨rfl, ?_⟩
      have iv : Vl J Hx x := (hi x (List.mem_of_getElem? hx)).vl.mono (.same sm)
      refine ⟨x, rfl, x, J, rfl, iv, fun H2 sm2 => ⟨_, sm2 _ _ eD, ?_, fun b o e => ?_, ?_⟩⟩
      · rw [List.length_map, List.length_map]
        exact small60 (Nat.le_trans (List.length_take_le _ _) (by have hi2 := (List.getElem?_eq_some_iff.mp hx).1; omega))
      · rw [upd_ne (ne_of_none e nD)]
        exact sm2 _ _ (sm _ _ e)
      · rw [upd_same, List.take_add_one, hx, List.map_append, List.map_append]
        rfl
    · obtain ⟨sm, eD⟩ := hI
      rw [List.take_of_length_le (Nat.le_refl _)] at eD
      refine ⟨D, _, rfl, .of eD, fin _ _ sm ?_⟩
      unfold rowB
      simp only [ha]
      rw [List.all_map]
      rfl
  · exact isi_at "tuple" rfl ty (b := false) (by decide +kernel) ⟨false, rfl, iteF (fin _ _ (Same.refl H) (by unfold rowB; simp only [ha]))⟩
  · exact isi_at "tuple" rfl ty (b := false) (by decide +kernel) ⟨false, rfl, iteF (fin _ _ (Same.refl H) (by unfold rowB; simp only [ha]))⟩
end
end Ow

set_option Elab.async false
set_option linter.all false
set_option maxRecDepth 100000
set_option maxHeartbeats 4000000
set_option exponentiation.threshold 3000
namespace Ow
open PySem PySem.Spec PyProof.Rows L2
/-- a weaker reading of an expression -/
theorem PE.of {X : Cx} {e : Expr} {t t' : TE} (h : PE X e t) (k : ∀ σ H Q, t' σ H Q → t σ H Q) : PE X e t' :=
  ⟨fun pins s σ H Q I q => h.run pins s σ H Q I (k σ H Q q)⟩
/-- the jug: a list of three ints -/
def Jug (H : Hp) (J : Addr) : Prop := ∃ a b c : Int, H J = some (.lst [.int a, .int b, .int c])
theorem scJug : FnScope ["script", "at", "cell", "great", "mixed"] ["script", "at"] (defScope dJug) := ⟨rfl, rfl, rfl, by decide +kernel, rfl, by decide +kernel, by decide +kernel⟩
theorem scDip : FnScope ["jug", "total", "found", "one", "two"] ["jug", "total"] (defScope dDip) := ⟨rfl, rfl, rfl, by decide +kernel, rfl, by decide +kernel, by decide +kernel⟩
theorem mulB {a m j : Int} (h0 : 0 < m) (h1 : m < 2 ^ 64) : CMul (a % m) j := by
  have l := Int.emod_nonneg a (show m ≠ 0 by omega)
  have u := Int.emod_lt_of_pos a h0
  exact .inl ⟨by omega, by omega⟩
section
variable {P : Program} {w : World} {K : PySem.W.Frag} {mg : Str → Option Value} {base : Heap}
def spDip : Sp := fun vs H Q _ => ∃ (J : Addr) (n : Int), vs = [.ref J, .int n] ∧ 0 < n ∧ n.natAbs < 2 ^ 200 ∧ Jug H J ∧
  ∀ H' k, Sb J H H' → Jug H' J → 0 ≤ k → k < n → Q (.int k) H'
theorem ok_dip {f : Addr} {fd : FuncData} (F : Fun K "_law_dip" "_law_dip" dDip f fd) (mi : mg "int" = none) : FnOk P w K mg base CX0 1 f fd ["jug", "total"] spDip := by
  refine F.ok scDip (fun vs H Q E h => ?_) (fun cdv A outer s H vs Q E hr h => ?_)
  · obtain ⟨J, n, rfl, _⟩ := h
    rfl
  obtain ⟨J, n, rfl, n0, nz, ⟨x, y, z, hJ⟩, q⟩ := h
  refine ⟨_, pss_cons (ps_if (pt_cmpR op_gt (pe_ix ix_list (pv 0) pe_int (fun _ _ => rfl)) pe_int (nomark _))
      (pss_cons (ps_set (i := 2) scDip.nd rfl (.inl rfl) (pe_op op_mod (pe_callTy call_int1 (by rfl) mi boot_int (pa_cons (pe_ix ix_list (pv 0) pe_int (fun _ _ => rfl)) pa_nil)) (pv 1)))
      (pss_cons (ps_asg (pe_op op_fdivW (pe_ix ix_list (pv 0) pe_int (fun _ _ => rfl)) (pv 1)) (pg_sub (pv 0) pe_int set_list))
      (pss_one (ps_ret (pv 2))))) pss_nil)
    (pss_cons (ps_asg (pe_op op_add (pe_ix ix_list (pv 0) pe_int (fun _ _ => rfl)) pe_int) (pg_sub (pv 0) pe_int set_list))
    (pss_cons (ps_set (i := 3) scDip.nd rfl (.inl rfl) (pe_op op_mod (pe_callTy call_int1 (by rfl) mi boot_int (pa_cons
        (pe_op op_add (pe_ix ix_list (pv 0) pe_int (fun _ _ => rfl)) (pe_op op_mul pe_int (pe_ix ix_list (pv 0) pe_int (fun _ _ => rfl)))) pa_nil)) pe_int))
    (pss_cons (ps_set (i := 4) scDip.nd rfl (.inl rfl) (pe_op op_add (pe_op op_mul (pe_op op_mod (pe_callTy call_int1 (by rfl) mi boot_int (pa_cons (pe_op op_mul (pv 3) (pv 3)) pa_nil)) pe_int) (pv 3))
        (pe_op op_mul pe_int (pe_ix ix_list (pv 0) pe_int (fun _ _ => rfl)))))
    (pss_one (ps_ret (pe_op op_mod (pe_callTy call_int1 (by rfl) mi boot_int (pa_cons (pe_op op_fdiv (pe_op op_mod (pe_callTy call_int1 (by rfl) mi boot_int (pa_cons (pv 4) pa_nil)) pe_int) pe_int) pa_nil)) (pv 1))))))), ?_⟩
  have hd : CDivW x n := wide_div (b := 200) n0 nz (by decide) (by decide)
  refine ⟨.ref J, rfl, J, _, 0, .int x, rfl, rfl, .of hJ, atI_nat (j := 0) rfl, x, 0, rfl, rfl, _, rfl, ite2 (fun _ => ?_) (fun _ => ?_)⟩
  · refine ⟨.ref J, rfl, J, _, 0, .int x, rfl, rfl, .of hJ, atI_nat (j := 0) rfl, .inl ⟨x, rfl, .int n, rfl, x, n, rfl, rfl, n0, ?_⟩⟩
    refine ⟨.ref J, rfl, J, _, 0, .int x, rfl, rfl, .of hJ, atI_nat (j := 0) rfl, .int n, rfl, x, n, rfl, rfl, hd, ?_⟩
    refine ⟨.ref J, rfl, J, _, 0, 0, rfl, rfl, hJ, rfl, ?_⟩
    exact ⟨_, rfl, q _ _ Sb.at ⟨_, _, _, upd_same⟩ (Int.emod_nonneg _ (by omega)) (Int.emod_lt_of_pos _ n0)⟩
  · refine ⟨.ref J, rfl, J, _, 2, .int z, rfl, rfl, .of hJ, atI_nat (j := 2) rfl, z, 1, rfl, rfl, ?_⟩
    refine ⟨.ref J, rfl, J, _, 2, 2, rfl, rfl, hJ, rfl, ?_⟩
    have h2 : upd H J (.lst ([V.int x, .int y, .int z].set 2 (.int (z + 1)))) J = some (.lst [.int x, .int y, .int (z + 1)]) := upd_same
    refine ⟨.ref J, rfl, J, _, 1, .int y, rfl, rfl, .of h2, atI_nat (j := 1) rfl, .ref J, rfl, J, _, 2, .int (z + 1), rfl, rfl, .of h2, atI_nat (j := 2) rfl, ?_⟩
    refine ⟨1000429, z + 1, rfl, rfl, .inl ⟨by decide, by decide⟩, y, _, rfl, rfl, .inl ⟨_, rfl, _, _, rfl, rfl, (by show (0 : Int) < _; decide), ?_⟩⟩
    refine ⟨_, rfl, _, rfl, _, _, rfl, rfl, mulB (by decide) (by decide), .inl ⟨_, rfl, _, _, rfl, rfl, (by show (0 : Int) < _; decide), ?_⟩⟩
    refine ⟨_, rfl, _, _, rfl, rfl, mulB (by decide) (by decide), .ref J, rfl, J, _, 2, .int (z + 1), rfl, rfl, .of h2, atI_nat (j := 2) rfl, ?_⟩
    refine ⟨9109, z + 1, rfl, rfl, .inl ⟨by decide, by decide⟩, _, _, rfl, rfl, ?_⟩
    refine ⟨_, rfl, .inl ⟨_, rfl, _, _, rfl, rfl, (by show (0 : Int) < _; decide), _, 16384, rfl, rfl, ⟨by decide, by decide⟩, .inl ⟨_, rfl, .int n, rfl, _, n, rfl, rfl, n0, ?_⟩⟩⟩
    exact q _ _ Sb.at ⟨_, _, _, h2⟩ (Int.emod_nonneg _ (by omega)) (Int.emod_lt_of_pos _ n0)
/-- a jug: three ints, new -/
def spJug (K : PySem.W.Frag) : Sp := fun vs H Q _ => ∃ (a : Addr) (ns : List Int) (i : Nat), vs = [.ref a, .int i] ∧ SqL K H a (ns.map V.int) ∧
  ∀ H' p, Same H H' → H p = none → Jug H' p → Q (.ref p) H'
def tCellAt (K : PySem.W.Frag) : TE := fun σ H Q => ∃ (a : Addr) (ns : List Int) (i : Nat), σ[0]? = some (some (.ref a)) ∧ σ[1]? = some (some (.int i)) ∧
  SqL K H a (ns.map V.int) ∧ ∀ c : Int, Q (.int c) H
def tSomeOf (j : Nat) : TE := fun σ H Q => ∃ c : Int, σ[j]? = some (some (.int c)) ∧ ∀ g : Int, Q (.int g) H
theorem ok_jug {f : Addr} {fd : FuncData} (F : Fun K "_law_jug" "_law_jug" dJug f fd) (mi : mg "int" = none) (ml : mg "len" = none) (ma : mg "abs" = none) (mm : mg "max" = none) :
    FnOk P w K mg base CX0 1 f fd ["script", "at"] (spJug K) := by
  refine F.ok scJug (fun vs H Q E h => ?_) (fun cdv A outer s H vs Q E hr h => ?_)
  · obtain ⟨a, ns, i, rfl, _⟩ := h
    rfl
  obtain ⟨a, ns, i, rfl, hS, q⟩ := h
  refine ⟨_, pss_cons (ps_set (i := 2) scJug.nd rfl (.inl rfl) (PE.of (t' := tCellAt K) (pe_ifExp (pt_cmpR op_lt (pv 1) (pe_callB call_len_seq (by rfl) ml PySem.boot_len (pa_cons (pv 0) pa_nil)) (nomark _))
        (pe_ix ix_list (pv 0) (pv 1) (fun _ _ => rfl)) (pe_op op_add (pe_op op_mul pe_int (pv 1)) pe_int)) ?c1))
    (pss_cons (ps_set (i := 3) scJug.nd rfl (.inl rfl) (PE.of (t' := tSomeOf 2) (pe_op op_mod (pe_callTy call_int1 (by rfl) mi boot_int (pa_cons (pe_callB call_abs (by rfl) ma boot_abs (pa_cons (pv 2) pa_nil)) pa_nil))
        (pe_op op_powB (pe_op op_powB pe_int pe_int) pe_int)) ?c2))
    (pss_cons (ps_set (i := 4) scJug.nd rfl (.inl rfl) (pe_op op_add (pe_op op_add (pe_op op_add (pe_op op_mul (pe_op op_mod (pe_callTy call_int1 (by rfl) mi boot_int (pa_cons (pv 3) pa_nil)) pe_int) pe_int)
        (pe_op op_mul pe_int (pv 1))) (pe_op op_mul pe_int (pe_callTy call_int1 (by rfl) mi boot_int (pa_cons (pe_cmpR op_lt (pv 2) pe_int (nomark _)) pa_nil)))) pe_int))
    (pss_one (ps_ret (pe_lst (pa_cons (pe_callB (call_max2 rfl) (by rfl) mm boot_max (pa_cons pe_int (pa_cons (pe_op op_sub (pv 3) (pe_op op_powB pe_int pe_int)) pa_nil)))
      (pa_cons (pe_op op_mod (pe_callTy call_int1 (by rfl) mi boot_int (pa_cons (pv 4) pa_nil)) pe_int) (pa_cons pe_int pa_nil)))))))), ?r⟩
  case c1 =>
    intro σ H Q h
    obtain ⟨a, ns, i, h0, h1, hS, q⟩ := h
    refine ⟨.int i, h1, .ref a, h0, a, _, rfl, .inl hS, _, _, rfl, rfl, _, rfl, ite2 (fun e => ?_) (fun _ => ?_)⟩
    · have e1 : (i : Int) < ((ns.map V.int).length : Nat) := of_decide_eq_true e
      rw [List.length_map] at e1
      have hi : i < ns.length := by omega
      refine ⟨.ref a, h0, .int i, h1, a, _, i, .int ns[i], rfl, rfl, hS, atI_nat (j := i) ?_, q _⟩
      rw [List.getElem?_map, List.getElem?_eq_getElem hi]
      rfl
    · exact ⟨.int i, h1, 71, i, rfl, rfl, .inl ⟨by decide, by decide⟩, _, 41, rfl, rfl, q _⟩
  case c2 =>
    intro σ H Q h
    obtain ⟨c, h2, q⟩ := h
    refine ⟨.int c, h2, c, rfl, .inl ⟨_, rfl, 10, 43, rfl, rfl, ⟨by decide, by decide +kernel⟩, _, 14, rfl, rfl, ⟨by decide, by decide +kernel⟩, _, _, rfl, rfl, (by show (0 : Int) < _; decide +kernel), q _⟩⟩
  refine ⟨a, ns, i, rfl, rfl, hS, fun c => ⟨c, rfl, fun g => ?_⟩⟩
  refine ⟨.int g, rfl, .inl ⟨_, rfl, g, 2147483179, rfl, rfl, (by show (0 : Int) < _; decide), _, 97303, rfl, rfl, .inr ⟨by decide, by decide⟩, .int i, rfl, 8147, i, rfl, rfl, .inl ⟨by decide, by decide⟩, _, _, rfl, rfl, ?_⟩⟩
  refine ⟨.int c, rfl, c, 0, rfl, rfl, .inr ⟨_, rfl, 53, _, rfl, rfl, .inl ⟨by decide, by decide⟩, _, _, rfl, rfl, _, 79, rfl, rfl, ?_⟩⟩
  refine ⟨.int g, rfl, 10, 18, rfl, rfl, ⟨by decide, by decide +kernel⟩, g, _, rfl, rfl, 0, _, rfl, ?_⟩
  refine ⟨_, rfl, .inl ⟨_, rfl, _, 2305843009213693907, rfl, rfl, (by show (0 : Int) < _; decide), (by show 3 ≤ sizeLine; decide), fun p np => ?_⟩⟩
  exact q _ p (same_new np) np ⟨_, _, _, upd_same⟩
end
end Ow

set_option Elab.async false
set_option linter.all false
set_option maxRecDepth 100000
set_option maxHeartbeats 4000000
set_option exponentiation.threshold 3000
namespace Ow
open PySem PySem.Spec PyProof.Rows L2
/-! ### heaps that grow, but for the places M, where jugs stand -/
def Gw (M : Addr → Prop) (H H' : Hp) : Prop := ∀ b o, ¬ M b → H b = some o → H' b = some o
def Jg (M : Addr → Prop) (H : Hp) : Prop := ∀ b, M b → Jug H b
def No : Addr → Prop := fun _ => False
def At (J : Addr) : Addr → Prop := fun b => b = J
section
variable {M : Addr → Prop} {H H' H'' : Hp} {J p a : Addr} {o : HO} {xs : List V}
theorem Gw.refl (H : Hp) : Gw M H H := fun _ _ _ e => e
theorem Gw.trans (a : Gw M H H') (b : Gw M H' H'') : Gw M H H'' := fun c o n e => b c o n (a c o n e)
theorem Gw.same (s : Same H H') : Gw M H H' := fun c o _ e => s c o e
theorem Gw.toSame (s : Gw No H H') : Same H H' := fun c o e => s c o (fun z => z) e
theorem Gw.sb (s : Gw (At J) H H') : Sb J H H' := fun c o n e => s c o n e
theorem Sb.gw (s : Sb J H H') : Gw (At J) H H' := fun c o n e => s c o n e
theorem Gw.new (h : H p = none) : Gw M H (upd H p o) := .same (same_new h)
theorem Gw.newer (g : Gw M H H') (n : H p = none) : Gw M H (upd H' p o) := fun b x m e => by
  rw [upd_ne (ne_of_none e n)]
  exact g b x m e
theorem jug_same (s : Same H H') (j : Jug H J) : Jug H' J := by
  obtain ⟨a, b, c, e⟩ := j
  exact ⟨a, b, c, s _ _ e⟩
theorem jug_keep (j : Jug H J) (n : p ≠ J) : Jug (upd H p o) J := by
  obtain ⟨a, b, c, e⟩ := j
  exact ⟨a, b, c, by rw [upd_ne n.symm]; exact e⟩
theorem jug_none (j : Jug H J) (n : H p = none) : p ≠ J := fun z => by
  obtain ⟨a, b, c, e⟩ := j
  rw [z, e] at n
  cases n
theorem jug_tup (j : Jug H J) (n : H p = some (.tup xs)) : p ≠ J := fun z => by
  obtain ⟨a, b, c, e⟩ := j
  rw [z, e] at n
  cases n
theorem Jg.no : Jg No H := fun _ z => z.elim
theorem Jg.at_ (j : Jug H J) : Jg (At J) H := fun b z => by
  have z : b = J := z
  rw [z]
  exact j
theorem Jg.jug (j : Jg (At J) H) : Jug H J := j J rfl
theorem Jg.same (j : Jg M H) (s : Same H H') : Jg M H' := fun b m => jug_same s (j b m)
theorem Jg.keep (j : Jg M H) (n : ¬ M p) : Jg M (upd H p o) := fun b m => jug_keep (j b m) fun z => n (by rw [z]; exact m)
theorem Jg.free (j : Jg M H) (n : H p = none) : ¬ M p := fun m => jug_none (j p m) n rfl
theorem Jg.new (j : Jg M H) (n : H p = none) : Jg M (upd H p o) := j.keep (j.free n)
theorem Jg.tup (j : Jg M H) (n : H p = some (.tup xs)) : ¬ M p := fun m => jug_tup (j p m) n rfl
theorem Gw.tup (g : Gw M H H') (j : Jg M H) (h : H a = some (.tup xs)) : H' a = some (.tup xs) := g a _ (j.tup h) h
end
/-! all but lists stay -/
def Tk (H H' : Hp) : Prop := ∀ b o, (∀ xs, o ≠ .lst xs) → H b = some o → H' b = some o
theorem Tk.refl (H : Hp) : Tk H H := fun _ _ _ e => e
theorem Tk.trans {H H' H'' : Hp} (a : Tk H H') (b : Tk H' H'') : Tk H H'' := fun c o n e => b c o n (a c o n e)
theorem Gw.tk {M : Addr → Prop} {H H' : Hp} (g : Gw M H H') (j : Jg M H) : Tk H H' := fun b o n e => g b o (fun m => by
  obtain ⟨x, y, z, q⟩ := j b m
  rw [e] at q
  exact n _ (Option.some.inj q)) e
theorem Tk.same {H H' : Hp} (s : Same H H') : Tk H H' := fun b o _ e => s b o e
theorem Tk.lst {H : Hp} {a : Addr} {xs ys : List V} (h : H a = some (.lst xs)) : Tk H (upd H a (.lst ys)) := fun b o n e => by
  rw [upd_ne (fun z => by rw [z, h] at e; exact n _ (Option.some.inj e).symm)]
  exact e
theorem Tk.new {H : Hp} {p : Addr} {o : HO} (h : H p = none) : Tk H (upd H p o) := .same (same_new h)
theorem Tk.tup {H H' : Hp} {a : Addr} {xs : List V} (t : Tk H H') (h : H a = some (.tup xs)) : H' a = some (.tup xs) := t a _ (fun _ z => nomatch z) h
/-! ### two lists, item by item -/
inductive All2 {α β : Type} (R : α → β → Prop) : List α → List β → Prop
  | nil : All2 R [] []
  | cons {x : α} {y : β} {xs : List α} {ys : List β} : R x y → All2 R xs ys → All2 R (x :: xs) (y :: ys)
section
variable {α β : Type} {R S : α → β → Prop} {xs : List α} {ys : List β}
theorem All2.len (h : All2 R xs ys) : xs.length = ys.length := by
  induction h with
  | nil => rfl
  | cons _ _ ih => rw [List.length_cons, List.length_cons, ih]
theorem All2.imp (k : ∀ x y, R x y → S x y) (h : All2 R xs ys) : All2 S xs ys := by
  induction h with
  | nil => exact .nil
  | cons r _ ih => exact .cons (k _ _ r) ih
theorem All2.get (h : All2 R xs ys) : ∀ {i : Nat} {x : α}, xs[i]? = some x → ∃ y, ys[i]? = some y ∧ R x y := by
  induction h with
  | nil => intro i x e; simp at e
  | cons r _ ih =>
    intro i x e
    cases i with
    | zero => simp at e; subst e; exact ⟨_, rfl, r⟩
    | succ i => exact ih (by simpa using e)
theorem All2.get' (h : All2 R xs ys) : ∀ {i : Nat} {y : β}, ys[i]? = some y → ∃ x, xs[i]? = some x ∧ R x y := by
  induction h with
  | nil => intro i x e; simp at e
  | cons r _ ih =>
    intro i x e
    cases i with
    | zero => simp at e; subst e; exact ⟨_, rfl, r⟩
    | succ i => exact ih (by simpa using e)
theorem All2.app {xs' : List α} {ys' : List β} (h : All2 R xs ys) (g : All2 R xs' ys') : All2 R (xs ++ xs') (ys ++ ys') := by
  induction h with
  | nil => exact g
  | cons r _ ih => exact .cons r ih
theorem All2.mem (h : All2 R xs ys) {x : α} (m : x ∈ xs) : ∃ y, y ∈ ys ∧ R x y := by
  obtain ⟨i, hi⟩ := List.mem_iff_getElem?.mp m
  obtain ⟨y, hy, r⟩ := h.get hi
  exact ⟨y, List.mem_of_getElem? hy, r⟩
theorem All2.of_get : ∀ {xs : List α} {ys : List β}, xs.length = ys.length → (∀ (i : Nat) x y, xs[i]? = some x → ys[i]? = some y → R x y) → All2 R xs ys
  | [], [], _, _ => .nil
  | x :: xs, y :: ys, e, h => .cons (h 0 x y rfl rfl) (All2.of_get (by simpa using e) fun i x y hx hy => h (i + 1) x y (by simpa using hx) (by simpa using hy))
  | [], _ :: _, e, _ => nomatch e
  | _ :: _, [], e, _ => nomatch e
theorem All2.map {γ : Type} (f : γ → β) {zs : List γ} (h : ∀ (i : Nat) x z, xs[i]? = some x → zs[i]? = some z → R x (f z)) (e : xs.length = zs.length) : All2 R xs (zs.map f) := by
  refine .of_get (by rw [List.length_map]; exact e) fun i x y hx hy => ?_
  rw [List.getElem?_map] at hy
  cases hz : zs[i]? with
  | none => rw [hz] at hy; cases hy
  | some z =>
    rw [hz] at hy
    cases hy
    exact h i x z hx hz
end
/-! ### tuples of ints, and lists and tuples of them -/
def IsRow (H : Hp) (v : V) (ns : List Int) : Prop := ∃ a, v = .ref a ∧ H a = some (.tup (ns.map V.int))
def IsRows (H : Hp) (v : V) (rs : List (List Int)) : Prop := ∃ a xs, v = .ref a ∧ H a = some (.tup xs) ∧ All2 (IsRow H) xs rs
section
variable {H H' : Hp} {v : V} {ns : List Int} {rs : List (List Int)} {xs : List V}
theorem IsRow.tk (t : Tk H H') (h : IsRow H v ns) : IsRow H' v ns := by
  obtain ⟨a, e, q⟩ := h
  exact ⟨a, e, t.tup q⟩
theorem all_tk (t : Tk H H') (h : All2 (IsRow H) xs rs) : All2 (IsRow H') xs rs := h.imp fun _ _ q => q.tk t
theorem IsRows.tk (t : Tk H H') (h : IsRows H v rs) : IsRows H' v rs := by
  obtain ⟨a, xs, e, q, r⟩ := h
  exact ⟨a, xs, e, t.tup q, all_tk t r⟩
theorem IsRow.new {p : Addr} : IsRow (upd H p (.tup (ns.map V.int))) (.ref p) ns := ⟨p, rfl, upd_same⟩
end
/-! ### comprehensions -/
section
variable {J : It} {n : Nat} {G : Hp → Prop} {Y : Nat → Hp → V → Hp → Prop}
/-- every element by itself: what is known of it stays whatever lists do -/
theorem lc_map {M : Addr → Prop} (w : Walk J n G Y) (hn : n ≤ 5000) {g : TG} {te : TE} {vs : List Nat} {σ : L2.St} {H1 : Hp} {D : Addr} {Qd : Hp → Prop} (hJ : Jg M H1) (nD : H1 D = none) (P : Nat → Hp → V → Prop)
    (hP : ∀ i H H' v, Tk H H' → P i H v → P i H' v) (hG : ∀ H, Gw M H1 H → Jg M H → G H)
    (hs : ∀ i x H H' (K : VK), i < n → Gw M H1 H → Jg M H → Y i H x H' → (∀ y H4, Gw M H H4 → Jg M H4 → P i H4 y → K y H4) →
      g x (wipe σ vs) H' fun σ2 H2 => wipe σ2 vs = wipe σ vs ∧ te σ2 H2 K)
    (hd : ∀ H ys, Gw M H1 H → Jg M H → H D = some (.lst ys) → ys.length = n → (∀ i y, ys[i]? = some y → P i H y) → Qd H) :
    ∃ W : Nat → Nat → Hp → Prop, (∃ m, W 0 m (upd H1 D (.lst []))) ∧ ∀ i m H, W i m H →
      (J.stop i H ∧ Qd H) ∨ (J.go i H ∧ ∃ Nx : Hp → Prop, (∀ H', Nx H' → ∃ m', m' < m ∧ W (i + 1) m' H') ∧ ∀ x H', J.yld i H x H' → g x (wipe σ vs) H' fun σ2 H2 => wipe σ2 vs = wipe σ vs ∧ tYes σ2 H2 fun b H3 =>
        if b = true then te σ2 H3 fun y H4 => ∃ acc, H4 D = some (.lst acc) ∧ acc.length < sizeLine ∧ Nx (upd H4 D (.lst (acc ++ [y]))) else Nx H3) := by
  have nM : ¬ M D := hJ.free nD
  refine lc_it w (fun i H => Gw M H1 H ∧ Jg M H ∧ ∃ ys, H D = some (.lst ys) ∧ ys.length = i ∧ ∀ j y, ys[j]? = some y → P j H y)
    ⟨Gw.new nD, hJ.new nD, [], upd_same, rfl, fun j y e => by simp at e⟩ (fun i H _ h => hG H h.1 h.2.1) (fun i x H H' hi h y => ?_) (fun H h => ?_)
  · obtain ⟨g1, j1, ys, eD, hl, hp⟩ := h
    refine hs i x H H' (fun y H4 => ∃ acc, H4 D = some (.lst acc) ∧ acc.length < sizeLine ∧ (fun H => Gw M H1 H ∧ Jg M H ∧ ∃ ys, H D = some (.lst ys) ∧ ys.length = i + 1 ∧ ∀ j y, ys[j]? = some y → P j H y) (upd H4 D (.lst (acc ++ [y])))) hi g1 j1 y fun y2 H4 g4 j4 p4 => ?_
    have e4 : H4 D = some (.lst ys) := g4 D _ nM eD
    have t4 : Tk H H4 := g4.tk j1
    refine ⟨ys, e4, small60 (by omega), ?_, ?_, ys ++ [y2], upd_same, by rw [List.length_append, hl]; rfl, fun k z hz => ?_⟩
    · exact (g1.trans g4).newer nD
    · exact j4.keep nM
    · by_cases hk : k < ys.length
      · rw [List.getElem?_append_left hk] at hz
        exact hP _ _ _ _ (t4.trans (Tk.lst e4)) (hp k z hz)
      · rw [List.getElem?_append_right (by omega)] at hz
        have e0 : k - ys.length = 0 := by
          cases hq : k - ys.length with
          | zero => rfl
          | succ m => rw [hq] at hz; simp at hz
        rw [e0] at hz
        have ek : k = i := by omega
        have ez : z = y2 := by simpa using hz.symm
        rw [ek, ez]
        exact hP _ _ _ _ (Tk.lst e4) p4
  · obtain ⟨g1, j1, ys, eD, hl, hp⟩ := h
    exact hd H ys g1 j1 eD hl hp
end
end Ow

set_option Elab.async false
set_option linter.all false
set_option maxRecDepth 100000
set_option maxHeartbeats 4000000
namespace PySem
open Sem (wp)
open AutoSeq1 (wpAny_loadPart')
/-! enumerate of a tuple, made -/
theorem ow_enum_newT (l : Addr) (items : Array Value) (n : Nat) (dct : Option Addr) (sl : Array (Option Value)) :
    Meets (Builtin.«enumerate.__new__» ⟨[.type "enumerate", .ref l], []⟩) (fun _ R s => s.heap.get? l = some { cls := .type "tuple", dict := dct, data := .seq items n, slots := sl } ∧
      R (.ok (.ret (.ref (s.heap.push { cls := .type "tuple_iterator", data := .fields #[.ref l, .int 0 0] }).objs.size)))
        { s with heap := (s.heap.push { cls := .type "tuple_iterator", data := .fields #[.ref l, .int 0 0] }).push { cls := .type "enumerate", data := .fields #[.none, .bool false, .ref s.heap.objs.size, rawInt 0, .none, .none] } }) :=
  .of_wp fun prog w A R s h => by
    obtain ⟨hp, g, d, tk, os⟩ := s
    obtain ⟨hl, h⟩ := h
    have hsub := sub_enumerate
    have hT : Heap.IsTuple (Shared.heap ⟨hp, g, d, tk, os⟩) l items := ⟨_, hl, rfl, n, rfl⟩
    wp_walk using wpAny_loadPart' hl
    refine wpAny_stack_any fun st => wpAny_pure ?_
    split
    · rename_i c _ _ _ _ _
      cases (c == Value.type "enumerate")
      · wp_walk using wpAny_loadPart' hl, wpAny_pyIter_tuple hT
        exact ⟨_, rfl, h⟩
      · wp_walk using wpAny_loadPart' hl, wpAny_pyIter_tuple hT
        exact ⟨_, rfl, h⟩
    · wp_walk using wpAny_loadPart' hl, wpAny_pyIter_tuple hT
      exact ⟨_, rfl, h⟩
section
variable {prog : Program} {w : World} {A : Around} {E : Value → Shared → Prop} {s : Shared}
theorem ow_call_enumT {l : Addr} {items : Array Value} {Q : Value → Shared → Prop} (hL : s.heap.IsTuple l items)
    (h : ∀ h', IsEnum h' (s.heap.objs.size + 1) s.heap.objs.size 0 .none → h'.IsTupleIter s.heap.objs.size l 0 → (∀ b o, s.heap.get? b = some o → h'.get? b = some o) → Q (.ref (s.heap.objs.size + 1)) { s with heap := h' }) :
    wpAny (model prog w) A (call (.type "enumerate") [.ref l]) Q E s := by
  obtain ⟨⟨c, dct, dt, sl⟩, hl, hc, n, hd⟩ := hL
  have hc1 : c = .type "tuple" := hc
  have hd1 : dt = .seq items n := hd
  subst hc1 hd1
  refine callType_new F.called_enumerate (by decide) (F.typeCall_enumerate_1 _) (F.newCall_enumerate_1 _) (fun obj => F.args_object_init_2 obj _) F.entry_enumerate_new (ow_enum_newT l items n dct sl) ⟨hl, ?_⟩
  have hz : (s.heap.push { cls := .type "tuple_iterator", data := .fields #[.ref l, .int 0 0] }).objs.size = s.heap.objs.size + 1 := Heap.size_push ..
  show _ ∧ _
  rw [hz]
  have he : IsEnum ((s.heap.push { cls := .type "tuple_iterator", data := .fields #[.ref l, .int 0 0] }).push { cls := .type "enumerate", data := .fields #[.none, .bool false, .ref s.heap.objs.size, rawInt 0, .none, .none] }) (s.heap.objs.size + 1) s.heap.objs.size 0 .none := by
    have e := Heap.get?_push_size (s.heap.push { cls := .type "tuple_iterator", data := .fields #[.ref l, .int 0 0] }) (o := { cls := .type "enumerate", data := .fields #[.none, .bool false, .ref s.heap.objs.size, rawInt 0, .none, .none] }) rfl
    rw [hz] at e
    exact e
  exact ⟨⟨_, he, rfl⟩, h _ he ⟨_, Heap.get?_push_of_some _ (Heap.get?_push_size _ rfl), rfl, rfl⟩ fun b o x => Heap.get?_push_of_some _ (Heap.get?_push_of_some _ x)⟩
end
end PySem
namespace Ow
open PySem PySem.Spec PyProof.Rows L2
/-! a walk over enumerate(tuple) -/
def IteT (K : PySem.W.Frag) (a : Addr) : It :=
  ⟨fun i H => ∃ (xs : List V) (x : V), SqT K H a xs ∧ xs[i]? = some x, fun i H v H' => ∃ T x, v = .ref T ∧ H T = none ∧ H' = upd H T (.tup [.int (i : Nat), x]) ∧ ∀ xs, SqT K H a xs → xs[i]? = some x, fun i H => ∃ xs : List V, SqT K H a xs ∧ xs.length ≤ i⟩
theorem isTuple_of {h : Heap} {a : Addr} {its : Array Value} (t : IsTup h a its) : h.IsTuple a its := t
theorem turn_enumT {P : Program} {w : World} {K : PySem.W.Frag} {elts : List Expr} {kk : Nat} {tpos : Pos} (a e it : Addr) :
    Turn P w K (.Tuple elts kk tpos) (IteT K a) [e, it] e (fun i h => (∃ old, IsEnum h e it ((i : Nat) : Int) old) ∧ h.IsTupleIter it a i ∧ e ≠ it) where
  mem := by simp
  obj := fun i h st b hb => by
    obtain ⟨⟨old, he⟩, ⟨o, ho, hc, hd⟩, _⟩ := st
    rcases (show b = e ∨ b = it by simpa using hb) with z | z
    · rw [z]
      exact ⟨_, he, fun v q => (nomatch q)⟩
    · rw [z]
      exact ⟨o, ho, fun v q => by rw [hd] at q; cases q⟩
  keep := fun i h h' st k => let ⟨⟨old, he⟩, hi, hne⟩ := st; ⟨⟨old, k e (by simp) _ he⟩, hi.at fun o q => k it (by simp) o q, hne⟩
  item := by
    intro X hP hw hK hc i pins s σ H E I hf st hg
    subst hP hw hK
    obtain ⟨⟨old, he⟩, hit, hne⟩ := st
    obtain ⟨xs, x, hq, hx⟩ := hg
    obtain ⟨its, rv, p, hz⟩ := I.tuple hq
    obtain ⟨u, hu, ru⟩ := rv.get hx
    have hel : e < s.heap.objs.size := Heap.lt_size he
    have hil : it < s.heap.objs.size := by obtain ⟨_, q, _⟩ := hit; exact Heap.lt_size q
    have hai : a ≠ it := fun z => by
      obtain ⟨o1, h1, c1, _⟩ := p
      obtain ⟨o2, h2, c2, _⟩ := hit
      rw [z, h2] at h1
      cases h1
      rw [c1] at c2
      exact absurd c2 (by decide)
    have hae : e ≠ a := fun z => by
      obtain ⟨o1, h1, c1, _⟩ := p
      rw [← z, he] at h1
      cases h1
      have c3 : Value.type "enumerate" = Value.type "tuple" := c1
      exact absurd c3 (by decide)
    have hif : i < its.toArray.size := by
      have h1 := (List.getElem?_eq_some_iff.mp hu).1
      rw [List.size_toArray]
      exact h1
    refine wpAny_pyNext_enum_itemD (Draws.tuple (A := X.A.in1) (show X.A.in1.handled = none from I.ok.hd hc) it a hai its.toArray) he ⟨hit, p⟩ hif hne (by simp [hne, hae]) fun y h' tk hy ho hst hT hsz hk => ?_
    have ey : y = u := by
      have : its.toArray[i]? = some u := by simpa using hu
      rw [this] at hy
      exact (Option.some.inj hy).symm
    subst ey
    refine ⟨_, rfl, wpAny_letOwnedTupleGo_enum (s := { s with heap := h', toks := tk + 1 }) ho fun h'' he' sb => ?_⟩
    have hT2 : h''.get? s.heap.objs.size = some { cls := .type "tuple", data := .seq #[.int i tk, y] } := (sb.2 _ (Nat.ne_of_gt hel)).trans hT
    have new : ObjOk X.prog X.w (upd H s.heap.objs.size (.tup [.int (i : Nat), x])) h'' s.heap.objs.size (.tup [.int (i : Nat), x]) :=
      ⟨by show 2 ≤ sizeLine; decide, [.int i tk, y], .cons ⟨_, rfl⟩ (.cons ru .nil), ⟨_, hT2, rfl, _, rfl⟩⟩
    have I1 : Inv X pins σ (upd H s.heap.objs.size (.tup [.int (i : Nat), x])) { s with heap := h'', toks := tk + 1 } :=
      I.turnedNew (ch := [e, it]) (fun b ob hb q => (sb.2 b (fun z => hb (by simp [z]))).trans (hk b ob (fun z => hb (by simp [z])) (fun z => hb (by simp [z])) q)) hf (Nat.le_refl _) new
    refine ⟨.ref s.heap.objs.size, _, I1, rfl, ⟨_, x, rfl, I.hok.fresh (Nat.le_refl _), rfl, fun ys hy => by rw [I.tuple_inj hy hq]; exact hx⟩, ⟨⟨y, ?_⟩, hst.1.at fun o q => (sb.2 it (Ne.symm hne)).trans q, hne⟩, fun b hb => ?_⟩
    · rw [show ((i + 1 : Nat) : Int) = (i : Int) + 1 by omega]
      exact he'
    · have hb' : b < s.heap.objs.size := by
        rcases (show b = e ∨ b = it by simpa using hb) with z | z
        · rw [z]; exact hel
        · rw [z]; exact hil
      rw [upd_ne (Nat.ne_of_lt hb')]
      exact (hf b hb).1
  done := by
    intro X hP hw hK hc i pins s σ H E I hf st hg
    subst hP hw hK
    obtain ⟨⟨old, he⟩, hit, hne⟩ := st
    obtain ⟨xs, hq, hx⟩ := hg
    obtain ⟨its, rv, p, hz⟩ := I.tuple hq
    have hai : a ≠ it := fun z => by
      obtain ⟨o1, h1, c1, _⟩ := p
      obtain ⟨o2, h2, c2, _⟩ := hit
      rw [z, h2] at h1
      cases h1
      rw [c1] at c2
      exact absurd c2 (by decide)
    obtain ⟨f0, f1, f2, f3, f4, f5⟩ := hf it (by simp)
    have hl := rv.length
    have D2 : Draws X.prog X.w X.A.in1 it [it, a] i (fun j v => its.toArray[j]? = some v) (fun j h => j = i ∧ h.IsTupleIter it a i ∧ h.IsTuple a its.toArray) :=
      ⟨fun _ _ st => let ⟨o, ho, _⟩ := st.2.1; ⟨o, ho⟩, fun _ _ _ st hk => ⟨st.1, st.2.1.at fun o e => hk it (by simp) o e, st.2.2.at fun o e => hk a (by simp) o e⟩,
        fun j s Q E hj st hQ => absurd st.1 (by omega), fun s Q E st hE => by
        refine wpAny_nextOf_tuple_end (A := X.A.in1) (show X.A.in1.handled = none from I.ok.hd hc) st.2.1 st.2.2 ?_ hE
        rw [List.getElem?_toArray]
        exact List.getElem?_eq_none (by omega)⟩
    exact wpAny_pyNext_enum_endD D2 he ⟨rfl, hit, p⟩ fun h' eb => ⟨rfl, I.turned (t' := s.toks) (fun b o hb q => eb b o hb q) f0 f1 f3 f4 f5⟩
  self := fun A i s Q E st h => let ⟨⟨_, he⟩, _⟩ := st; wpAny_pyIter_enum he h
def iEnumT (K : PySem.W.Frag) (ta : TA) : TI := fun σ H R => ta σ H fun vs H1 => ∃ a xs, vs = [.ref a] ∧ SqT K H1 a xs ∧ R (IteT K a) H1
/-- for i, x in enumerate(t), t a tuple -/
theorem pi_enumT {X : Cx} {e : Expr} {ta : TA} {p pos tpos : Pos} {elts : List Expr} {kk : Nat} (hg : Gl X "enumerate") (hm : X.mg "enumerate" = none) (ha : PA X [e] ta) (hs : starEach [e] X.env = [(false, eval e X.env)] := by rfl) :
    PI X (.Tuple elts kk tpos) (.Call (.Name "enumerate" p) [e] [] pos) (iEnumT X.K ta) := by
  refine ⟨fun pins s σ H R I h => ?_⟩
  refine Call_ (ld_blt I hg hm boot_enumerate (PyProof.Rows.callWith_type1 (thn (ha.run pos pins s σ H _ I h) fun us s1 ⟨vs, H1, I1, r1, q1⟩ => ?_) hs rfl))
  obtain ⟨a, xs, ex, hq, q⟩ := q1
  subst ex
  cases r1 with
  | cons r rr =>
    cases rr
    cases r
    obtain ⟨its, rv, p', hz⟩ := I1.tuple hq
    refine ow_call_enumT (isTuple_of p') fun h' he hit hk => wpAny_pyIter_enum he ?_
    have I2 : Inv X pins σ H1 { s1 with heap := h' } := I1.kept (t' := s1.toks) hk
    refine ⟨s1.heap.objs.size + 1, [s1.heap.objs.size + 1, s1.heap.objs.size], _, _, H1, rfl, I2, turn_enumT a (s1.heap.objs.size + 1) s1.heap.objs.size, ⟨⟨.none, he⟩, hit, Nat.succ_ne_self _⟩, fun b hb => ?_, q⟩
    have hle : s1.heap.objs.size ≤ b := by
      rcases (show b = s1.heap.objs.size + 1 ∨ b = s1.heap.objs.size by simpa using hb) with z | z
      · rw [z]
        exact Nat.le_add_right _ _
      · rw [z]
        exact Nat.le_refl _
    exact I1.fpOk hle (I1.hok.fresh hle)
theorem walk_enumT {K : PySem.W.Frag} {a : Addr} {xs : List V} : Walk (IteT K a) xs.length (fun H => SqT K H a xs) (YPair (fun i => some (.int (i : Nat))) (fun i => xs[i]?)) where
  goes := fun i H hi h => ⟨xs, xs[i], h, List.getElem?_eq_getElem hi⟩
  stops := fun H h => ⟨xs, h, Nat.le_refl _⟩
  yields := fun i H x H' hi h y => by
    obtain ⟨T, z, rfl, n, rfl, q⟩ := y
    exact ⟨T, _, z, rfl, n, rfl, rfl, q xs h⟩
end Ow

set_option Elab.async false
set_option linter.all false
set_option maxRecDepth 100000
set_option maxHeartbeats 4000000
namespace Ow
open PySem PySem.Spec PyProof.Rows L2
section
variable {X : Cx} {CX : CXT} {k : Nat} {f C : Addr} {fd : FuncData} {ps : List Str} {sp : Sp} {E : XK}
/-- a def called from around A, whose frames are those of the body -/
theorem run_at {A : Around} (hfr : A.frames = X.A.frames) {pins : List (Addr × Obj)} {σ : L2.St} {H : Hp} {s : Shared} {Q : VK} {us : List Value} {vs : List V} (F : FnOk X.prog X.w X.K X.mg X.base CX k f fd ps sp) (hr : Room k A) (hb : Binds X.K fd ps []) (hx : Passes CX X E)
    (I : Inv X pins σ H s) (r : Vals vs us) (h : sp vs H Q E) : wpAny (model X.prog X.w) A (call (.ref f) us) (EP X pins σ Q) X.xe s := by
  have hl : us.length = ps.length := by rw [← r.length]; exact F.len _ _ _ _ h
  have b := hb s us I.kIn (by rw [List.append_nil]; exact hl)
  rw [List.append_nil] at b
  have e0 : Env0 X.prog X.w X.K X.mg X.base A X.stack s H := by
    have e := I.env0
    exact ⟨hfr.trans e.frames, e.mod, e.bs, e.bsz, e.funs, e.frf, e.hok, e.bare⟩
  refine wpAny_call (codeAny_mono (F.run A X.stack s H ⟨us, []⟩ us vs Q E hr e0 b r h) fun o s' hq => ?_)
  cases o with
  | error e => exact hx pins σ H s e s' I hq
  | ok fl =>
    cases fl with
    | ret u => exact I.after hq
    | next => exact False.elim hq
    | brk => exact False.elim hq
    | cont => exact False.elim hq
/-- o[i], o of an own class with its own [] -/
def tIxO (C : Addr) (sp : Sp) (E : XK) (to ti : TE) : TE := fun σ H Q => to σ H fun x H1 => ti σ H1 fun y H2 => ∃ a dx fs, x = .ref a ∧ H2 a = some (.ins C dx fs) ∧ sp [.ref a, y] H2 Q E
theorem pe_ixO {o i : Expr} {pos : Pos} {to ti : TE} (ho : PE X o to) (hi : PE X i ti) (hn : PySem.W.noSeq X.K C = true) (hm : Meth X.K C "__getitem__" f) (hfn : PySem.W.fnIn X.K f = true) (F : FnOk X.prog X.w X.K X.mg X.base CX k f fd ps sp)
    (hr : Room (k + 1) X.A) (hb : Binds X.K fd ps []) (hx : Passes CX X E) (hs : ∀ a v, subscripted i true (.ref a) v = runValue (.builtin "lifetime.subscript" ⟨[.ref a, v], []⟩) := by intro _ _; with_unfolding_all rfl) :
    PE X (.Subscript o i pos) (tIxO C sp E to ti) := by
  refine ⟨fun pins s σ H Q I h => ?_⟩
  refine Subscript_ (binT ho hi I h fun v u s2 x y H2 I2 rx ry q => ?_)
  obtain ⟨a, dx, fs, rfl, ha, q⟩ := q
  cases rx
  obtain ⟨mA, J, _⟩ := ins_get I2.hok ha
  obtain ⟨od, J, _⟩ := J.look
  obtain ⟨m, hF⟩ := I2.fr
  refine PySem.W.sub_K hF I2.ok.mod.kin J hm.at_ hfn hm.fn ?_ (hs a u)
  have rr : Vals [V.ref a, y] [Value.ref a, u] := .cons rfl (.cons ry .nil)
  exact run_at (A := X.A.in1) rfl F hr.in1 hb hx I2 rr q
end
/-! ### a tuple times one is itself -/
theorem tuple_mulO (l : Addr) (items : Array Value) (n : Nat) (dd : Option Addr) (sl : Array (Option Value)) (u : Tok) :
    Meets (Builtin.«tuple.__mul__» ⟨[.ref l, .int 1 u], []⟩) (fun _ R s => s.heap.get? l = some { cls := .type "tuple", dict := dd, data := .seq items n, slots := sl } ∧ R (.ok (.ret (Value.ref l))) s) :=
  .of_wp fun prog w A R s h => by
    obtain ⟨hp, g, d, tk, os⟩ := s
    obtain ⟨hl, h⟩ := h
    have f1 := AutoSeq1.idx_int
    wp_walk using wpAny_loadPart' hl
    repeat (first
      | (refine wpAny_ite_true (decide_eq_true (by simp)) ?_; wp_walk using wpAny_loadPart' hl)
      | (refine wpAny_ite_false (decide_eq_false (by simp)) ?_; wp_walk using wpAny_loadPart' hl))
    all_goals exact ⟨_, rfl, h⟩

def rRepA (K : PySem.W.Frag) : R2 := fun x y H Q => ∃ l k xs, x = .ref l ∧ y = .int k ∧ SqT K H l xs ∧ xs ≠ [] ∧ 1 ≤ k ∧ k ≤ 1000 ∧ xs.length ≤ 1000 ∧ (k = 1 → Q (.ref l) H) ∧
  (2 ≤ k → ∀ p, H p = none → Q (.ref p) (upd H p (.tup (List.replicate k.toNat xs).flatten)))
section
variable {X : Cx}
theorem op_repA : OpR X (binaryOp .Mult) (rRepA X.K) := by
  intro pins s σ H x y v u Q I rx ry h
  obtain ⟨l, k, xs, rfl, rfl, hT, hne, h1, h2, hz, q1, q2⟩ := h
  by_cases hk : 2 ≤ k
  · exact op_repT pins s σ H _ _ v u Q I rx ry ⟨l, k, xs, rfl, rfl, hT, hne, hk, h2, hz, q2 hk⟩
  have ek : k = 1 := by omega
  subst ek
  cases rx
  obtain ⟨t, rfl⟩ := ry
  obtain ⟨its, r, ⟨⟨cls, dd, data, sl⟩, ho, hc, n, hd⟩, hs⟩ := I.tuple hT
  have hc1 : cls = .type "tuple" := hc
  have hd1 : data = .seq its.toArray n := hd
  subst hc1 hd1
  refine wpAny_binaryOp_repeat_ref (T := "tuple") (U := "int") (by decide) ⟨_, ho, rfl⟩ (fun s' => typeIs_int s' 1 t) noFill_tuple_mul F.fills_int_mul F.slot_int_rmul repeat_tuple F.slot_int_index.lookup
    (call_meets F.slot_int_rmul (typeIs_int s 1 t) F.entry_int_rmul (F.args_int_rmul_2 _ _) (int_rmul_tuple 1 t l its.toArray n dd sl)
      ⟨ho, rfl, ⟨_, ho, rfl⟩, call_meets F.slot_tuple_mul ⟨_, ho, rfl⟩ F.entry_tuple_mul (F.args_tuple_mul_2 _ _) (tuple_mulO l its.toArray n dd sl t) ⟨ho, ?_⟩⟩)
  exact ⟨.ref l, H, I, rfl, q1 rfl⟩
end
/-! ### every second item of a tuple -/
theorem step_adjust (n : Nat) : Builtin.Slice.sliceAdjust none none 2 (n : Int) = (0, (n : Int)) := by
  unfold Builtin.Slice.sliceAdjust
  simp
theorem step_places (n : Nat) : Builtin.Slice.slicePlaces 0 (n : Int) 2 = (n + 1) / 2 := by
  unfold Builtin.Slice.slicePlaces
  rw [if_pos (by decide)]
  by_cases h : (0 : Int) < (n : Int)
  · first | rw [if_pos h] | rw [if_pos (show (n : Int) > 0 from h)] | skip
    omega
  · first | rw [if_neg h] | skip
    omega
section
variable {prog : Program} {w : World} {A : Around} {E : Value → Shared → Prop} {s : Shared}
theorem step_applied {sl : Addr} {vs : Value} {n : Nat} {Q : Int × Int × Nat → Shared → Prop} (hs : s.heap.IsSliceOf sl .none .none vs) (p : IsPart vs (some 2)) (h : Q (0, 2, (n + 1) / 2) s) :
    wpAny (model prog w) A (Builtin.Slice.sliceApplied (.ref sl) (pure (n : Int))) Q E s := by
  obtain ⟨os, hos, hcs, hds⟩ := id hs
  unfold Builtin.Slice.sliceApplied Builtin.Slice.sliceFields
  refine wpAny_bind (wpAny_bind (wpAny_field hos hds (x := .none) rfl ?_))
  refine wpAny_bind (wpAny_field hos hds (x := .none) rfl ?_)
  refine wpAny_bind (wpAny_field hos hds (x := vs) rfl (wpAny_pure ?_))
  refine wpAny_bind (HT.slicePart_ p ?_)
  show wpAny _ _ (if ((2 : Int) == 0) = true then _ else _) _ _ s
  rw [if_neg (by decide)]
  refine wpAny_bind (slicePart_none (wpAny_bind (slicePart_none (wpAny_bind (wpAny_pure ?_)))))
  show wpAny _ _ (match Builtin.Slice.sliceAdjust none none 2 (n : Int) with
    | (lo, hi) => pure (lo, (2 : Int), Builtin.Slice.slicePlaces lo hi 2)) _ _ s
  rw [step_adjust]
  show wpAny _ _ (pure ((0 : Int), (2 : Int), Builtin.Slice.slicePlaces 0 (n : Int) 2)) _ _ s
  rw [step_places]
  exact wpAny_pure h
theorem step_item {t sl : Addr} {items : Array Value} {vs : Value} {Q : Value → Shared → Prop} (ht : IsTup s.heap t items) (hs : s.heap.IsSliceOf sl .none .none vs) (p : IsPart vs (some 2)) (hsz : items.size ≤ sizeLine)
    (h : Q (.ref s.heap.objs.size) { s with heap := s.heap.push { cls := .type "tuple", data := .seq ((List.range ((items.size + 1) / 2)).filterMap fun (k : Nat) => items[((0 : Int) + (k : Int) * 2).toNat]?).toArray } }) :
    wpAny (model prog w) A (getItem (.ref t) (.ref sl)) Q E s := by
  have hz : sizeOk (.seq ((List.range ((items.size + 1) / 2)).filterMap fun (k : Nat) => items[((0 : Int) + (k : Int) * 2).toNat]?).toArray) := by
    show Array.size _ ≤ sizeLine
    rw [List.size_toArray]
    refine Nat.le_trans (List.length_filterMap_le _ _) ?_
    rw [List.length_range]
    have : (items.size + 1) / 2 ≤ items.size := by omega
    omega
  obtain ⟨os, hos, hcs, hds⟩ := id hs
  have isS : s.TypeIs (.ref sl) "slice" := ⟨os, hos, hcs⟩
  unfold getItem
  try with_reducible refine wpAny_holding ?_
  first | refine wpAny_bind (wpAny_pure ?_) | skip
  refine wpAny_bind (wpAny_sequenceKey ht.typeIs (by decide) ?_)
  refine wpAny_bind (wpAny_callSpecial?_slot (name := Str.ofString "__getitem__") ht.typeIs PyProof.Rows.slot_tuple_getitem (wpAny_call_entry PyProof.Rows.slot_tuple_getitem ht.typeIs entry_tuple_getitem ?_ (args_tuple_getitem _ _)))
  show wpAny _ _ (Builtin.Tuple.tupleItemsOf (.ref t) >>= _) _ _ s
  refine wpAny_bind (tupleItemsOf_ ht ?_)
  refine wpAny_bind (wpAny_typeOf isS ?_)
  rw [if_pos (by decide)]
  refine wpAny_bind (step_applied hs p ?_)
  have no : ¬ (((0 : Int) == 0 && (2 : Int) == 1 && (items.size + 1) / 2 == items.size) = true) := by
    intro q
    rw [Bool.and_eq_true, Bool.and_eq_true] at q
    exact absurd q.1.2 (by decide)
  show wpAny _ _ (if ((0 : Int) == 0 && (2 : Int) == 1 && (items.size + 1) / 2 == items.size) = true then _ else _) _ _ s
  rw [if_neg no]
  first
    | exact wpAny_bind (m := Builtin.Tuple.tupleExact _) (wpAny_newObj_type (wpAny_pure ⟨_, rfl, wpAny_pure h⟩) hz)
    | exact wpAny_bind (m := Builtin.Tuple.tupleExact _) (wpAny_newObj_type (wpAny_bind (wpAny_pure (wpAny_pure ⟨_, rfl, wpAny_pure h⟩))) hz)
    | exact wpAny_bind (wpAny_bind (m := Builtin.Tuple.tupleExact _) (wpAny_newObj_type (wpAny_pure (wpAny_pure ⟨_, rfl, wpAny_pure h⟩)) hz))
    | exact wpAny_bind (wpAny_bind (m := Builtin.Tuple.tupleExact _) (wpAny_newObj_type (wpAny_pure ⟨_, rfl, wpAny_pure h⟩) hz))
end
def tStep2 (K : PySem.W.Frag) (te : TE) : TE := fun σ H Q => te σ H fun x H1 => ∃ a xs, x = .ref a ∧ SqT K H1 a xs ∧
  ∀ p zs, H1 p = none → (∀ z ∈ zs, z ∈ xs) → zs.length = (xs.length + 1) / 2 → Q (.ref p) (upd H1 p (.tup zs))
section
variable {X : Cx}
theorem pick_len {α : Type} (xs : List α) : ∀ l : List Nat, (∀ m ∈ l, m < xs.length) → (l.filterMap fun m => xs[m]?).length = l.length
  | [], _ => rfl
  | m :: l, h => by
    have hm := h m List.mem_cons_self
    rw [List.filterMap_cons, List.getElem?_eq_getElem hm]
    simp only [List.length_cons]
    rw [pick_len xs l fun k hk => h k (List.mem_cons_of_mem _ hk)]
theorem pe_step2 {e : Expr} {te : TE} {k : Nat} {p1 p3 pos : Pos} (he : PE X e te) : PE X (.Subscript e (.Slice none none (some (.Constant (.int 2) k p1)) p3) pos) (tStep2 X.K te) := by
  refine ⟨fun pins s σ H Q I h => ?_⟩
  refine Subscript_ (thn (he.run pins s σ H _ I h) fun v s1 hv => ?_)
  obtain ⟨x, H1, I1, r1, a, xs, ex, hx, q⟩ := hv
  subst ex
  cases r1
  have hst : PO X (some (.Constant (.int 2) k p1)) (tPart (tC (.int 2))) := po_some pe_int
  refine wpAny_Slice (thn (po_none.run pins s1 σ H1 (fun o H2 => o = none ∧ H2 = H1) I1 ⟨rfl, rfl⟩) fun vl s2 hl => ?_)
  obtain ⟨l, H2, I2, pl, el, e2⟩ := hl
  subst el e2
  refine thn (po_none.run pins s2 σ H2 (fun o H3 => o = none ∧ H3 = H2) I2 ⟨rfl, rfl⟩) fun vu s3 hl => ?_
  obtain ⟨u, H3, I3, pu, eu, e3⟩ := hl
  subst eu e3
  refine thn (hst.run pins s3 σ H3 (fun o H4 => o = some 2 ∧ H4 = H3) I3 ⟨2, rfl, rfl, rfl⟩) fun vs s4 hl => ?_
  obtain ⟨o, H4, I4, ps, eo, e4⟩ := hl
  subst eo e4
  cases pl
  cases pu
  have I5 : Inv X pins σ H4 { s4 with heap := s4.heap.push { cls := .type "slice", data := .fields #[.none, .none, vs] } } := I4.kept (t' := s4.toks) fun b ob q => Heap.get?_push_of_some _ q
  obtain ⟨its, r, ht, hz⟩ := I5.tuple hx
  have hlen := r.length
  refine tail_any (ops := [.ref a, .ref s4.heap.objs.size]) ht.typeIs (PyProof.Rows.slot_tuple_getitem.lookup) ?_ (by with_unfolding_all rfl)
  refine step_item ht (Heap.IsSliceOf.new _ .none .none vs) ps (by rw [List.size_toArray]; omega) ?_
  have hsz : its.toArray.size = xs.length := by rw [List.size_toArray]; exact hlen.symm
  rw [hsz]
  let f : Nat → Nat := fun k => ((0 : Int) + (k : Int) * 2).toNat
  have hv := vals_pick r f (List.range ((xs.length + 1) / 2))
  have le : ((List.range ((xs.length + 1) / 2)).filterMap fun m => xs[f m]?).length = (xs.length + 1) / 2 := by
    have e := pick_len xs ((List.range ((xs.length + 1) / 2)).map f) (fun m hm => by
      obtain ⟨j, hj, rfl⟩ := List.mem_map.mp hm
      have := List.mem_range.mp hj
      show ((0 : Int) + (j : Int) * 2).toNat < _
      omega)
    rw [List.filterMap_map, List.length_map, List.length_range] at e
    exact e
  refine ⟨.ref _, _, I5.laid (t' := s4.toks) (o := .tup ((List.range ((xs.length + 1) / 2)).filterMap fun m => xs[f m]?)) (fun b ob q => Heap.get?_push_of_some _ q) (Nat.le_refl _) ?_, rfl,
    q _ _ (I5.hok.fresh (Nat.le_refl _)) (fun z hz => ?_) le⟩
  · refine ⟨by rw [le]; omega, (List.range ((xs.length + 1) / 2)).filterMap fun m => its[f m]?, hv, ?_⟩
    have e : (List.filterMap (fun (k : Nat) => its.toArray[((0 : Int) + (k : Int) * 2).toNat]?) (List.range ((xs.length + 1) / 2))) = ((List.range ((xs.length + 1) / 2)).filterMap fun m => its[f m]?) := by
      congr 1
      funext m
      simp [f]
    rw [e]
    exact IsTup.new _ _
  · obtain ⟨m, _, hm⟩ := List.mem_filterMap.mp hz
    exact List.mem_of_getElem? hm
end
end Ow

set_option Elab.async false
set_option linter.all false
set_option maxRecDepth 100000
set_option maxHeartbeats 4000000
namespace Ow
open PySem PySem.Spec PyProof.Rows
open Sem (wp)
/-! ### a list or a tuple, walked -/
inductive SqK | lst | tup
def SqK.Is : SqK → Heap → Addr → Array Value → Prop
  | .lst, h, l, xs => h.IsList l xs
  | .tup, h, l, xs => h.IsTuple l xs
def SqK.It : SqK → Heap → Addr → Addr → Nat → Prop
  | .lst, h, it, l, i => h.IsListIter it l i
  | .tup, h, it, l, i => h.IsTupleIter it l i
def SqK.ob : SqK → Addr → Obj
  | .lst, l => { cls := .type "list_iterator", data := .fields #[.ref l, .int 0 0] }
  | .tup, l => { cls := .type "tuple_iterator", data := .fields #[.ref l, .int 0 0] }
section
variable {prog : Program} {w : World} {A : Around} {E : Value → Shared → Prop} {s : Shared} {k k1 k2 : SqK}
theorem SqK.Is.keep {h h' : Heap} {l : Addr} {xs : Array Value} (x : k.Is h l xs) (e : ∀ o, h.get? l = some o → h'.get? l = some o) : k.Is h' l xs := by
  cases k with
  | lst => exact Heap.IsList.at x e
  | tup => exact Heap.IsTuple.at x e
theorem SqK.It.keep {h h' : Heap} {it l : Addr} {i : Nat} (x : k.It h it l i) (e : ∀ o, h.get? it = some o → h'.get? it = some o) : k.It h' it l i := by
  cases k with
  | lst => exact Heap.IsListIter.at x e
  | tup => exact Heap.IsTupleIter.at x e
theorem SqK.Is.lt {h : Heap} {l : Addr} {xs : Array Value} (x : k.Is h l xs) : l < h.objs.size := by
  cases k with
  | lst => obtain ⟨o, e, _⟩ := x; exact Heap.lt_size e
  | tup => obtain ⟨o, e, _⟩ := x; exact Heap.lt_size e
theorem SqK.iter {l : Addr} {xs : Array Value} (x : k.Is s.heap l xs) {Q : Value → Shared → Prop} (h : Q (.ref s.heap.objs.size) { s with heap := s.heap.push (k.ob l) }) : wpAny (model prog w) A (pyIter (.ref l)) Q E s := by
  cases k with
  | lst => exact wpAny_pyIter_list x h
  | tup => exact wpAny_pyIter_tuple x h
theorem SqK.start {h : Heap} {l it : Addr} (e : h.get? it = some (k.ob l)) : k.It h it l 0 := by
  cases k with
  | lst => exact ⟨_, e, rfl, rfl⟩
  | tup => exact ⟨_, e, rfl, rfl⟩
theorem SqK.draws (hh : A.handled = none) (it l : Addr) (hne : l ≠ it) (items : Array Value) : Draws prog w A it [it, l] items.size (fun i v => items[i]? = some v) (fun i h => k.It h it l i ∧ k.Is h l items) := by
  cases k with
  | lst => exact Draws.list hh it l hne items
  | tup => exact Draws.tuple hh it l hne items
end
/-! ### zip, made -/
def zh1 (h : Heap) (k1 : SqK) (l1 : Addr) : Heap := h.push (k1.ob l1)
def zh2 (h : Heap) (k1 k2 : SqK) (l1 l2 : Addr) : Heap := (zh1 h k1 l1).push (k2.ob l2)
def zh3 (h : Heap) (k1 k2 : SqK) (l1 l2 : Addr) : Heap := (zh2 h k1 k2 l1 l2).push { cls := .type "tuple", data := .seq #[.ref h.objs.size, .ref (zh1 h k1 l1).objs.size] }
def zh4 (h : Heap) (k1 k2 : SqK) (l1 l2 : Addr) : Heap := (zh3 h k1 k2 l1 l2).push { cls := .type "tuple", data := .seq #[.none, .none] }
def zh5 (h : Heap) (k1 k2 : SqK) (l1 l2 : Addr) : Heap := (zh4 h k1 k2 l1 l2).push { cls := .type "zip", data := .fields #[.none, .bool false, .bool false, .ref (zh2 h k1 k2 l1 l2).objs.size, .ref (zh3 h k1 k2 l1 l2).objs.size] }
theorem meets_zip (k1 k2 : SqK) (l1 l2 : Addr) (xs ys : Array Value) :
    Meets (Builtin.«zip.__new__» ⟨[.type "zip", .ref l1, .ref l2], []⟩) (fun _ R s => k1.Is s.heap l1 xs ∧ k2.Is s.heap l2 ys ∧ R (.ok (.ret (.ref (zh4 s.heap k1 k2 l1 l2).objs.size))) { s with heap := zh5 s.heap k1 k2 l1 l2 }) :=
  .of_wp fun prog w A R s h => by
    obtain ⟨hp, g, d, tk, os⟩ := s
    obtain ⟨hl1, hl2, h⟩ := h
    have hsub := sub_zip
    have hL1 : k1.Is (Shared.heap ⟨hp, g, d, tk, os⟩) l1 xs := hl1
    have hL2 : k2.Is (Shared.heap ⟨hp.push (k1.ob l1), g, d, tk, os⟩) l2 ys := SqK.Is.keep hl2 fun o e => Heap.get?_push_of_some _ e
    wp_walk using SqK.iter hL1, SqK.iter hL2
    exact ⟨_, rfl, h⟩
section
variable {prog : Program} {w : World} {A : Around} {E : Value → Shared → Prop} {s : Shared} {k1 k2 : SqK}
theorem call_zipK {l1 l2 : Addr} {xs ys : Array Value} {Q : Value → Shared → Prop} (hl1 : k1.Is s.heap l1 xs) (hl2 : k2.Is s.heap l2 ys)
    (h : ∀ h', IsZip h' (s.heap.objs.size + 4) (s.heap.objs.size + 2) (s.heap.objs.size + 3) .none → IsTupOf2 h' (s.heap.objs.size + 2) (.ref s.heap.objs.size) (.ref (s.heap.objs.size + 1)) →
      IsTupOf2 h' (s.heap.objs.size + 3) .none .none → k1.It h' s.heap.objs.size l1 0 → k2.It h' (s.heap.objs.size + 1) l2 0 → h'.objs.size = s.heap.objs.size + 5 →
      (∀ c o, s.heap.get? c = some o → h'.get? c = some o) → Q (.ref (s.heap.objs.size + 4)) { s with heap := h' }) :
    wpAny (model prog w) A (call (.type "zip") [.ref l1, .ref l2]) Q E s := by
  refine callType_new F.called_zip (by decide) (F.typeCall_zip_2 _ _) (F.newCall_zip_2 _ _) (fun obj => F.args_object_init_3 obj _ _) F.entry_zip_new (meets_zip k1 k2 l1 l2 xs ys) ⟨hl1, hl2, ?_⟩
  have z1 : (zh1 s.heap k1 l1).objs.size = s.heap.objs.size + 1 := Heap.size_push ..
  have z2 : (zh2 s.heap k1 k2 l1 l2).objs.size = s.heap.objs.size + 2 := by unfold zh2; rw [Heap.size_push, z1]
  have z3 : (zh3 s.heap k1 k2 l1 l2).objs.size = s.heap.objs.size + 3 := by unfold zh3; rw [Heap.size_push, z2]
  have z4 : (zh4 s.heap k1 k2 l1 l2).objs.size = s.heap.objs.size + 4 := by unfold zh4; rw [Heap.size_push, z3]
  have z5 : (zh5 s.heap k1 k2 l1 l2).objs.size = s.heap.objs.size + 5 := by unfold zh5; rw [Heap.size_push, z4]
  have g5 : (zh5 s.heap k1 k2 l1 l2).get? (zh4 s.heap k1 k2 l1 l2).objs.size = some _ := Heap.get?_push_size _ rfl
  have g4 : (zh5 s.heap k1 k2 l1 l2).get? (zh3 s.heap k1 k2 l1 l2).objs.size = some _ := Heap.get?_push_of_some _ (Heap.get?_push_size _ rfl)
  have g3 : (zh5 s.heap k1 k2 l1 l2).get? (zh2 s.heap k1 k2 l1 l2).objs.size = some _ := Heap.get?_push_of_some _ (Heap.get?_push_of_some _ (Heap.get?_push_size _ rfl))
  have fr : (k2.ob l2).isFreed = false := by cases k2 <;> rfl
  have fr1 : (k1.ob l1).isFreed = false := by cases k1 <;> rfl
  have g2 : (zh5 s.heap k1 k2 l1 l2).get? (zh1 s.heap k1 l1).objs.size = some (k2.ob l2) := Heap.get?_push_of_some _ (Heap.get?_push_of_some _ (Heap.get?_push_of_some _ (Heap.get?_push_size _ fr)))
  have g1 : (zh5 s.heap k1 k2 l1 l2).get? s.heap.objs.size = some (k1.ob l1) := Heap.get?_push_of_some _ (Heap.get?_push_of_some _ (Heap.get?_push_of_some _ (Heap.get?_push_of_some _ (Heap.get?_push_size _ fr1))))
  show _ ∧ _
  rw [z2, z3, z4] at g5
  rw [z1, z2] at g3
  rw [z3] at g4
  rw [z1] at g2
  rw [z4]
  exact ⟨⟨_, g5, rfl⟩, h _ g5 g3 g4 (SqK.start g1) (SqK.start g2) z5 fun c o x => Heap.get?_push_of_some _ (Heap.get?_push_of_some _ (Heap.get?_push_of_some _ (Heap.get?_push_of_some _ (Heap.get?_push_of_some _ x))))⟩
end
/-! ### zip's next, while the tuple that it handed out is still held -/
/-- the tuple T is out -/
def ZipO (h : Heap) (z TI TO T : Addr) : Prop := ∃ fl, h.get? z = some { cls := .type "zip", dict := none, data := .fields #[rawInt T, .bool fl, .bool false, .ref TI, .ref TO], slots := #[] }
section
variable {prog : Program} {w : World} {A : Around} {E : Value → Shared → Prop} {s : Shared} {z TI TO T i1 i2 : Addr} {fp1 fp2 : List Addr} {n1 n2 i : Nat} {P1 P2 : Nat → Value → Prop} {St1 St2 : Nat → Heap → Prop} {oT : Obj}
theorem zipO_free {Q : Bool → Shared → Prop} (hz : ZipO s.heap z TI TO T) (hT : s.heap.get? T = some oT) (h : ∀ h', ZipO h' z TI TO T → Heap.SameBut z s.heap h' → Q false { s with heap := h' }) :
    wpAny (model prog w) A (Builtin.SmallTypes.ownedTupleIsFree (.ref z)) Q E s := by
  obtain ⟨fl, hz⟩ := hz
  unfold Builtin.SmallTypes.ownedTupleIsFree
  refine wpAny_bind (wpAny_field hz rfl (x := rawInt T) rfl ?_)
  show wpAny _ _ (loadIfAlive ((T : Int).toNat) >>= _) _ _ _
  rw [Int.toNat_natCast]
  refine wpAny_bind (PySem.W.kdx_alive hT ?_)
  simp only [Option.isNone_some, Bool.false_eq_true, if_false]
  refine wpAny_bind (wpAny_field hz rfl (x := .bool fl) rfl ?_)
  cases fl with
  | true =>
    have e : (Value.bool true != Value.bool true) = false := by decide
    simp only [e, Bool.false_eq_true, if_false]
    exact wpAny_pure (h s.heap ⟨true, hz⟩ (Heap.SameBut.refl z s.heap))
  | false =>
    have e : (Value.bool false != Value.bool true) = true := by decide
    simp only [e, if_true]
    exact wpAny_bind (wpAny_setField_rec hz (by simp) fun h' hz' hs' => wpAny_pure (h h' ⟨true, hz'⟩ hs'))

theorem zipO_item {Q : Value → Shared → Prop} (S : ZipSep2 z TI TO i1 i2 fp1 fp2) (D1 : Draws prog w A i1 fp1 n1 P1 St1) (D2 : Draws prog w A i2 fp2 n2 P2 St2)
    (hz : ZipO s.heap z TI TO T) (hT : s.heap.get? T = some oT) (hTI : IsTupOf2 s.heap TI (.ref i1) (.ref i2)) (st1 : St1 i s.heap) (st2 : St2 i s.heap) (hlt1 : i < n1) (hlt2 : i < n2)
    (hQ : ∀ x1 x2 h' tk, P1 i x1 → P2 i x2 → ZipO h' z TI TO T → St1 (i + 1) h' → St2 (i + 1) h' → IsTupOf2 h' s.heap.objs.size x1 x2 → h'.objs.size = s.heap.objs.size + 1 →
      (∀ c o, c ≠ z → c ≠ i1 → c ≠ i2 → s.heap.get? c = some o → h'.get? c = some o) → Q (.ref s.heap.objs.size) { s with heap := h', toks := tk }) :
    wpAny (model prog w) A (Builtin.«zip.__next__» ⟨[.ref z], []⟩) (fun fin s' => ∃ v, fin = .done (.ret v) ∧ Q v s') E s := by
  obtain ⟨hp, g, d, tk0, os⟩ := s
  obtain ⟨fl, hz0⟩ := id hz
  show wpAny _ _ (field (.ref z) 2 >>= _) _ _ _
  refine wpAny_bind (wpAny_field hz0 rfl (x := .bool false) rfl ?_)
  show wpAny _ _ (field (.ref z) 3 >>= _) _ _ _
  refine wpAny_bind (wpAny_field hz0 rfl (x := .ref TI) rfl ?_)
  refine wpAny_bind (wpAny_seqItems hTI rfl ?_)
  show wpAny _ _ (Builtin.SmallTypes.ownedTupleIsFree (.ref z) >>= _) _ _ _
  refine wpAny_bind (zipO_free hz hT fun g0 hz1 hs0 => ?_)
  simp only [Bool.false_eq_true, if_false]
  have hs0' : Heap.SameBut z hp g0 := hs0
  rw [← Array.forIn_toList]
  simp only [List.forIn_cons, List.forIn_nil]
  refine wpAny_bind (wpAny_bind (wpAny_bind (wpAny_holding ?_)))
  show wpAny _ _ (Builtin.SmallTypes.nextOf (.ref i1) >>= _) _ _ ⟨g0, g, d, tk0, os⟩
  refine wpAny_bind (D1.item i _ _ _ hlt1 (D1.over st1 hs0' S.zf1) fun x1 p1 tk1 hx1 sn1 hp1 => wpAny_pure ?_)
  have hp1' : Heap.SameBut i1 g0 p1 := hp1
  refine wpAny_pure ?_
  refine wpAny_bind (wpAny_bind (wpAny_holding ?_))
  show wpAny _ _ (Builtin.SmallTypes.nextOf (.ref i2) >>= _) _ _ ⟨p1, g, d, tk1, os⟩
  refine wpAny_bind (D2.item i _ _ _ hlt2 (D2.over (D2.over st2 hs0' S.zf2) hp1' S.sep1_2) fun x2 p2 tk2 hx2 sn2 hp2 => wpAny_pure ?_)
  have hp2' : Heap.SameBut i2 p1 p2 := hp2
  refine wpAny_pure (wpAny_pure ?_)
  show wpAny _ _ (newTuple [x1, x2] >>= _) _ _ ⟨p2, g, d, tk2, os⟩
  refine wpAny_bind (wpAny_newTuple ?_)
  have hsz : p2.objs.size = hp.objs.size := by rw [hp2'.1, hp1'.1, hs0'.1]
  refine wpAny_pure ⟨_, rfl, ?_⟩
  obtain ⟨fl2, hz2⟩ := hz1
  have hzz : ZipO (p2.push { cls := .type "tuple", data := .seq #[x1, x2] }) z TI TO T := ⟨fl2, Heap.get?_push_of_some _ (hp2'.extBut _ _ S.zi2 (hp1'.extBut _ _ S.zi1 hz2))⟩
  have up : ∀ c o, p2.get? c = some o → (p2.push { cls := .type "tuple", data := .seq #[x1, x2] }).get? c = some o := fun c o e => Heap.get?_push_of_some _ e
  have hj1 : St1 (i + 1) p2 := D1.over sn1 hp2' S.sep2_1
  have res := hQ x1 x2 (p2.push { cls := .type "tuple", data := .seq #[x1, x2] }) tk2 hx1 hx2 hzz (D1.frame _ _ _ hj1 fun b _ o e => up b o e) (D2.frame _ _ _ sn2 fun b _ o e => up b o e)
  have e1 : IsTupOf2 (p2.push { cls := .type "tuple", data := .seq #[x1, x2] }) hp.objs.size x1 x2 := by
    rw [← hsz]
    exact Heap.get?_push_size _ rfl
  have res2 := res e1 (by rw [Heap.size_push, hsz]) (fun c o cz c1 c2 e => up c o (hp2'.extBut _ _ c2 (hp1'.extBut _ _ c1 (hs0'.extBut _ _ cz e))))
  show Q (.ref p2.objs.size) _
  rw [hsz]
  exact res2

theorem zipO_end {Q : Fin → Shared → Prop} (S : ZipSep2 z TI TO i1 i2 fp1 fp2) (D1 : Draws prog w A i1 fp1 n1 P1 St1) (D2 : Draws prog w A i2 fp2 n2 P2 St2)
    (hz : ZipO s.heap z TI TO T) (hT : s.heap.get? T = some oT) (hTI : IsTupOf2 s.heap TI (.ref i1) (.ref i2)) (st1 : St1 i s.heap) (st2 : St2 i s.heap) (hle1 : i ≤ n1) (hle2 : i ≤ n2) (hend : i = n1 ∨ i = n2)
    (hE : ∀ h' tk e, (∀ c o, c ≠ z → c ≠ i1 → c ≠ i2 → s.heap.get? c = some o → h'.get? c = some o) → (∃ o, h'.get? e = some o ∧ o.cls = .type "StopIteration") → E (.ref e) { s with heap := h', toks := tk }) :
    wpAny (model prog w) A (Builtin.«zip.__next__» ⟨[.ref z], []⟩) Q E s := by
  obtain ⟨hp, g, d, tk0, os⟩ := s
  obtain ⟨fl, hz0⟩ := id hz
  show wpAny _ _ (field (.ref z) 2 >>= _) _ _ _
  refine wpAny_bind (wpAny_field hz0 rfl (x := .bool false) rfl ?_)
  show wpAny _ _ (field (.ref z) 3 >>= _) _ _ _
  refine wpAny_bind (wpAny_field hz0 rfl (x := .ref TI) rfl ?_)
  refine wpAny_bind (wpAny_seqItems hTI rfl ?_)
  show wpAny _ _ (Builtin.SmallTypes.ownedTupleIsFree (.ref z) >>= _) _ _ _
  refine wpAny_bind (zipO_free hz hT fun g0 hz1 hs0 => ?_)
  simp only [Bool.false_eq_true, if_false]
  have hs0' : Heap.SameBut z hp g0 := hs0
  rw [← Array.forIn_toList]
  simp only [List.forIn_cons, List.forIn_nil]
  refine wpAny_bind (wpAny_bind (wpAny_bind (wpAny_holding ?_)))
  show wpAny _ _ (Builtin.SmallTypes.nextOf (.ref i1) >>= _) _ _ ⟨g0, g, d, tk0, os⟩
  by_cases hlt1 : i < n1
  · refine wpAny_bind (D1.item i _ _ _ hlt1 (D1.over st1 hs0' S.zf1) fun x1 p1 tk1 hx1 sn1 hp1 => wpAny_pure ?_)
    have hp1' : Heap.SameBut i1 g0 p1 := hp1
    have hi2 : i = n2 := by omega
    refine wpAny_pure ?_
    refine wpAny_bind (wpAny_bind (wpAny_holding ?_))
    show wpAny _ _ (Builtin.SmallTypes.nextOf (.ref i2) >>= _) _ _ ⟨p1, g, d, tk1, os⟩
    refine wpAny_bind (D2.done ⟨p1, g, d, tk1, os⟩ _ _ (by rw [← hi2]; exact D2.over (D2.over st2 hs0' S.zf2) hp1' S.sep1_2) fun q e hq he => ?_)
    exact hE q tk1 e (fun c o cz c1 c2 x => hq _ _ c2 (hp1'.extBut _ _ c1 (hs0'.extBut _ _ cz x))) he
  · have hi1 : i = n1 := by omega
    refine wpAny_bind (D1.done ⟨g0, g, d, tk0, os⟩ _ _ (by rw [← hi1]; exact D1.over st1 hs0' S.zf1) fun q e hq he => ?_)
    exact hE q tk0 e (fun c o cz c1 c2 x => hq _ _ c1 (hs0'.extBut _ _ cz x)) he
/-! ### next(zip), before and behind the first item -/
/-- nothing handed out yet, or the tuple T, which stands -/
def ZipS (h : Heap) (z TI TO : Addr) (lo : Addr) : Prop := (IsZip h z TI TO .none ∧ ∃ a b, IsTupOf2 h TO a b) ∨ ∃ T oT, ZipO h z TI TO T ∧ h.get? T = some oT ∧ lo < T
theorem zipS_item {lo : Addr} {Q : Option Value → Shared → Prop} (S : ZipSep2 z TI TO i1 i2 fp1 fp2) (D1 : Draws prog w A.in1 i1 fp1 n1 P1 St1) (D2 : Draws prog w A.in1 i2 fp2 n2 P2 St2)
    (hz : ZipS s.heap z TI TO lo) (hlo : lo < s.heap.objs.size) (hTI : IsTupOf2 s.heap TI (.ref i1) (.ref i2)) (st1 : St1 i s.heap) (st2 : St2 i s.heap) (hlt1 : i < n1) (hlt2 : i < n2) (lz : z ≤ lo) (l1 : i1 ≤ lo) (l2 : i2 ≤ lo)
    (hQ : ∀ x1 x2 h' tk, P1 i x1 → P2 i x2 → ZipS h' z TI TO lo → IsTupOf2 h' TI (.ref i1) (.ref i2) → St1 (i + 1) h' → St2 (i + 1) h' → IsTupOf2 h' s.heap.objs.size x1 x2 → h'.objs.size = s.heap.objs.size + 1 →
      (∀ c o, c ≠ z → c ≠ TO → c ≠ i1 → c ≠ i2 → s.heap.get? c = some o → h'.get? c = some o) → Q (some (.ref s.heap.objs.size)) { s with heap := h', toks := tk }) :
    wpAny (model prog w) A (pyNext (.ref z)) Q E s := by
  rcases hz with ⟨hz, a, b, hTO⟩ | ⟨T, oT, hz, hT, hl⟩
  · refine wpAny_pyNext_zipD2_item S D1 D2 hz hTI hTO st1 st2 hlt1 hlt2 fun x1 x2 h' tk p1 p2 hz' hTO' s1 s2 hn hsz hk => ?_
    refine hQ x1 x2 h' tk p1 p2 (.inr ⟨s.heap.objs.size, _, ⟨false, hz'⟩, hn, hlo⟩) (hk _ _ S.TIz S.TITO S.TIi1 S.TIi2 hTI) s1 s2 hn hsz hk
  · obtain ⟨fl, hz0⟩ := id hz
    have hTy : s.TypeIs (.ref z) "zip" := ⟨_, hz0, rfl⟩
    unfold pyNext
    refine wpAny_bind (wpAny_attempt (wpAny_callSpecial?_slot (name := Str.ofString "__next__") hTy F.slot_zip_next (wpAny_call_entry F.slot_zip_next hTy F.entry_zip_next
      (zipO_item S D1 D2 hz hT hTI st1 st2 hlt1 hlt2 fun x1 x2 h' tk p1 p2 hz' s1 s2 hn hsz hk => wpAny_pure ?_) (F.args_zip_next_1 _))))
    have nT : ∀ x, x ≤ lo → T ≠ x := fun x hx e => by rw [e] at hl; exact absurd (Nat.lt_of_lt_of_le hl hx) (Nat.lt_irrefl _)
    exact hQ x1 x2 h' tk p1 p2 (.inr ⟨T, oT, hz', hk T oT (nT z lz) (nT i1 l1) (nT i2 l2) hT, hl⟩) (hk _ _ S.TIz S.TIi1 S.TIi2 hTI) s1 s2 hn hsz fun c o cz _ c1 c2 e => hk c o cz c1 c2 e
theorem zipS_end {lo : Addr} {Q : Option Value → Shared → Prop} (S : ZipSep2 z TI TO i1 i2 fp1 fp2) (D1 : Draws prog w A.in1 i1 fp1 n1 P1 St1) (D2 : Draws prog w A.in1 i2 fp2 n2 P2 St2)
    (hz : ZipS s.heap z TI TO lo) (hTI : IsTupOf2 s.heap TI (.ref i1) (.ref i2)) (st1 : St1 i s.heap) (st2 : St2 i s.heap) (hle1 : i ≤ n1) (hle2 : i ≤ n2) (hend : i = n1 ∨ i = n2)
    (hQ : ∀ h' tk, (∀ c o, c ≠ z → c ≠ TO → c ≠ i1 → c ≠ i2 → s.heap.get? c = some o → h'.get? c = some o) → Q none { s with heap := h', toks := tk }) : wpAny (model prog w) A (pyNext (.ref z)) Q E s := by
  rcases hz with ⟨hz, a, b, hTO⟩ | ⟨T, oT, hz, hT, hl⟩
  · exact wpAny_pyNext_zipD2_end S D1 D2 hz hTI hTO st1 st2 hle1 hle2 hend hQ
  · obtain ⟨fl, hz0⟩ := id hz
    have hTy : s.TypeIs (.ref z) "zip" := ⟨_, hz0, rfl⟩
    unfold pyNext
    refine wpAny_bind (wpAny_attempt (wpAny_callSpecial?_slot (name := Str.ofString "__next__") hTy F.slot_zip_next (wpAny_call_entry F.slot_zip_next hTy F.entry_zip_next
      (zipO_end S D1 D2 hz hT hTI st1 st2 hle1 hle2 hend fun h' tk e hk he => ?_) (F.args_zip_next_1 _))))
    obtain ⟨o, ho, hc⟩ := he
    refine wpAny_bind (wpAny_isInstance (T := "StopIteration") (b := true) ⟨o, ho, hc⟩ isSubtype_stop ?_)
    exact wpAny_pure (hQ _ _ fun c o cz _ c1 c2 e => hk c o cz c1 c2 e)
end
end Ow

set_option Elab.async false
set_option linter.all false
set_option maxRecDepth 100000
set_option maxHeartbeats 4000000
namespace Ow
open PySem PySem.Spec PyProof.Rows
open Sem (wp)
theorem zip_nolen : typeLookup (.type "zip") "__len__" = pure none := by rw [typeLookup_type, builtinLookup_eq_fast]; kernel_rfl
theorem zip_nohint : typeLookup (.type "zip") "__length_hint__" = pure none := by rw [typeLookup_type, builtinLookup_eq_fast]; kernel_rfl
/-- the pairs made so far -/
structure ZG (xs ys : Array Value) (lo : Addr) (h : Heap) (as : List Addr) : Prop where
  rise : as.Pairwise (· < ·)
  above : ∀ a ∈ as, lo < a
  pairs : ∀ (j : Nat) (a : Addr), as[j]? = some a → ∃ x y, xs[j]? = some x ∧ ys[j]? = some y ∧ IsTupOf2 h a x y
theorem ZG.there {xs ys : Array Value} {lo : Addr} {h : Heap} {as : List Addr} (g : ZG xs ys lo h as) {a : Addr} (ha : a ∈ as) : a < h.objs.size := by
  obtain ⟨j, hj⟩ := List.mem_iff_getElem?.mp ha
  obtain ⟨_, _, _, _, e⟩ := g.pairs j a hj
  exact Heap.lt_size e
/-- where a zip over l1 and l2 stands, all below S -/
structure ZP (z TI TO i1 i2 l1 l2 S : Addr) : Prop where
  sep : ZipSep2 z TI TO i1 i2 [i1, l1] [i2, l2]
  n1 : l1 ≠ i1
  n2 : l2 ≠ i2
  bz : z < S
  bI : TI < S
  bO : TO < S
  b1 : i1 < S
  b2 : i2 < S
  c1 : l1 < S
  c2 : l2 < S
/-- the zip, its turn i being next -/
def ZSt (k1 k2 : SqK) (z TI TO i1 i2 l1 l2 S : Addr) (xs ys : Array Value) (i : Nat) (h : Heap) : Prop :=
  ZipS h z TI TO S ∧ IsTupOf2 h TI (.ref i1) (.ref i2) ∧ (k1.It h i1 l1 i ∧ k1.Is h l1 xs) ∧ k2.It h i2 l2 i ∧ k2.Is h l2 ys
theorem ZSt.keep {k1 k2 : SqK} {z TI TO i1 i2 l1 l2 S : Addr} {xs ys : Array Value} {i : Nat} {h h' : Heap} (p : ZP z TI TO i1 i2 l1 l2 S) (x : ZSt k1 k2 z TI TO i1 i2 l1 l2 S xs ys i h)
    (k : ∀ b o, b ≠ S → h.get? b = some o → h'.get? b = some o) : ZSt k1 k2 z TI TO i1 i2 l1 l2 S xs ys i h' := by
  obtain ⟨hz, hI, ⟨a1, a2⟩, a3, a4⟩ := x
  refine ⟨?_, k _ _ (Nat.ne_of_lt p.bI) hI, ⟨a1.keep fun o e => k _ o (Nat.ne_of_lt p.b1) e, a2.keep fun o e => k _ o (Nat.ne_of_lt p.c1) e⟩, a3.keep fun o e => k _ o (Nat.ne_of_lt p.b2) e, a4.keep fun o e => k _ o (Nat.ne_of_lt p.c2) e⟩
  rcases hz with ⟨hz, a, b, hTO⟩ | ⟨T, oT, ⟨fl, hz⟩, hT, hl⟩
  · exact .inl ⟨k _ _ (Nat.ne_of_lt p.bz) hz, a, b, k _ _ (Nat.ne_of_lt p.bO) hTO⟩
  · exact .inr ⟨T, oT, ⟨fl, k _ _ (Nat.ne_of_lt p.bz) hz⟩, k _ _ (Nat.ne_of_gt hl) hT, hl⟩
section
variable {prog : Program} {w : World} {A : Around} {s : Shared} {R : Result → Shared → Prop} {k1 k2 : SqK} {z TI TO i1 i2 l1 l2 S : Addr} {xs ys : Array Value}
theorem zip_loop (hh : A.handled = none) (p : ZP z TI TO i1 i2 l1 l2 S) (hn : min xs.size ys.size ≤ sizeLine) (res : Value) {h₁ : Heap}
    (hR : ∀ h' tk acc c as, (∀ b o, b ≠ S → b ≠ z → b ≠ TO → b ≠ i1 → b ≠ i2 → h₁.get? b = some o → h'.get? b = some o) → h'.get? S = some { cls := .type "list", dict := none, data := .seq acc c, slots := #[] } → as.length = min xs.size ys.size → ZG xs ys S h' as →
      acc.toList = as.map Value.ref → R (.ok (.ret res)) { s with heap := h', toks := tk }) :
    ∀ (k i : Nat) (h : Heap) (tk c : Nat) (acc : Array Value) (as : List Addr), min xs.size ys.size - i = k → i ≤ min xs.size ys.size → ZSt k1 k2 z TI TO i1 i2 l1 l2 S xs ys i h → (∀ b o, b ≠ S → b ≠ z → b ≠ TO → b ≠ i1 → b ≠ i2 → h₁.get? b = some o → h.get? b = some o) →
      h.get? S = some { cls := .type "list", dict := none, data := .seq acc c, slots := #[] } → acc.toList = as.map Value.ref → as.length = i → ZG xs ys S h as →
      codeAny (model prog w) A (.builtin "list.extend.loop" ⟨[.ref S, .ref z, res], []⟩) R { s with heap := h, toks := tk } := by
  have D1 : Draws prog w A.in1.in1 i1 [i1, l1] xs.size (fun i v => xs[i]? = some v) (fun i h => k1.It h i1 l1 i ∧ k1.Is h l1 xs) := SqK.draws (A := A.in1.in1) hh i1 l1 p.n1 xs
  have D2 : Draws prog w A.in1.in1 i2 [i2, l2] ys.size (fun i v => ys[i]? = some v) (fun i h => k2.It h i2 l2 i ∧ k2.Is h l2 ys) := SqK.draws (A := A.in1.in1) hh i2 l2 p.n2 ys
  intro k
  induction k with
  | zero =>
    intro i h tk c acc as hk hi hst hkeep hS hacc hal hG
    have hin : i = min xs.size ys.size := by omega
    refine codeAny_builtin PySem.F.entry_extend_loop ?_
    rw [Around.under_plainId PySem.F.plain_extend_loop _]
    show wpAny _ A.in1 (pyNext (.ref z) >>= _) _ _ _
    obtain ⟨hz, hI, a12, a34⟩ := hst
    refine wpAny_bind (zipS_end (s := { s with heap := h, toks := tk }) (A := A.in1) (i := i) p.sep D1 D2 hz hI a12 a34 (by omega) (by omega) (by omega) fun h' tk' he => ?_)
    refine wpAny_pure (hR h' tk' acc c as (fun b o n1 n2 n3 n4 n5 e => he b o n2 n3 n4 n5 (hkeep b o n1 n2 n3 n4 n5 e)) (he S _ (Nat.ne_of_gt p.bz) (Nat.ne_of_gt p.bO) (Nat.ne_of_gt p.b1) (Nat.ne_of_gt p.b2) hS) (by omega) ⟨hG.rise, hG.above, fun j a hj => ?_⟩ hacc)
    obtain ⟨x, y, e1, e2, e3⟩ := hG.pairs j a hj
    have ha := hG.above a (List.mem_of_getElem? hj)
    exact ⟨x, y, e1, e2, he a _ (Nat.ne_of_gt (Nat.lt_trans p.bz ha)) (Nat.ne_of_gt (Nat.lt_trans p.bO ha)) (Nat.ne_of_gt (Nat.lt_trans p.b1 ha)) (Nat.ne_of_gt (Nat.lt_trans p.b2 ha)) e3⟩
  | succ k ih =>
    intro i h tk c acc as hk hi hst hkeep hS hacc hal hG
    have hlt : i < min xs.size ys.size := by omega
    have hsz : acc.size = i := by rw [← Array.length_toList, hacc, List.length_map, hal]
    have hSl : S < h.objs.size := Heap.lt_size hS
    refine codeAny_builtin PySem.F.entry_extend_loop ?_
    rw [Around.under_plainId PySem.F.plain_extend_loop _]
    show wpAny _ A.in1 (pyNext (.ref z) >>= _) _ _ _
    obtain ⟨hz, hI, a12, a34⟩ := hst
    refine wpAny_bind (zipS_item (s := { s with heap := h, toks := tk }) (A := A.in1) (i := i) p.sep D1 D2 hz hSl hI a12 a34 (by omega) (by omega) (Nat.le_of_lt p.bz) (Nat.le_of_lt p.b1) (Nat.le_of_lt p.b2) fun x y h' tk' hx hy hz' hI' b12 b34 hT hsz' hkp => ?_)
    dsimp only at hT hsz' hkp ⊢
    have hS' := hkp S _ (Nat.ne_of_gt p.bz) (Nat.ne_of_gt p.bO) (Nat.ne_of_gt p.b1) (Nat.ne_of_gt p.b2) hS
    have up : ∀ b o, b ≠ S → h'.get? b = some o → (h'.update S (Obj.mapSeq (·.push (Value.ref h.objs.size)))).get? b = some o := fun b o hb e => (Heap.get?_update_other _ _ (Ne.symm hb)).trans e
    have st' : ZSt k1 k2 z TI TO i1 i2 l1 l2 S xs ys (i + 1) (h'.update S (Obj.mapSeq (·.push (Value.ref h.objs.size)))) := ZSt.keep p ⟨hz', hI', b12, b34⟩ up
    show wpAny _ A.in1 (updateSeq S (·.push (Value.ref h.objs.size)) >>= _) _ _ _
    refine wpAny_bind ?_
    refine wpAny_updateSeq hS' rfl (wpAny_pure ⟨plainId_quiet PySem.F.plain_extend_loop _, ih (i + 1) _ tk' _ (acc.push (Value.ref h.objs.size)) (as ++ [h.objs.size]) (by omega) hlt st'
      (fun b o n1 n2 n3 n4 n5 e => up b o n1 (hkp b o n2 n3 n4 n5 (hkeep b o n1 n2 n3 n4 n5 e))) (Heap.get?_update_self _ hS' rfl) (by rw [Array.toList_push, hacc, List.map_append]; rfl) (by rw [List.length_append, hal]; rfl) ⟨?_, ?_, ?_⟩⟩) (by rw [hsz]; omega) (by show (acc.push (Value.ref h.objs.size)).size ≤ sizeLine + 1; rw [Array.size_push, hsz]; omega)
    · refine List.pairwise_append.mpr ⟨hG.rise, List.pairwise_singleton _ _, fun a ha b hb => ?_⟩
      rw [List.mem_singleton.mp hb]
      exact hG.there ha
    · intro a ha
      rcases List.mem_append.mp ha with ha | ha
      · exact hG.above a ha
      · rw [List.mem_singleton.mp ha]; exact hSl
    · intro j b hj
      rcases Nat.lt_trichotomy j as.length with q | q | q
      · rw [List.getElem?_append_left q] at hj
        obtain ⟨x', y', e1, e2, e3⟩ := hG.pairs j b hj
        have hb := hG.above b (List.mem_of_getElem? hj)
        exact ⟨x', y', e1, e2, up b _ (Nat.ne_of_gt hb) (hkp b _ (Nat.ne_of_gt (Nat.lt_trans p.bz hb)) (Nat.ne_of_gt (Nat.lt_trans p.bO hb)) (Nat.ne_of_gt (Nat.lt_trans p.b1 hb)) (Nat.ne_of_gt (Nat.lt_trans p.b2 hb)) e3)⟩
      · subst q
        have hb : h.objs.size = b := by simpa using hj
        subst hb
        exact ⟨x, y, by rw [hal]; exact hx, by rw [hal]; exact hy, up _ _ (Nat.ne_of_gt hSl) hT⟩
      · have hnone : (as ++ [h.objs.size])[j]? = none := List.getElem?_eq_none (by rw [List.length_append, List.length_singleton]; omega)
        rw [hnone] at hj; cases hj
end
section
variable {prog : Program} {w : World} {A : Around} {E : Value → Shared → Prop} {s : Shared} {k1 k2 : SqK} {z TI TO i1 i2 l1 l2 : Addr} {xs ys : Array Value}
theorem zip_hint (hT : s.TypeIs (.ref z) "zip") {Q : Bool → Shared → Prop} (h : Q true s) : wpAny (model prog w) A (Builtin.List.listLengthHint (.ref z)) Q E s := by
  unfold Builtin.List.listLengthHint
  refine wpAny_bind (wpAny_specialOf hT zip_nolen ?_)
  first
    | exact wpAny_bind (wpAny_specialOf hT zip_nohint (wpAny_pure h))
    | (show wpAny _ _ (specialOf (Value.ref z) (Str.ofString "__length_hint__") >>= _) _ _ _
       exact wpAny_bind (wpAny_specialOf hT zip_nohint (wpAny_pure h)))

theorem zip_extend {R : Result → Shared → Prop} {S : Addr} (hh : A.handled = none) (p : ZP z TI TO i1 i2 l1 l2 S) (hn : min xs.size ys.size ≤ sizeLine) (hz : IsZip s.heap z TI TO .none) (hTO : IsTupOf2 s.heap TO .none .none)
    (st : IsTupOf2 s.heap TI (.ref i1) (.ref i2) ∧ (k1.It s.heap i1 l1 0 ∧ k1.Is s.heap l1 xs) ∧ k2.It s.heap i2 l2 0 ∧ k2.Is s.heap l2 ys) (res : Value) (c₀ : Nat) (hS : s.heap.get? S = some { cls := .type "list", data := .seq #[] c₀ })
    (hR : ∀ h' tk acc c as, (∀ b o, b ≠ S → b ≠ z → b ≠ TO → b ≠ i1 → b ≠ i2 → s.heap.get? b = some o → h'.get? b = some o) → h'.get? S = some { cls := .type "list", dict := none, data := .seq acc c, slots := #[] } → as.length = min xs.size ys.size → ZG xs ys S h' as →
      acc.toList = as.map Value.ref → R (.ok (.ret res)) { s with heap := h', toks := tk }) :
    wpAny (model prog w) A.in1 (Builtin.List.listExtendWith (.ref S) (.ref z) res)
      (fun fin s' => match fin with | .done f => R (.ok f) s' | .again c' => c'.quiet = true ∧ codeAny (model prog w) A c' R s') (fun e s' => R (.error e) s') s := by
  have hTy : s.TypeIs (.ref z) "zip" := ⟨_, hz, rfl⟩
  have key : ∀ (h : Heap) (c₁ tk : Nat), (∀ b o, b ≠ S → s.heap.get? b = some o → h.get? b = some o) → h.get? S = some { cls := .type "list", data := .seq #[] c₁ } →
      codeAny (model prog w) A (.builtin "list.extend.loop" ⟨[.ref S, .ref z, res], []⟩) R { s with heap := h, toks := tk } := by
    intro h c₁ tk hk hS₁
    have st0 : ZSt k1 k2 z TI TO i1 i2 l1 l2 S xs ys 0 s.heap := ⟨.inl ⟨hz, _, _, hTO⟩, st⟩
    exact zip_loop (s := s) (h₁ := s.heap) hh p hn res (fun h' tk' acc c as hk' hS' hl hG hacc => hR h' tk' acc c as hk' hS' hl hG hacc) (min xs.size ys.size) 0 h tk c₁ #[] [] (Nat.sub_zero _) (Nat.zero_le _) (st0.keep p hk)
      (fun b o n1 _ _ _ _ e => hk b o n1 e) hS₁ rfl rfl ⟨List.Pairwise.nil, (fun _ ha => nomatch ha), (fun j a hj => by simp at hj)⟩
  unfold Builtin.List.listExtendWith
  refine wpAny_bind (wpAny_typeOf (T := "zip") hTy ?_)
  have hSz : S ≠ z := Nat.ne_of_gt p.bz
  have h1 : Builtin.List.listSameRef (.ref S) (.ref z) = false := by simp [Builtin.List.listSameRef, hSz]
  have h2 : (Value.type "zip" == Value.type "list") = false := by decide
  have h3 : (Value.type "zip" == Value.type "tuple") = false := by decide
  simp only [h1, h2, h3, Bool.or_false, Bool.false_eq_true, if_false]
  refine wpAny_bind (wpAny_pyIter_zip hz ?_)
  refine wpAny_bind (wpAny_holding (zip_hint hTy ?_))
  refine wpAny_ite_split (fun _ => ?_) (fun _ => wpAny_pure ⟨plainId_quiet PySem.F.plain_extend_loop _, key _ c₀ _ (fun b o _ e => e) hS⟩)
  refine wpAny_bind (wpAny_rule ?_)
  refine wpAny_bind ?_
  show wpAny _ _ (updateSeq S (·.push .none) >>= fun _ => updateSeq S (·.pop)) _ _ _
  refine wpAny_bind (wpAny_updateSeq hS rfl ?_)
  have hS₂ := Heap.get?_update_self (Obj.mapSeq (·.push Value.none)) hS rfl
  refine wpAny_updateSeq (hz := by seq_fits) hS₂ rfl ?_
  have hS₃ := Heap.get?_update_self (Obj.mapSeq (·.pop)) hS₂ rfl
  refine wpAny_pure ⟨plainId_quiet PySem.F.plain_extend_loop _, key _ _ _ (fun b o hb e => ?_) hS₃⟩
  exact (Heap.get?_update_other _ _ (Ne.symm hb)).trans ((Heap.get?_update_other _ _ (Ne.symm hb)).trans e)
theorem zip_init {R : Result → Shared → Prop} {S : Addr} (hh : A.handled = none) (p : ZP z TI TO i1 i2 l1 l2 S) (hn : min xs.size ys.size ≤ sizeLine) (hz : IsZip s.heap z TI TO .none) (hTO : IsTupOf2 s.heap TO .none .none)
    (st : IsTupOf2 s.heap TI (.ref i1) (.ref i2) ∧ (k1.It s.heap i1 l1 0 ∧ k1.Is s.heap l1 xs) ∧ k2.It s.heap i2 l2 0 ∧ k2.Is s.heap l2 ys) (hS : s.heap.get? S = some { cls := .type "list", data := .seq #[] })
    (hR : ∀ h' tk acc c as, (∀ b o, b ≠ S → b ≠ z → b ≠ TO → b ≠ i1 → b ≠ i2 → s.heap.get? b = some o → h'.get? b = some o) → h'.get? S = some { cls := .type "list", dict := none, data := .seq acc c, slots := #[] } → as.length = min xs.size ys.size → ZG xs ys S h' as →
      acc.toList = as.map Value.ref → R (.ok (.ret .none)) { s with heap := h', toks := tk }) :
    wpAny (model prog w) A.in1 (Builtin.«list.__init__» ⟨[.ref S, .ref z], []⟩)
      (fun fin s' => match fin with | .done f => R (.ok f) s' | .again c' => c'.quiet = true ∧ codeAny (model prog w) A c' R s') (fun e s' => R (.error e) s') s := by
  show wpAny _ _ (do let old ← Builtin.List.listItems (.ref S); Builtin.List.listUpdate (.ref S) (fun _ => #[]); letGo old.toList.reverse; Builtin.List.listExtendWith (.ref S) (.ref z) .none) _ _ s
  refine wpAny_bind ?_
  unfold Builtin.List.listItems
  refine wpAny_bind (wpAny_seqItems hS rfl (wpAny_pure ?_))
  show wpAny _ _ (updateSeq S (fun _ => #[]) >>= fun _ => letGo (#[] : Array Value).toList.reverse >>= fun _ => Builtin.List.listExtendWith (.ref S) (.ref z) .none) _ _ s
  refine wpAny_bind (wpAny_updateSeq hS rfl ?_)
  have hS₂ := Heap.get?_update_self (Obj.mapSeq (fun _ => (#[] : Array Value))) hS rfl
  have oth : ∀ b o, b ≠ S → s.heap.get? b = some o → (s.heap.update S (Obj.mapSeq (fun _ => (#[] : Array Value)))).get? b = some o := fun b o hb e => (Heap.get?_update_other _ _ (Ne.symm hb)).trans e
  refine wpAny_bind (wpAny_letGo ?_)
  obtain ⟨hI, ⟨a1, a2⟩, a3, a4⟩ := st
  refine zip_extend hh p hn (oth _ _ (Nat.ne_of_lt p.bz) hz) (oth _ _ (Nat.ne_of_lt p.bO) hTO) ⟨oth _ _ (Nat.ne_of_lt p.bI) hI, ⟨a1.keep fun o e => oth _ o (Nat.ne_of_lt p.b1) e, a2.keep fun o e => oth _ o (Nat.ne_of_lt p.c1) e⟩, a3.keep fun o e => oth _ o (Nat.ne_of_lt p.b2) e, a4.keep fun o e => oth _ o (Nat.ne_of_lt p.c2) e⟩ .none _ hS₂ fun h' tk acc c as hk hS' hl hG hacc => ?_
  exact hR h' tk acc c as (fun b o n1 n2 n3 n4 n5 e => hk b o n1 n2 n3 n4 n5 (oth b o n1 e)) hS' hl hG hacc
theorem call_list_zip {Q : Value → Shared → Prop} (hh : A.handled = none) (p : ZP z TI TO i1 i2 l1 l2 s.heap.objs.size) (hn : min xs.size ys.size ≤ sizeLine) (hz : IsZip s.heap z TI TO .none) (hTO : IsTupOf2 s.heap TO .none .none)
    (st : IsTupOf2 s.heap TI (.ref i1) (.ref i2) ∧ (k1.It s.heap i1 l1 0 ∧ k1.Is s.heap l1 xs) ∧ k2.It s.heap i2 l2 0 ∧ k2.Is s.heap l2 ys)
    (hQ : ∀ h' tk acc c as, (∀ b o, b ≠ z → b ≠ TO → b ≠ i1 → b ≠ i2 → s.heap.get? b = some o → h'.get? b = some o) → h'.get? s.heap.objs.size = some { cls := .type "list", dict := none, data := .seq acc c, slots := #[] } → as.length = min xs.size ys.size → ZG xs ys s.heap.objs.size h' as →
      acc.toList = as.map Value.ref → Q (.ref s.heap.objs.size) { s with heap := h', toks := tk }) :
    wpAny (model prog w) A (call (.type "list") [.ref z]) Q E s := by
  refine callType_codes (Q₁ := fun obj s₁ => obj = .ref s.heap.objs.size ∧ s₁ = { s with heap := s.heap.push { cls := .type "list", data := .seq #[] } }) PySem.F.called_list (PySem.F.typeCall_list_1 _) PySem.F.entry_list_init (code_list_new _ ⟨rfl, rfl⟩) fun obj s₁ h₁ => ?_
  obtain ⟨rfl, rfl⟩ := h₁
  have hS : (s.heap.push { cls := .type "list", data := .seq #[] }).get? s.heap.objs.size = some { cls := .type "list", data := .seq #[] } := Heap.get?_push_size _ rfl
  obtain ⟨hI, ⟨a1, a2⟩, a3, a4⟩ := st
  have ps : ∀ b o, s.heap.get? b = some o → (s.heap.push { cls := .type "list", data := .seq #[] }).get? b = some o := fun b o e => Heap.get?_push_of_some _ e
  refine ⟨⟨_, hS, rfl⟩, PySem.F.args_list_init_2 _ _, zip_init (A := A.in1) hh p hn (ps _ _ hz) (ps _ _ hTO) ⟨ps _ _ hI, ⟨a1.keep fun o e => ps _ o e, a2.keep fun o e => ps _ o e⟩, a3.keep fun o e => ps _ o e, a4.keep fun o e => ps _ o e⟩ hS fun h' tk acc c as hk hS' hl hG hacc => ?_⟩
  exact ⟨rfl, hQ h' tk acc c as (fun b o n1 n2 n3 n4 e => hk b o (Nat.ne_of_lt (Heap.lt_size e)) n1 n2 n3 n4 (ps b o e)) hS' hl hG hacc⟩
end
end Ow

set_option Elab.async false
set_option linter.all false
set_option maxRecDepth 100000
set_option maxHeartbeats 4000000
namespace Ow
open PySem PySem.Spec PyProof.Rows L2
/-- pairs tracked at their addresses -/
def putP : Hp → List Addr → List (V × V) → Hp
  | H, a :: as, p :: ps => putP (upd H a (.tup [p.1, p.2])) as ps
  | H, _, _ => H
theorem putP_off {b : Addr} : ∀ (as : List Addr) (ps : List (V × V)) (H : Hp), b ∉ as → putP H as ps b = H b
  | [], _, _, _ => rfl
  | _ :: _, [], _, _ => rfl
  | a :: as, p :: ps, H, h => by
    show putP (upd H a (.tup [p.1, p.2])) as ps b = H b
    rw [putP_off as ps _ (fun z => h (List.mem_cons_of_mem _ z)), upd_ne (fun z => h (by rw [z]; exact List.mem_cons_self))]
theorem putP_at : ∀ (as : List Addr) (ps : List (V × V)) (H : Hp), as.length = ps.length → as.Nodup → ∀ (j : Nat) (t : Addr), as[j]? = some t → ∃ p, ps[j]? = some p ∧ putP H as ps t = some (.tup [p.1, p.2])
  | [], [], _, _, _, j, t, e => by simp at e
  | [], _ :: _, _, h, _, _, _, _ => by cases h
  | _ :: _, [], _, h, _, _, _, _ => by cases h
  | a :: as, p :: ps, H, h, hn, j, t, e => by
    have hn' := List.nodup_cons.mp hn
    cases j with
    | zero =>
      have e1 : a = t := by simpa using e
      subst e1
      refine ⟨p, rfl, ?_⟩
      show putP (upd H a (.tup [p.1, p.2])) as ps a = some (.tup [p.1, p.2])
      rw [putP_off as ps _ hn'.1, upd_same]
    | succ j => exact putP_at as ps (upd H a (.tup [p.1, p.2])) (Nat.succ.inj h) hn'.2 j t (by simpa using e)
theorem vals_addrs : ∀ as : List Addr, Vals (as.map V.ref) (as.map Value.ref)
  | [] => .nil
  | _ :: as => .cons rfl (vals_addrs as)
section
variable {X : Cx} {pins : List (Addr × Obj)} {σ : L2.St} {H : Hp} {s : Shared}
theorem zip_laid {h' : Heap} {tk c : Nat} {acc : Array Value} {as : List Addr} {xs ys : List V} {us ws : Array Value} {S : Addr} (I : Inv X pins σ H s) (hSs : s.heap.objs.size ≤ S) (hz : min us.size ws.size ≤ sizeLine) (rx : Vals xs us.toList) (ry : Vals ys ws.toList)
    (hk : ∀ b o, s.heap.get? b = some o → h'.get? b = some o) (hS : h'.get? S = some { cls := .type "list", dict := none, data := .seq acc c, slots := #[] }) (hl : as.length = min us.size ws.size) (hG : ZG us ws S h' as) (hacc : acc.toList = as.map Value.ref) :
    ∃ H' : Hp, Same H H' ∧ H S = none ∧ H' S = some (.lst (as.map V.ref)) ∧ (∀ (j : Nat) (t : Addr), as[j]? = some t → ∃ x y, xs[j]? = some x ∧ ys[j]? = some y ∧ H t = none ∧ H' t = some (.tup [x, y])) ∧ Inv X pins σ H' { s with heap := h', toks := tk } := by
  have hSn : S ∉ as := fun z => Nat.lt_irrefl _ (hG.above _ z)
  have nd : as.Nodup := List.Pairwise.imp (fun {a b} (h : a < b) => Nat.ne_of_lt h) hG.rise
  have above : ∀ t ∈ as, s.heap.objs.size ≤ t := fun t ht => Nat.le_of_lt (Nat.lt_of_le_of_lt hSs (hG.above t ht))
  have new : ∀ t ∈ as, H t = none := fun t ht => I.hok.fresh (above t ht)
  have newS : H S = none := I.hok.fresh hSs
  have lx : xs.length = us.size := by have := rx.length; rw [Array.length_toList] at this; exact this
  have ly : ys.length = ws.size := by have := ry.length; rw [Array.length_toList] at this; exact this
  have lz : (xs.zip ys).length = as.length := by rw [List.length_zip, lx, ly, hl]
  have atP := putP_at as (xs.zip ys) (upd H S (.lst (as.map V.ref))) lz.symm nd
  have off : ∀ b, b ∉ as → b ≠ S → putP (upd H S (.lst (as.map V.ref))) as (xs.zip ys) b = H b := fun b h1 h2 => by rw [putP_off as _ _ h1, upd_ne h2]
  have low : ∀ b o, s.heap.get? b = some o → b ∉ as ∧ b ≠ S := fun b o e => ⟨fun z => absurd (Heap.lt_size e) (Nat.not_lt.mpr (above b z)), fun z => absurd (Heap.lt_size e) (Nat.not_lt.mpr (by rw [z]; exact hSs))⟩
  have kp : ∀ b u, H b = some u → (putP (upd H S (.lst (as.map V.ref))) as (xs.zip ys)) b = some u := fun b u e => by
    rw [off b (fun z => by rw [new b z] at e; cases e) (fun z => by rw [z, newS] at e; cases e)]
    exact e
  have eS : putP (upd H S (.lst (as.map V.ref))) as (xs.zip ys) S = some (.lst (as.map V.ref)) := by rw [putP_off as _ _ hSn, upd_same]
  refine ⟨_, kp, newS, eS, fun j t e => ?_, ?_⟩
  · obtain ⟨p, e1, e2⟩ := atP j t e
    obtain ⟨e3, e4⟩ := List.getElem?_zip_eq_some.mp e1
    exact ⟨p.1, p.2, e3, e4, new t (List.mem_of_getElem? e), e2⟩
  refine I.call' (ch := []) rfl ⟨fun b o q _ _ _ => hk b o q, fun b o q _ _ _ => ⟨o.slots, hk b o q⟩, fun b o q n _ => ?_, fun b o q _ => ⟨o, hk b o q⟩, fun b xs q => kp b _ q, fun b o u q => kp b _ q, fun b ps q => ⟨#[], by rw [kp b _ q]; simp⟩⟩ (fun b u q => ?_) I.bare fun b z => by simp at z
  · obtain ⟨z1, z2⟩ := low b o q
    rw [off b z1 z2]
    exact n
  · by_cases hb : b ∈ as
    · obtain ⟨j, hj⟩ := List.mem_iff_getElem?.mp hb
      obtain ⟨p, e1, e2⟩ := atP j b hj
      rw [e2] at q
      cases q
      obtain ⟨e3, e4⟩ := List.getElem?_zip_eq_some.mp e1
      obtain ⟨x, y, f1, f2, f3⟩ := hG.pairs j b hj
      obtain ⟨x', g1, r1⟩ := rx.get e3
      obtain ⟨y', g2, r2⟩ := ry.get e4
      rw [Array.getElem?_toList, f1] at g1
      rw [Array.getElem?_toList, f2] at g2
      cases g1
      cases g2
      exact ⟨by show 2 ≤ sizeLine; decide, [x, y], .cons r1 (.cons r2 .nil), ⟨_, f3, rfl, _, rfl⟩⟩
    · by_cases hb2 : b = S
      · rw [hb2] at q ⊢
        rw [eS] at q
        cases q
        refine ⟨by rw [List.length_map]; omega, acc.toList, c, by rw [hacc]; exact vals_addrs as, ?_⟩
        rw [Array.toArray_toList]
        exact hS
      · rw [off b hb hb2] at q
        exact (I.hok b u q).stay (fun d v _ y => hk d v y) (fun d y => kp d _ y) fun d xs y => kp d _ y
/-- a list or a tuple of these, read -/
theorem sq_kind {a : Addr} {xs : List V} (I : Inv X pins σ H s) (h : SqL X.K H a xs ∨ SqT X.K H a xs) : ∃ (k : SqK) (its : List Value), k.Is s.heap a its.toArray ∧ Vals xs its ∧ xs.length ≤ sizeLine := by
  rcases h with h | h
  · obtain ⟨its, rv, pl, hz⟩ := I.list h
    exact ⟨.lst, its, pl.isList, rv, hz⟩
  · obtain ⟨its, rv, pl, hz⟩ := I.tuple h
    exact ⟨.tup, its, pl, rv, hz⟩
theorem zp_of (n a b : Nat) (la : a < n) (lb : b < n) : ZP (n + 4) (n + 2) (n + 3) n (n + 1) a b (n + 5) := by
  have m1 : ∀ x : Nat, x ≠ n → x ≠ a → x ∉ [n, a] := fun x h1 h2 => by simp [h1, h2]
  have m2 : ∀ x : Nat, x ≠ n + 1 → x ≠ b → x ∉ [n + 1, b] := fun x h1 h2 => by simp [h1, h2]
  exact ⟨⟨by show (n + 2 : Nat) ≠ n + 4; omega, by show (n + 3 : Nat) ≠ n + 4; omega, by show (n + 2 : Nat) ≠ n + 3; omega, by show (n + 2 : Nat) ≠ n; omega, by simp, m1 _ (by omega) (by omega), m1 _ (by omega) (by omega),
    by show (n + 2 : Nat) ≠ n + 1; omega, by simp, m2 _ (by omega) (by omega), m2 _ (by omega) (by omega), m2 _ (by omega) (by omega), m1 _ (by omega) (by omega)⟩,
    by show (a : Nat) ≠ n; omega, by show (b : Nat) ≠ n + 1; omega, by show (n + 4 : Nat) < n + 5; omega, by show (n + 2 : Nat) < n + 5; omega, by show (n + 3 : Nat) < n + 5; omega, by show (n : Nat) < n + 5; omega, by show (n + 1 : Nat) < n + 5; omega, by show (a : Nat) < n + 5; omega, by show (b : Nat) < n + 5; omega⟩
/-- list(zip(a, b)) -/
def tLZip (K : PySem.W.Frag) (t : TA) : TE := fun σ H Q => t σ H fun vs H1 => ∃ a b xs ys, vs = [.ref a, .ref b] ∧ (SqL K H1 a xs ∨ SqT K H1 a xs) ∧ (SqL K H1 b ys ∨ SqT K H1 b ys) ∧
  ∀ (H' : Hp) (p : Addr) (ts : List Addr), Same H1 H' → H1 p = none → H' p = some (.lst (ts.map V.ref)) → ts.length = min xs.length ys.length →
    (∀ (j : Nat) (t : Addr), ts[j]? = some t → ∃ x y, xs[j]? = some x ∧ ys[j]? = some y ∧ H1 t = none ∧ H' t = some (.tup [x, y])) → Q (.ref p) H'
theorem pe_lzip {e e2 : Expr} {t : TA} {p p2 pos pos2 : Pos} (hc : X.calm = true) (hg : Gl X "list") (hm : X.mg "list" = none) (hg2 : Gl X "zip") (hm2 : X.mg "zip" = none) (hv : bootBuiltins "list" = some (.type "list")) (ha : PA X [e, e2] t)
    (hs : starEach [.Call (.Name "zip" p2) [e, e2] [] pos2] X.env = (false, eval (.Call (.Name "zip" p2) [e, e2] [] pos2) X.env) :: starEach [] X.env := by rfl)
    (hs2 : starEach [e, e2] X.env = (false, eval e X.env) :: starEach [e2] X.env := by rfl) (hpl : (backTo pos2 (starEach [e2] X.env)).any (·.1) = false := by rfl) :
    PE X (.Call (.Name "list" p) [.Call (.Name "zip" p2) [e, e2] [] pos2] [] pos) (tLZip X.K t) := by
  refine ⟨fun pins s σ H Q I hq => ?_⟩
  refine wpAny_Call_Name_kw (ld_blt I hg hm hv ?_)
  refine PyProof.Rows.callWith_type1 ?_ hs rfl
  rw [hs]
  show wpAny _ _ (spliced ((false, eval (.Call (.Name "zip" p2) [e, e2] [] pos2) X.env) :: backTo pos (starEach [] X.env))) _ _ s
  refine Calls.spliced_cons ?_
  refine wpAny_Call_Name_kw (ld_blt I hg2 hm2 PyProof.Rows.boot_zip (PyProof.Rows.callWith_type1 (thn (ha.run pos2 pins s σ H _ I hq) fun us s1 ⟨vs, H1, I1, r1, q1⟩ => ?_) hs2 hpl))
  obtain ⟨a, b, xs, ys, ex, hxs, hys, q⟩ := q1
  subst ex
  cases r1 with
  | cons r rr =>
    cases rr with
    | cons r' rr =>
      cases rr
      cases r
      cases r'
      obtain ⟨k1, us, u1, ru, zu⟩ := sq_kind I1 hxs
      obtain ⟨k2, ws, w1, rw', zw⟩ := sq_kind I1 hys
      refine call_zipK u1 w1 fun h' hz hI hO st1 st2 hsz hk => ?_
      have I2 : Inv X pins σ H1 { s1 with heap := h' } := I1.kept (t' := s1.toks) hk
      have la := u1.lt
      have lb := w1.lt
      have p0 : ZP (s1.heap.objs.size + 4) (s1.heap.objs.size + 2) (s1.heap.objs.size + 3) s1.heap.objs.size (s1.heap.objs.size + 1) a b h'.objs.size := by
        rw [hsz]
        exact zp_of _ _ _ la lb
      refine Calls.spliced_nil ?_
      have lu := ru.length
      have lw := rw'.length
      refine call_list_zip (s := { s1 with heap := h' }) (k1 := k1) (k2 := k2) (xs := us.toArray) (ys := ws.toArray) (I1.ok.hd hc) p0 (by rw [List.size_toArray, List.size_toArray]; omega) hz hO ⟨hI, ⟨st1, u1.keep fun o e => hk _ o e⟩, st2, w1.keep fun o e => hk _ o e⟩ fun h2 tk acc c as hk2 hS hl hG hacc => ?_
      have hk3 : ∀ b o, s1.heap.get? b = some o → h2.get? b = some o := fun b o e => by
        have hb : (b : Nat) < s1.heap.objs.size := Heap.lt_size e
        exact hk2 b o (Nat.ne_of_lt (Nat.lt_of_lt_of_le hb (Nat.le_add_right _ _))) (Nat.ne_of_lt (Nat.lt_of_lt_of_le hb (Nat.le_add_right _ _))) (Nat.ne_of_lt hb) (Nat.ne_of_lt (Nat.lt_of_lt_of_le hb (Nat.le_add_right _ _))) (hk b o e)
      have hSs : s1.heap.objs.size ≤ h'.objs.size := by rw [hsz]; exact Nat.le_add_right _ _
      obtain ⟨H', k1', k2', k3', k4', J⟩ := zip_laid (tk := tk) (S := h'.objs.size) (us := us.toArray) (ws := ws.toArray) I1 hSs (by rw [List.size_toArray, List.size_toArray]; omega) (by simpa using ru) (by simpa using rw') hk3 hS hl hG hacc
      refine ⟨.ref _, H', J, rfl, q H' _ as k1' k2' k3' (by rw [hl, List.size_toArray, List.size_toArray, lu, lw]) k4'⟩
end
end Ow

set_option Elab.async false
set_option linter.all false
set_option maxRecDepth 100000
set_option maxHeartbeats 4000000
namespace Ow
open PySem PySem.Spec PyProof.Rows
open Sem (wp)
/-! ### zip of any number of tuples of one length -/
/-- a source of a zip: its iterator, the tuple, its items -/
structure ZSrc where
  it : Addr
  l : Addr
  xs : Array Value
abbrev IsTupOf (h : Heap) (T : Addr) (xs : List Value) : Prop := h.get? T = some { cls := .type "tuple", data := .seq xs.toArray }
abbrev itsOf (ps : List ZSrc) : List Value := ps.map fun p => Value.ref p.it
/-- the i-th items -/
abbrev colOf (ps : List ZSrc) (i : Nat) : List Value := ps.map fun p => p.xs.getD i .none
/-- the places lie apart, all below S -/
structure ZA (z TI TO : Addr) (ps : List ZSrc) (S : Addr) : Prop where
  nd : (ps.map (·.it)).Nodup
  TIz : TI ≠ z
  TOz : TO ≠ z
  TITO : TI ≠ TO
  zi : ∀ p ∈ ps, z ≠ p.it ∧ TI ≠ p.it ∧ TO ≠ p.it
  zl : ∀ p ∈ ps, z ≠ p.l ∧ TO ≠ p.l
  il : ∀ p ∈ ps, ∀ q ∈ ps, p.it ≠ q.l
  bz : z < S
  bI : TI < S
  bO : TO < S
  bi : ∀ p ∈ ps, p.it < S
  bl : ∀ p ∈ ps, p.l < S
/-- each iterator stands ahead of turn i -/
def AtI (h : Heap) (i : Nat) (ps : List ZSrc) : Prop := ∀ p ∈ ps, h.IsTupleIter p.it p.l i ∧ h.IsTuple p.l p.xs
def NotIt (ps : List ZSrc) (c : Addr) : Prop := ∀ p ∈ ps, c ≠ p.it
theorem AtI.mono {h h' : Heap} {i : Nat} {ps : List ZSrc} (x : AtI h i ps) (k : ∀ p ∈ ps, ∀ o, (h.get? p.it = some o → h'.get? p.it = some o) ∧ (h.get? p.l = some o → h'.get? p.l = some o)) : AtI h' i ps := fun p hp => by
  obtain ⟨⟨o, e, r⟩, o2, e2, r2⟩ := x p hp
  exact ⟨⟨o, (k p hp o).1 e, r⟩, o2, (k p hp o2).2 e2, r2⟩
section
variable {prog : Program} {w : World} {A : Around} {E : Value → Shared → Prop} {s : Shared} {z TI TO T S : Addr} {ps : List ZSrc} {i N : Nat} {oT : Obj}
theorem src_draws (hh : A.handled = none) (p : ZSrc) (hne : p.l ≠ p.it) : Draws prog w A p.it [p.it, p.l] p.xs.size (fun i v => p.xs[i]? = some v) (fun i h => h.IsTupleIter p.it p.l i ∧ h.IsTuple p.l p.xs) := Draws.tuple hh p.it p.l hne p.xs
theorem updateSeq_tup {T : Addr} {x : Value} {k : Nat} {ys : List Value} {Q : Unit → Shared → Prop} (hT : IsTupOf s.heap T ys) (hl : ys.length ≤ sizeLine)
    (h : ∀ h', IsTupOf h' T (ys.set k x) → Heap.SameBut T s.heap h' → Q () { s with heap := h' }) :
    wpAny (model prog w) A (updateSeq T (·.setIfInBounds k x)) Q E s := by
  refine wpAny_updateSeq hT rfl (h _ ?_ (Heap.SameBut.update ..)) (by rw [List.size_toArray]; exact hl) (by rw [Array.size_setIfInBounds, List.size_toArray]; exact Nat.le_succ_of_le hl)
  unfold IsTupOf
  rw [Heap.get?_update_self _ hT rfl]
  simp [Obj.mapSeq]
/-- the first next: the tuple of its own is filled, a copy is handed out -/
theorem zn_first {Q : Value → Shared → Prop} (hh : A.handled = none) (S0 : ZA z TI TO ps S) (hlen : ps.length ≤ sizeLine) (hz : IsZip s.heap z TI TO .none) (hTI : IsTupOf s.heap TI (itsOf ps)) {ys0 : List Value} (hTO : IsTupOf s.heap TO ys0) (hy0 : ys0.length = ps.length)
    (st : AtI s.heap i ps) (hne : ps ≠ []) (hN : ∀ p ∈ ps, p.xs.size = N) (hlt : i < N)
    (hQ : ∀ h' tk, IsZip h' z TI TO (rawInt s.heap.objs.size) → AtI h' (i + 1) ps → IsTupOf h' s.heap.objs.size (colOf ps i) → h'.objs.size = s.heap.objs.size + 1 →
      (∀ c o, c ≠ z → c ≠ TO → NotIt ps c → s.heap.get? c = some o → h'.get? c = some o) → Q (.ref s.heap.objs.size) { s with heap := h', toks := tk }) :
    wpAny (model prog w) A (Builtin.«zip.__next__» ⟨[.ref z], []⟩) (fun fin s' => ∃ v, fin = .done (.ret v) ∧ Q v s') E s := by
  obtain ⟨hp, g, d, tk0, os⟩ := s
  show wpAny _ _ (field (.ref z) 2 >>= _) _ _ _
  refine wpAny_bind (wpAny_field hz rfl (x := .bool false) rfl ?_)
  show wpAny _ _ (field (.ref z) 3 >>= _) _ _ _
  refine wpAny_bind (wpAny_field hz rfl (x := .ref TI) rfl ?_)
  refine wpAny_bind (wpAny_seqItems hTI rfl ?_)
  have ne : ((itsOf ps).toArray).isEmpty = false := by
    cases ps with
    | nil => exact absurd rfl hne
    | cons p ps => rfl
  dsimp only
  rw [ne]
  simp only [Bool.false_eq_true, if_false]
  show wpAny _ _ (Builtin.SmallTypes.ownedTupleIsFree (.ref z) >>= _) _ _ _
  refine wpAny_bind ?_
  unfold Builtin.SmallTypes.ownedTupleIsFree
  refine wpAny_bind (wpAny_field hz rfl (x := .none) rfl (wpAny_pure ?_))
  simp only [if_true]
  refine wpAny_bind (wpAny_rule ?_)
  refine wpAny_bind (wpAny_field hz rfl (x := .ref TO) rfl ?_)
  refine wpAny_bind (wpAny_setField_rec hz (by simp) fun g0 hz0 hs0 => ?_)
  replace hz0 : IsZip g0 z TI TO .ellipsis := hz0
  replace hs0 : Heap.SameBut z hp g0 := hs0
  refine wpAny_bind ?_
  refine wpAny_forIn_list _ (fun rest b s' => b.1 = none ∧ ∃ dn rs ys g' tk', s' = ⟨g', g, d, tk', os⟩ ∧ ps = dn ++ rs ∧ rest = (itsOf rs).zipIdx dn.length ∧ AtI g' (i + 1) dn ∧ AtI g' i rs ∧ IsTupOf g' TO ys ∧ ys.length = ps.length ∧
    ys.take dn.length = colOf dn i ∧ IsZip g' z TI TO .ellipsis ∧ g'.objs.size = hp.objs.size ∧ ∀ c o, c ≠ z → c ≠ TO → NotIt ps c → hp.get? c = some o → g'.get? c = some o) _ ?turn ?fin _ _ ?start
  case start =>
    refine ⟨rfl, [], ps, ys0, g0, tk0, rfl, rfl, by simp, (fun _ h => nomatch h), ?_, hs0.extBut _ _ S0.TOz hTO, hy0, by simp, hz0, hs0.1, fun c o cz _ _ e => hs0.extBut _ _ cz e⟩
    exact st.mono fun p hp' o => ⟨fun e => hs0.extBut _ _ (S0.zi p hp').1.symm e, fun e => hs0.extBut _ _ (S0.zl p hp').1.symm e⟩
  case turn =>
    rintro ⟨iv, k⟩ rest b s' ⟨hb, dn, rs, ys, g', tk', rfl, eps, er, sd, sr, hT, hyl, hyt, hz', hsz, hk⟩
    cases rs with
    | nil => simp at er
    | cons p rs =>
      have hmem : p ∈ ps := by rw [eps]; exact List.mem_append_right _ List.mem_cons_self
      have hmd : ∀ q ∈ dn, q ∈ ps := fun q h => by rw [eps]; exact List.mem_append_left _ h
      have hmr : ∀ q ∈ rs, q ∈ ps := fun q h => by rw [eps]; exact List.mem_append_right _ (List.mem_cons_of_mem _ h)
      have nd := S0.nd
      rw [eps, List.map_append, List.map_cons] at nd
      have ndd : ∀ q ∈ dn, p.it ≠ q.it := fun q h e => (List.nodup_append.mp nd).2.2 q.it (List.mem_map.mpr ⟨q, h, rfl⟩) p.it List.mem_cons_self e.symm
      have ndr : ∀ q ∈ rs, p.it ≠ q.it := fun q h e => (List.nodup_cons.mp (List.nodup_append.mp nd).2.1).1 (List.mem_map.mpr ⟨q, h, e.symm⟩)
      rw [itsOf, List.map_cons, List.zipIdx_cons] at er
      injection er with e1 e2
      injection e1 with e3 e4
      subst e3 e4
      have D := src_draws (prog := prog) (w := w) (A := A) hh p (fun e => S0.il p hmem p hmem e.symm)
      refine wpAny_bind (wpAny_onRaise ?_)
      show wpAny _ _ (Builtin.SmallTypes.nextOf (.ref p.it) >>= _) _ _ ⟨g', g, d, tk', os⟩
      refine wpAny_bind (D.item i _ _ _ (by rw [hN p hmem]; exact hlt) (sr p List.mem_cons_self) fun x g1 tk1 hx sn hs1 => wpAny_pure ?_)
      replace hs1 : Heap.SameBut p.it g' g1 := hs1
      have hU : IsTupOf g1 TO ys := hs1.extBut _ _ (S0.zi p hmem).2.2 hT
      refine wpAny_bind (wpAny_seqItems (s := ⟨g1, g, d, tk1, os⟩) hU rfl ?_)
      refine wpAny_bind (updateSeq_tup (s := ⟨g1, g, d, tk1, os⟩) hU (by rw [hyl]; exact hlen) fun g2 hT2 hs2 => ?_)
      replace hs2 : Heap.SameBut TO g1 g2 := hs2
      refine wpAny_bind (wpAny_letGo (wpAny_pure ?_))
      have hl1 : dn.length < ys.length := by rw [hyl, eps, List.length_append, List.length_cons]; omega
      have hg : p.xs.getD i Value.none = x := by rw [Array.getD_eq_getD_getElem?, hx]; rfl
      refine ⟨rfl, dn ++ [p], rs, ys.set dn.length x, g2, tk1, rfl, by rw [eps, List.append_assoc]; rfl, by rw [e2, List.length_append]; rfl, ?_, ?_, hT2, by rw [List.length_set]; exact hyl, ?_, ?_, ?_, ?_⟩
      · intro q hq
        rcases List.mem_append.mp hq with hq | hq
        · exact (sd.mono (h' := g2) fun q hq o => ⟨fun e => hs2.extBut _ _ (S0.zi q (hmd q hq)).2.2.symm (hs1.extBut _ _ (ndd q hq).symm e), fun e => hs2.extBut _ _ (S0.zl q (hmd q hq)).2.symm (hs1.extBut _ _ (S0.il p hmem q (hmd q hq)).symm e)⟩) q hq
        · rw [List.mem_singleton.mp hq]
          exact D.over sn hs2 (by simp only [List.mem_cons, List.mem_nil_iff, or_false, not_or]; exact ⟨(S0.zi p hmem).2.2, (S0.zl p hmem).2⟩)
      · exact AtI.mono (h := g') (fun q hq => sr q (List.mem_cons_of_mem _ hq)) fun q hq o => ⟨fun e => hs2.extBut _ _ (S0.zi q (hmr q hq)).2.2.symm (hs1.extBut _ _ (ndr q hq).symm e), fun e => hs2.extBut _ _ (S0.zl q (hmr q hq)).2.symm (hs1.extBut _ _ (S0.il p hmem q (hmr q hq)).symm e)⟩
      · rw [List.length_append, List.length_singleton, colOf, List.map_append, List.map_cons, List.map_nil, hg]
        have : (ys.set dn.length x).take (dn.length + 1) = ys.take dn.length ++ [x] := by
          rw [List.take_add_one, List.take_set_of_le (Nat.le_refl _), List.getElem?_set_self hl1]
          rfl
        rw [this, hyt]
      · exact hs2.extBut _ _ S0.TOz.symm (hs1.extBut _ _ (S0.zi p hmem).1 hz')
      · rw [hs2.1, hs1.1, hsz]
      · exact fun c o cz cT ci e => hs2.extBut _ _ cT (hs1.extBut _ _ (ci p hmem) (hk c o cz cT ci e))
  case fin =>
    rintro b s' ⟨hb, dn, rs, ys, g2, tk2, rfl, eps, er, sd, sr, hT2, hyl, hyt, hzz, hsz, hkk⟩
    have ers : rs = [] := by
      cases rs with
      | nil => rfl
      | cons p rs => simp at er
    subst ers
    rw [List.append_nil] at eps
    subst eps
    rw [← hyl, List.take_length] at hyt
    subst hyt
    obtain ⟨b1, b2⟩ := b
    have hb' : b1 = none := hb
    subst hb'
    dsimp only
    refine wpAny_bind (wpAny_seqItems (s := ⟨g2, g, d, tk2, os⟩) hT2 rfl ?_)
    refine wpAny_bind (wpAny_newTuple ?_)
    have hzlt : z < g2.objs.size := Heap.lt_size hzz
    have el : (colOf ps i).toArray.toList = colOf ps i := rfl
    rw [el]
    show wpAny _ _ (Builtin.SmallTypes.ownedTupleHandOut (.ref z) (.ref g2.objs.size) >>= _) _ _ ⟨g2.push { cls := .type "tuple", data := .seq (colOf ps i).toArray }, g, d, tk2, os⟩
    refine wpAny_bind ?_
    unfold Builtin.SmallTypes.ownedTupleHandOut
    have hz₆ : IsZip (g2.push { cls := .type "tuple", data := .seq (colOf ps i).toArray }) z TI TO .ellipsis := Heap.get?_push_of_some _ hzz
    refine wpAny_bind (wpAny_setField_rec hz₆ (by simp) fun h₇ hz₇ hs₇ => ?_)
    replace hz₇ : IsZip h₇ z TI TO (rawInt g2.objs.size) := hz₇
    refine wpAny_setField_rec hz₇ (by simp) fun h₈ hz₈ hs₈ => ?_
    replace hz₈ : IsZip h₈ z TI TO (rawInt g2.objs.size) := hz₈
    replace hs₇ : Heap.SameBut z (g2.push { cls := .type "tuple", data := .seq (colOf ps i).toArray }) h₇ := hs₇
    replace hs₈ : Heap.SameBut z h₇ h₈ := hs₈
    have up : ∀ c o, c ≠ z → g2.get? c = some o → h₈.get? c = some o := fun c o c1 e => hs₈.extBut _ _ c1 (hs₇.extBut _ _ c1 (Heap.get?_push_of_some _ e))
    have hT₈ : IsTupOf h₈ g2.objs.size (colOf ps i) := hs₈.extBut _ _ (Nat.ne_of_gt hzlt) (hs₇.extBut _ _ (Nat.ne_of_gt hzlt) (Heap.get?_push_size _ rfl))
    have hz8 : h₈.objs.size = g2.objs.size + 1 := by rw [hs₈.1, hs₇.1, Heap.size_push]
    rw [hsz] at hz₈ hT₈ hz8
    refine wpAny_pure ⟨_, rfl, ?_⟩
    show Q (.ref g2.objs.size) ⟨h₈, g, d, tk2, os⟩
    rw [hsz]
    exact hQ h₈ tk2 hz₈ (sd.mono fun p hp' o => ⟨fun e => up _ _ (S0.zi p hp').1.symm e, fun e => up _ _ (S0.zl p hp').1.symm e⟩) hT₈ hz8 fun c o cz cT ci e => up c o cz (hkk c o cz cT ci e)
end
end Ow

set_option Elab.async false
set_option linter.all false
set_option maxRecDepth 100000
set_option maxHeartbeats 4000000
namespace Ow
open PySem PySem.Spec PyProof.Rows
open Sem (wp)
section
variable {prog : Program} {w : World} {A : Around} {E : Value → Shared → Prop} {s : Shared} {z TI TO T S : Addr} {ps : List ZSrc} {i N : Nat} {oT : Obj}
/-- a later next: the tuple that was handed out is still held -/
theorem zn_more {Q : Value → Shared → Prop} (hh : A.handled = none) (S0 : ZA z TI TO ps S) (hlen : ps.length ≤ sizeLine) (hz : ZipO s.heap z TI TO T) (hT : s.heap.get? T = some oT) (hTI : IsTupOf s.heap TI (itsOf ps))
    (st : AtI s.heap i ps) (hne : ps ≠ []) (hN : ∀ p ∈ ps, p.xs.size = N) (hlt : i < N)
    (hQ : ∀ h' tk, ZipO h' z TI TO T → AtI h' (i + 1) ps → IsTupOf h' s.heap.objs.size (colOf ps i) → h'.objs.size = s.heap.objs.size + 1 →
      (∀ c o, c ≠ z → NotIt ps c → s.heap.get? c = some o → h'.get? c = some o) → Q (.ref s.heap.objs.size) { s with heap := h', toks := tk }) :
    wpAny (model prog w) A (Builtin.«zip.__next__» ⟨[.ref z], []⟩) (fun fin s' => ∃ v, fin = .done (.ret v) ∧ Q v s') E s := by
  obtain ⟨hp, g, d, tk0, os⟩ := s
  obtain ⟨fl, hz0⟩ := id hz
  show wpAny _ _ (field (.ref z) 2 >>= _) _ _ _
  refine wpAny_bind (wpAny_field hz0 rfl (x := .bool false) rfl ?_)
  show wpAny _ _ (field (.ref z) 3 >>= _) _ _ _
  refine wpAny_bind (wpAny_field hz0 rfl (x := .ref TI) rfl ?_)
  refine wpAny_bind (wpAny_seqItems hTI rfl ?_)
  have ne : ((itsOf ps).toArray).isEmpty = false := by
    cases ps with
    | nil => exact absurd rfl hne
    | cons p ps => rfl
  dsimp only
  rw [ne]
  simp only [Bool.false_eq_true, if_false]
  show wpAny _ _ (Builtin.SmallTypes.ownedTupleIsFree (.ref z) >>= _) _ _ _
  refine wpAny_bind (zipO_free hz hT fun g0 hz1 hs0 => ?_)
  simp only [Bool.false_eq_true, if_false]
  have hs0' : Heap.SameBut z hp g0 := hs0
  rw [← Array.forIn_toList]
  refine wpAny_bind ?_
  refine wpAny_forIn_list _ (fun rest b s' => b.1 = none ∧ ∃ dn rs g' tk', s' = ⟨g', g, d, tk', os⟩ ∧ ps = dn ++ rs ∧ rest = itsOf rs ∧ AtI g' (i + 1) dn ∧ AtI g' i rs ∧ b.2.toList = colOf dn i ∧
    ZipO g' z TI TO T ∧ g'.objs.size = hp.objs.size ∧ ∀ c o, c ≠ z → NotIt ps c → hp.get? c = some o → g'.get? c = some o) _ ?turn ?fin _ _ ?start
  case start =>
    refine ⟨rfl, [], ps, g0, tk0, rfl, rfl, rfl, (fun _ h => nomatch h), ?_, rfl, hz1, hs0.1, fun c o cz _ e => hs0.extBut _ _ cz e⟩
    exact st.mono fun p hp' o => ⟨fun e => hs0.extBut _ _ (S0.zi p hp').1.symm e, fun e => hs0.extBut _ _ (S0.zl p hp').1.symm e⟩
  case turn =>
    rintro iv rest b s' ⟨hb, dn, rs, g', tk', rfl, eps, er, sd, sr, hbl, hz', hsz, hk⟩
    cases rs with
    | nil => simp at er
    | cons p rs =>
      have hmem : p ∈ ps := by rw [eps]; exact List.mem_append_right _ List.mem_cons_self
      have hmd : ∀ q ∈ dn, q ∈ ps := fun q h => by rw [eps]; exact List.mem_append_left _ h
      have hmr : ∀ q ∈ rs, q ∈ ps := fun q h => by rw [eps]; exact List.mem_append_right _ (List.mem_cons_of_mem _ h)
      have nd := S0.nd
      rw [eps, List.map_append, List.map_cons] at nd
      have ndd : ∀ q ∈ dn, p.it ≠ q.it := fun q h e => (List.nodup_append.mp nd).2.2 q.it (List.mem_map.mpr ⟨q, h, rfl⟩) p.it List.mem_cons_self e.symm
      have ndr : ∀ q ∈ rs, p.it ≠ q.it := fun q h e => (List.nodup_cons.mp (List.nodup_append.mp nd).2.1).1 (List.mem_map.mpr ⟨q, h, e.symm⟩)
      rw [itsOf, List.map_cons] at er
      injection er with e3 e2
      subst e3
      have D := src_draws (prog := prog) (w := w) (A := A) hh p (fun e => S0.il p hmem p hmem e.symm)
      refine wpAny_bind (wpAny_holding ?_)
      show wpAny _ _ (Builtin.SmallTypes.nextOf (.ref p.it) >>= _) _ _ ⟨g', g, d, tk', os⟩
      refine wpAny_bind (D.item i _ _ _ (by rw [hN p hmem]; exact hlt) (sr p List.mem_cons_self) fun x g1 tk1 hx sn hs1 => wpAny_pure ?_)
      replace hs1 : Heap.SameBut p.it g' g1 := hs1
      refine wpAny_pure ?_
      have hg : p.xs.getD i Value.none = x := by rw [Array.getD_eq_getD_getElem?, hx]; rfl
      refine ⟨rfl, dn ++ [p], rs, g1, tk1, rfl, by rw [eps, List.append_assoc]; rfl, e2, ?_, ?_, ?_, ?_, ?_, ?_⟩
      · intro q hq
        rcases List.mem_append.mp hq with hq | hq
        · exact (sd.mono (h' := g1) fun q hq o => ⟨fun e => hs1.extBut _ _ (ndd q hq).symm e, fun e => hs1.extBut _ _ (S0.il p hmem q (hmd q hq)).symm e⟩) q hq
        · rw [List.mem_singleton.mp hq]
          exact sn
      · exact AtI.mono (h := g') (fun q hq => sr q (List.mem_cons_of_mem _ hq)) fun q hq o => ⟨fun e => hs1.extBut _ _ (ndr q hq).symm e, fun e => hs1.extBut _ _ (S0.il p hmem q (hmr q hq)).symm e⟩
      · show (b.2.push x).toList = _
        rw [Array.toList_push, hbl, colOf, colOf, List.map_append, List.map_cons, List.map_nil, hg]
      · obtain ⟨f2, hz2⟩ := hz'
        exact ⟨f2, hs1.extBut _ _ (S0.zi p hmem).1 hz2⟩
      · rw [hs1.1, hsz]
      · exact fun c o cz ci e => hs1.extBut _ _ (ci p hmem) (hk c o cz ci e)
  case fin =>
    rintro b s' ⟨hb, dn, rs, g2, tk2, rfl, eps, er, sd, sr, hbl, hzz, hsz, hkk⟩
    have ers : rs = [] := by
      cases rs with
      | nil => rfl
      | cons p rs => simp at er
    subst ers
    rw [List.append_nil] at eps
    subst eps
    obtain ⟨b1, b2⟩ := b
    have hb' : b1 = none := hb
    subst hb'
    dsimp only
    show wpAny _ _ (newTuple b2.toList >>= _) _ _ ⟨g2, g, d, tk2, os⟩
    rw [show b2.toList = colOf ps i from hbl]
    refine wpAny_bind (wpAny_newTuple ?_ (by rw [colOf, List.length_map]; exact hlen))
    refine wpAny_pure ⟨_, rfl, ?_⟩
    have up : ∀ c o, g2.get? c = some o → (g2.push { cls := .type "tuple", data := .seq (colOf ps i).toArray }).get? c = some o := fun c o e => Heap.get?_push_of_some _ e
    obtain ⟨f2, hz2⟩ := hzz
    have hT8 : IsTupOf (g2.push { cls := .type "tuple", data := .seq (colOf ps i).toArray }) g2.objs.size (colOf ps i) := Heap.get?_push_size _ rfl
    have hz8 : (g2.push { cls := .type "tuple", data := .seq (colOf ps i).toArray }).objs.size = g2.objs.size + 1 := Heap.size_push ..
    rw [hsz] at hT8 hz8
    show Q (.ref g2.objs.size) _
    rw [hsz]
    exact hQ _ tk2 ⟨f2, up _ _ hz2⟩ (sd.mono fun p hp' o => ⟨up _ _, up _ _⟩) hT8 hz8 fun c o cz ci e => up c o (hkk c o cz ci e)
/-- no turn is left -/
theorem zn_endF {Q : Fin → Shared → Prop} (hh : A.handled = none) (S0 : ZA z TI TO ps S) (hz : IsZip s.heap z TI TO .none) (hTI : IsTupOf s.heap TI (itsOf ps)) (st : AtI s.heap N ps) (hne : ps ≠ []) (hN : ∀ p ∈ ps, p.xs.size = N)
    (hE : ∀ h' tk e, (∀ c o, c ≠ z → NotIt ps c → s.heap.get? c = some o → h'.get? c = some o) → (∃ o, h'.get? e = some o ∧ o.cls = .type "StopIteration") → E (.ref e) { s with heap := h', toks := tk }) :
    wpAny (model prog w) A (Builtin.«zip.__next__» ⟨[.ref z], []⟩) Q E s := by
  obtain ⟨hp, g, d, tk0, os⟩ := s
  show wpAny _ _ (field (.ref z) 2 >>= _) _ _ _
  refine wpAny_bind (wpAny_field hz rfl (x := .bool false) rfl ?_)
  show wpAny _ _ (field (.ref z) 3 >>= _) _ _ _
  refine wpAny_bind (wpAny_field hz rfl (x := .ref TI) rfl ?_)
  refine wpAny_bind (wpAny_seqItems hTI rfl ?_)
  cases ps with
  | nil => exact absurd rfl hne
  | cons p ps =>
    dsimp only
    rw [show ((itsOf (p :: ps)).toArray).isEmpty = false from rfl]
    simp only [Bool.false_eq_true, if_false]
    show wpAny _ _ (Builtin.SmallTypes.ownedTupleIsFree (.ref z) >>= _) _ _ _
    refine wpAny_bind ?_
    unfold Builtin.SmallTypes.ownedTupleIsFree
    refine wpAny_bind (wpAny_field hz rfl (x := .none) rfl (wpAny_pure ?_))
    simp only [if_true]
    refine wpAny_bind (wpAny_rule ?_)
    refine wpAny_bind (wpAny_field hz rfl (x := .ref TO) rfl ?_)
    refine wpAny_bind (wpAny_setField_rec hz (by simp) fun g0 hz0 hs0 => ?_)
    replace hz0 : IsZip g0 z TI TO .ellipsis := hz0
    replace hs0 : Heap.SameBut z hp g0 := hs0
    refine wpAny_bind ?_
    have hmem : p ∈ p :: ps := List.mem_cons_self
    have D := src_draws (prog := prog) (w := w) (A := A) hh p (fun e => S0.il p hmem p hmem e.symm)
    simp only [itsOf, List.map_cons, List.zipIdx_cons, List.forIn_cons]
    refine wpAny_bind (wpAny_bind (wpAny_onRaise ?_))
    show wpAny _ _ (Builtin.SmallTypes.nextOf (.ref p.it) >>= _) _ _ ⟨g0, g, d, tk0, os⟩
    have st1 := (st.mono (h' := g0) fun p hp' o => ⟨fun e => hs0.extBut _ _ (S0.zi p hp').1.symm e, fun e => hs0.extBut _ _ (S0.zl p hp').1.symm e⟩) p hmem
    refine wpAny_bind (D.done ⟨g0, g, d, tk0, os⟩ _ _ (by rw [hN p hmem]; exact st1) fun q e hq he => ?_)
    replace hq : Heap.ExtBut p.it g0 q := hq
    obtain ⟨oe, hoe, hce⟩ := he
    replace hoe : q.get? e = some oe := hoe
    have hzq : IsZip q z TI TO .ellipsis := hq _ _ (S0.zi p hmem).1 hz0
    have hez : e ≠ z := fun x => by subst x; rw [hzq] at hoe; cases hoe; simp at hce
    refine wpAny_setField_rec (s := ⟨q, g, d, tk0, os⟩) hzq (by simp) fun q' _ hq' => ?_
    replace hq' : Heap.SameBut z q q' := hq'
    exact hE q' tk0 e (fun c o cz ci x => hq'.extBut _ _ cz (hq _ _ (ci p hmem) (hs0.extBut _ _ cz x))) ⟨oe, hq'.extBut _ _ hez hoe, hce⟩
theorem zn_endM {Q : Fin → Shared → Prop} (hh : A.handled = none) (S0 : ZA z TI TO ps S) (hz : ZipO s.heap z TI TO T) (hT : s.heap.get? T = some oT) (hTI : IsTupOf s.heap TI (itsOf ps)) (st : AtI s.heap N ps) (hne : ps ≠ []) (hN : ∀ p ∈ ps, p.xs.size = N)
    (hE : ∀ h' tk e, (∀ c o, c ≠ z → NotIt ps c → s.heap.get? c = some o → h'.get? c = some o) → (∃ o, h'.get? e = some o ∧ o.cls = .type "StopIteration") → E (.ref e) { s with heap := h', toks := tk }) :
    wpAny (model prog w) A (Builtin.«zip.__next__» ⟨[.ref z], []⟩) Q E s := by
  obtain ⟨hp, g, d, tk0, os⟩ := s
  obtain ⟨fl, hz0⟩ := id hz
  show wpAny _ _ (field (.ref z) 2 >>= _) _ _ _
  refine wpAny_bind (wpAny_field hz0 rfl (x := .bool false) rfl ?_)
  show wpAny _ _ (field (.ref z) 3 >>= _) _ _ _
  refine wpAny_bind (wpAny_field hz0 rfl (x := .ref TI) rfl ?_)
  refine wpAny_bind (wpAny_seqItems hTI rfl ?_)
  cases ps with
  | nil => exact absurd rfl hne
  | cons p ps =>
    dsimp only
    rw [show ((itsOf (p :: ps)).toArray).isEmpty = false from rfl]
    simp only [Bool.false_eq_true, if_false]
    show wpAny _ _ (Builtin.SmallTypes.ownedTupleIsFree (.ref z) >>= _) _ _ _
    refine wpAny_bind (zipO_free hz hT fun g0 hz1 hs0 => ?_)
    simp only [Bool.false_eq_true, if_false]
    have hs0' : Heap.SameBut z hp g0 := hs0
    rw [← Array.forIn_toList]
    have hmem : p ∈ p :: ps := List.mem_cons_self
    have D := src_draws (prog := prog) (w := w) (A := A) hh p (fun e => S0.il p hmem p hmem e.symm)
    simp only [itsOf, List.map_cons, List.forIn_cons]
    refine wpAny_bind (wpAny_bind (wpAny_bind (wpAny_holding ?_)))
    show wpAny _ _ (Builtin.SmallTypes.nextOf (.ref p.it) >>= _) _ _ ⟨g0, g, d, tk0, os⟩
    have st1 := (st.mono (h' := g0) fun p hp' o => ⟨fun e => hs0'.extBut _ _ (S0.zi p hp').1.symm e, fun e => hs0'.extBut _ _ (S0.zl p hp').1.symm e⟩) p hmem
    refine wpAny_bind (D.done ⟨g0, g, d, tk0, os⟩ _ _ (by rw [hN p hmem]; exact st1) fun q e hq he => ?_)
    exact hE q tk0 e (fun c o cz ci x => hq _ _ (ci p hmem) (hs0'.extBut _ _ cz x)) he
/-! ### next(zip), before and behind the first item -/
def ZnS (h : Heap) (z TI TO : Addr) (ps : List ZSrc) (lo : Addr) : Prop := (IsZip h z TI TO .none ∧ ∃ ys, IsTupOf h TO ys ∧ ys.length = ps.length) ∨ ∃ T oT, ZipO h z TI TO T ∧ h.get? T = some oT ∧ lo < T
theorem znS_item {Q : Option Value → Shared → Prop} (hh : A.in1.handled = none) (S0 : ZA z TI TO ps S) (hlen : ps.length ≤ sizeLine) (hz : ZnS s.heap z TI TO ps S) (hlo : S < s.heap.objs.size) (hTI : IsTupOf s.heap TI (itsOf ps))
    (st : AtI s.heap i ps) (hne : ps ≠ []) (hN : ∀ p ∈ ps, p.xs.size = N) (hlt : i < N)
    (hQ : ∀ h' tk, ZnS h' z TI TO ps S → IsTupOf h' TI (itsOf ps) → AtI h' (i + 1) ps → IsTupOf h' s.heap.objs.size (colOf ps i) → h'.objs.size = s.heap.objs.size + 1 →
      (∀ c o, c ≠ z → c ≠ TO → NotIt ps c → s.heap.get? c = some o → h'.get? c = some o) → Q (some (.ref s.heap.objs.size)) { s with heap := h', toks := tk }) :
    wpAny (model prog w) A (pyNext (.ref z)) Q E s := by
  have nTI : NotIt ps TI := fun p hp => (S0.zi p hp).2.1
  rcases hz with ⟨hz, ys, hTO, hyl⟩ | ⟨T, oT, hz, hT, hl⟩
  · have hTy : s.TypeIs (.ref z) "zip" := ⟨_, hz, rfl⟩
    unfold pyNext
    refine wpAny_bind (wpAny_attempt (wpAny_callSpecial?_slot (name := Str.ofString "__next__") hTy PySem.F.slot_zip_next (wpAny_call_entry PySem.F.slot_zip_next hTy PySem.F.entry_zip_next
      (zn_first hh S0 hlen hz hTI hTO hyl st hne hN hlt fun h' tk hz' st' hn hsz hk => wpAny_pure ?_) (PySem.F.args_zip_next_1 _))))
    exact hQ h' tk (.inr ⟨s.heap.objs.size, _, ⟨false, hz'⟩, hn, hlo⟩) (hk _ _ S0.TIz S0.TITO nTI hTI) st' hn hsz hk
  · obtain ⟨fl, hz0⟩ := id hz
    have hTy : s.TypeIs (.ref z) "zip" := ⟨_, hz0, rfl⟩
    unfold pyNext
    refine wpAny_bind (wpAny_attempt (wpAny_callSpecial?_slot (name := Str.ofString "__next__") hTy PySem.F.slot_zip_next (wpAny_call_entry PySem.F.slot_zip_next hTy PySem.F.entry_zip_next
      (zn_more hh S0 hlen hz hT hTI st hne hN hlt fun h' tk hz' st' hn hsz hk => wpAny_pure ?_) (PySem.F.args_zip_next_1 _))))
    have nT : ∀ x, x < S → T ≠ x := fun x hx e => by rw [e] at hl; exact absurd (Nat.lt_trans hl hx) (Nat.lt_irrefl _)
    exact hQ h' tk (.inr ⟨T, oT, hz', hk T oT (nT z S0.bz) (fun p hp => nT p.it (S0.bi p hp)) hT, hl⟩) (hk _ _ S0.TIz nTI hTI) st' hn hsz fun c o cz _ ci e => hk c o cz ci e
theorem znS_end {Q : Option Value → Shared → Prop} (hh : A.in1.handled = none) (S0 : ZA z TI TO ps S) (hz : ZnS s.heap z TI TO ps S) (hTI : IsTupOf s.heap TI (itsOf ps)) (st : AtI s.heap N ps) (hne : ps ≠ []) (hN : ∀ p ∈ ps, p.xs.size = N)
    (hQ : ∀ h' tk, (∀ c o, c ≠ z → NotIt ps c → s.heap.get? c = some o → h'.get? c = some o) → Q none { s with heap := h', toks := tk }) : wpAny (model prog w) A (pyNext (.ref z)) Q E s := by
  rcases hz with ⟨hz, ys, hTO, hyl⟩ | ⟨T, oT, hz, hT, hl⟩
  · have hTy : s.TypeIs (.ref z) "zip" := ⟨_, hz, rfl⟩
    unfold pyNext
    refine wpAny_bind (wpAny_attempt (wpAny_callSpecial?_slot (name := Str.ofString "__next__") hTy PySem.F.slot_zip_next (wpAny_call_entry PySem.F.slot_zip_next hTy PySem.F.entry_zip_next
      (zn_endF hh S0 hz hTI st hne hN fun h' tk e hk he => ?_) (PySem.F.args_zip_next_1 _))))
    obtain ⟨o, ho, hc⟩ := he
    refine wpAny_bind (wpAny_isInstance (T := "StopIteration") (b := true) ⟨o, ho, hc⟩ isSubtype_stop ?_)
    exact wpAny_pure (hQ _ _ hk)
  · obtain ⟨fl, hz0⟩ := id hz
    have hTy : s.TypeIs (.ref z) "zip" := ⟨_, hz0, rfl⟩
    unfold pyNext
    refine wpAny_bind (wpAny_attempt (wpAny_callSpecial?_slot (name := Str.ofString "__next__") hTy PySem.F.slot_zip_next (wpAny_call_entry PySem.F.slot_zip_next hTy PySem.F.entry_zip_next
      (zn_endM hh S0 hz hT hTI st hne hN fun h' tk e hk he => ?_) (PySem.F.args_zip_next_1 _))))
    obtain ⟨o, ho, hc⟩ := he
    refine wpAny_bind (wpAny_isInstance (T := "StopIteration") (b := true) ⟨o, ho, hc⟩ isSubtype_stop ?_)
    exact wpAny_pure (hQ _ _ hk)
end
end Ow

set_option Elab.async false
set_option linter.all false
set_option maxRecDepth 100000
set_option maxHeartbeats 4000000
namespace Ow
open PySem PySem.Spec PyProof.Rows
open Sem (wp)
def srcs : Nat → List (Addr × Array Value) → List ZSrc
  | _, [] => []
  | n, p :: r => ⟨n, p.1, p.2⟩ :: srcs (n + 1) r
theorem srcs_app : ∀ (a : List (Addr × Array Value)) (n : Nat) (p : Addr × Array Value), srcs n (a ++ [p]) = srcs n a ++ [⟨n + a.length, p.1, p.2⟩]
  | [], n, p => rfl
  | q :: a, n, p => by
    show _ :: srcs (n + 1) (a ++ [p]) = _ :: (srcs (n + 1) a ++ _)
    rw [srcs_app a (n + 1) p, List.length_cons, Nat.add_right_comm, Nat.add_assoc n]
theorem srcs_it : ∀ {ls : List (Addr × Array Value)} {n : Nat} {p : ZSrc}, p ∈ srcs n ls → n ≤ p.it ∧ (p.it : Nat) < n + ls.length
  | [], n, p, h => nomatch h
  | q :: a, n, p, h => by
    rcases List.mem_cons.mp h with rfl | h
    · exact ⟨Nat.le_refl _, by rw [List.length_cons]; show n < _; omega⟩
    · obtain ⟨h1, h2⟩ := srcs_it h
      rw [List.length_cons]
      exact ⟨Nat.le_trans (Nat.le_succ n) h1, Nat.lt_of_lt_of_le h2 (by omega)⟩
theorem srcs_src : ∀ {ls : List (Addr × Array Value)} {n : Nat} {p : ZSrc}, p ∈ srcs n ls → (p.l, p.xs) ∈ ls
  | [], n, p, h => nomatch h
  | q :: a, n, p, h => by
    rcases List.mem_cons.mp h with rfl | h
    · exact List.mem_cons_self
    · exact List.mem_cons_of_mem _ (srcs_src h)
theorem srcs_nd : ∀ (ls : List (Addr × Array Value)) (n : Nat), ((srcs n ls).map (·.it)).Nodup
  | [], n => List.nodup_nil
  | q :: a, n => by
    refine List.nodup_cons.mpr ⟨fun h => ?_, srcs_nd a (n + 1)⟩
    obtain ⟨p, hp, e⟩ := List.mem_map.mp h
    have := (srcs_it hp).1
    have e' : n = p.it := e.symm
    rw [← e'] at this
    exact absurd this (Nat.not_succ_le_self n)
theorem srcs_len : ∀ (ls : List (Addr × Array Value)) (n : Nat), (srcs n ls).length = ls.length
  | [], n => rfl
  | q :: a, n => by rw [srcs, List.length_cons, List.length_cons, srcs_len a (n + 1)]
theorem tupIter_new {h : Heap} {l : Addr} : (h.push { cls := .type "tuple_iterator", data := .fields #[.ref l, .int 0 0] }).IsTupleIter h.objs.size l 0 := ⟨_, Heap.get?_push_size _ rfl, rfl, rfl⟩
theorem meets_zipN (ls : List (Addr × Array Value)) :
    Meets (Builtin.«zip.__new__» ⟨.type "zip" :: ls.map (fun p => .ref p.1), []⟩) (fun _ R s => (∀ p ∈ ls, s.heap.IsTuple p.1 p.2) ∧ ls.length ≤ sizeLine ∧
      ∀ h', IsZip h' (s.heap.objs.size + ls.length + 2) (s.heap.objs.size + ls.length) (s.heap.objs.size + ls.length + 1) .none → IsTupOf h' (s.heap.objs.size + ls.length) (itsOf (srcs s.heap.objs.size ls)) →
        (∃ ys, IsTupOf h' (s.heap.objs.size + ls.length + 1) ys ∧ ys.length = ls.length) → AtI h' 0 (srcs s.heap.objs.size ls) → h'.objs.size = s.heap.objs.size + ls.length + 3 → (∀ c o, s.heap.get? c = some o → h'.get? c = some o) →
        R (.ok (.ret (.ref (s.heap.objs.size + ls.length + 2)))) { s with heap := h' }) :=
  .of_wp fun prog w A R s h => by
    obtain ⟨hp, g, d, tk, os⟩ := s
    obtain ⟨hl, hn, h⟩ := h
    have hsub := sub_zip
    wp_walk using wpAny_forIn_list _ (fun rest b s' => ∃ dn rs g', s' = ⟨g', g, d, tk, os⟩ ∧ ls = dn ++ rs ∧ rest = rs.map (fun p => Value.ref p.1) ∧ b.toList = itsOf (srcs hp.objs.size dn) ∧ g'.objs.size = hp.objs.size + dn.length ∧
      AtI g' 0 (srcs hp.objs.size dn) ∧ ∀ c o, hp.get? c = some o → g'.get? c = some o) _
    case turn =>
      rintro iv rest b s' ⟨dn, rs, g', rfl, els, er, hb, hsz, hat, hk⟩
      cases rs with
      | nil => simp at er
      | cons p rs =>
        rw [List.map_cons] at er
        injection er with e1 e2
        subst e1
        have hp' := hl p (by rw [els]; exact List.mem_append_right _ List.mem_cons_self)
        obtain ⟨o, ho, hr⟩ := hp'
        have up : ∀ c o, g'.get? c = some o → (g'.push { cls := .type "tuple_iterator", data := .fields #[.ref p.1, .int 0 0] }).get? c = some o := fun c o e => Heap.get?_push_of_some _ e
        refine wpAny_bind (wpAny_holding (wpAny_pyIter_tuple (s := ⟨g', g, d, tk, os⟩) ⟨o, hk _ _ ho, hr⟩ (wpAny_pure ?_)))
        refine ⟨dn ++ [p], rs, _, rfl, by rw [els, List.append_assoc]; rfl, e2, ?_, ?_, ?_, fun c o e => up c o (hk c o e)⟩
        · rw [Array.toList_push, hb, srcs_app, itsOf, itsOf, List.map_append, List.map_cons, List.map_nil]
          show _ ++ [Value.ref g'.objs.size] = _
          rw [hsz]
        · show (Heap.push _ _).objs.size = _
          rw [Heap.size_push, hsz, List.length_append, List.length_singleton, Nat.add_assoc]
        · rw [srcs_app]
          intro q hq
          rcases List.mem_append.mp hq with hq | hq
          · exact (hat.mono fun q _ o => ⟨up _ _, up _ _⟩) q hq
          · rw [List.mem_singleton.mp hq]
            dsimp only
            rw [← hsz]
            exact ⟨tupIter_new, o, up _ _ (hk _ _ ho), hr⟩
    case fin =>
      rintro b s' ⟨dn, rs, g', rfl, els, er, hb, hsz, hat, hk⟩
      have ers : rs = [] := by
        cases rs with
        | nil => rfl
        | cons p rs => simp at er
      subst ers
      rw [List.append_nil] at els
      subst els
      have h0 : ∀ h' : Heap, IsZip h' (hp.objs.size + ls.length + 2) (hp.objs.size + ls.length) (hp.objs.size + ls.length + 1) .none → IsTupOf h' (hp.objs.size + ls.length) (itsOf (srcs hp.objs.size ls)) →
        (∃ ys, IsTupOf h' (hp.objs.size + ls.length + 1) ys ∧ ys.length = ls.length) → AtI h' 0 (srcs hp.objs.size ls) → h'.objs.size = hp.objs.size + ls.length + 3 → (∀ c o, hp.get? c = some o → h'.get? c = some o) →
        R (.ok (.ret (.ref (hp.objs.size + ls.length + 2)))) ⟨h', g, d, tk, os⟩ := h
      refine wpAny_pure ?_
      rw [hb]
      refine wpAny_bind (wpAny_newTuple ?_ (by rw [itsOf, List.length_map, srcs_len]; exact hn))
      refine wpAny_bind (wpAny_newTuple ?_ (by rw [List.length_map, itsOf, List.length_map, srcs_len]; exact hn))
      show wpAny _ _ (newObj (.type "zip") (.fields #[.none, .bool false, .bool false, .ref g'.objs.size, .ref (g'.push { cls := .type "tuple", data := .seq (itsOf (srcs hp.objs.size ls)).toArray }).objs.size]) >>= _) _ _ _
      refine wpAny_bind (wpAny_newObj_type ?_)
      have z1 : (g'.push { cls := .type "tuple", data := .seq (itsOf (srcs hp.objs.size ls)).toArray }).objs.size = hp.objs.size + ls.length + 1 := by rw [Heap.size_push, hsz]
      have z2 : ((g'.push { cls := .type "tuple", data := .seq (itsOf (srcs hp.objs.size ls)).toArray }).push { cls := .type "tuple", data := .seq ((itsOf (srcs hp.objs.size ls)).map fun _ => Value.none).toArray }).objs.size = hp.objs.size + ls.length + 2 := by rw [Heap.size_push, z1]
      refine wpAny_pure ⟨_, rfl, ?_⟩
      show R (.ok (.ret (.ref (Heap.push _ _).objs.size))) _
      rw [z2]
      have up : ∀ c o, g'.get? c = some o → _ := fun c o e => Heap.get?_push_of_some { cls := .type "zip", data := .fields #[.none, .bool false, .bool false, .ref g'.objs.size, .ref (g'.push { cls := .type "tuple", data := .seq (itsOf (srcs hp.objs.size ls)).toArray }).objs.size] }
        (Heap.get?_push_of_some { cls := .type "tuple", data := .seq ((itsOf (srcs hp.objs.size ls)).map fun _ => Value.none).toArray } (Heap.get?_push_of_some { cls := .type "tuple", data := .seq (itsOf (srcs hp.objs.size ls)).toArray } e))
      refine h0 _ ?_ ?_ ⟨(itsOf (srcs hp.objs.size ls)).map fun _ => Value.none, ?_, by rw [List.length_map, itsOf, List.length_map, srcs_len]⟩ (hat.mono fun q _ o => ⟨up _ _, up _ _⟩) ?_ fun c o e => up c o (hk c o e)
      · have e3 := Heap.get?_push_size ((g'.push { cls := .type "tuple", data := .seq (itsOf (srcs hp.objs.size ls)).toArray }).push { cls := .type "tuple", data := .seq ((itsOf (srcs hp.objs.size ls)).map fun _ => Value.none).toArray }) (o := { cls := .type "zip", data := .fields #[.none, .bool false, .bool false, .ref g'.objs.size, .ref (g'.push { cls := .type "tuple", data := .seq (itsOf (srcs hp.objs.size ls)).toArray }).objs.size] }) rfl
        rw [z2] at e3
        refine Eq.trans e3 ?_
        rw [z1, hsz]
      · have e1 := Heap.get?_push_size g' (o := { cls := .type "tuple", data := .seq (itsOf (srcs hp.objs.size ls)).toArray }) rfl
        rw [hsz] at e1
        exact Heap.get?_push_of_some _ (Heap.get?_push_of_some _ e1)
      · have e2 := Heap.get?_push_size (g'.push { cls := .type "tuple", data := .seq (itsOf (srcs hp.objs.size ls)).toArray }) (o := { cls := .type "tuple", data := .seq ((itsOf (srcs hp.objs.size ls)).map fun _ => Value.none).toArray }) rfl
        rw [z1] at e2
        exact Heap.get?_push_of_some _ e2
      · show (Heap.push _ _).objs.size = _
        rw [Heap.size_push, z2]
    case h => exact ⟨[], ls, hp, rfl, rfl, rfl, rfl, rfl, (fun _ h => nomatch h), fun _ _ e => e⟩
end Ow

set_option Elab.async false
set_option linter.all false
set_option maxRecDepth 100000
set_option maxHeartbeats 4000000
namespace Ow
open PySem PySem.Spec PyProof.Rows
open Sem (wp)
theorem tc_zipN (args : List Value) : checkTypeCall "zip" ⟨args, []⟩ = pure () := by kernel_rfl
theorem nc_zipN : ∀ (args : List Value), args.length ≤ 6 → checkBuiltinCall "zip.__new__" ⟨.type "zip" :: args, []⟩ = pure ()
  | [], _ => by kernel_rfl
  | [_], _ => by kernel_rfl
  | [_, _], _ => by kernel_rfl
  | [_, _, _], _ => by kernel_rfl
  | [_, _, _, _], _ => by kernel_rfl
  | [_, _, _, _, _], _ => by kernel_rfl
  | [_, _, _, _, _, _], _ => by kernel_rfl
  | _ :: _ :: _ :: _ :: _ :: _ :: _ :: _, h => by simp at h
theorem ao_zipN (o : Value) (args : List Value) : argsOk "object.__init__" ⟨o :: args, []⟩ := by
  unfold argsOk; rw [signature?_of (id := "object.__init__") (n := ['_', '_', 't', 'i', 'n', 'i', '_', '_']) (o := ['t', 'c', 'e', 'j', 'b', 'o']) (by kernel_rfl) PySem.F.owner_object]; kernel_rfl
section
variable {prog : Program} {w : World} {A : Around} {E : Value → Shared → Prop} {s : Shared}
theorem call_zipN {ls : List (Addr × Array Value)} {Q : Value → Shared → Prop} (hl : ∀ p ∈ ls, s.heap.IsTuple p.1 p.2) (hn : ls.length ≤ 6)
    (h : ∀ h', IsZip h' (s.heap.objs.size + ls.length + 2) (s.heap.objs.size + ls.length) (s.heap.objs.size + ls.length + 1) .none → IsTupOf h' (s.heap.objs.size + ls.length) (itsOf (srcs s.heap.objs.size ls)) →
      (∃ ys, IsTupOf h' (s.heap.objs.size + ls.length + 1) ys ∧ ys.length = ls.length) → AtI h' 0 (srcs s.heap.objs.size ls) → h'.objs.size = s.heap.objs.size + ls.length + 3 → (∀ c o, s.heap.get? c = some o → h'.get? c = some o) →
      Q (.ref (s.heap.objs.size + ls.length + 2)) { s with heap := h' }) :
    wpAny (model prog w) A (call (.type "zip") (ls.map fun p => .ref p.1)) Q E s := by
  refine callType_new PySem.F.called_zip (by decide) (tc_zipN _) (nc_zipN _ (by rw [List.length_map]; exact hn)) (fun obj => ao_zipN obj _) PySem.F.entry_zip_new (meets_zipN ls) ⟨hl, Nat.le_trans hn (by rw [sizeLine_eq]; decide), fun h' a b c d e f => ?_⟩
  show _ ∧ _
  exact ⟨⟨_, a, rfl⟩, h h' a b c d e f⟩
end
/-! ### list(zip(..)) -/
/-- the columns made so far -/
structure ZC (ps : List ZSrc) (lo : Addr) (h : Heap) (as : List Addr) : Prop where
  rise : as.Pairwise (· < ·)
  above : ∀ a ∈ as, lo < a
  cols : ∀ (j : Nat) (a : Addr), as[j]? = some a → IsTupOf h a (colOf ps j)
theorem ZC.there {ps : List ZSrc} {lo : Addr} {h : Heap} {as : List Addr} (g : ZC ps lo h as) {a : Addr} (ha : a ∈ as) : a < h.objs.size := by
  obtain ⟨j, hj⟩ := List.mem_iff_getElem?.mp ha
  exact Heap.lt_size (g.cols j a hj)
section
variable {prog : Program} {w : World} {A : Around} {s : Shared} {R : Result → Shared → Prop} {z TI TO S : Addr} {ps : List ZSrc} {N : Nat}
theorem znS_keep {h h' : Heap} (S0 : ZA z TI TO ps S) (x : ZnS h z TI TO ps S) (k : ∀ b o, b ≠ S → h.get? b = some o → h'.get? b = some o) : ZnS h' z TI TO ps S := by
  rcases x with ⟨hz, ys, hTO, hl⟩ | ⟨T, oT, ⟨fl, hz⟩, hT, hl⟩
  · exact .inl ⟨k _ _ (Nat.ne_of_lt S0.bz) hz, ys, k _ _ (Nat.ne_of_lt S0.bO) hTO, hl⟩
  · exact .inr ⟨T, oT, ⟨fl, k _ _ (Nat.ne_of_lt S0.bz) hz⟩, k _ _ (Nat.ne_of_gt hl) hT, hl⟩
theorem atI_keep {h h' : Heap} {i : Nat} (S0 : ZA z TI TO ps S) (x : AtI h i ps) (k : ∀ b o, b ≠ S → h.get? b = some o → h'.get? b = some o) : AtI h' i ps :=
  x.mono fun p hp o => ⟨k _ _ (Nat.ne_of_lt (S0.bi p hp)), k _ _ (Nat.ne_of_lt (S0.bl p hp))⟩
theorem zn_loop (hh : A.handled = none) (S0 : ZA z TI TO ps S) (hlen : ps.length ≤ sizeLine) (hne : ps ≠ []) (hN : ∀ p ∈ ps, p.xs.size = N) (hn : N ≤ sizeLine) (res : Value) {h₁ : Heap}
    (hR : ∀ h' tk acc c as, (∀ b o, b ≠ S → b ≠ z → b ≠ TO → NotIt ps b → h₁.get? b = some o → h'.get? b = some o) → h'.get? S = some { cls := .type "list", dict := none, data := .seq acc c, slots := #[] } → as.length = N → ZC ps S h' as →
      acc.toList = as.map Value.ref → R (.ok (.ret res)) { s with heap := h', toks := tk }) :
    ∀ (k i : Nat) (h : Heap) (tk c : Nat) (acc : Array Value) (as : List Addr), N - i = k → i ≤ N → ZnS h z TI TO ps S → IsTupOf h TI (itsOf ps) → AtI h i ps → (∀ b o, b ≠ S → b ≠ z → b ≠ TO → NotIt ps b → h₁.get? b = some o → h.get? b = some o) →
      h.get? S = some { cls := .type "list", dict := none, data := .seq acc c, slots := #[] } → acc.toList = as.map Value.ref → as.length = i → ZC ps S h as →
      codeAny (model prog w) A (.builtin "list.extend.loop" ⟨[.ref S, .ref z, res], []⟩) R { s with heap := h, toks := tk } := by
  have nS : NotIt ps S := fun p hp => Nat.ne_of_gt (S0.bi p hp)
  have na : ∀ {a : Addr}, S < a → NotIt ps a := fun ha p hp => Nat.ne_of_gt (Nat.lt_trans (S0.bi p hp) ha)
  intro k
  induction k with
  | zero =>
    intro i h tk c acc as hk hi hz hI hat hkeep hS hacc hal hG
    have hin : i = N := by omega
    subst hin
    refine codeAny_builtin PySem.F.entry_extend_loop ?_
    rw [Around.under_plainId PySem.F.plain_extend_loop _]
    show wpAny _ A.in1 (pyNext (.ref z) >>= _) _ _ _
    refine wpAny_bind (znS_end (s := { s with heap := h, toks := tk }) (A := A.in1) hh S0 hz hI hat hne hN fun h' tk' he => ?_)
    refine wpAny_pure (hR h' tk' acc c as (fun b o n1 n2 n3 n4 e => he b o n2 n4 (hkeep b o n1 n2 n3 n4 e)) (he S _ (Nat.ne_of_gt S0.bz) nS hS) hal ⟨hG.rise, hG.above, fun j a hj => ?_⟩ hacc)
    have ha := hG.above a (List.mem_of_getElem? hj)
    exact he a _ (Nat.ne_of_gt (Nat.lt_trans S0.bz ha)) (na ha) (hG.cols j a hj)
  | succ k ih =>
    intro i h tk c acc as hk hi hz hI hat hkeep hS hacc hal hG
    have hlt : i < N := by omega
    have hsz : acc.size = i := by rw [← Array.length_toList, hacc, List.length_map, hal]
    have hSl : S < h.objs.size := Heap.lt_size hS
    refine codeAny_builtin PySem.F.entry_extend_loop ?_
    rw [Around.under_plainId PySem.F.plain_extend_loop _]
    show wpAny _ A.in1 (pyNext (.ref z) >>= _) _ _ _
    refine wpAny_bind (znS_item (s := { s with heap := h, toks := tk }) (A := A.in1) (i := i) hh S0 hlen hz hSl hI hat hne hN hlt fun h' tk' hz' hI' hat' hT hsz' hkp => ?_)
    dsimp only at hT hsz' hkp ⊢
    have hS' := hkp S _ (Nat.ne_of_gt S0.bz) (Nat.ne_of_gt S0.bO) nS hS
    have up : ∀ b o, b ≠ S → h'.get? b = some o → (h'.update S (Obj.mapSeq (·.push (Value.ref h.objs.size)))).get? b = some o := fun b o hb e => (Heap.get?_update_other _ _ (Ne.symm hb)).trans e
    show wpAny _ A.in1 (updateSeq S (·.push (Value.ref h.objs.size)) >>= _) _ _ _
    refine wpAny_bind ?_
    refine wpAny_updateSeq hS' rfl (wpAny_pure ⟨plainId_quiet PySem.F.plain_extend_loop _, ih (i + 1) _ tk' _ (acc.push (Value.ref h.objs.size)) (as ++ [h.objs.size]) (by omega) hlt (znS_keep S0 hz' up) (up _ _ (Nat.ne_of_lt S0.bI) hI') (atI_keep S0 hat' up)
      (fun b o n1 n2 n3 n4 e => up b o n1 (hkp b o n2 n3 n4 (hkeep b o n1 n2 n3 n4 e))) (Heap.get?_update_self _ hS' rfl) (by rw [Array.toList_push, hacc, List.map_append]; rfl) (by rw [List.length_append, hal]; rfl) ⟨?_, ?_, ?_⟩⟩) (by rw [hsz]; omega) (by show (acc.push (Value.ref h.objs.size)).size ≤ sizeLine + 1; rw [Array.size_push, hsz]; omega)
    · refine List.pairwise_append.mpr ⟨hG.rise, List.pairwise_singleton _ _, fun a ha b hb => ?_⟩
      rw [List.mem_singleton.mp hb]
      exact hG.there ha
    · intro a ha
      rcases List.mem_append.mp ha with ha | ha
      · exact hG.above a ha
      · rw [List.mem_singleton.mp ha]; exact hSl
    · intro j b hj
      rcases Nat.lt_trichotomy j as.length with q | q | q
      · rw [List.getElem?_append_left q] at hj
        have hb := hG.above b (List.mem_of_getElem? hj)
        exact up b _ (Nat.ne_of_gt hb) (hkp b _ (Nat.ne_of_gt (Nat.lt_trans S0.bz hb)) (Nat.ne_of_gt (Nat.lt_trans S0.bO hb)) (na hb) (hG.cols j b hj))
      · subst q
        have hb : h.objs.size = b := by simpa using hj
        subst hb
        rw [hal]
        exact up _ _ (Nat.ne_of_gt hSl) hT
      · have hnone : (as ++ [h.objs.size])[j]? = none := List.getElem?_eq_none (by rw [List.length_append, List.length_singleton]; omega)
        rw [hnone] at hj; cases hj
end
section
variable {prog : Program} {w : World} {A : Around} {E : Value → Shared → Prop} {s : Shared} {z TI TO : Addr} {ps : List ZSrc} {N : Nat}
theorem zn_extend {R : Result → Shared → Prop} {S : Addr} (hh : A.handled = none) (S0 : ZA z TI TO ps S) (hlen : ps.length ≤ sizeLine) (hne : ps ≠ []) (hN : ∀ p ∈ ps, p.xs.size = N) (hn : N ≤ sizeLine) (hz : IsZip s.heap z TI TO .none) {ys0 : List Value} (hTO : IsTupOf s.heap TO ys0) (hy0 : ys0.length = ps.length)
    (hI : IsTupOf s.heap TI (itsOf ps)) (hat : AtI s.heap 0 ps) (res : Value) (c₀ : Nat) (hS : s.heap.get? S = some { cls := .type "list", data := .seq #[] c₀ })
    (hR : ∀ h' tk acc c as, (∀ b o, b ≠ S → b ≠ z → b ≠ TO → NotIt ps b → s.heap.get? b = some o → h'.get? b = some o) → h'.get? S = some { cls := .type "list", dict := none, data := .seq acc c, slots := #[] } → as.length = N → ZC ps S h' as →
      acc.toList = as.map Value.ref → R (.ok (.ret res)) { s with heap := h', toks := tk }) :
    wpAny (model prog w) A.in1 (Builtin.List.listExtendWith (.ref S) (.ref z) res)
      (fun fin s' => match fin with | .done f => R (.ok f) s' | .again c' => c'.quiet = true ∧ codeAny (model prog w) A c' R s') (fun e s' => R (.error e) s') s := by
  have hTy : s.TypeIs (.ref z) "zip" := ⟨_, hz, rfl⟩
  have key : ∀ (h : Heap) (c₁ tk : Nat), (∀ b o, b ≠ S → s.heap.get? b = some o → h.get? b = some o) → h.get? S = some { cls := .type "list", data := .seq #[] c₁ } →
      codeAny (model prog w) A (.builtin "list.extend.loop" ⟨[.ref S, .ref z, res], []⟩) R { s with heap := h, toks := tk } := by
    intro h c₁ tk hk hS₁
    exact zn_loop (s := s) (h₁ := s.heap) hh S0 hlen hne hN hn res (fun h' tk' acc c as hk' hS' hl hG hacc => hR h' tk' acc c as hk' hS' hl hG hacc) N 0 h tk c₁ #[] [] (Nat.sub_zero _) (Nat.zero_le _) (znS_keep S0 (.inl ⟨hz, ys0, hTO, hy0⟩) hk) (hk _ _ (Nat.ne_of_lt S0.bI) hI) (atI_keep S0 hat hk)
      (fun b o n1 _ _ _ e => hk b o n1 e) hS₁ rfl rfl ⟨List.Pairwise.nil, (fun _ ha => nomatch ha), (fun j a hj => by simp at hj)⟩
  unfold Builtin.List.listExtendWith
  refine wpAny_bind (wpAny_typeOf (T := "zip") hTy ?_)
  have hSz : S ≠ z := Nat.ne_of_gt S0.bz
  have h1 : Builtin.List.listSameRef (.ref S) (.ref z) = false := by simp [Builtin.List.listSameRef, hSz]
  have h2 : (Value.type "zip" == Value.type "list") = false := by decide
  have h3 : (Value.type "zip" == Value.type "tuple") = false := by decide
  simp only [h1, h2, h3, Bool.or_false, Bool.false_eq_true, if_false]
  refine wpAny_bind (wpAny_pyIter_zip hz ?_)
  refine wpAny_bind (wpAny_holding (zip_hint hTy ?_))
  refine wpAny_ite_split (fun _ => ?_) (fun _ => wpAny_pure ⟨plainId_quiet PySem.F.plain_extend_loop _, key _ c₀ _ (fun b o _ e => e) hS⟩)
  refine wpAny_bind (wpAny_rule ?_)
  refine wpAny_bind ?_
  show wpAny _ _ (updateSeq S (·.push .none) >>= fun _ => updateSeq S (·.pop)) _ _ _
  refine wpAny_bind (wpAny_updateSeq hS rfl ?_)
  have hS₂ := Heap.get?_update_self (Obj.mapSeq (·.push Value.none)) hS rfl
  refine wpAny_updateSeq (hz := by seq_fits) hS₂ rfl ?_
  have hS₃ := Heap.get?_update_self (Obj.mapSeq (·.pop)) hS₂ rfl
  refine wpAny_pure ⟨plainId_quiet PySem.F.plain_extend_loop _, key _ _ _ (fun b o hb e => ?_) hS₃⟩
  exact (Heap.get?_update_other _ _ (Ne.symm hb)).trans ((Heap.get?_update_other _ _ (Ne.symm hb)).trans e)
theorem zn_init {R : Result → Shared → Prop} {S : Addr} (hh : A.handled = none) (S0 : ZA z TI TO ps S) (hlen : ps.length ≤ sizeLine) (hne : ps ≠ []) (hN : ∀ p ∈ ps, p.xs.size = N) (hn : N ≤ sizeLine) (hz : IsZip s.heap z TI TO .none) {ys0 : List Value} (hTO : IsTupOf s.heap TO ys0) (hy0 : ys0.length = ps.length)
    (hI : IsTupOf s.heap TI (itsOf ps)) (hat : AtI s.heap 0 ps) (hS : s.heap.get? S = some { cls := .type "list", data := .seq #[] })
    (hR : ∀ h' tk acc c as, (∀ b o, b ≠ S → b ≠ z → b ≠ TO → NotIt ps b → s.heap.get? b = some o → h'.get? b = some o) → h'.get? S = some { cls := .type "list", dict := none, data := .seq acc c, slots := #[] } → as.length = N → ZC ps S h' as →
      acc.toList = as.map Value.ref → R (.ok (.ret .none)) { s with heap := h', toks := tk }) :
    wpAny (model prog w) A.in1 (Builtin.«list.__init__» ⟨[.ref S, .ref z], []⟩)
      (fun fin s' => match fin with | .done f => R (.ok f) s' | .again c' => c'.quiet = true ∧ codeAny (model prog w) A c' R s') (fun e s' => R (.error e) s') s := by
  show wpAny _ _ (do let old ← Builtin.List.listItems (.ref S); Builtin.List.listUpdate (.ref S) (fun _ => #[]); letGo old.toList.reverse; Builtin.List.listExtendWith (.ref S) (.ref z) .none) _ _ s
  refine wpAny_bind ?_
  unfold Builtin.List.listItems
  refine wpAny_bind (wpAny_seqItems hS rfl (wpAny_pure ?_))
  show wpAny _ _ (updateSeq S (fun _ => #[]) >>= fun _ => letGo (#[] : Array Value).toList.reverse >>= fun _ => Builtin.List.listExtendWith (.ref S) (.ref z) .none) _ _ s
  refine wpAny_bind (wpAny_updateSeq hS rfl ?_)
  have hS₂ := Heap.get?_update_self (Obj.mapSeq (fun _ => (#[] : Array Value))) hS rfl
  have oth : ∀ b o, b ≠ S → s.heap.get? b = some o → (s.heap.update S (Obj.mapSeq (fun _ => (#[] : Array Value)))).get? b = some o := fun b o hb e => (Heap.get?_update_other _ _ (Ne.symm hb)).trans e
  refine wpAny_bind (wpAny_letGo ?_)
  refine zn_extend hh S0 hlen hne hN hn (oth _ _ (Nat.ne_of_lt S0.bz) hz) (oth _ _ (Nat.ne_of_lt S0.bO) hTO) hy0 (oth _ _ (Nat.ne_of_lt S0.bI) hI) (atI_keep S0 hat oth) .none _ hS₂ fun h' tk acc c as hk hS' hl hG hacc => ?_
  exact hR h' tk acc c as (fun b o n1 n2 n3 n4 e => hk b o n1 n2 n3 n4 (oth b o n1 e)) hS' hl hG hacc
theorem call_list_zipN {Q : Value → Shared → Prop} (hh : A.handled = none) (S0 : ZA z TI TO ps s.heap.objs.size) (hlen : ps.length ≤ sizeLine) (hne : ps ≠ []) (hN : ∀ p ∈ ps, p.xs.size = N) (hn : N ≤ sizeLine) (hz : IsZip s.heap z TI TO .none) {ys0 : List Value} (hTO : IsTupOf s.heap TO ys0) (hy0 : ys0.length = ps.length)
    (hI : IsTupOf s.heap TI (itsOf ps)) (hat : AtI s.heap 0 ps)
    (hQ : ∀ h' tk acc c as, (∀ b o, b ≠ z → b ≠ TO → NotIt ps b → s.heap.get? b = some o → h'.get? b = some o) → h'.get? s.heap.objs.size = some { cls := .type "list", dict := none, data := .seq acc c, slots := #[] } → as.length = N → ZC ps s.heap.objs.size h' as →
      acc.toList = as.map Value.ref → Q (.ref s.heap.objs.size) { s with heap := h', toks := tk }) :
    wpAny (model prog w) A (call (.type "list") [.ref z]) Q E s := by
  refine callType_codes (Q₁ := fun obj s₁ => obj = .ref s.heap.objs.size ∧ s₁ = { s with heap := s.heap.push { cls := .type "list", data := .seq #[] } }) PySem.F.called_list (PySem.F.typeCall_list_1 _) PySem.F.entry_list_init (code_list_new _ ⟨rfl, rfl⟩) fun obj s₁ h₁ => ?_
  obtain ⟨rfl, rfl⟩ := h₁
  have hS : (s.heap.push { cls := .type "list", data := .seq #[] }).get? s.heap.objs.size = some { cls := .type "list", data := .seq #[] } := Heap.get?_push_size _ rfl
  have ps' : ∀ b o, s.heap.get? b = some o → (s.heap.push { cls := .type "list", data := .seq #[] }).get? b = some o := fun b o e => Heap.get?_push_of_some _ e
  refine ⟨⟨_, hS, rfl⟩, PySem.F.args_list_init_2 _ _, zn_init (A := A.in1) hh S0 hlen hne hN hn (ps' _ _ hz) (ps' _ _ hTO) hy0 (ps' _ _ hI) (hat.mono fun p _ o => ⟨ps' _ _, ps' _ _⟩) hS fun h' tk acc c as hk hS' hl hG hacc => ?_⟩
  exact ⟨rfl, hQ h' tk acc c as (fun b o n1 n2 n3 e => hk b o (Nat.ne_of_lt (Heap.lt_size e)) n1 n2 n3 (ps' b o e)) hS' hl hG hacc⟩
end
end Ow

set_option Elab.async false
set_option linter.all false
set_option maxRecDepth 100000
set_option maxHeartbeats 4000000
namespace Ow
open PySem PySem.Spec PyProof.Rows L2
/-- tuples tracked at their addresses -/
def putC : Hp → List Addr → List (List V) → Hp
  | H, a :: as, p :: ps => putC (upd H a (.tup p)) as ps
  | H, _, _ => H
theorem putC_off {b : Addr} : ∀ (as : List Addr) (ps : List (List V)) (H : Hp), b ∉ as → putC H as ps b = H b
  | [], _, _, _ => rfl
  | _ :: _, [], _, _ => rfl
  | a :: as, p :: ps, H, h => by
    show putC (upd H a (.tup p)) as ps b = H b
    rw [putC_off as ps _ (fun z => h (List.mem_cons_of_mem _ z)), upd_ne (fun z => h (by rw [z]; exact List.mem_cons_self))]
theorem putC_at : ∀ (as : List Addr) (ps : List (List V)) (H : Hp), as.length = ps.length → as.Nodup → ∀ (j : Nat) (t : Addr), as[j]? = some t → ∃ p, ps[j]? = some p ∧ putC H as ps t = some (.tup p)
  | [], [], _, _, _, j, t, e => by simp at e
  | [], _ :: _, _, h, _, _, _, _ => by cases h
  | _ :: _, [], _, h, _, _, _, _ => by cases h
  | a :: as, p :: ps, H, h, hn, j, t, e => by
    have hn' := List.nodup_cons.mp hn
    cases j with
    | zero =>
      have e1 : a = t := by simpa using e
      subst e1
      refine ⟨p, rfl, ?_⟩
      show putC (upd H a (.tup p)) as ps a = some (.tup p)
      rw [putC_off as ps _ hn'.1, upd_same]
    | succ j => exact putC_at as ps (upd H a (.tup p)) (Nat.succ.inj h) hn'.2 j t (by simpa using e)
/-- the j-th column -/
def colV (rows : List (List V)) (j : Nat) : List V := rows.map fun r => r.getD j .non
theorem vals_col {ps : List ZSrc} {rows : List (List V)} {N j : Nat} (h : All2 (fun (p : ZSrc) r => Vals r p.xs.toList) ps rows) (hN : ∀ p ∈ ps, p.xs.size = N) (hj : j < N) : Vals (colV rows j) (colOf ps j) := by
  induction h with
  | nil => exact .nil
  | @cons p r ps rs hr _ ih =>
    refine .cons ?_ (ih fun q hq => hN q (List.mem_cons_of_mem _ hq))
    have hs := hN p List.mem_cons_self
    have hl := hr.length
    have hl : r.length = N := by rw [← hs, ← Array.length_toList]; exact hl
    obtain ⟨v, hv⟩ : ∃ v, r[j]? = some v := ⟨_, List.getElem?_eq_getElem (by rw [hl]; exact hj)⟩
    obtain ⟨u, hu, ru⟩ := hr.get hv
    rw [Array.getElem?_toList] at hu
    dsimp only
    rw [List.getD_eq_getElem?_getD, hv, Array.getD_eq_getD_getElem?, hu]
    exact ru
section
variable {X : Cx} {pins : List (Addr × Obj)} {σ : L2.St} {H : Hp} {s : Shared}
theorem zn_laid {h' : Heap} {tk c : Nat} {acc : Array Value} {as : List Addr} {ps : List ZSrc} {rows : List (List V)} {N : Nat} {S : Addr} (I : Inv X pins σ H s) (hSs : s.heap.objs.size ≤ S) (hz : N ≤ sizeLine) (hlen : ps.length ≤ sizeLine) (hr : All2 (fun (p : ZSrc) r => Vals r p.xs.toList) ps rows) (hN : ∀ p ∈ ps, p.xs.size = N)
    (hk : ∀ b o, s.heap.get? b = some o → h'.get? b = some o) (hS : h'.get? S = some { cls := .type "list", dict := none, data := .seq acc c, slots := #[] }) (hl : as.length = N) (hG : ZC ps S h' as) (hacc : acc.toList = as.map Value.ref) :
    ∃ H' : Hp, Same H H' ∧ H S = none ∧ H' S = some (.lst (as.map V.ref)) ∧ (∀ (j : Nat) (t : Addr), as[j]? = some t → H t = none ∧ H' t = some (.tup (colV rows j))) ∧ Inv X pins σ H' { s with heap := h', toks := tk } := by
  have hSn : S ∉ as := fun z => Nat.lt_irrefl _ (hG.above _ z)
  have nd : as.Nodup := List.Pairwise.imp (fun {a b} (h : a < b) => Nat.ne_of_lt h) hG.rise
  have above : ∀ t ∈ as, s.heap.objs.size ≤ t := fun t ht => Nat.le_of_lt (Nat.lt_of_le_of_lt hSs (hG.above t ht))
  have new : ∀ t ∈ as, H t = none := fun t ht => I.hok.fresh (above t ht)
  have newS : H S = none := I.hok.fresh hSs
  have lz : ((List.range N).map (colV rows)).length = as.length := by rw [List.length_map, List.length_range, hl]
  have atP : ∀ (j : Nat) (t : Addr), as[j]? = some t → putC (upd H S (.lst (as.map V.ref))) as ((List.range N).map (colV rows)) t = some (.tup (colV rows j)) ∧ j < N := fun j t e => by
    obtain ⟨p, e1, e2⟩ := putC_at as ((List.range N).map (colV rows)) (upd H S (.lst (as.map V.ref))) lz.symm nd j t e
    have hj : j < N := by rw [← hl]; exact (List.getElem?_eq_some_iff.mp e).1
    rw [List.getElem?_map, List.getElem?_range hj] at e1
    cases e1
    exact ⟨e2, hj⟩
  have off : ∀ b, b ∉ as → b ≠ S → putC (upd H S (.lst (as.map V.ref))) as ((List.range N).map (colV rows)) b = H b := fun b h1 h2 => by rw [putC_off as _ _ h1, upd_ne h2]
  have low : ∀ b o, s.heap.get? b = some o → b ∉ as ∧ b ≠ S := fun b o e => ⟨fun z => absurd (Heap.lt_size e) (Nat.not_lt.mpr (above b z)), fun z => absurd (Heap.lt_size e) (Nat.not_lt.mpr (by rw [z]; exact hSs))⟩
  have kp : ∀ b u, H b = some u → (putC (upd H S (.lst (as.map V.ref))) as ((List.range N).map (colV rows))) b = some u := fun b u e => by
    rw [off b (fun z => by rw [new b z] at e; cases e) (fun z => by rw [z, newS] at e; cases e)]
    exact e
  have eS : putC (upd H S (.lst (as.map V.ref))) as ((List.range N).map (colV rows)) S = some (.lst (as.map V.ref)) := by rw [putC_off as _ _ hSn, upd_same]
  refine ⟨_, kp, newS, eS, fun j t e => ⟨new t (List.mem_of_getElem? e), (atP j t e).1⟩, ?_⟩
  refine I.call' (ch := []) rfl ⟨fun b o q _ _ _ => hk b o q, fun b o q _ _ _ => ⟨o.slots, hk b o q⟩, fun b o q n _ => ?_, fun b o q _ => ⟨o, hk b o q⟩, fun b xs q => kp b _ q, fun b o u q => kp b _ q, fun b ps q => ⟨#[], by rw [kp b _ q]; simp⟩⟩ (fun b u q => ?_) I.bare fun b z => by simp at z
  · obtain ⟨z1, z2⟩ := low b o q
    rw [off b z1 z2]
    exact n
  · by_cases hb : b ∈ as
    · obtain ⟨j, hj⟩ := List.mem_iff_getElem?.mp hb
      obtain ⟨e2, hjN⟩ := atP j b hj
      rw [e2] at q
      cases q
      have vc := vals_col hr hN hjN
      have lr := hr.len
      exact ⟨by show (colV rows j).length ≤ sizeLine; rw [colV, List.length_map, ← lr]; exact hlen, colOf ps j, vc, ⟨_, hG.cols j b hj, rfl, _, rfl⟩⟩
    · by_cases hb2 : b = S
      · rw [hb2] at q ⊢
        rw [eS] at q
        cases q
        refine ⟨by rw [List.length_map]; omega, acc.toList, c, by rw [hacc]; exact vals_addrs as, ?_⟩
        rw [Array.toArray_toList]
        exact hS
      · rw [off b hb hb2] at q
        exact (I.hok b u q).stay (fun d v _ y => hk d v y) (fun d y => kp d _ y) fun d xs y => kp d _ y
/-- the rows, each a tuple of N items -/
def RowsV (K : PySem.W.Frag) (H : Hp) (N : Nat) (rs : List V) (rows : List (List V)) : Prop := All2 (fun v ys => ∃ b, v = .ref b ∧ SqT K H b ys ∧ ys.length = N) rs rows
theorem rows_src {N : Nat} {rs : List V} {rows : List (List V)} (I : Inv X pins σ H s) (h : RowsV X.K H N rs rows) : ∀ {us : List Value}, Vals rs us →
    ∃ ls : List (Addr × Array Value), us = ls.map (fun p => Value.ref p.1) ∧ (∀ p ∈ ls, s.heap.IsTuple p.1 p.2 ∧ p.2.size = N) ∧ All2 (fun (p : Addr × Array Value) r => Vals r p.2.toList) ls rows := by
  unfold RowsV at h
  induction h with
  | nil =>
    intro us r
    cases r
    exact ⟨[], rfl, (fun _ h => nomatch h), .nil⟩
  | @cons v ys vs yss hv _ ih =>
    intro us r
    cases r with
    | @cons _ u _ us r rr =>
      obtain ⟨b, rfl, hq, hl⟩ := hv
      cases r
      obtain ⟨ls, e, h1, h2⟩ := ih rr
      obtain ⟨its, rv, pl, hz⟩ := I.tuple hq
      refine ⟨(b, its.toArray) :: ls, by rw [e]; rfl, fun p hp => ?_, .cons (by simpa using rv) h2⟩
      rcases List.mem_cons.mp hp with rfl | hp
      · exact ⟨pl, by rw [List.size_toArray, ← rv.length, hl]⟩
      · exact h1 p hp
theorem src_all2 : ∀ {ls : List (Addr × Array Value)} {rows : List (List V)} (n : Nat), All2 (fun (p : Addr × Array Value) r => Vals r p.2.toList) ls rows → All2 (fun (p : ZSrc) r => Vals r p.xs.toList) (srcs n ls) rows
  | [], [], _, _ => .nil
  | p :: ls, r :: rs, n, .cons h t => .cons h (src_all2 (n + 1) t)
theorem za_of {n : Nat} {ls : List (Addr × Array Value)} (h : ∀ p ∈ ls, (p.1 : Nat) < n) : ZA (n + ls.length + 2) (n + ls.length) (n + ls.length + 1) (srcs n ls) (n + ls.length + 3) := by
  have hi : ∀ p ∈ srcs n ls, n ≤ p.it ∧ (p.it : Nat) < n + ls.length := fun p hp => srcs_it hp
  have hl : ∀ p ∈ srcs n ls, (p.l : Nat) < n := fun p hp => h _ (srcs_src hp)
  have a1 : ∀ {x : Nat} {k : Nat}, x < n + ls.length → n + ls.length + k ≠ x := fun {x k} hx => Nat.ne_of_gt (Nat.lt_of_lt_of_le hx (Nat.le_add_right _ _))
  have a2 : ∀ {x : Nat} {k : Nat}, x < n → n + ls.length + k ≠ x := fun {x k} hx => Nat.ne_of_gt (Nat.lt_of_lt_of_le hx (Nat.le_trans (Nat.le_add_right _ _) (Nat.le_add_right _ _)))
  refine ⟨srcs_nd ls n, ?_, ?_, ?_, fun p hp => ⟨a1 (hi p hp).2, a1 (k := 0) (hi p hp).2, a1 (hi p hp).2⟩, fun p hp => ⟨a2 (hl p hp), a2 (hl p hp)⟩, fun p hp q hq e => ?_, ?_, ?_, ?_, fun p hp => Nat.lt_of_lt_of_le (hi p hp).2 (Nat.le_add_right _ _), fun p hp => Nat.lt_of_lt_of_le (hl p hp) (Nat.le_trans (Nat.le_add_right _ _) (Nat.le_add_right _ _))⟩
  · show (n + ls.length : Nat) ≠ n + ls.length + 2; omega
  · show (n + ls.length + 1 : Nat) ≠ n + ls.length + 2; omega
  · show (n + ls.length : Nat) ≠ n + ls.length + 1; omega
  · exact absurd (Nat.lt_of_le_of_lt (hi p hp).1 (by rw [e]; exact hl q hq)) (Nat.lt_irrefl _)
  · show (n + ls.length + 2 : Nat) < n + ls.length + 3; omega
  · show (n + ls.length : Nat) < n + ls.length + 3; omega
  · show (n + ls.length + 1 : Nat) < n + ls.length + 3; omega
/-- list(zip( *e)) -/
def tLZipS (K : PySem.W.Frag) (te : TE) : TE := fun σ H Q => te σ H fun x H1 => ∃ a rs N rows, x = .ref a ∧ (SqT K H1 a rs ∨ SqL K H1 a rs) ∧ rs ≠ [] ∧ rs.length ≤ 6 ∧ N ≤ sizeLine ∧ RowsV K H1 N rs rows ∧
  ∀ (H' : Hp) (p : Addr) (ts : List Addr), Same H1 H' → H1 p = none → H' p = some (.lst (ts.map V.ref)) → ts.length = N → (∀ (j : Nat) (t : Addr), ts[j]? = some t → H1 t = none ∧ H' t = some (.tup (colV rows j))) → Q (.ref p) H'
theorem pe_lzipS {e : Expr} {te : TE} {p p2 p3 pos pos2 : Pos} (hc : X.calm = true) (hg : Gl X "list") (hm : X.mg "list" = none) (hg2 : Gl X "zip") (hm2 : X.mg "zip" = none) (hv : bootBuiltins "list" = some (.type "list")) (ha : PE X e te)
    (hs : starEach [.Call (.Name "zip" p2) [.Starred e p3] [] pos2] X.env = (false, eval (.Call (.Name "zip" p2) [.Starred e p3] [] pos2) X.env) :: starEach [] X.env := by rfl)
    (hs2 : starEach [.Starred e p3] X.env = [(true, eval e X.env)] := by rfl) :
    PE X (.Call (.Name "list" p) [.Call (.Name "zip" p2) [.Starred e p3] [] pos2] [] pos) (tLZipS X.K te) := by
  refine ⟨fun pins s σ H Q I hq => ?_⟩
  refine wpAny_Call_Name_kw (ld_blt I hg hm hv ?_)
  refine PyProof.Rows.callWith_type1 ?_ hs rfl
  rw [hs]
  show wpAny _ _ (spliced ((false, eval (.Call (.Name "zip" p2) [.Starred e p3] [] pos2) X.env) :: backTo pos (starEach [] X.env))) _ _ s
  refine Calls.spliced_cons ?_
  refine wpAny_Call_Name_kw (ld_blt I hg2 hm2 PyProof.Rows.boot_zip ?_)
  rw [hs2]
  refine PySem.W.ks_call (P := fun _ => True) rfl (fun _ _ => ⟨.machine, .inr (.inl rfl), PySem.W.Looks.of_pure rfl⟩) (PySem.W.ks_lone (thn (ha.run pins s σ H _ I hq) fun v s1 ⟨y, H1, I1, ry, q1⟩ => ?_))
  obtain ⟨a, rs, N, rows, rfl, hrs, hne, hlen, hN, hrows, q⟩ := q1
  obtain rfl : v = Value.ref a := ry
  refine StX.star_any I1 hrs fun us s2 I2 rv => ⟨True.intro, ?_⟩
  obtain ⟨ls, rfl, h1, h2⟩ := rows_src I2 hrows rv
  have ll : ls.length = rs.length := by have := rv.length; rw [List.length_map] at this; exact this.symm
  show wpAny _ _ (call (.type "zip") ([] ++ ls.map fun p => Value.ref p.1)) _ _ s2
  rw [List.nil_append]
  refine call_zipN (fun p hp => (h1 p hp).1) (by rw [ll]; exact hlen) fun h' hz hI hO hat hsz hk => ?_
  have I3 : Inv X pins σ H1 { s2 with heap := h' } := I2.kept (t' := s2.toks) hk
  refine Calls.spliced_nil ?_
  have lt : ∀ p ∈ ls, (p.1 : Nat) < s2.heap.objs.size := fun p hp => by
    obtain ⟨o, ho, _⟩ := (h1 p hp).1
    exact Heap.lt_size ho
  have S0 := za_of lt
  rw [← hsz] at S0
  obtain ⟨ys0, hTO, hy0⟩ := hO
  have hne' : srcs s2.heap.objs.size ls ≠ [] := fun e => hne (by
    have := srcs_len ls s2.heap.objs.size
    rw [e] at this
    exact List.eq_nil_of_length_eq_zero (by rw [← ll, ← this]; rfl))
  have hN' : ∀ p ∈ srcs s2.heap.objs.size ls, p.xs.size = N := fun p hp => (h1 _ (srcs_src hp)).2
  have hle : (srcs s2.heap.objs.size ls).length ≤ sizeLine := by rw [srcs_len, ll]; exact Nat.le_trans hlen (by rw [sizeLine_eq]; decide)
  refine call_list_zipN (s := { s2 with heap := h' }) (ps := srcs s2.heap.objs.size ls) (N := N) (I2.ok.hd hc) S0 hle hne' hN' hN hz hTO (by rw [hy0, srcs_len]) hI hat fun h3 tk acc c as hk2 hS hl hG hacc => ?_
  have hk3 : ∀ b o, s2.heap.get? b = some o → h3.get? b = some o := fun b o e => by
    have hb : (b : Nat) < s2.heap.objs.size := Heap.lt_size e
    have hb' : (b : Nat) < s2.heap.objs.size + ls.length := Nat.lt_of_lt_of_le hb (Nat.le_add_right _ _)
    exact hk2 b o (Nat.ne_of_lt (Nat.lt_of_lt_of_le hb' (Nat.le_add_right _ _))) (Nat.ne_of_lt (Nat.lt_of_lt_of_le hb' (Nat.le_add_right _ _))) (fun p hp => Nat.ne_of_lt (Nat.lt_of_lt_of_le hb (srcs_it hp).1)) (hk b o e)
  have hSs : s2.heap.objs.size ≤ h'.objs.size := by rw [hsz]; exact Nat.le_trans (Nat.le_add_right _ _) (Nat.le_add_right _ _)
  obtain ⟨H', k1', k2', k3', k4', J⟩ := zn_laid (tk := tk) (S := h'.objs.size) I2 hSs hN hle (src_all2 _ h2) hN' hk3 hS hl hG hacc
  exact ⟨.ref _, H', J, rfl, q H' _ as k1' k2' k3' hl k4'⟩
end
end Ow

set_option Elab.async false
set_option linter.all false
set_option maxRecDepth 100000
set_option maxHeartbeats 4000000
namespace Ow
open PySem PySem.Spec PyProof.Rows L2
/-! ### for x, y in zip(a, b): each a list or a tuple -/
def SqV (k : SqK) (K : PySem.W.Frag) (H : Hp) (a : Addr) (xs : List V) : Prop := match k with
  | .lst => SqL K H a xs
  | .tup => SqT K H a xs
section
variable {X : Cx} {pins : List (Addr × Obj)} {σ : L2.St} {H : Hp} {s : Shared} {k : SqK} {a : Addr} {xs ys : List V}
theorem sqV_is (I : Inv X pins σ H s) (h : SqV k X.K H a xs) : ∃ its : List Value, k.Is s.heap a its.toArray ∧ Vals xs its ∧ xs.length ≤ sizeLine := by
  cases k with
  | lst =>
    obtain ⟨its, rv, pl, hz⟩ := I.list h
    exact ⟨its, pl.isList, rv, hz⟩
  | tup =>
    obtain ⟨its, rv, pl, hz⟩ := I.tuple h
    exact ⟨its, pl, rv, hz⟩
theorem sqV_inj (I : Inv X pins σ H s) (h : SqV k X.K H a xs) (g : SqV k X.K H a ys) : xs = ys := by
  cases k with
  | lst => exact I.list_inj h g
  | tup => exact I.tuple_inj h g
end
/-- the two as they stand at each turn, the items in new pairs -/
def ItzK (K : PySem.W.Frag) (k1 k2 : SqK) (a b : Addr) : It :=
  ⟨fun i H => ∃ (xs ys : List V) (x y : V), SqV k1 K H a xs ∧ SqV k2 K H b ys ∧ xs[i]? = some x ∧ ys[i]? = some y,
    fun i H v H' => ∃ T x y, v = .ref T ∧ H T = none ∧ H' = upd H T (.tup [x, y]) ∧ (∀ xs, SqV k1 K H a xs → xs[i]? = some x) ∧ ∀ ys, SqV k2 K H b ys → ys[i]? = some y,
    fun i H => ∃ xs ys : List V, SqV k1 K H a xs ∧ SqV k2 K H b ys ∧ i = min xs.length ys.length⟩
theorem turn_zipK {P : Program} {w : World} {K : PySem.W.Frag} {elts : List Expr} {kk : Nat} {tpos : Pos} {k1 k2 : SqK} {a b z TI TO i1 i2 : Addr} (D : ZipSep2 z TI TO i1 i2 [i1, a] [i2, b]) (na : a ≠ i1) (nb : b ≠ i2) :
    Turn P w K (.Tuple elts kk tpos) (ItzK K k1 k2 a b) [z, TI, TO, i1, i2] z (fun i h => IsZip h z TI TO .none ∧ IsTupOf2 h TI (.ref i1) (.ref i2) ∧ (∃ x y, IsTupOf2 h TO x y) ∧ k1.It h i1 a i ∧ k2.It h i2 b i) where
  mem := by simp
  obj := fun i h st c hc => by
    obtain ⟨hz, hTI, ⟨x, y, hTO⟩, h1, h2⟩ := st
    have e' : c = z ∨ c = TI ∨ c = TO ∨ c = i1 ∨ c = i2 := by simpa using hc
    have ob : ∀ {k : SqK} {i1 a : Addr}, k.It h i1 a i → ∃ o, h.get? i1 = some o ∧ ∀ v, o.data ≠ .cell v := fun {k i1 a} h1 => by
      cases k with
      | lst => obtain ⟨o1, e1, _, d1⟩ := h1; exact ⟨o1, e1, fun v q => by rw [d1] at q; cases q⟩
      | tup => obtain ⟨o1, e1, _, d1⟩ := h1; exact ⟨o1, e1, fun v q => by rw [d1] at q; cases q⟩
    rcases e' with q | q | q | q | q
    · rw [q]; exact ⟨_, hz, fun v q => nomatch q⟩
    · rw [q]; exact ⟨_, hTI, fun v q => nomatch q⟩
    · rw [q]; exact ⟨_, hTO, fun v q => nomatch q⟩
    · rw [q]; exact ob h1
    · rw [q]; exact ob h2
  keep := fun i h h' st k => by
    obtain ⟨hz, hTI, ⟨x, y, hTO⟩, h1, h2⟩ := st
    exact ⟨k z (by simp) _ hz, k TI (by simp) _ hTI, ⟨x, y, k TO (by simp) _ hTO⟩, h1.keep fun o q => k i1 (by simp) o q, h2.keep fun o q => k i2 (by simp) o q⟩
  item := by
    intro X hP hw hK hc i pins s σ H E I hf st hg
    subst hP hw hK
    obtain ⟨hz, hTI, ⟨x0, y0, hTO⟩, h1, h2⟩ := st
    obtain ⟨xs, ys, x, y, hqx, hqy, hx, hy⟩ := hg
    obtain ⟨its, p, rv, _⟩ := sqV_is I hqx
    obtain ⟨its2, p2, rv2, _⟩ := sqV_is I hqy
    obtain ⟨u, hu, ru⟩ := rv.get hx
    obtain ⟨u2, hu2, ru2⟩ := rv2.get hy
    have hzl : z < s.heap.objs.size := Heap.lt_size hz
    have hh := I.ok.hd hc
    have D1 : Draws X.prog X.w X.A.in1 i1 [i1, a] its.toArray.size (fun i v => its.toArray[i]? = some v) (fun i h => k1.It h i1 a i ∧ k1.Is h a its.toArray) := SqK.draws (A := X.A.in1) hh i1 a na _
    have D2 : Draws X.prog X.w X.A.in1 i2 [i2, b] its2.toArray.size (fun i v => its2.toArray[i]? = some v) (fun i h => k2.It h i2 b i ∧ k2.Is h b its2.toArray) := SqK.draws (A := X.A.in1) hh i2 b nb _
    have l1 : i < its.toArray.size := by rw [List.size_toArray]; exact (List.getElem?_eq_some_iff.mp hu).1
    have l2 : i < its2.toArray.size := by rw [List.size_toArray]; exact (List.getElem?_eq_some_iff.mp hu2).1
    refine wpAny_pyNext_zipD2_item D D1 D2 hz hTI hTO ⟨h1, p⟩ ⟨h2, p2⟩ l1 l2 fun x1 x2 h' tk e1 e2 z' TO' h1' h2' hT hsz hk => ?_
    obtain rfl : u = x1 := by rw [List.getElem?_toArray, hu] at e1; exact Option.some.inj e1
    obtain rfl : u2 = x2 := by rw [List.getElem?_toArray, hu2] at e2; exact Option.some.inj e2
    refine ⟨_, rfl, wpAny_letOwnedTupleGo_zip (s := { s with heap := h', toks := tk }) z' fun h'' z'' sb => ?_⟩
    have hT2 : h''.get? s.heap.objs.size = some { cls := .type "tuple", data := .seq #[u, u2] } := (sb.2 _ (Nat.ne_of_gt hzl)).trans hT
    have new : ObjOk X.prog X.w (upd H s.heap.objs.size (.tup [x, y])) h'' s.heap.objs.size (.tup [x, y]) :=
      ⟨by show 2 ≤ sizeLine; decide, [u, u2], .cons ru (.cons ru2 .nil), ⟨_, hT2, rfl, _, rfl⟩⟩
    have I1 : Inv X pins σ (upd H s.heap.objs.size (.tup [x, y])) { s with heap := h'', toks := tk } :=
      I.turnedNew (t' := tk) (ch := [z, TI, TO, i1, i2]) (fun c o hb q => (sb.2 c (fun q' => hb (by simp [q']))).trans (hk c o (fun q' => hb (by simp [q'])) (fun q' => hb (by simp [q'])) (fun q' => hb (by simp [q'])) (fun q' => hb (by simp [q'])) q)) hf (Nat.le_refl _) new
    refine ⟨.ref s.heap.objs.size, _, I1, rfl, ⟨_, x, y, rfl, I.hok.fresh (Nat.le_refl _), rfl, fun l hl => by rw [sqV_inj I hl hqx]; exact hx, fun l hl => by rw [sqV_inj I hl hqy]; exact hy⟩, ⟨z'', ?_, ⟨u, u2, ?_⟩, ?_, ?_⟩, fun c hcm => ?_⟩
    · exact (sb.2 _ D.TIz).trans (hk _ _ D.TIz D.TITO D.TIi1 D.TIi2 hTI)
    · exact (sb.2 _ D.TOz).trans TO'
    · exact h1'.1.keep fun o q => (sb.2 _ D.zi1.symm).trans q
    · exact h2'.1.keep fun o q => (sb.2 _ D.zi2.symm).trans q
    · have il : ∀ {k : SqK} {j b : Addr}, k.It s.heap j b i → j < s.heap.objs.size := fun {k j b} h => by
        cases k with
        | lst => obtain ⟨_, e1, _⟩ := h; exact Heap.lt_size e1
        | tup => obtain ⟨_, e1, _⟩ := h; exact Heap.lt_size e1
      have hlt : c < s.heap.objs.size := by
        have e' : c = z ∨ c = TI ∨ c = TO ∨ c = i1 ∨ c = i2 := by simpa using hcm
        rcases e' with q | q | q | q | q
        · rw [q]; exact hzl
        · rw [q]; exact Heap.lt_size hTI
        · rw [q]; exact Heap.lt_size hTO
        · rw [q]; exact il h1
        · rw [q]; exact il h2
      rw [upd_ne (Nat.ne_of_lt hlt)]
      exact (hf c hcm).1
  done := by
    intro X hP hw hK hc i pins s σ H E I hf st hg
    subst hP hw hK
    obtain ⟨hz, hTI, ⟨x0, y0, hTO⟩, h1, h2⟩ := st
    obtain ⟨xs, ys, hqx, hqy, hend⟩ := hg
    obtain ⟨its, p, rv, _⟩ := sqV_is I hqx
    obtain ⟨its2, p2, rv2, _⟩ := sqV_is I hqy
    have l1 := rv.length
    have l2 := rv2.length
    have hh := I.ok.hd hc
    have D1 : Draws X.prog X.w X.A.in1 i1 [i1, a] its.toArray.size (fun i v => its.toArray[i]? = some v) (fun i h => k1.It h i1 a i ∧ k1.Is h a its.toArray) := SqK.draws (A := X.A.in1) hh i1 a na _
    have D2 : Draws X.prog X.w X.A.in1 i2 [i2, b] its2.toArray.size (fun i v => its2.toArray[i]? = some v) (fun i h => k2.It h i2 b i ∧ k2.Is h b its2.toArray) := SqK.draws (A := X.A.in1) hh i2 b nb _
    exact wpAny_pyNext_zipD2_end D D1 D2 hz hTI hTO ⟨h1, p⟩ ⟨h2, p2⟩ (by rw [List.size_toArray]; omega) (by rw [List.size_toArray]; omega) (by rw [List.size_toArray, List.size_toArray]; omega) fun h' tk hk => ⟨rfl, I.turnedL (t' := tk) (ch := [z, TI, TO, i1, i2]) (fun c o hb q =>
      hk c o (fun q' => hb (by simp [q'])) (fun q' => hb (by simp [q'])) (fun q' => hb (by simp [q'])) (fun q' => hb (by simp [q'])) q) hf⟩
  self := fun A i s Q E st h => wpAny_pyIter_zip st.1 h
def iZipK (K : PySem.W.Frag) (ta : TA) : TI := fun σ H R => ta σ H fun vs H1 => ∃ k1 k2 a b xs ys, vs = [.ref a, .ref b] ∧ SqV k1 K H1 a xs ∧ SqV k2 K H1 b ys ∧ R (ItzK K k1 k2 a b) H1
theorem pi_zipK {X : Cx} {e e2 : Expr} {ta : TA} {p pos tpos : Pos} {elts : List Expr} {kk : Nat} (hg : Gl X "zip") (hm : X.mg "zip" = none) (ha : PA X [e, e2] ta)
    (hs : starEach [e, e2] X.env = (false, eval e X.env) :: starEach [e2] X.env := by rfl) (hpl : (backTo pos (starEach [e2] X.env)).any (·.1) = false := by rfl) :
    PI X (.Tuple elts kk tpos) (.Call (.Name "zip" p) [e, e2] [] pos) (iZipK X.K ta) := by
  refine ⟨fun pins s σ H R I h => ?_⟩
  refine Call_ (ld_blt I hg hm PyProof.Rows.boot_zip (PyProof.Rows.callWith_type1 (thn (ha.run pos pins s σ H _ I h) fun us s1 ⟨vs, H1, I1, r1, q1⟩ => ?_) hs hpl))
  obtain ⟨k1, k2, a, b, xs, ys, ex, hqx, hqy, q⟩ := q1
  subst ex
  cases r1 with
  | cons r rr =>
    cases rr with
    | cons r' rr =>
      cases rr
      cases r
      cases r'
      obtain ⟨its, p1, rv, _⟩ := sqV_is I1 hqx
      obtain ⟨its2, p2, rv2, _⟩ := sqV_is I1 hqy
      have la := p1.lt
      have lb := p2.lt
      refine call_zipK p1 p2 fun h' hz hTI hTO h1 h2 hsz hk => wpAny_pyIter_zip hz ?_
      have I2 : Inv X pins σ H1 { s1 with heap := h' } := I1.kept (t' := s1.toks) hk
      have Z := zp_of s1.heap.objs.size a b la lb
      refine ⟨s1.heap.objs.size + 4, [s1.heap.objs.size + 4, s1.heap.objs.size + 2, s1.heap.objs.size + 3, s1.heap.objs.size, s1.heap.objs.size + 1], _, _, H1, rfl, I2, turn_zipK (k1 := k1) (k2 := k2) Z.sep Z.n1 Z.n2, ⟨hz, hTI, ⟨_, _, hTO⟩, h1, h2⟩, fun c hcm => ?_, q⟩
      have e' : c = s1.heap.objs.size + 4 ∨ c = s1.heap.objs.size + 2 ∨ c = s1.heap.objs.size + 3 ∨ c = s1.heap.objs.size ∨ c = s1.heap.objs.size + 1 := by simpa using hcm
      have hle : s1.heap.objs.size ≤ c := by
        rcases e' with z | z | z | z | z
        · rw [z]; exact Nat.le_add_right _ _
        · rw [z]; exact Nat.le_add_right _ _
        · rw [z]; exact Nat.le_add_right _ _
        · rw [z]; exact Nat.le_refl _
        · rw [z]; exact Nat.le_add_right _ _
      exact I1.fpOk hle (I1.hok.fresh hle)
theorem walk_zipK {K : PySem.W.Frag} {k1 k2 : SqK} {a b : Addr} {xs ys : List V} : Walk (ItzK K k1 k2 a b) (min xs.length ys.length) (fun H => SqV k1 K H a xs ∧ SqV k2 K H b ys) (YPair (fun i => xs[i]?) (fun i => ys[i]?)) := by
  refine ⟨fun i _ hi q => ?_, fun _ q => ⟨xs, ys, q.1, q.2, rfl⟩, fun i H v H' _ q y => ?_⟩
  · have h1 : i < xs.length := by omega
    have h2 : i < ys.length := by omega
    exact ⟨xs, ys, xs[i], ys[i], q.1, q.2, by simp [h1], by simp [h2]⟩
  · obtain ⟨T, x, z, h1, h2, h3, h4, h5⟩ := y
    exact ⟨T, x, z, h1, h2, h3, h4 xs q.1, h5 ys q.2⟩
end Ow

set_option Elab.async false
set_option linter.all false
set_option maxRecDepth 100000
set_option maxHeartbeats 4000000
namespace Ow
open PySem PySem.Spec PyProof.Rows L2
/-! ### tuples: what comes is one that stands, new or not -/
theorem cutV_whole {xs : List V} {lo hi : Option Int} (h1 : HT.sIx xs.length 0 lo = 0) (h2 : HT.sIx xs.length xs.length hi = xs.length) : cutV xs lo hi = xs := by
  unfold cutV
  simp only [h1, h2]
  simp
def rTSl : V → Option Int → Option Int → Hp → VK → Prop := fun x lo hi H Q => ∃ a xs, x = .ref a ∧ H a = some (.tup xs) ∧ ∀ H' p, Same H H' → H' p = some (.tup (cutV xs lo hi)) → Q (.ref p) H'
def rTCat : R2 := fun x y H Q => ∃ a b xs ys, x = .ref a ∧ y = .ref b ∧ H a = some (.tup xs) ∧ H b = some (.tup ys) ∧ xs.length + ys.length ≤ 5000 ∧ ∀ H' p, Same H H' → H' p = some (.tup (xs ++ ys)) → Q (.ref p) H'
def rTRep : R2 := fun x y H Q => ∃ a k xs, x = .ref a ∧ y = .int k ∧ H a = some (.tup xs) ∧ xs ≠ [] ∧ 1 ≤ k ∧ k ≤ 1000 ∧ xs.length ≤ 1000 ∧ ∀ H' p, Same H H' → H' p = some (.tup (List.replicate k.toNat xs).flatten) → Q (.ref p) H'
section
variable {X : Cx}
theorem sl_tup : SlR X rTSl := by
  intro pins s σ H x v vl vu lo hi sl Q I rx hs pl pu h
  obtain ⟨a, xs, rfl, hx, q⟩ := h
  refine sl_tupA pins s σ H _ v vl vu lo hi sl Q I rx hs pl pu ⟨a, xs, rfl, .of hx, fun w => ?_, fun _ p np => q _ _ (same_new np) upd_same⟩
  refine q H a (Same.refl H) ?_
  rw [cutV_whole w.1 w.2]
  exact hx
theorem op_tcat : OpR X (binaryOp .Add) rTCat := by
  intro pins s σ H x y v u Q I rx ry h
  obtain ⟨a, b, xs, ys, rfl, rfl, ha, hb, hl, q⟩ := h
  refine op_catA pins s σ H _ _ v u Q I rx ry ⟨a, b, xs, ys, rfl, rfl, .of ha, .of hb, Nat.le_trans hl (by decide), fun e => ?_, fun _ e => ?_, fun _ _ p np => q _ _ (same_new np) upd_same⟩
  · refine q H b (Same.refl H) ?_
    rw [e, List.nil_append]
    exact hb
  · refine q H a (Same.refl H) ?_
    rw [e, List.append_nil]
    exact ha
theorem op_trep : OpR X (binaryOp .Mult) rTRep := by
  intro pins s σ H x y v u Q I rx ry h
  obtain ⟨a, k, xs, rfl, rfl, ha, hne, h1, h2, hz, q⟩ := h
  refine op_repA pins s σ H _ _ v u Q I rx ry ⟨a, k, xs, rfl, rfl, .of ha, hne, h1, h2, hz, fun e => ?_, fun _ p np => q _ _ (same_new np) upd_same⟩
  refine q H a (Same.refl H) ?_
  rw [e]
  show H a = some (HO.tup (List.replicate 1 xs).flatten)
  simpa using ha
end
/-! ### zip of tuples, walked -/
theorem walk_zipT {K : PySem.W.Frag} {a b : Addr} {xs ys : List V} {n : Nat} (hn : n = min xs.length ys.length) : Walk (RZ.ItzT K a b) n (fun H => SqT K H a xs ∧ SqT K H b ys) (YPair (fun i => xs[i]?) (fun i => ys[i]?)) := by
  subst hn
  refine ⟨fun i _ hi q => ?_, fun _ q => ⟨xs, ys, q.1, q.2, by omega⟩, fun i H v H' _ q y => ?_⟩
  · exact ⟨xs, ys, xs[i], ys[i], q.1, q.2, List.getElem?_eq_getElem (by omega), List.getElem?_eq_getElem (by omega)⟩
  · obtain ⟨T, x, z, h1, h2, h3, h4, h5⟩ := y
    exact ⟨T, x, z, h1, h2, h3, h4 xs q.1, h5 ys q.2⟩
/-! ### a statement, an expression that is never met -/
theorem ps_never {X : Cx} {st : Stmt} : PS X st (fun _ _ _ => False) := ⟨fun _ _ _ _ _ _ h => h.elim⟩
theorem pe_never {X : Cx} {e : Expr} : PE X e (fun _ _ _ => False) := ⟨fun _ _ _ _ _ _ h => h.elim⟩
/-! ### locks -/
theorem gw_lock {M : Addr → Prop} {H H' : Hp} {d : Addr} {u : HO} {od : Obj} (hd : H d = some u) (g : Gw M (upd H d (.frz od u)) H') : Gw M H (upd H' d u) := fun b o n e => by
  by_cases hb : b = d
  · rw [hb] at e ⊢
    rw [upd_same, ← hd]
    exact e
  · rw [upd_ne hb]
    exact g b o n (by rw [upd_ne hb]; exact e)
theorem same_lock {H H' : Hp} {d : Addr} {u : HO} {od : Obj} (hd : H d = some u) (g : Same (upd H d (.frz od u)) H') : Same H (upd H' d u) := Gw.toSame (gw_lock (M := No) hd (Gw.same g))
end Ow

set_option Elab.async false
set_option linter.all false
set_option maxRecDepth 100000
set_option maxHeartbeats 4000000
namespace Ow
open PySem PySem.Spec PyProof.Rows L2
/-- the inner walk of a comprehension of two clauses -/
def Inner (te : TE) (g1 : TG) (vs1 : List Nat) (D : Addr) (After : Hp → Prop) (σ2 : L2.St) (J1 : It) (H4 : Hp) : Prop :=
  ∃ (n1 : Nat) (G1 : Hp → Prop) (Y1 : Nat → Hp → V → Hp → Prop) (Pv1 : Nat → Hp → Prop), Walk J1 n1 G1 Y1 ∧ Pv1 0 H4 ∧ (∀ j H, j ≤ n1 → Pv1 j H → G1 H) ∧ (∀ H, Pv1 n1 H → After H) ∧
    ∀ j x H H', j < n1 → Pv1 j H → Y1 j H x H' → g1 x (wipe σ2 vs1) H' fun σ3 H5 => wipe σ3 vs1 = wipe σ2 vs1 ∧ te σ3 H5 fun y H7 => ∃ acc, H7 D = some (.lst acc) ∧ acc.length < sizeLine ∧ Pv1 (j + 1) (upd H7 D (.lst (acc ++ [y])))
theorem lc2_it {J : It} {n : Nat} {G : Hp → Prop} {Y : Nat → Hp → V → Hp → Prop} (w : Walk J n G Y) {g g1 : TG} {wi1 : TI} {te : TE} {vs vs1 : List Nat} {σ : L2.St} {H1 : Hp} {D : Addr} {Qd : Hp → Prop} (Pv : Nat → Hp → Prop)
    (h0 : Pv 0 (upd H1 D (.lst []))) (hG : ∀ i H, i ≤ n → Pv i H → G H)
    (hs : ∀ i x H H' (Kg : L2.St → Hp → Prop), i < n → Pv i H → Y i H x H' → (∀ σ2 H2, wipe σ2 vs = wipe σ vs → (∀ Ki : It → Hp → Prop, (∀ J1 H4, Inner te g1 vs1 D (Pv (i + 1)) σ2 J1 H4 → Ki J1 H4) → wi1 σ2 H2 Ki) → Kg σ2 H2) → g x (wipe σ vs) H' Kg)
    (hd : ∀ H, Pv n H → Qd H) :
    ∃ W : Nat → Nat → Hp → Prop, (∃ m, W 0 m (upd H1 D (.lst []))) ∧ ∀ i m H, W i m H →
      (J.stop i H ∧ Qd H) ∨ (J.go i H ∧ ∃ Nx : Hp → Prop, (∀ H', Nx H' → ∃ m', m' < m ∧ W (i + 1) m' H') ∧ ∀ x H', J.yld i H x H' → g x (wipe σ vs) H' fun σ2 H2 => wipe σ2 vs = wipe σ vs ∧ tYes σ2 H2 fun b H3 =>
        if b = true then wi1 σ2 H3 fun J1 H4 => ∃ W1 : Nat → Nat → Hp → Prop, (∃ m, W1 0 m H4) ∧ ∀ j k H, W1 j k H →
          (J1.stop j H ∧ Nx H) ∨ (J1.go j H ∧ ∃ Nx1 : Hp → Prop, (∀ H', Nx1 H' → ∃ k', k' < k ∧ W1 (j + 1) k' H') ∧ ∀ x H', J1.yld j H x H' → g1 x (wipe σ2 vs1) H' fun σ3 H5 => wipe σ3 vs1 = wipe σ2 vs1 ∧ tYes σ3 H5 fun b H6 =>
            if b = true then te σ3 H6 fun y H7 => ∃ acc, H7 D = some (.lst acc) ∧ acc.length < sizeLine ∧ Nx1 (upd H7 D (.lst (acc ++ [y]))) else Nx1 H6)
        else Nx H3) := by
  refine ⟨fun i m H => m = n - i ∧ i ≤ n ∧ Pv i H, ⟨n, by simp, Nat.zero_le _, h0⟩, ?_⟩
  rintro i m H ⟨rfl, hi, p⟩
  have q := hG i H hi p
  by_cases hlt : i < n
  · refine .inr ⟨w.goes i H hlt q, Pv (i + 1), fun H' p' => ⟨n - (i + 1), by omega, rfl, hlt, p'⟩, fun x H' y => hs i x H H' _ hlt p (w.yields i H x H' hlt q y) fun σ2 H2 hw hwi => ⟨hw, ?_⟩⟩
    refine hwi _ fun J1 H4 hin => ?_
    obtain ⟨n1, G1, Y1, Pv1, w1, s1, g1', a1, t1⟩ := hin
    refine ⟨fun j k H => k = n1 - j ∧ j ≤ n1 ∧ Pv1 j H, ⟨n1, by simp, Nat.zero_le _, s1⟩, ?_⟩
    rintro j k H ⟨rfl, hj, p1⟩
    have q1 := g1' j H hj p1
    by_cases hl1 : j < n1
    · exact .inr ⟨w1.goes j H hl1 q1, Pv1 (j + 1), fun H' p' => ⟨n1 - (j + 1), by omega, rfl, hl1, p'⟩, fun x H' y => t1 j x H H' hl1 p1 (w1.yields j H x H' hl1 q1 y)⟩
    · have e : j = n1 := by omega
      subst e
      exact .inl ⟨w1.stops H q1, a1 H p1⟩
  · have e : i = n := by omega
    subst e
    exact .inl ⟨w.stops H q, hd H p⟩
/-! ### rows of bits -/
def rowsN : Nat → List (List Int)
  | 0 => [[]]
  | n + 1 => (rowsN n).flatMap fun r => [r ++ [0], r ++ [1]]
theorem rowsN_len : ∀ n, (rowsN n).length = 2 ^ n
  | 0 => rfl
  | n + 1 => by
    have h : ∀ l : List (List Int), (l.flatMap fun r => [r ++ [0], r ++ [1]]).length = 2 * l.length := fun l => by
      induction l with
      | nil => rfl
      | cons a l ih => simp only [List.flatMap_cons, List.length_append, ih, List.length_cons, List.length_nil]; omega
    show ((rowsN n).flatMap _).length = _
    rw [h, rowsN_len n, Nat.pow_succ]
    omega
/-- the rows made of the first i ones -/
def grown (rs : List (List Int)) (i : Nat) : List (List Int) := (rs.take i).flatMap fun r => [r ++ [0], r ++ [1]]
theorem grown_next {rs : List (List Int)} {i : Nat} {r : List Int} (h : rs[i]? = some r) : grown rs (i + 1) = grown rs i ++ [r ++ [0], r ++ [1]] := by
  unfold grown
  rw [List.take_add_one, h, List.flatMap_append]
  show _ ++ (([r].flatMap _)) = _
  simp
theorem grown_all {rs : List (List Int)} {n : Nat} (h : n = rs.length) : grown rs n = rs.flatMap fun r => [r ++ [0], r ++ [1]] := by
  unfold grown
  rw [h, List.take_length]
theorem grown_len (rs : List (List Int)) (i : Nat) : (grown rs i).length ≤ 2 * rs.length := by
  unfold grown
  have h : ∀ l : List (List Int), (l.flatMap fun r => [r ++ [0], r ++ [1]]).length = 2 * l.length := fun l => by
    induction l with
    | nil => rfl
    | cons a l ih => simp only [List.flatMap_cons, List.length_append, ih, List.length_cons, List.length_nil]; omega
  rw [h, List.length_take]
  omega
end Ow

set_option Elab.async false
set_option linter.all false
set_option maxRecDepth 100000
set_option maxHeartbeats 4000000
set_option exponentiation.threshold 3000
namespace Ow
open PySem PySem.Spec PyProof.Rows L2
theorem scHasValues : FnScope ["value", "many"] ["value", "many"] (defScope dHasValues) := ⟨rfl, rfl, rfl, by decide +kernel, rfl, by decide +kernel, by decide +kernel⟩
theorem scAllRows : FnScope ["size", "found", "turn", "longer", "row"] ["size"] (defScope dAllRows) := ⟨rfl, rfl, rfl, by decide +kernel, rfl, by decide +kernel, by decide +kernel⟩
def bitsB (ns : List Int) : Bool := ns.all fun n => decide (n = 0) || decide (n = 1)
theorem bits_row {H : Hp} {a : Addr} {ns : List Int} (h : H a = some (.tup (ns.map V.int))) : rowB H (.ref a) = bitsB ns := by
  unfold rowB bitsB
  simp only [h, List.all_map]
  congr 1
  funext n
  show (decide (V.int n = V.int 0) || decide (V.int n = V.int 1)) = _
  simp
theorem vl_ints {H : Hp} {a : Addr} {ns : List Int} (h : H a = some (.tup (ns.map V.int))) (hl : ns.length ≤ 60) (hs : ∀ n ∈ ns, n.natAbs < 2 ^ 400) : Vl (a + 1) H (.ref a) :=
  .inr ⟨a, rfl, Nat.ne_of_lt (Nat.lt_succ_self a), .inl ⟨_, h, by rw [List.length_map]; exact hl, fun x hx => by
    obtain ⟨n, hn, rfl⟩ := List.mem_map.mp hx
    exact .inl (hs n hn)⟩⟩
section
variable {P : Program} {w : World} {K : PySem.W.Frag} {mg : Str → Option Value} {base : Heap}
def spHV : Sp := fun vs H Q _ => ∃ (a : Addr) (ns : List Int) (m : Int), vs = [.ref a, .int m] ∧ H a = some (.tup (ns.map V.int)) ∧ ns.length ≤ 60 ∧ (∀ n ∈ ns, n.natAbs < 2 ^ 400) ∧
  ∀ H', Same H H' → Q (.bl (bitsB ns && decide ((ns.length : Int) = m))) H'
theorem ok_hasvalues {f fV : Addr} {fd fdV : FuncData} (F : Fun K "has_values" "has_values" dHasValues f fd) (FV : FnOk P w K mg base CX0 3 fV fdV ["value"] (spB rowB))
    (kV : PySem.W.keepIn K (.ref fV) = true) (bV : Binds K fdV ["value"] []) (gV : mg "is_values" = some (.ref fV)) (ml : mg "len" = none) : FnOk P w K mg base CX0 4 f fd ["value", "many"] spHV := by
  refine F.ok scHasValues (fun vs H Q E h => ?_) (fun cdv A outer s H vs Q E hr h => ?_)
  · obtain ⟨a, ns, m, rfl, _⟩ := h
    rfl
  obtain ⟨a, ns, m, rfl, ha, hl, hs, q⟩ := h
  refine ⟨_, pss_one (ps_ret (pe_and (pe_call FV hr (by rfl) gV kV bV .nil pass0 (pa_cons (pv 0) pa_nil)) (pe_one (pe_cmpR op_eq (pe_callB call_len_seq (by rfl) ml PySem.boot_len (pa_cons (pv 0) pa_nil)) (pv 1) (nomark _))))), ?_⟩
  refine ⟨.ref a, rfl, .ref a, a + 1, rfl, vl_ints ha hl hs, fun H1 sm => ⟨_, rfl, ?_⟩⟩
  rw [bits_row ha]
  cases hb : bitsB ns with
  | true =>
    refine iteT ⟨.ref a, rfl, a, _, rfl, .inr (.of (sm _ _ ha)), .int m, rfl, rfl, ?_⟩
    have := q H1 sm
    rw [hb, Bool.true_and] at this
    rw [List.length_map]
    have e : decide (V.int (ns.length : Int) = V.int m) = decide ((ns.length : Int) = m) := by simp
    rw [e]
    exact this
  | false =>
    refine iteF ?_
    have := q H1 sm
    rw [hb, Bool.false_and] at this
    exact this
/-- all rows of so many bits, a new list of them -/
def spRowsL : Sp := fun vs H Q _ => ∃ n : Nat, vs = [.int n] ∧ n ≤ 6 ∧ ∀ H' p xs, Same H H' → H p = none → H' p = some (.lst xs) → All2 (IsRow H') xs (rowsN n) → Q (.ref p) H'
theorem pow6 {n : Nat} (h : n ≤ 6) : 2 ^ n ≤ 64 := Nat.pow_le_pow_right (by decide) h
theorem ok_allrows {f : Addr} {fd : FuncData} (F : Fun K "_law_all_rows" "_law_all_rows" dAllRows f fd) (mr : mg "range" = none) (mls : mg "list" = none) : FnOk P w K mg base CX0 1 f fd ["size"] spRowsL := by
  refine F.ok scAllRows (fun vs H Q E h => ?_) (fun cdv A outer s H vs Q E hr h => ?_)
  · obtain ⟨n, rfl, _⟩ := h
    rfl
  obtain ⟨n, rfl, hn, q⟩ := h
  refine ⟨_, pss_cons (ps_set (i := 1) scAllRows.nd rfl (.inl rfl) (pe_lst (pa_cons (pe_tup pa_nil) pa_nil)))
    (pss_cons (ps_for PassesOwn.never rfl (pi_range1 (by rfl) mr (pa_cons (pv 0) pa_nil)) (pg_name (i := 2) scAllRows.nd rfl (.inl rfl))
      (pss_cons (ps_set (i := 3) scAllRows.nd rfl (.inl rfl) (pe_lst pa_nil))
      (pss_cons (ps_for PassesOwn.never rfl (pi_list (pe_callTy call_list_of (by rfl) mls (by decide +kernel) (pa_cons (pv 1) pa_nil))) (pg_name (i := 4) scAllRows.nd rfl (.inl rfl))
        (pss_one (ps_expr (pe_bm PySem.F.plainAttrs_list PySem.F.slot_list_extend PySem.F.type_list_extend mt_extend (pv 3) (pa_cons
          (pe_lst (pa_cons (pe_op op_tcat (pv 4) (pe_tup (pa_cons pe_int pa_nil))) (pa_cons (pe_op op_tcat (pv 4) (pe_tup (pa_cons pe_int pa_nil))) pa_nil))) pa_nil)))))
      (pss_one (ps_set (i := 1) scAllRows.nd rfl (.inl rfl) (pv 3))))))
    (pss_one (ps_ret (pv 1)))), ?_⟩
  refine ⟨Nat.zero_le _, fun p1 n1 => ⟨(by show 1 ≤ sizeLine; decide), fun p2 n2 => ⟨.int n, rfl, n, rfl, by omega, by omega, ?_⟩⟩⟩
  have e2 : upd (upd H p1 (.tup [])) p2 (.lst [.ref p1]) p1 = some (.tup []) := by
    rw [upd_ne (ne_of_none upd_same n2)]
    exact upd_same
  have s2 : Same H (upd (upd H p1 (.tup [])) p2 (.lst [.ref p1])) := (same_new n1).trans (same_new n2)
  have n2' : H p2 = none := by
    by_cases h : p2 = p1
    · rw [h]; exact n1
    · rw [upd_ne h] at n2; exact n2
  refine for_range (lo := 0) (n := n) (fun i σ Hx => ∃ L xs y2 y3 y4, σ = [some (.int n), some (.ref L), y2, y3, y4] ∧ Same H Hx ∧ H L = none ∧ Hx L = some (.lst xs) ∧ All2 (IsRow Hx) xs (rowsN i))
    ⟨p2, [.ref p1], none, none, none, rfl, s2, n2', upd_same, .cons ⟨p1, rfl, e2⟩ .nil⟩ (fun i σ Hx hi hP => ?_) (fun σ Hx hP => ?_)
  · obtain ⟨L, xs, y2, y3, y4, rfl, sx, nL, eL, ax⟩ := hP
    have lx := ax.len
    rw [rowsN_len] at lx
    have p6 := pow6 (show i ≤ 6 by omega)
    refine ⟨Nat.zero_le _, fun p3 n3 => ⟨.ref L, rfl, L, xs, rfl, .inl (.of ?_), fun M nM => ?_⟩⟩
    · rw [upd_ne (ne_of_none eL n3)]
      exact eL
    have eM : upd (upd Hx p3 (.lst [])) M (.lst xs) M = some (.lst xs) := upd_same
    have n3M : p3 ≠ M := ne_of_none upd_same nM
    have sM : Same Hx (upd (upd Hx p3 (.lst [])) M (.lst xs)) := (same_new n3).trans (same_new nM)
    refine ⟨M, rfl, ⟨xs, .of eM⟩, ?_⟩
    refine for_list (K := K) (xs := xs) (fun j σ Hy => ∃ zs y4, σ = [some (.int n), some (.ref L), some (.int (0 + (i : Int))), some (.ref p3), y4] ∧ Same Hx Hy ∧ Hy M = some (.lst xs) ∧ Hy p3 = some (.lst zs) ∧ All2 (IsRow Hy) zs (grown (rowsN i) j))
      ⟨[], y4, rfl, sM, eM, ?_, .nil⟩ (fun j σ Hy _ hQ => ?_) (fun j x σ Hy hx hQ => ?_) (fun σ Hy hQ => ?_)
    · rw [upd_ne n3M]
      exact upd_same
    · obtain ⟨zs, y4, rfl, sy, em, e3, az⟩ := hQ
      exact .of em
    · obtain ⟨zs, y4, rfl, sy, em, e3, az⟩ := hQ
      obtain ⟨r, hr, ⟨a, rfl, ha⟩⟩ := ax.get hx
      have ha' : Hy a = some (.tup (r.map V.int)) := sy _ _ ha
      have lr : r.length ≤ 6 := by
        have : ∀ m, ∀ r ∈ rowsN m, r.length = m := fun m => by
          induction m with
          | zero => intro r hr; rw [List.mem_singleton.mp hr]; rfl
          | succ m ih =>
            intro r hr
            obtain ⟨q, hq, hr⟩ := List.mem_flatMap.mp hr
            have := ih q hq
            simp only [List.mem_cons, List.not_mem_nil, or_false] at hr
            rcases hr with rfl | rfl <;> rw [List.length_append, this] <;> rfl
        have := this i r (List.mem_of_getElem? hr)
        omega
      have lz := az.len
      have gl := grown_len (rowsN i) j
      rw [rowsN_len] at gl
      refine ⟨.ref p3, rfl, .inl ⟨rfl, _, .of e3⟩, .ref a, rfl, (by show 1 ≤ sizeLine; decide), fun t1 m1 => ?_⟩
      refine ⟨a, t1, r.map V.int, _, rfl, rfl, ?_, upd_same, ?_, fun H2 q1 s2 h1 => ?_⟩
      · rw [upd_ne (ne_of_none ha' m1)]
        exact ha'
      · rw [List.length_map]
        show r.length + 1 ≤ 5000
        omega
      have sa2 : Same Hy H2 := (same_new m1).trans s2
      refine ⟨.ref a, rfl, (by show 1 ≤ sizeLine; decide), fun t2 m2 => ?_⟩
      refine ⟨a, t2, r.map V.int, _, rfl, rfl, ?_, upd_same, ?_, fun H3 q2 s3 h2 => ?_⟩
      · rw [upd_ne (ne_of_none (sa2 _ _ ha') m2)]
        exact sa2 _ _ ha'
      · rw [List.length_map]
        show r.length + 1 ≤ 5000
        omega
      have sa3 : Same H2 H3 := (same_new m2).trans s3
      refine ⟨(by show 2 ≤ sizeLine; decide), fun b nb => ?_⟩
      have sb : Same H3 (upd H3 b (.lst [.ref q1, .ref q2])) := same_new nb
      have s4 : Same Hy (upd H3 b (.lst [.ref q1, .ref q2])) := (sa2.trans sa3).trans sb
      have e34 := s4 _ _ e3
      have nb3 : p3 ≠ b := ne_of_none (sa3 _ _ (sa2 _ _ e3)) nb
      refine ⟨p3, b, zs, [.ref q1, .ref q2], rfl, rfl, e34, upd_same, ?_, ?_⟩
      · show zs.length + 2 ≤ sizeLine
        exact Nat.le_of_lt (small60 (by omega))
      have t5 : Tk Hy (upd (upd H3 b (.lst [.ref q1, .ref q2])) p3 (.lst (zs ++ [.ref q1, .ref q2]))) := (Tk.same s4).trans (Tk.lst e34)
      have n3x : p3 ≠ M := n3M
      refine ⟨zs ++ [.ref q1, .ref q2], some (.ref a), rfl, fun c o ec => ?_, ?_, upd_same, ?_⟩
      · rw [upd_ne (ne_of_none ec n3)]
        exact s4 _ _ (sy _ _ ec)
      · rw [upd_ne n3M.symm]
        exact s4 _ _ em
      · rw [grown_next hr]
        refine (all_tk t5 az).app (.cons ?_ (.cons ?_ .nil))
        · refine ⟨q1, rfl, ?_⟩
          rw [upd_ne (ne_of e34 ((sa3.trans sb) _ _ h1) (by intro z; cases z)).symm]
          have := (sa3.trans sb) _ _ h1
          rw [List.map_append]
          exact this
        · refine ⟨q2, rfl, ?_⟩
          rw [upd_ne (ne_of e34 (sb _ _ h2) (by intro z; cases z)).symm]
          have := sb _ _ h2
          rw [List.map_append]
          exact this
    · obtain ⟨zs, y4, rfl, sy, em, e3, az⟩ := hQ
      refine ⟨.ref p3, rfl, ?_⟩
      refine ⟨p3, zs, _, _, y4, rfl, sx.trans sy, ?_, e3, ?_⟩
      · cases h : H p3 with
        | none => rfl
        | some o => rw [sx _ _ h] at n3; cases n3
      · rw [grown_all (by rw [lx, rowsN_len])] at az
        exact az
  · obtain ⟨L, xs, y2, y3, y4, rfl, sx, nL, eL, ax⟩ := hP
    exact ⟨.ref L, rfl, q Hx L xs sx nL eL ax⟩
end
end Ow

set_option Elab.async false
set_option linter.all false
set_option maxRecDepth 100000
set_option maxHeartbeats 4000000
namespace Ow
open PySem PySem.Spec PyProof.Rows L2
theorem scAsc : FnScope ["items", "one", "other"] ["items"] (defScope dAscending) := ⟨rfl, rfl, rfl, by decide +kernel, rfl, by decide +kernel, by decide +kernel⟩
theorem scSetNames : FnScope ["value", "item"] ["value"] (defScope dSetNames) := ⟨rfl, rfl, rfl, by decide +kernel, rfl, by decide +kernel, by decide +kernel⟩
theorem scIssues : FnScope ["value"] ["value"] (defScope dIssues) := ⟨rfl, rfl, rfl, by decide +kernel, rfl, by decide +kernel, by decide +kernel⟩
def ltS (a b : Str) : Bool := decide (a.cps.toList < b.cps.toList)
def ascB (zs : List Str) : Bool := ((zs.zip zs.tail).map fun p => ltS p.1 p.2).all id
theorem cut_tail (xs : List V) : cutV xs (some 1) none = xs.tail := by
  unfold cutV
  have e : HT.sIx xs.length 0 (some 1) = min 1 xs.length := by
    exact HT.sIx_nat xs.length 0 1
  rw [e]
  show (xs.drop (min 1 xs.length)).take (xs.length - min 1 xs.length) = xs.tail
  cases xs with
  | nil => rfl
  | cons x xs =>
    have : min 1 (x :: xs).length = 1 := by rw [List.length_cons]; omega
    rw [this, List.drop_one, List.tail_cons, List.take_of_length_le (by rw [List.length_cons]; omega)]
/-- the elements of a comprehension, known one by one, as a list -/
theorem list_eq {α : Type} {f : α → V} {ys : List V} {n : Nat} {zs : List α} (hl : ys.length = n) (hz : zs.length = n) (h : ∀ (i : Nat) y, ys[i]? = some y → ∃ z, zs[i]? = some z ∧ y = f z) : ys = zs.map f := by
  refine List.ext_getElem? fun i => ?_
  rw [List.getElem?_map]
  cases e : ys[i]? with
  | none =>
    have : zs[i]? = none := List.getElem?_eq_none (by have := List.getElem?_eq_none_iff.mp e; omega)
    rw [this]
    rfl
  | some y =>
    obtain ⟨z, hz, rfl⟩ := h i y e
    rw [hz]
    rfl
section
variable {P : Program} {w : World} {K : PySem.W.Frag} {mg : Str → Option Value} {base : Heap}
def spAsc : Sp := fun vs H Q _ => ∃ (a : Addr) (zs : List Str), vs = [.ref a] ∧ H a = some (.tup (zs.map V.str)) ∧ zs.length ≤ 100 ∧ ∀ H', Same H H' → Q (.bl (ascB zs)) H'
theorem ok_asc {f : Addr} {fd : FuncData} (F : Fun K "is_ascending" "is_ascending" dAscending f fd) (mz : mg "zip" = none) (ma : mg "all" = none) : FnOk P w K mg base CX0 1 f fd ["items"] spAsc := by
  refine F.ok scAsc (fun vs H Q E h => ?_) (fun cdv A outer s H vs Q E hr h => ?_)
  · obtain ⟨a, zs, rfl, _⟩ := h
    rfl
  obtain ⟨a, zs, rfl, ha, hl, q⟩ := h
  refine ⟨_, pss_one (ps_ret (pe_callB (cr_all rfl) (by rfl) ma boot_all (pa_cons
    (pe_lc (own := [("one", 1), ("other", 2)]) (g := gTup K 2 (gCons (gName 1) (gCons (gName 2) gNil))) (tt := tYes) rfl scAsc.nd
      (RZ.pi_zipA (by rfl) mz (pa_cons (pv 0) (pa_cons (pe_slice sl_tup (pv 0) (po_some pe_int) po_none) pa_nil)))
      (blkOk_by (N := ["items", "one", "other"]) (sc := defScope dAscending) (by decide +kernel))
      (fun _ _ _ _ _ => pg_tup rfl (pgs_cons (pg_name (i := 1) scAsc.nd rfl (Or.inl rfl)) (pgs_cons (pg_name (i := 2) scAsc.nd rfl (Or.inl rfl)) pgs_nil)))
      (fun _ _ _ _ _ => pts_nil) (fun _ _ _ _ _ => pe_cmpR op_lt_str (pv 1) (pv 2) (nomark _))) pa_nil))), ?_⟩
  refine ⟨.ref a, rfl, .ref a, rfl, 1, rfl, a, zs.map V.str, rfl, ha, fun H1 b s1 hb => ?_⟩
  rw [cut_tail, ← List.map_tail] at hb
  refine ⟨a, b, zs.map V.str, zs.tail.map V.str, rfl, .inr ⟨.of (s1 _ _ ha), .of hb, fun D nD => ?_⟩⟩
  refine lc_map (M := No) (walk_zipT (K := K) (a := a) (b := b) (xs := zs.map V.str) (ys := zs.tail.map V.str) rfl) (by rw [List.length_map, List.length_map, List.length_tail]; omega) Jg.no nD
    (fun i _ y => ∃ p, (zs.zip zs.tail)[i]? = some p ∧ y = .bl (ltS p.1 p.2)) (fun _ _ _ _ _ h => h) (fun Hx g _ => ⟨.of (g.toSame _ _ (s1 _ _ ha)), .of (g.toSame _ _ hb)⟩)
    (fun i x Hx Hx' Kk hi g _ hY hK => ?_) (fun Hx ys g _ eD hlen hp => ?_)
  · obtain ⟨T, x, y, rfl, nT, rfl, hx, hy⟩ := hY
    have hx : (zs.map V.str)[i]? = some x := hx
    have hy : (zs.tail.map V.str)[i]? = some y := hy
    rw [List.getElem?_map] at hx hy
    cases h1 : zs[i]? with
    | none => rw [h1] at hx; cases hx
    | some c =>
      cases h2 : zs.tail[i]? with
      | none => rw [h2] at hy; cases hy
      | some d =>
        rw [h1] at hx
        rw [h2] at hy
        cases hx
        cases hy
        refine ⟨T, [.str c, .str d], rfl, .of upd_same, rfl, _, _, rfl, _, _, rfl, rfl, rfl, .str c, rfl, .str d, rfl, c, d, rfl, rfl, hK _ _ (Gw.new nT) Jg.no ⟨(c, d), List.getElem?_zip_eq_some.mpr ⟨h1, h2⟩, rfl⟩⟩
  · have e : ys = ((zs.zip zs.tail).map fun p => ltS p.1 p.2).map V.bl := by
      rw [List.map_map]
      exact list_eq (f := V.bl ∘ fun p : Str × Str => ltS p.1 p.2) hlen (by rw [List.length_zip, List.length_map, List.length_map]) hp
    rw [e] at eD
    refine ⟨D, _, rfl, .of eD, q _ ?_⟩
    exact s1.trans g.toSame
end
end Ow

set_option Elab.async false
set_option linter.all false
set_option maxRecDepth 100000
set_option maxHeartbeats 4000000
namespace Ow
open PySem PySem.Spec PyProof.Rows L2
def namesB (zs : List Str) : Bool := (zs.all fun z => nameB (.str z)) && ascB zs
def issuesB (zs : List Str) : Bool := namesB zs && (decide (1 ≤ zs.length) && decide (zs.length ≤ 6))
/-- texts of plain signs -/
def Plain (zs : List Str) : Prop := ∀ z ∈ zs, z.length ≤ 4000 ∧ ∀ c ∈ z.cps.toList, c < 128
section
variable {P : Program} {w : World} {K : PySem.W.Frag} {mg : Str → Option Value} {base : Heap}
def spTexts (g : List Str → Bool) : Sp := fun vs H Q _ => ∃ (a : Addr) (zs : List Str), vs = [.ref a] ∧ H a = some (.tup (zs.map V.str)) ∧ zs.length ≤ 60 ∧ Plain zs ∧ ∀ H', Same H H' → Q (.bl (g zs)) H'
theorem ok_setnames {f fN fA : Addr} {fd fdN fdA : FuncData} (F : Fun K "is_set_of_names" "is_set_of_names" dSetNames f fd) (FN : FnOk P w K mg base CX0 1 fN fdN ["value"] (spB fun _ => nameB)) (kN : PySem.W.keepIn K (.ref fN) = true) (bN : Binds K fdN ["value"] []) (gN : mg "is_name" = some (.ref fN))
    (FA : FnOk P w K mg base CX0 1 fA fdA ["items"] spAsc) (kA : PySem.W.keepIn K (.ref fA) = true) (bA : Binds K fdA ["items"] []) (gA : mg "is_ascending" = some (.ref fA)) (mi : mg "isinstance" = none) (mt : mg "tuple" = none) (ma : mg "all" = none) :
    FnOk P w K mg base CX0 2 f fd ["value"] (spTexts namesB) := by
  refine F.ok scSetNames (fun vs H Q E h => ?_) (fun cdv A outer s H vs Q E hr h => ?_)
  · obtain ⟨a, zs, rfl, _⟩ := h
    rfl
  obtain ⟨a, zs, rfl, ha, hl, hp, q⟩ := h
  refine ⟨_, pss_one (ps_ret (pe_and (pe_isi (T := "tuple") (by rfl) mi (pv 0) (by rfl) mt boot_tup)
    (pe_and (pe_callB (cr_all rfl) (by rfl) ma boot_all (pa_cons
      (pe_lc (own := [("item", 1)]) (g := gName 1) (tt := tYes) rfl scSetNames.nd (pi_tup (pv 0)) (blkOk_by (N := ["value", "item"]) (sc := defScope dSetNames) (by decide +kernel))
        (fun _ _ _ _ _ => pg_name (i := 1) scSetNames.nd rfl (Or.inl rfl)) (fun _ _ _ _ _ => pts_nil)
        (fun _ _ _ _ _ => pe_call FN hr (by rfl) gN kN bN .nil pass0 (pa_cons (pv 1) pa_nil))) pa_nil))
      (pe_one (pe_call FA hr (by rfl) gA kA bA .nil pass0 (pa_cons (pv 0) pa_nil)))))), ?_⟩
  refine isi_at "tuple" rfl (.base (.tup ha)) (b := true) (by decide +kernel) ⟨true, rfl, iteT ?_⟩
  refine ⟨.ref a, rfl, a, rfl, ⟨_, .of ha⟩, fun D nD => ?_⟩
  refine lc_map (M := No) (walk_tup (K := K) (a := a) (xs := zs.map V.str)) (by rw [List.length_map]; omega) Jg.no nD (fun i _ y => ∃ z, zs[i]? = some z ∧ y = .bl (nameB (.str z))) (fun _ _ _ _ _ h => h) (fun Hx g _ => .of (g.toSame _ _ ha))
    (fun i x Hx Hx' Kk hi g _ hY hK => ?_) (fun Hx ys g _ eD hlen hq => ?_)
  · obtain ⟨rfl, hx⟩ := hY
    rw [List.getElem?_map] at hx
    cases h1 : zs[i]? with
    | none => rw [h1] at hx; cases hx
    | some c =>
      rw [h1] at hx
      cases hx
      have hc := hp c (List.mem_of_getElem? h1)
      refine ⟨rfl, .str c, rfl, .str c, 0, rfl, .inl hc, fun H2 s2 => hK _ _ (Gw.same s2) Jg.no ⟨c, h1, rfl⟩⟩
  · have e : ys = (zs.map fun z => nameB (.str z)).map V.bl := by
      rw [List.map_map]
      exact list_eq (f := V.bl ∘ fun z : Str => nameB (.str z)) hlen (by rw [List.length_map]) hq
    rw [e] at eD
    refine ⟨D, _, rfl, .of eD, _, rfl, ?_⟩
    have e2 : (zs.map fun z => nameB (.str z)).all id = zs.all fun z => nameB (.str z) := by rw [List.all_map]; rfl
    rw [e2]
    cases hb : zs.all fun z => nameB (.str z) with
    | true =>
      refine iteT ⟨.ref a, rfl, a, zs, rfl, g.toSame _ _ ha, by omega, fun H2 s2 => ?_⟩
      have := q H2 (g.toSame.trans s2)
      unfold namesB at this
      rw [hb, Bool.true_and] at this
      exact this
    | false =>
      refine iteF ?_
      have := q Hx g.toSame
      unfold namesB at this
      rw [hb, Bool.false_and] at this
      exact this
theorem ok_issues {f fS : Addr} {fd fdS : FuncData} {t : Tok} (F : Fun K "is_issues" "is_issues" dIssues f fd) (FS : FnOk P w K mg base CX0 2 fS fdS ["value"] (spTexts namesB)) (kS : PySem.W.keepIn K (.ref fS) = true) (bS : Binds K fdS ["value"] []) (gS : mg "is_set_of_names" = some (.ref fS))
    (ml : mg "len" = none) (mM : mg "MAX_ISSUES" = some (.int 6 t)) : FnOk P w K mg base CX0 3 f fd ["value"] (spTexts issuesB) := by
  refine F.ok scIssues (fun vs H Q E h => ?_) (fun cdv A outer s H vs Q E hr h => ?_)
  · obtain ⟨a, zs, rfl, _⟩ := h
    rfl
  obtain ⟨a, zs, rfl, ha, hl, hp, q⟩ := h
  refine ⟨_, pss_one (ps_ret (pe_and (pe_call FS hr (by rfl) gS kS bS .nil pass0 (pa_cons (pv 0) pa_nil))
    (pe_one (pe_chain op_le op_le pe_int (pe_callB call_len_seq (by rfl) ml PySem.boot_len (pa_cons (pv 0) pa_nil)) (pe_glob (v := .int 6) (by rfl) mM ⟨_, rfl⟩))))), ?_⟩
  refine ⟨.ref a, rfl, a, zs, rfl, ha, hl, hp, fun H1 s1 => ⟨_, rfl, ?_⟩⟩
  have fin : ∀ b, b = issuesB zs → Q (.bl b) H1 := fun b e => by rw [e]; exact q H1 s1
  cases hb : namesB zs with
  | true =>
    refine iteT ⟨.ref a, rfl, a, _, rfl, .inr (.of (s1 _ _ ha)), 1, _, rfl, rfl, _, rfl, ?_⟩
    rw [List.length_map]
    by_cases h1 : (1 : Int) ≤ (zs.length : Int)
    · rw [decide_eq_true h1]
      refine iteT ⟨_, _, rfl, rfl, fin _ ?_⟩
      unfold issuesB
      rw [hb, decide_eq_true (show 1 ≤ zs.length by omega), Bool.true_and, Bool.true_and]
      by_cases h6 : zs.length ≤ 6
      · rw [decide_eq_true h6, decide_eq_true (show (zs.length : Int) ≤ 6 by omega)]
      · rw [decide_eq_false h6, decide_eq_false (show ¬ (zs.length : Int) ≤ 6 by omega)]
    · rw [decide_eq_false h1]
      refine iteF (fin _ ?_)
      unfold issuesB
      rw [decide_eq_false (show ¬ 1 ≤ zs.length by omega), Bool.false_and, Bool.and_false]
  | false =>
    refine iteF (fin _ ?_)
    unfold issuesB
    rw [hb, Bool.false_and]
end
end Ow

set_option Elab.async false
set_option linter.all false
set_option maxRecDepth 100000
set_option maxHeartbeats 4000000
namespace Ow
open PySem PySem.Spec PyProof.Rows L2
/-- the signs of a text, each a text -/
def signsV (z : Str) : List V := z.cps.toList.map fun c => .str ⟨#[c]⟩
def rListS : List V → Hp → VK → Prop := fun xs H Q => ∃ z, xs = [.str z] ∧ z.length ≤ 5000 ∧ ∀ p, H p = none → Q (.ref p) (upd H p (.lst (signsV z)))
theorem call_listS {X : Cx} (hc : X.calm = true) : CallR X (.type "list") rListS := by
  intro pins s σ H xs us Q I r h
  obtain ⟨z, rfl, hz, q⟩ := h
  obtain ⟨u, rfl, rx⟩ := vals1 r
  obtain ⟨t, rfl⟩ := rx
  have hsz : z.cps.size ≤ sizeLine := Nat.le_trans hz (by decide)
  refine call_list_str (I.ok.hd hc) z t (fun h' tk acc' c' hk hS hacc => ?_) hsz
  refine ⟨.ref s.heap.objs.size, _, I.laid (t' := tk) hk (Nat.le_refl _) (show ObjOk X.prog X.w _ h' _ (.lst (signsV z)) from ?_), rfl, q _ (I.hok.fresh (Nat.le_refl _))⟩
  refine ⟨by unfold signsV; rw [List.length_map, Array.length_toList]; exact hsz, acc'.toList, c', ?_, by rw [Array.toArray_toList]; exact hS⟩
  refine vals_of_at (by unfold signsV; rw [List.length_map, Array.length_toList, Array.length_toList]; exact hacc.1.symm) fun j x v hx hv => ?_
  obtain ⟨c, u, hc2, rfl⟩ := hacc.2 j v (by rw [Array.getElem?_toList] at hv; exact hv)
  unfold signsV at hx
  rw [List.getElem?_map, Array.getElem?_toList, hc2] at hx
  cases hx
  exact ⟨_, rfl⟩
end Ow

set_option Elab.async false
set_option linter.all false
set_option maxRecDepth 100000
set_option maxHeartbeats 4000000
set_option exponentiation.threshold 3000
namespace Ow
open PySem PySem.Spec PyProof.Rows L2
theorem scJumbled : FnScope ["jug", "items", "waits", "turn"] ["jug", "items"] (defScope dJumbled) := ⟨rfl, rfl, rfl, by decide +kernel, rfl, by decide +kernel, by decide +kernel⟩
/-- what a list is made of: a list, or a text's signs -/
def Src (H : Hp) (J : Addr) (x : V) (xs : List V) : Prop := (∃ L, x = .ref L ∧ L ≠ J ∧ H L = some (.lst xs)) ∨ ∃ z : Str, x = .str z ∧ z.length ≤ 60 ∧ xs = signsV z
def rListA (K : PySem.W.Frag) : List V → Hp → VK → Prop := fun xs H Q => (∃ p ys, xs = [.ref p] ∧ (SqL K H p ys ∨ SqT K H p ys) ∧ ∀ l, H l = none → Q (.ref l) (upd H l (.lst ys))) ∨ rListS xs H Q
theorem call_listA {X : Cx} (hc : X.calm = true) : CallR X (.type "list") (rListA X.K) := CallR.or call_list_of (call_listS hc)
theorem Src.call {K : PySem.W.Frag} {H : Hp} {J : Addr} {x : V} {xs : List V} {Q : VK} (h : Src H J x xs) (q : ∀ l, H l = none → Q (.ref l) (upd H l (.lst xs))) : rListA K [x] H Q := by
  rcases h with ⟨L, rfl, _, hL⟩ | ⟨z, rfl, hz, rfl⟩
  · exact .inl ⟨L, xs, rfl, .inl (.of hL), q⟩
  · exact .inr ⟨z, rfl, Nat.le_trans hz (by decide), q⟩
theorem Src.same {H H' : Hp} {J : Addr} {x : V} {xs : List V} (h : Src H J x xs) (s : Same H H') : Src H' J x xs := by
  rcases h with ⟨L, e, n, hL⟩ | h
  · exact .inl ⟨L, e, n, s _ _ hL⟩
  · exact .inr h
theorem perm_erase {α : Type} : ∀ (ws : List α) (k : Nat) (h : k < ws.length), (ws[k] :: ws.eraseIdx k).Perm ws
  | w :: ws, 0, _ => .refl _
  | w :: ws, k + 1, h => by
    show (ws[k]'(Nat.lt_of_succ_lt_succ h) :: w :: ws.eraseIdx k).Perm (w :: ws)
    exact (List.Perm.swap w _ _).trans ((perm_erase ws k (Nat.lt_of_succ_lt_succ h)).cons w)
theorem yes_of' {σ : L2.St} {H : Hp} {A B : Hp → Prop} (h : A H) : tYes σ H (fun b H3 => if b = true then A H3 else B H3) := by
  show if true = true then A H else B H
  rw [if_pos rfl]
  exact h
section
variable {P : Program} {w : World} {K : PySem.W.Frag} {mg : Str → Option Value} {base : Heap}
/-- the items in some order, a new list -/
def spJum : Sp := fun vs H Q _ => ∃ (J : Addr) (x0 : V) (xs : List V), vs = [.ref J, x0] ∧ Jug H J ∧ Src H J x0 xs ∧ xs.length ≤ 64 ∧ ∀ H' p ys, Sb J H H' → Jug H' J → H p = none → H' p = some (.lst ys) → ys.Perm xs → Q (.ref p) H'
theorem ok_jumbled {f fD : Addr} {fd fdD : FuncData} (F : Fun K "_law_jumbled" "_law_jumbled" dJumbled f fd)
    (FD : FnOk P w K mg base CX0 1 fD fdD ["jug", "total"] spDip) (kD : PySem.W.keepIn K (.ref fD) = true) (bD : Binds K fdD ["jug", "total"] []) (gD : mg "_law_dip" = some (.ref fD))
    (mls : mg "list" = none) (ml : mg "len" = none) : FnOk P w K mg base CX0 2 f fd ["jug", "items"] spJum := by
  refine F.ok scJumbled (fun vs H Q E h => ?_) (fun cdv A outer s H vs Q E hr h => ?_)
  · obtain ⟨J, x0, xs, rfl, _⟩ := h
    rfl
  obtain ⟨J, x0, xs, rfl, hJ, hL, hl, q⟩ := h
  refine ⟨_, pss_cons (ps_set (i := 2) scJumbled.nd rfl (.inr rfl) (pe_callTy (call_listA rfl) (by rfl) mls (by decide +kernel) (pa_cons (pv 1) pa_nil)))
    (pss_one (ps_ret (pe_lc (te := tBM K "list" rPopAt (tVar 2) (tCons (tCall spDip [] E0 (tCons (tVar 0) (tCons (tCB (fun xs H Q => ∃ p ys, xs = [.ref p] ∧ (SqL K H p ys ∨ SqT K H p ys) ∧ Q (.int ys.length) H) (tCons (tVar 2) tNil)) tNil))) tNil)) (own := [("turn", 3)]) (g := gName 3) (tt := tYes) rfl scJumbled.nd
      (pi_list (pe_callTy (call_listA rfl) (by rfl) mls (by decide +kernel) (pa_cons (pv 1) pa_nil))) (blkOk_by (N := ["jug", "items", "waits", "turn"]) (sc := defScope dJumbled) (by decide +kernel))
      (fun _ _ _ _ _ => pg_name (i := 3) scJumbled.nd rfl (Or.inl rfl)) (fun _ _ _ _ _ => pts_nil)
      (fun _ _ _ _ _ => pe_bm PySem.F.plainAttrs_list PySem.F.slot_list_pop PySem.F.type_list_pop mt_popAt (pv 2) (pa_cons (pe_call FD hr (by rfl) gD kD bD .nil pass0 (pa_cons (pv 0) (pa_cons (pe_callB call_len_seq (by rfl) ml PySem.boot_len (pa_cons (pv 2) pa_nil)) pa_nil))) pa_nil))))), ?_⟩
  refine ⟨x0, rfl, ?_⟩
  dsimp only [tNil]
  refine hL.call (K := K) fun W nW => ?_
  have sW := same_new (o := .lst xs) nW
  have eW : upd H W (.lst xs) W = some (.lst xs) := upd_same
  have hL1 := hL.same sW
  have j1 := jug_same sW hJ
  have WJ : W ≠ J := jug_none hJ nW
  have keep1 : ∀ b o, H b = some o → b ≠ W := fun b o e => ne_of_none e nW
  generalize upd H W (.lst xs) = H1 at sW eW hL1 j1 ⊢
  refine ⟨x0, rfl, ?_⟩
  dsimp only [tNil]
  refine hL1.call (K := K) fun T nT => ⟨T, rfl, ⟨xs, .of upd_same⟩, fun D nD => ?_⟩
  have sT := same_new (o := .lst xs) nT
  have eW2 := sT _ _ eW
  have TJ : T ≠ J := jug_none j1 nT
  have TW : T ≠ W := (ne_of_none eW nT).symm
  have j2 := jug_same sT j1
  have eT : upd H1 T (.lst xs) T = some (.lst xs) := upd_same
  have keep2 : ∀ b o, H b = some o → upd H1 T (.lst xs) b = some o := fun b o e => sT _ _ (sW _ _ e)
  have nD0 : H D = none := by
    cases e : H D with
    | none => rfl
    | some o => rw [keep2 D o e] at nD; cases nD
  generalize upd H1 T (.lst xs) = H2 at eW2 j2 eT keep2 nD ⊢
  have DJ : D ≠ J := jug_none j2 nD
  have DW : D ≠ W := (ne_of_none eW2 nD).symm
  have DT : D ≠ T := (ne_of_none eT nD).symm
  refine lc_it (walk_list (K := K) (a := T) (xs := xs)) (fun i Hx => (∀ b o, b ≠ J → b ≠ W → b ≠ D → H2 b = some o → Hx b = some o) ∧ Jug Hx J ∧ ∃ ws ys, Hx W = some (.lst ws) ∧ Hx D = some (.lst ys) ∧ (ys ++ ws).Perm xs ∧ ys.length = i)
    ⟨fun b o _ _ n e => by rw [upd_ne n]; exact e, jug_keep j2 DJ, xs, [], by rw [upd_ne DW.symm]; exact eW2, upd_same, .refl _, rfl⟩ (fun i Hx _ h => .of (h.1 _ _ TJ TW DT.symm eT)) (fun i x Hx Hx' hi h hY => ?_) (fun Hx h => ?_)
  · obtain ⟨rfl, hx⟩ := hY
    obtain ⟨kp, jx, ws, ys, ew, ed, pm, ly⟩ := h
    have lw : ys.length + ws.length = xs.length := by rw [← List.length_append]; exact pm.length_eq
    have pos : 0 < ws.length := by omega
    refine ⟨rfl, yes_of' ?_⟩
    refine ⟨.ref W, rfl, .inl ⟨rfl, _, .of ew⟩, .ref J, rfl, .ref W, rfl, W, ws, rfl, .inl (.of ew), J, ws.length, rfl, by omega, ?_, jx, fun H3 k sb3 j3 k0 kl => ?_⟩
    · exact Nat.lt_of_lt_of_le (by omega : ((ws.length : Nat) : Int).natAbs < 2 ^ 7) (Nat.pow_le_pow_right (by decide) (by decide))
    have ew3 := sb3 _ _ WJ ew
    have ed3 := sb3 _ _ DJ ed
    have kn : k.toNat < ws.length := by omega
    refine ⟨W, ws, k, k.toNat, ws[k.toNat], rfl, rfl, ew3, by omega, by omega, seqIndex_of k0 kl, List.getElem?_eq_getElem kn, ys, ?_, small60 (by omega), fun b o n1 n2 n3 e => ?_, ?_, ws.eraseIdx k.toNat, ys ++ [ws[k.toNat]], ?_, upd_same, ?_, by rw [List.length_append, ly]; rfl⟩
    · rw [upd_ne DW]
      exact ed3
    · rw [upd_ne n3, upd_ne n2]
      exact sb3 _ _ n1 (kp b o n1 n2 n3 e)
    · exact jug_keep (jug_keep j3 WJ) DJ
    · rw [upd_ne DW.symm]
      exact upd_same
    · have p1 : (ws[k.toNat] :: ws.eraseIdx k.toNat).Perm ws := perm_erase _ _ kn
      have : (ys ++ [ws[k.toNat]] ++ ws.eraseIdx k.toNat) = ys ++ (ws[k.toNat] :: ws.eraseIdx k.toNat) := by simp
      rw [this]
      exact (List.Perm.append_left ys p1).trans pm
  · obtain ⟨kp, jx, ws, ys, ew, ed, pm, ly⟩ := h
    have lw : ys.length + ws.length = xs.length := by rw [← List.length_append]; exact pm.length_eq
    have e0 : ws = [] := List.length_eq_zero_iff.mp (by omega)
    rw [e0, List.append_nil] at pm
    exact q Hx D ys (fun b o n e => kp b o n (keep1 b o e) (fun z => by rw [z, nD0] at e; cases e) (keep2 b o e)) jx nD0 ed pm
end
end Ow

set_option Elab.async false
set_option linter.all false
set_option maxRecDepth 100000
set_option maxHeartbeats 4000000
set_option exponentiation.threshold 3000
namespace Ow
open PySem PySem.Spec PyProof.Rows L2
theorem rowsN_size : ∀ n, ∀ r ∈ rowsN n, r.length = n
  | 0, r, hr => by rw [List.mem_singleton.mp hr]; rfl
  | n + 1, r, hr => by
    obtain ⟨q, hq, hr⟩ := List.mem_flatMap.mp hr
    have := rowsN_size n q hq
    simp only [List.mem_cons, List.not_mem_nil, or_false] at hr
    rcases hr with rfl | rfl <;> rw [List.length_append, this] <;> rfl
theorem same_none {H H' : Hp} {p : Addr} (s : Same H H') (n : H' p = none) : H p = none := by
  cases h : H p with
  | none => rfl
  | some o => rw [s _ _ h] at n; cases n
theorem same_newer {H H' : Hp} {p : Addr} {o : HO} (s : Same H H') (n : H p = none) : Same H (upd H' p o) := fun b x e => by
  rw [upd_ne (ne_of_none e n)]
  exact s b x e
def rowD (ns : List Int) : PyData := .tuple (ns.map .int)
def rowsD (rs : List (List Int)) : PyData := .tuple (rs.map rowD)
theorem dp_ints {K : PySem.W.Frag} {H : Hp} : ∀ ns : List Int, DpAll K H (ns.map V.int) (ns.map .int)
  | [] => .nil
  | n :: ns => .cons (.int n) (dp_ints ns)
theorem dp_row {K : PySem.W.Frag} {H : Hp} {v : V} {ns : List Int} (h : IsRow H v ns) : Dp K H v (rowD ns) := by
  obtain ⟨a, rfl, h⟩ := h
  exact .tup (.of h) (dp_ints ns)
theorem dp_all {K : PySem.W.Frag} {H : Hp} {xs : List V} {rs : List (List Int)} (h : All2 (IsRow H) xs rs) : DpAll K H xs (rs.map rowD) := by
  induction h with
  | nil => exact .nil
  | cons r _ ih => exact .cons (dp_row r) ih
theorem dp_rows {K : PySem.W.Frag} {H : Hp} {v : V} {rs : List (List Int)} (h : IsRows H v rs) : Dp K H v (rowsD rs) := by
  obtain ⟨a, xs, rfl, h, g⟩ := h
  exact .tup (.of h) (dp_all g)
theorem eqv_ints : ∀ ns ms : List Int, PyData.eqvAll (ns.map .int) (ms.map .int) = decide (ns = ms)
  | [], [] => rfl
  | [], m :: ms => rfl
  | n :: ns, [] => rfl
  | n :: ns, m :: ms => by
    show ((n == m) && PyData.eqvAll (ns.map .int) (ms.map .int)) = _
    rw [eqv_ints ns ms]
    by_cases h : n = m
    · subst h
      by_cases g : ns = ms
      · subst g
        simp
      · simp [g]
    · simp [h]
theorem eqv_row (ns ms : List Int) : PyData.eqv (rowD ns) (rowD ms) = decide (ns = ms) := eqv_ints ns ms
theorem eqv_alls : ∀ rs ts : List (List Int), PyData.eqvAll (rs.map rowD) (ts.map rowD) = decide (rs = ts)
  | [], [] => rfl
  | [], m :: ms => rfl
  | n :: ns, [] => rfl
  | n :: ns, m :: ms => by
    show (PyData.eqv (rowD n) (rowD m) && PyData.eqvAll (ns.map rowD) (ms.map rowD)) = _
    rw [eqv_alls ns ms, eqv_row]
    by_cases h : n = m
    · subst h
      by_cases g : ns = ms
      · subst g
        simp
      · simp [g]
    · simp [h]
theorem eqv_rows (rs ts : List (List Int)) : PyData.eqv (rowsD rs) (rowsD ts) = decide (rs = ts) := eqv_alls rs ts
theorem lay_ints : ∀ ns : List Int, PyData.canLayAll0 (ns.map .int) = true
  | [] => rfl
  | n :: ns => by
    show (true && PyData.canLayAll0 (ns.map .int)) = true
    rw [lay_ints ns]
    rfl
theorem depth_ints : ∀ ns : List Int, PyData.depthAll (ns.map .int) = 0
  | [] => rfl
  | n :: ns => by
    show max 0 (PyData.depthAll (ns.map .int)) = 0
    rw [depth_ints ns]
    rfl
theorem lay_row (ns : List Int) : PyData.canLay0 (rowD ns) = true := lay_ints ns
theorem depth_row (ns : List Int) : PyData.depth (rowD ns) = 1 := by
  show PyData.depthAll (ns.map .int) + 1 = 1
  rw [depth_ints]
theorem shaped_row (ns : List Int) : SeqAt.shaped (rowD ns) = true := by
  unfold SeqAt.shaped
  rw [lay_row, depth_row]
  rfl
theorem lay_alls : ∀ rs : List (List Int), PyData.canLayAll0 (rs.map rowD) = true
  | [] => rfl
  | n :: ns => by
    show (PyData.canLay0 (rowD n) && PyData.canLayAll0 (ns.map rowD)) = true
    rw [lay_alls ns, lay_row]
    rfl
theorem depth_alls : ∀ rs : List (List Int), PyData.depthAll (rs.map rowD) ≤ 1
  | [] => Nat.zero_le _
  | n :: ns => by
    show max (PyData.depth (rowD n)) (PyData.depthAll (ns.map rowD)) ≤ 1
    have := depth_alls ns
    rw [depth_row]
    omega
theorem shaped_rows (rs : List (List Int)) : SeqAt.shaped (rowsD rs) = true := by
  unfold SeqAt.shaped
  have h : PyData.canLay0 (rowsD rs) = true := lay_alls rs
  have g : PyData.depth (rowsD rs) ≤ 64 := by
    show PyData.depthAll (rs.map rowD) + 1 ≤ 64
    have := depth_alls rs
    omega
  rw [h, decide_eq_true g]
  rfl
theorem hu64 {A : Around} {k : Nat} (hr : Room k A) : A.units + 64 < cLine := hr.units
theorem in_strs {z : Str} : ∀ {ys : List Str}, z ∈ ys → inV (.str z) (ys.map V.str) = true
  | y :: ys, h => by
    unfold inV
    rw [List.map_cons, List.any_cons]
    rcases List.mem_cons.mp h with rfl | h
    · have : eqV (.str z) (.str z) = true := by show (z == z) = true; simp
      rw [this]
      rfl
    · have := in_strs h
      unfold inV at this
      rw [this, Bool.or_true]
theorem flat_strs (ys : List Str) : (ys.map V.str).all flatV = true := by
  rw [List.all_eq_true]
  intro x hx
  obtain ⟨z, _, rfl⟩ := List.mem_map.mp hx
  rfl
theorem all_rep {α β : Type} {R : α → β → Prop} {x : α} {y : β} (h : R x y) : ∀ n, All2 R (List.replicate n x) (List.replicate n y)
  | 0 => .nil
  | n + 1 => .cons h (all_rep h n)
theorem ltCps_tri : ∀ a b : List Nat, ltCps a b = false → ltCps b a = false → a = b
  | [], [], _, _ => rfl
  | [], _ :: _, h, _ => nomatch h
  | _ :: _, [], _, h => nomatch h
  | a :: r, b :: t, h, g => by
    unfold ltCps at h g
    have e : a = b := by
      by_cases h1 : a < b
      · simp [h1] at h
      · by_cases h2 : b < a
        · simp [h2] at g
        · omega
    subst e
    simp only [Nat.lt_irrefl, decide_false, Bool.false_or, beq_self_eq_true, Bool.true_and] at h g
    rw [ltCps_tri r t h g]
theorem str_ext {a b : Str} (h : a.cps.toList = b.cps.toList) : a = b := by
  cases a
  cases b
  congr 1
  exact Array.toList_inj.mp h
theorem risingS_all : ∀ (r : List Str) (p : Str), risingS p r = true → ∀ z ∈ r, ltCps z.cps.toList p.cps.toList = false
  | [], _, _, _, h => nomatch h
  | x :: r, p, h, z, hz => by
    unfold risingS at h
    rw [Bool.and_eq_true] at h
    have h1 : ltCps x.cps.toList p.cps.toList = false := by
      have := h.1
      cases q : ltCps x.cps.toList p.cps.toList with
      | true => rw [q] at this; cases this
      | false => rfl
    rcases List.mem_cons.mp hz with rfl | hz
    · exact h1
    · have h2 := risingS_all r x h.2 z hz
      cases q : ltCps x.cps.toList z.cps.toList with
      | false =>
        have e := ltCps_tri _ _ q h2
        rw [← e]
        exact h1
      | true =>
        rw [ltCps_eq] at h1 q ⊢
        exact decide_eq_false fun a3 => of_decide_eq_false h1 (List.lt_trans (of_decide_eq_true q) a3)
theorem sorted_unique : ∀ {ys zs : List Str}, ys.Perm zs → ys.Nodup → sortedS ys = true → sortedS zs = true → ys = zs
  | [], zs, p, _, _, _ => (List.nil_perm.mp p).symm
  | y :: ys, [], p, _, _, _ => absurd p.length_eq (by simp)
  | y :: ys, z :: zs, p, nd, h1, h2 => by
    have e : y = z := by
      have m1 : y ∈ z :: zs := p.mem_iff.mp List.mem_cons_self
      have m2 : z ∈ y :: ys := p.mem_iff.mpr List.mem_cons_self
      rcases List.mem_cons.mp m1 with e | m1
      · exact e
      · rcases List.mem_cons.mp m2 with e | m2
        · exact e.symm
        · exact str_ext (ltCps_tri _ _ (risingS_all zs z h2 y m1) (risingS_all ys y h1 z m2))
    subst e
    have nx : ∀ {p : Str} {l : List Str}, risingS p l = true → sortedS l = true := fun {p l} h => by
      cases l with
      | nil => rfl
      | cons x r =>
        unfold risingS at h
        rw [Bool.and_eq_true] at h
        exact h.2
    rw [sorted_unique (List.Perm.cons_inv p) (List.nodup_cons.mp nd).2 (nx h1) (nx h2)]
theorem nodup_take {ys : List Str} (h : ys.Nodup) {i : Nat} {z : Str} (e : ys[i]? = some z) : z ∉ ys.take i := by
  intro m
  obtain ⟨hi, e⟩ := List.getElem?_eq_some_iff.mp e
  obtain ⟨j, hj, ej⟩ := List.mem_take_iff_getElem.mp m
  exact List.pairwise_iff_getElem.mp h j i (by omega) hi (by omega) (ej.trans e.symm)
theorem yes_of {σ : L2.St} {H : Hp} {A B : Hp → Prop} (h : A H) : tYes σ H (fun b H3 => if b = true then A H3 else B H3) := by
  show if true = true then A H else B H
  rw [if_pos rfl]
  exact h
end Ow

set_option Elab.async false
set_option linter.all false
set_option maxRecDepth 100000
set_option maxHeartbeats 4000000
set_option exponentiation.threshold 3000
namespace Ow
open PySem PySem.Spec PyProof.Rows L2
/-- a comprehension of two clauses over lists or tuples that stay, the second one `for .. in t if ..`, t a tuple -/
theorem lc2_grow {K : PySem.W.Frag} {J : It} {G : Hp → Prop} {xs ys : List V} {t : Addr} (wk : Walk J xs.length G (YAt xs)) {p q r : Nat} {tt1 : TT} {te : TE} {vs vs1 : List Nat} {σ : L2.St} {H1 : Hp} {D : Addr} {Qd : Hp → Prop}
    {α1 α2 β : Type} (as : List α1) (bs : List α2) (f : α1 → α2 → Option β) (R : Hp → V → β → Prop) (hR : ∀ {H H' v b}, Tk H H' → R H v b → R H' v b) (la : as.length = xs.length) (lb : bs.length = ys.length) (few : xs.length * ys.length ≤ 5000)
    (nD : H1 D = none) (ht : H1 t = some (.tup ys)) (hG : ∀ H, Same H1 H → G H)
    (h1 : ∀ x, wipe ((wipe σ vs).set p (some x)) vs = wipe σ vs) (h2 : ∀ x, ((wipe σ vs).set p (some x))[r]? = some (some (.ref t)))
    (h3 : ∀ x y, wipe ((wipe ((wipe σ vs).set p (some x)) vs1).set q (some y)) vs1 = wipe ((wipe σ vs).set p (some x)) vs1)
    (elt : ∀ (i j : Nat) (x y : V) (a : α1) (b : α2) (H : Hp) (K0 : Hp → Prop) (K1 : V → Hp → Prop), xs[i]? = some x → as[i]? = some a → ys[j]? = some y → bs[j]? = some b → Same H1 H →
      (∀ H6, Same H H6 → f a b = none → K0 H6) → (∀ v H7 c, Same H H7 → f a b = some c → R H7 v c → K1 v H7) →
      tt1 ((wipe ((wipe σ vs).set p (some x)) vs1).set q (some y)) H fun c H6 => if c = true then te ((wipe ((wipe σ vs).set p (some x)) vs1).set q (some y)) H6 K1 else K0 H6)
    (hd : ∀ H zs, Same H1 H → H D = some (.lst zs) → All2 (R H) zs (as.flatMap fun a => bs.filterMap (f a)) → Qd H) :
    ∃ W : Nat → Nat → Hp → Prop, (∃ m, W 0 m (upd H1 D (.lst []))) ∧ ∀ i m H, W i m H →
      (J.stop i H ∧ Qd H) ∨ (J.go i H ∧ ∃ Nx : Hp → Prop, (∀ H', Nx H' → ∃ m', m' < m ∧ W (i + 1) m' H') ∧ ∀ x H', J.yld i H x H' → gName p x (wipe σ vs) H' fun σ2 H2 => wipe σ2 vs = wipe σ vs ∧ tYes σ2 H2 fun b H3 =>
        if b = true then iTup K (tVar r) σ2 H3 fun J1 H4 => ∃ W1 : Nat → Nat → Hp → Prop, (∃ m, W1 0 m H4) ∧ ∀ j k H, W1 j k H →
          (J1.stop j H ∧ Nx H) ∨ (J1.go j H ∧ ∃ Nx1 : Hp → Prop, (∀ H', Nx1 H' → ∃ k', k' < k ∧ W1 (j + 1) k' H') ∧ ∀ x H', J1.yld j H x H' → gName q x (wipe σ2 vs1) H' fun σ3 H5 => wipe σ3 vs1 = wipe σ2 vs1 ∧ tt1 σ3 H5 fun b H6 =>
            if b = true then te σ3 H6 fun y H7 => ∃ acc, H7 D = some (.lst acc) ∧ acc.length < sizeLine ∧ Nx1 (upd H7 D (.lst (acc ++ [y]))) else Nx1 H6)
        else Nx H3) := by
  have most : ∀ (us : List α1) (a : α1) (k j : Nat), us.length = k → ((us.flatMap fun a => bs.filterMap (f a)) ++ (bs.take j).filterMap (f a)).length ≤ (k + 1) * ys.length := fun us a k j e => by
    have one : ∀ (a : α1) (cs : List α2), (cs.filterMap (f a)).length ≤ cs.length := fun a cs => List.length_filterMap_le _ _
    have all : ∀ us : List α1, (us.flatMap fun a => bs.filterMap (f a)).length ≤ us.length * ys.length := fun us => by
      induction us with
      | nil => simp
      | cons u us ih =>
        have := one u bs
        rw [List.flatMap_cons, List.length_append, List.length_cons, Nat.succ_mul]
        omega
    have h1 := all us
    have h2 := one a (bs.take j)
    rw [List.length_take] at h2
    rw [List.length_append, Nat.succ_mul]
    rw [e] at h1
    omega
  have W0 := wk
  let Pv : Nat → Hp → Prop := fun i H => Same H1 H ∧ ∃ zs, H D = some (.lst zs) ∧ All2 (R H) zs ((as.take i).flatMap fun a => bs.filterMap (f a))
  refine ⟨fun i m H => m = xs.length - i ∧ i ≤ xs.length ∧ Pv i H, ⟨xs.length, by simp, Nat.zero_le _, same_new nD, [], upd_same, .nil⟩, ?_⟩
  rintro i m H ⟨rfl, hi, sH, zs, eD, az⟩
  have g0 := hG H sH
  by_cases lt : i < xs.length
  · refine .inr ⟨wk.goes i H lt g0, Pv (i + 1), fun H' p' => ⟨xs.length - (i + 1), by omega, rfl, lt, p'⟩, fun x H' y => ?_⟩
    obtain ⟨eH, hx⟩ := wk.yields i H x H' lt g0 y
    have eH := eH.symm
    subst eH
    obtain ⟨a, ha⟩ : ∃ a, as[i]? = some a := ⟨as[i], List.getElem?_eq_getElem (by omega)⟩
    refine ⟨h1 x, ?_⟩
    refine yes_of ?_
    refine ⟨.ref t, h2 x, t, rfl, ⟨ys, .of (sH _ _ ht)⟩, ?_⟩
    have w1 := walk_tup (K := K) (a := t) (xs := ys)
    let P1 : Nat → Hp → Prop := fun j H' => Same H1 H' ∧ ∃ zs, H' D = some (.lst zs) ∧ All2 (R H') zs (((as.take i).flatMap fun a => bs.filterMap (f a)) ++ (bs.take j).filterMap (f a))
    refine ⟨fun j k H' => k = ys.length - j ∧ j ≤ ys.length ∧ P1 j H', ⟨ys.length, by simp, Nat.zero_le _, sH, zs, eD, by rw [List.take_zero, List.filterMap_nil, List.append_nil]; exact az⟩, ?_⟩
    rintro j k H2 ⟨rfl, hj, s2, zs2, eD2, az2⟩
    have gt : SqT K H2 t ys := .of (s2 _ _ ht)
    by_cases lj : j < ys.length
    · refine .inr ⟨w1.goes j H2 lj gt, P1 (j + 1), fun H' p' => ⟨ys.length - (j + 1), by omega, rfl, lj, p'⟩, fun x1 H' y1 => ?_⟩
      obtain ⟨eH, hy⟩ := w1.yields j H2 x1 H' lj gt y1
      have eH := eH.symm
      subst eH
      obtain ⟨b, hb⟩ : ∃ b, bs[j]? = some b := ⟨bs[j], List.getElem?_eq_getElem (by omega)⟩
      have lz := az2.len
      have lm := most (as.take i) a i j (by rw [List.length_take]; omega)
      have lm2 : (i + 1) * ys.length ≤ xs.length * ys.length := Nat.mul_le_mul_right _ lt
      have eT : (bs.take (j + 1)).filterMap (f a) = (bs.take j).filterMap (f a) ++ (f a b).toList := by
        rw [List.take_add_one, hb, List.filterMap_append]
        congr 1
      refine ⟨h3 x x1, elt i j x x1 a b H2 _ _ hx ha hy hb s2 (fun H6 s6 e6 => ?_) (fun v H7 c s7 e7 r7 => ?_)⟩
      · refine ⟨s2.trans s6, zs2, s6 _ _ eD2, ?_⟩
        rw [eT, e6]
        show All2 (R H6) zs2 (_ ++ (_ ++ []))
        rw [List.append_nil]
        exact az2.imp fun _ _ q => hR (Tk.same s6) q
      · have eD7 := s7 _ _ eD2
        refine ⟨zs2, eD7, small60 (by omega), fun o ob e => ?_, zs2 ++ [v], upd_same, ?_⟩
        · rw [upd_ne (ne_of_none e nD)]
          exact s7 _ _ (s2 _ _ e)
        · rw [eT, e7, ← List.append_assoc]
          have tk : Tk H7 (upd H7 D (.lst (zs2 ++ [v]))) := Tk.lst eD7
          exact (az2.imp fun _ _ q => hR ((Tk.same s7).trans tk) q).app (.cons (hR tk r7) .nil)
    · have e : j = ys.length := by omega
      subst e
      refine .inl ⟨w1.stops H2 gt, s2, zs2, eD2, ?_⟩
      rw [List.take_add_one, ha, List.flatMap_append]
      rw [← lb, List.take_length] at az2
      show All2 (R H2) zs2 (_ ++ (bs.filterMap (f a) ++ []))
      rw [List.append_nil]
      exact az2
  · have e : i = xs.length := by omega
    subst e
    rw [← la, List.take_length] at az
    exact .inl ⟨wk.stops H g0, hd H zs sH eD az⟩
end Ow

set_option Elab.async false
set_option linter.all false
set_option maxRecDepth 100000
set_option maxHeartbeats 4000000
set_option exponentiation.threshold 3000
namespace Ow
open PySem PySem.Spec PyProof.Rows L2
section
variable {α : Type} [DecidableEq α]
def prs (lt : α → α → Bool) (xs : List α) : List (α × α) := xs.flatMap fun a => xs.filterMap fun b => if lt a b = true then some (a, b) else none
def ordStep (xs : List α) (fs : List (List α)) : List (List α) := fs.flatMap fun o => xs.filterMap fun t => if t ∈ o then none else some (o ++ [t])
def ords (xs : List α) : Nat → List (List α)
  | 0 => [[]]
  | n + 1 => ordStep xs (ords xs n)
def rowI (lt : α → α → Bool) (xs o : List α) : List Int := (prs lt xs).map fun p => if o.idxOf p.1 < o.idxOf p.2 then 1 else 0
def ahead (lt : α → α → Bool) (xs : List α) (vs : List Int) : List (α × α) := ((prs lt xs).zip vs).map fun p => if p.2 = 1 then p.1 else (p.1.2, p.1.1)
def ringIn (xs : List α) (hs : List (α × α)) (p : α × α) : Option (α × α × α) := xs.findSome? fun t => if (p.2, t) ∈ hs ∧ (t, p.1) ∈ hs then some (p.1, p.2, t) else none
def ringO (lt : α → α → Bool) (xs : List α) (vs : List Int) : Option (α × α × α) := (ahead lt xs vs).findSome? (ringIn xs (ahead lt xs vs))
def ordO (lt : α → α → Bool) (xs : List α) (vs : List Int) : Option (List α) := (ords xs xs.length).find? fun o => decide (rowI lt xs o = vs)
/-- as the law lists the pairs -/
def lprs (xs : List α) : List (α × α) := xs.zipIdx.flatMap fun p => (xs.drop (p.2 + 1)).map fun b => (p.1, b)
def aheadB (lt : α → α → Bool) (xs : List α) (vs : List Int) (a b : α) : Bool := if lt a b = true then decide (vs.getD ((lprs xs).idxOf (a, b)) 0 = 1) else decide (vs.getD ((lprs xs).idxOf (b, a)) 0 = 0)
end
section
variable {α β : Type} [DecidableEq α] [DecidableEq β] {f : α → β} (inj : ∀ a b, f a = f b → a = b) {lt : α → α → Bool} {lt' : β → β → Bool} (mono : ∀ a b, lt' (f a) (f b) = lt a b)
def pairF (f : α → β) (p : α × α) : β × β := (f p.1, f p.2)
def tripF (f : α → β) (p : α × α × α) : β × β × β := (f p.1, f p.2.1, f p.2.2)
include mono in
theorem prs_map (xs : List α) : prs lt' (xs.map f) = (prs lt xs).map (pairF f) := by
  unfold prs
  rw [List.flatMap_map, List.map_flatMap]
  congr 1
  funext a
  rw [List.filterMap_map, List.map_filterMap]
  congr 1
  funext b
  show (if lt' (f a) (f b) = true then some (f a, f b) else none) = _
  rw [mono]
  split <;> rfl
include inj in
theorem mem_mapI {a : α} {xs : List α} : f a ∈ xs.map f ↔ a ∈ xs := by
  rw [List.mem_map]
  exact ⟨fun ⟨b, hb, e⟩ => inj _ _ e ▸ hb, fun h => ⟨a, h, rfl⟩⟩
include inj in
theorem ordStep_map (xs : List α) (fs : List (List α)) : ordStep (xs.map f) (fs.map (List.map f)) = (ordStep xs fs).map (List.map f) := by
  unfold ordStep
  rw [List.flatMap_map, List.map_flatMap]
  congr 1
  funext o
  rw [List.filterMap_map, List.map_filterMap]
  congr 1
  funext t
  show (if f t ∈ o.map f then none else some (o.map f ++ [f t])) = _
  by_cases h : t ∈ o
  · rw [if_pos ((mem_mapI inj).mpr h), if_pos h]
    rfl
  · rw [if_neg (fun z => h ((mem_mapI inj).mp z)), if_neg h]
    show some (o.map f ++ [f t]) = some ((o ++ [t]).map f)
    rw [List.map_append]
    rfl
include inj in
theorem ords_map (xs : List α) : ∀ n, ords (xs.map f) n = (ords xs n).map (List.map f)
  | 0 => rfl
  | n + 1 => by
    show ordStep (xs.map f) (ords (xs.map f) n) = _
    rw [ords_map xs n, ordStep_map inj]
    rfl
include inj in
theorem idx_map (a : α) : ∀ o : List α, (o.map f).idxOf (f a) = o.idxOf a
  | [] => rfl
  | b :: o => by
    rw [List.map_cons, List.idxOf_cons, List.idxOf_cons, idx_map a o]
    have : (f b == f a) = (b == a) := by
      rw [Bool.eq_iff_iff, beq_iff_eq, beq_iff_eq]
      exact ⟨inj _ _, fun e => by rw [e]⟩
    rw [this]
theorem idx_mapG {γ δ : Type} [BEq γ] [LawfulBEq γ] [BEq δ] [LawfulBEq δ] {g : γ → δ} (inj : ∀ a b, g a = g b → a = b) (a : γ) : ∀ o : List γ, (o.map g).idxOf (g a) = o.idxOf a
  | [] => rfl
  | b :: o => by
    rw [List.map_cons, List.idxOf_cons, List.idxOf_cons, idx_mapG inj a o]
    have : (g b == g a) = (b == a) := by
      rw [Bool.eq_iff_iff, beq_iff_eq, beq_iff_eq]
      exact ⟨inj _ _, fun e => by rw [e]⟩
    rw [this]
include inj mono in
theorem rowI_map (xs o : List α) : rowI lt' (xs.map f) (o.map f) = rowI lt xs o := by
  unfold rowI
  rw [prs_map mono, List.map_map]
  congr 1
  funext p
  show (if (o.map f).idxOf (f p.1) < (o.map f).idxOf (f p.2) then (1 : Int) else 0) = _
  rw [idx_map inj, idx_map inj]
include mono in
theorem ahead_map (xs : List α) (vs : List Int) : ahead lt' (xs.map f) vs = (ahead lt xs vs).map (pairF f) := by
  unfold ahead
  rw [prs_map mono, List.zip_map_left, List.map_map, List.map_map]
  congr 1
  funext p
  show (if p.2 = 1 then pairF f p.1 else ((pairF f p.1).2, (pairF f p.1).1)) = pairF f (if p.2 = 1 then p.1 else (p.1.2, p.1.1))
  split <;> rfl
include inj in
theorem pairF_inj (p q : α × α) (e : pairF f p = pairF f q) : p = q := by
  obtain ⟨a, b⟩ := p
  obtain ⟨c, d⟩ := q
  have e1 : f a = f c := congrArg Prod.fst e
  have e2 : f b = f d := congrArg Prod.snd e
  rw [inj _ _ e1, inj _ _ e2]
include inj in
theorem ringIn_map (xs : List α) (hs : List (α × α)) (p : α × α) : ringIn (xs.map f) (hs.map (pairF f)) (pairF f p) = (ringIn xs hs p).map (tripF f) := by
  unfold ringIn
  rw [List.findSome?_map, List.map_findSome?]
  congr 1
  funext t
  show (if ((f p.2, f t) : β × β) ∈ hs.map (pairF f) ∧ ((f t, f p.1) : β × β) ∈ hs.map (pairF f) then some (f p.1, f p.2, f t) else none) = _
  have m1 : ((f p.2, f t) : β × β) ∈ hs.map (pairF f) ↔ (p.2, t) ∈ hs := mem_mapI (f := pairF f) (pairF_inj inj) (a := (p.2, t))
  have m2 : ((f t, f p.1) : β × β) ∈ hs.map (pairF f) ↔ (t, p.1) ∈ hs := mem_mapI (f := pairF f) (pairF_inj inj) (a := (t, p.1))
  by_cases h : (p.2, t) ∈ hs ∧ (t, p.1) ∈ hs
  · rw [if_pos ⟨m1.mpr h.1, m2.mpr h.2⟩]
    show _ = Option.map (tripF f) (if (p.2, t) ∈ hs ∧ (t, p.1) ∈ hs then some (p.1, p.2, t) else none)
    rw [if_pos h]
    rfl
  · rw [if_neg (fun z => h ⟨m1.mp z.1, m2.mp z.2⟩)]
    show _ = Option.map (tripF f) (if (p.2, t) ∈ hs ∧ (t, p.1) ∈ hs then some (p.1, p.2, t) else none)
    rw [if_neg h]
    rfl
include inj mono in
theorem ringO_map (xs : List α) (vs : List Int) : ringO lt' (xs.map f) vs = (ringO lt xs vs).map (tripF f) := by
  unfold ringO
  rw [ahead_map mono, List.findSome?_map, List.map_findSome?]
  congr 1
  funext p
  exact ringIn_map inj xs _ p
include inj mono in
theorem ordO_map (xs : List α) (vs : List Int) : ordO lt' (xs.map f) vs = (ordO lt xs vs).map (List.map f) := by
  unfold ordO
  rw [List.length_map, ords_map inj, List.find?_map]
  congr 2
  funext o
  show decide (rowI lt' (xs.map f) (o.map f) = vs) = _
  rw [rowI_map inj mono]
theorem lprs_map (xs : List α) : lprs (xs.map f) = (lprs xs).map (pairF f) := by
  unfold lprs
  rw [List.zipIdx_map, List.flatMap_map, List.map_flatMap]
  congr 1
  funext p
  show ((xs.map f).drop (p.2 + 1)).map (fun b => (f p.1, b)) = _
  rw [← List.map_drop, List.map_map, List.map_map]
  rfl
include inj mono in
theorem aheadB_map (xs : List α) (vs : List Int) (a b : α) : aheadB lt' (xs.map f) vs (f a) (f b) = aheadB lt xs vs a b := by
  unfold aheadB
  rw [mono, lprs_map]
  have e1 : ((lprs xs).map (pairF f)).idxOf (f a, f b) = (lprs xs).idxOf (a, b) := idx_mapG (g := pairF f) (pairF_inj inj) (a, b) _
  have e2 : ((lprs xs).map (pairF f)).idxOf (f b, f a) = (lprs xs).idxOf (b, a) := idx_mapG (g := pairF f) (pairF_inj inj) (b, a) _
  rw [e1, e2]
end
end Ow

set_option Elab.async false
set_option linter.all false
set_option maxRecDepth 100000
set_option maxHeartbeats 4000000
set_option exponentiation.threshold 3000
namespace Ow
open PySem PySem.Spec PyProof.Rows L2
def ltF {n : Nat} (a b : Fin n) : Bool := decide (a.1 < b.1)
abbrev allF (n : Nat) : List (Fin n) := List.finRange n
def rowsO (n : Nat) : List (List Int) := (ords (allF n) n).map (rowI ltF (allF n))
def ringOk {n : Nat} (vs : List Int) : Option (Fin n × Fin n × Fin n) → Bool
  | none => (rowsO n).contains vs
  | some (a, b, c) => !(rowsO n).contains vs && (decide (a ≠ b) && (decide (b ≠ c) && (decide (a ≠ c) && (aheadB ltF (allF n) vs a b && (aheadB ltF (allF n) vs b c && aheadB ltF (allF n) vs c a)))))
def ordOk {n : Nat} (vs : List Int) : Option (List (Fin n)) → Bool
  | none => !(rowsO n).contains vs
  | some o => (rowsO n).contains vs && decide (rowI ltF (allF n) o = vs)
def checkN (n : Nat) : Bool := ((rowsN (n * (n - 1) / 2)).all fun vs => ringOk vs (ringO ltF (allF n) vs) && ordOk vs (ordO ltF (allF n) vs)) &&
  (((ords (allF n) n).all fun o => decide (ordO ltF (allF n) (rowI ltF (allF n) o) = some o) && (decide (o.length = n) && (decide o.Nodup && (allF n).all fun i => o.contains i))) && decide (lprs (allF n) = prs ltF (allF n)))
theorem check2 : checkN 2 = true := by decide +kernel
theorem check3 : checkN 3 = true := by decide +kernel
theorem check4 : checkN 4 = true := by decide +kernel
end Ow

set_option Elab.async false
set_option linter.all false
set_option maxRecDepth 100000
set_option maxHeartbeats 4000000
namespace Ow
open PySem PySem.Spec PyProof.Rows L2
/-! ### sorted of tuples of ints, of unlike lengths -/
/-- the rank: the ints one up, and places without one 0 -/
def rk (B : Int) : Nat → List Int → Int
  | 0, _ => 0
  | k + 1, [] => 0
  | k + 1, n :: r => (n + 1) * B ^ k + rk B k r
def Fits (B : Int) (ns : List Int) : Prop := ∀ m ∈ ns, 0 ≤ m ∧ m + 1 < B
theorem Fits.tl {B n : Int} {r : List Int} (h : Fits B (n :: r)) : Fits B r := fun m hm => h m (List.mem_cons_of_mem _ hm)
theorem rk_nil {B : Int} : ∀ k, rk B k [] = 0
  | 0 => rfl
  | _ + 1 => rfl
theorem rk_bd {B : Int} (hB : 1 ≤ B) : ∀ (k : Nat) (ns : List Int), ns.length ≤ k → Fits B ns → 0 ≤ rk B k ns ∧ rk B k ns < B ^ k
  | 0, ns, _, _ => ⟨Int.le_refl _, by show (0 : Int) < B ^ 0; rw [Int.pow_zero]; decide⟩
  | k + 1, [], _, _ => ⟨Int.le_refl _, Int.pow_pos (by omega)⟩
  | k + 1, n :: r, hl, h => by
    have hl' : r.length ≤ k := by simpa using hl
    obtain ⟨a, b⟩ := rk_bd hB k r hl' h.tl
    obtain ⟨c, d⟩ := h n List.mem_cons_self
    have z := TS.num1 (P := B ^ k) (d := n + 1) (B := B) a b (by omega) d
    rw [← Int.pow_succ] at z
    exact z
theorem rk_lt {B : Int} (hB : 1 ≤ B) : ∀ (k : Nat) (ns ms : List Int), ns.length ≤ k → ms.length ≤ k → Fits B ns → Fits B ms → decide (rk B k ns < rk B k ms) = HT.lexLt ns ms
  | 0, [], [], _, _, _, _ => rfl
  | 0, _ :: _, _, h, _, _, _ => absurd h (by simp)
  | 0, _, _ :: _, _, h, _, _ => absurd h (by simp)
  | k + 1, [], [], _, _, _, _ => decide_eq_false (Int.lt_irrefl _)
  | k + 1, [], m :: q, _, h2, _, g2 => by
    have hl : q.length ≤ k := by simpa using h2
    obtain ⟨a, _⟩ := rk_bd hB k q hl g2.tl
    obtain ⟨c, _⟩ := g2 m List.mem_cons_self
    have p : 0 < (m + 1) * B ^ k := Int.mul_pos (by omega) (Int.pow_pos (by omega))
    refine decide_eq_true ?_
    show (0 : Int) < (m + 1) * B ^ k + rk B k q
    omega
  | k + 1, n :: r, [], h1, _, g1, _ => by
    have hl : r.length ≤ k := by simpa using h1
    obtain ⟨a, _⟩ := rk_bd hB k r hl g1.tl
    obtain ⟨c, _⟩ := g1 n List.mem_cons_self
    have p : 0 < (n + 1) * B ^ k := Int.mul_pos (by omega) (Int.pow_pos (by omega))
    refine decide_eq_false ?_
    show ¬ ((n + 1) * B ^ k + rk B k r < 0)
    omega
  | k + 1, n :: r, m :: q, h1, h2, g1, g2 => by
    have l1 : r.length ≤ k := by simpa using h1
    have l2 : q.length ≤ k := by simpa using h2
    obtain ⟨a, b⟩ := rk_bd hB k r l1 g1.tl
    obtain ⟨c, d⟩ := rk_bd hB k q l2 g2.tl
    show decide ((n + 1) * B ^ k + rk B k r < (m + 1) * B ^ k + rk B k q) = _
    rw [HT.lexLt_cons]
    by_cases e : n = m
    · subst e
      rw [if_pos rfl, ← rk_lt hB k r q l1 l2 g1.tl g2.tl]
      exact decide_eq_decide.mpr ⟨fun z => by omega, fun z => by omega⟩
    · rw [if_neg e]
      refine decide_eq_decide.mpr ⟨fun z => ?_, fun z => TS.num2 a b c (by omega)⟩
      rcases Int.lt_trichotomy n m with y | y | y
      · exact y
      · exact absurd y e
      · have := TS.num2 (P := B ^ k) (d := m + 1) (e := n + 1) c d a (by omega)
        omega
theorem lex_ne : ∀ {ns ms : List Int}, ns ≠ ms → HT.lexLt ns ms = false → HT.lexLt ms ns = true
  | [], [], h, _ => absurd rfl h
  | [], _ :: _, _, h => nomatch h
  | _ :: _, [], _, _ => rfl
  | n :: r, m :: q, h, g => by
    rw [HT.lexLt_cons] at g ⊢
    by_cases e : n = m
    · subst e
      rw [if_pos rfl] at g ⊢
      exact lex_ne (fun z => h (by rw [z])) g
    · rw [if_neg e] at g
      rw [if_neg (fun z => e z.symm)]
      have := of_decide_eq_false g
      exact decide_eq_true (by omega)
section
variable {prog : Program} {w : World} {A : Around} {E : Value → Shared → Prop} {s : Shared}
/-- one tuple of ints against another one, as a sort of tuples does it where one of them is () -/
theorem one_tups {x y : Value} {ns ms : List Int} {Q : Bool → Shared → Prop} (hu : A.units < cLine) (hx : TS.TupInts s.heap x ns) (hy : TS.TupInts s.heap y ms) (h : Q (HT.lexLt ns ms) s) : wpAny (model prog w) A (keyLt' oneType' x y) Q E s := by
  obtain ⟨a, xs, rfl, ⟨⟨cls, dd, data, sl⟩, ho, hc, n, hd⟩, hi⟩ := hx
  obtain ⟨b, ys, rfl, ⟨⟨cls2, dd2, data2, sl2⟩, ho2, hc2, n2, hd2⟩, hj⟩ := hy
  simp only at hc hd hc2 hd2
  subst hc hd hc2 hd2
  rw [keyLt'_oneType, oneLt'_eq]
  simp only [if_true]
  refine wpAny_bind (wpAny_cRoomFor hu (wpAny_bind (wpAny_callSpecialIfBound?_slot (T := "tuple") ⟨_, ho, rfl⟩ PySem.F.slot_tuple_lt ?_)))
  refine call_meets PySem.F.slot_tuple_lt ⟨_, ho, rfl⟩ PySem.F.entry_tuple_lt (PySem.F.args_tuple_lt_2 _ _) (HT.tuple_lt_ints a b xs ys n n2 dd dd2 sl sl2 ns ms hi hj) ⟨ho, ho2, ?_⟩
  exact wpAny_truthy_bool h
/-- .. where none is () -/
theorem lexes {b : Bool} {xs ys : List Value} {ns ms : List Int} {Q : Bool → Shared → Prop} (i : Nat) (hx : IntsAre xs ns) (hy : IntsAre ys ms) (h : Q (HT.lexLt ns ms) s) : PySem.W.KatLex prog w A b (decide (xs.length < ys.length)) Q (xs.zip ys) i s := by
  induction hx generalizing ys ms i with
  | nil =>
    cases hy with
    | nil => exact PySem.W.kat_nil h
    | cons q u hy => exact PySem.W.kat_nil h
  | @cons p t xs ns hx ih =>
    cases hy with
    | nil => exact PySem.W.kat_nil h
    | @cons q u ys ms hy =>
      refine PySem.W.kat_cons (wpAny_eqBool_int ?_)
      rw [HT.lexLt_cons] at h
      by_cases e : p = q
      · rw [beq_iff_eq.mpr e]
        rw [if_pos e] at h
        have e2 : decide ((Value.int p t :: xs).length < (Value.int q u :: ys).length) = decide (xs.length < ys.length) := decide_eq_decide.mpr (by simp)
        rw [e2]
        exact PySem.W.kat_yes (ih (i + 1) hy h)
      · rw [beq_eq_false_iff_ne.mpr e]
        rw [if_neg e] at h
        exact PySem.W.kat_no (TS.oneLt_ints _ h)
theorem two_tups {b : Bool} {x y : Value} {ns ms : List Int} {Q : Bool → Shared → Prop} (hx : TS.TupInts s.heap x ns) (hy : TS.TupInts s.heap y ms) (h : Q (HT.lexLt ns ms) s) : wpAny (model prog w) A (keyLt' (tuples' b) x y) Q E s := by
  obtain ⟨a, xs, rfl, ⟨o, ho, hc, n, hd⟩, hi⟩ := hx
  obtain ⟨c, ys, rfl, ⟨o2, ho2, hc2, n2, hd2⟩, hj⟩ := hy
  refine PySem.W.kat_lt ho hd ho2 hd2 ?_
  have e : decide (xs.size < ys.size) = decide (xs.toList.length < ys.toList.length) := by rw [Array.length_toList, Array.length_toList]
  rw [e]
  exact lexes 0 hi hj h
end
end Ow

set_option Elab.async false
set_option linter.all false
set_option maxRecDepth 100000
set_option maxHeartbeats 4000000
namespace Ow
open PySem PySem.Spec PyProof.Rows L2
section
variable {M : Model} {A : Around} {E : Value → Shared → Prop} {s : Shared}
theorem mapM_fn {α β : Type} {f : α → Sem β} {g : α → β} : ∀ (l : List α) {R : List β → Shared → Prop}, (∀ v ∈ l, ∀ R' : β → Shared → Prop, R' (g v) s → wpAny M A (f v) R' E s) → R (l.map g) s → wpAny M A (l.mapM f) R E s
  | [], _, _, k => by
    rw [List.mapM_nil]
    exact wpAny_pure k
  | z :: l, R, hf, k => by
    rw [List.mapM_cons]
    refine wpAny_bind (hf z List.mem_cons_self _ (wpAny_bind ?_))
    exact mapM_fn l (R := fun ys s' => wpAny M A (pure (g z :: ys)) R E s') (fun v hv => hf v (List.mem_cons_of_mem _ hv)) (wpAny_pure k)
end
/-- the first item of a tuple, if it has one -/
def headOf (h : Heap) : Value → Option Value
  | .ref a => (h.get? a).bind fun o => match o.data with
    | .seq xs _ => xs[0]?
    | _ => none
  | _ => none
theorem headOf_at {h : Heap} {a : Addr} {o : Obj} {xs : Array Value} {n : Nat} (ho : h.get? a = some o) (hd : o.data = .seq xs n) : headOf h (.ref a) = xs[0]? := by
  show ((h.get? a).bind _) = _
  rw [ho, Option.bind_some, hd]
section
variable {M : Model} {A : Around} {E : Value → Shared → Prop} {s : Shared}
theorem first_tup {v : Value} {ns : List Int} {R : Option Value → Shared → Prop} (h : TS.TupInts s.heap v ns) (k : R (headOf s.heap v) s) : wpAny M A (firstOfTuple' v) R E s := by
  obtain ⟨a, xs, rfl, ⟨o, ho, hc, n, hd⟩, hi⟩ := h
  rw [headOf_at ho hd] at k
  rw [PySem.W.kas_first_eq]
  refine wpAny_bind (PySem.W.Looks.here (show PySem.W.Looks M s.heap (typeOf (.ref a)) o.cls from (PySem.W.Looks.ld ho).andThen .now) ?_)
  rw [hc, if_neg (by decide)]
  exact wpAny_bind (listItems_at ho hd (wpAny_pure k))
theorem head_nil {v : Value} (h : TS.TupInts s.heap v []) : headOf s.heap v = none := by
  obtain ⟨a, xs, rfl, ⟨o, ho, hc, n, hd⟩, hi⟩ := h
  rw [headOf_at ho hd]
  have l := hi.length
  rw [Array.length_toList] at l
  exact Array.getElem?_eq_none (by simpa using Nat.le_of_eq l)
theorem type_tup {v : Value} {ns : List Int} (h : TS.TupInts s.heap v ns) : PySem.W.Looks M s.heap (typeOf v) (.type "tuple") := by
  obtain ⟨a, xs, rfl, ⟨o, ho, hc, n, hd⟩, hi⟩ := h
  rw [← hc]
  exact (PySem.W.Looks.ld ho).andThen .now
/-- the kind of a sort of tuples whose first one is () -/
theorem kind_nil {v u : Value} {r : List Value} {R : SortKind → Shared → Prop} (hv : TS.TupInts s.heap v []) (hr : ∀ x ∈ u :: r, ∃ ns, TS.TupInts s.heap x ns) (k : R oneType' s) : wpAny M A (keyKind' (v :: u :: r).toArray) R E s := by
  have all : ∀ x ∈ v :: u :: r, ∃ ns, TS.TupInts s.heap x ns := fun x hx => by
    rcases List.mem_cons.mp hx with rfl | hx
    · exact ⟨[], hv⟩
    · exact hr x hx
  rw [keyKind'_eq, List.mapM_toArray, map_eq_pure_bind]
  refine wpAny_bind (wpAny_bind (mapM_fn (g := headOf s.heap) _ (fun x hx R' q => ?_) (wpAny_pure ?_)))
  · obtain ⟨ns, t⟩ := all x hx
    exact first_tup t q
  · have e : (v :: u :: r).map (headOf s.heap) = none :: (u :: r).map (headOf s.heap) := by rw [List.map_cons, head_nil hv]
    rw [e, if_neg (by simp), if_neg (by simp)]
    rw [oneTypeOnly'_eq, List.mapM_toArray, map_eq_pure_bind]
    refine wpAny_bind (wpAny_bind (wpAny_bind (mapM_fn (g := fun _ => Value.type "tuple") _ (fun x hx R' q => ?_) (wpAny_pure ?_))))
    · obtain ⟨ns, t⟩ := all x hx
      exact (type_tup t).here q
    · have a0 : (List.map (fun _ => Value.type "tuple") (v :: u :: r)).toArray[0]? = some (Value.type "tuple") := by simp
      have a1 : ((List.map (fun _ => Value.type "tuple") (v :: u :: r)).toArray.all fun x => x == Value.type "tuple") = true := by
        rw [List.all_toArray, List.all_map, List.all_eq_true]
        intro _ _
        rfl
      rw [a0]
      simp only [a1, if_true]
      exact wpAny_pure (wpAny_pure k)
/-- .. of which none is () -/
theorem firsts_ne {h : Heap} : ∀ vs : List Value, (∀ v ∈ vs, ∃ ns, TS.TupInts h v ns ∧ ns ≠ []) → ∃ fs, PySem.W.KatTups h vs fs ∧ fs.length = vs.length ∧ ∀ f ∈ fs, ∃ n t, f = Value.int n t
  | [], _ => ⟨[], .nil, rfl, fun _ z => nomatch z⟩
  | v :: vs, x => by
    obtain ⟨fs, k1, k2, k3⟩ := firsts_ne vs fun u hu => x u (List.mem_cons_of_mem _ hu)
    obtain ⟨ns, ⟨a, xs, rfl, ⟨o, ho, hc, n, hd⟩, hi⟩, hn⟩ := x v List.mem_cons_self
    have l := hi.length
    cases q : xs.toList with
    | nil =>
      rw [q] at l
      exact absurd (List.eq_nil_of_length_eq_zero l.symm) hn
    | cons y ys =>
      obtain ⟨m, t, hy⟩ := hi.all y (by rw [q]; exact List.mem_cons_self)
      have h0 : xs[0]? = some y := by
        have z := congrArg (fun l : List Value => l[0]?) q
        simpa using z
      refine ⟨y :: fs, .cons ho hc hd h0 k1, by rw [List.length_cons, List.length_cons, k2], fun f hf => ?_⟩
      rcases List.mem_cons.mp hf with rfl | hf
      · exact ⟨m, t, hy⟩
      · exact k3 f hf
theorem kind_ne {vs : List Value} {R : SortKind → Shared → Prop} (h2 : 2 ≤ vs.length) (hv : ∀ v ∈ vs, ∃ ns, TS.TupInts s.heap v ns ∧ ns ≠ []) (k : ∀ b, R (tuples' b) s) : wpAny M A (keyKind' vs.toArray) R E s := by
  obtain ⟨fs, k1, k2, k3⟩ := firsts_ne vs hv
  refine PySem.W.kat_kind (T := Value.type "int") k1 (by omega) (fun f hf => ?_) rfl (k _)
  obtain ⟨n, t, rfl⟩ := k3 f hf
  exact PySem.W.Looks.of_pure rfl
end
/-- what such a sort is given -/
def TupsS (h : Heap) (vs : List Value) : Prop := (∀ v ∈ vs, ∃ ns, TS.TupInts h v ns) ∧ ((∀ v ∈ vs, ∃ ns, TS.TupInts h v ns ∧ ns ≠ []) ∨ ∃ v r, vs = v :: r ∧ TS.TupInts h v [])
section
variable {prog : Program} {w : World} {A : Around} {E : Value → Shared → Prop} {s : Shared}
theorem kind_tupsS {vs : List Value} {B : Int} {k : Nat} (hB : 1 ≤ B) (hu : A.units < cLine) (h2 : 2 ≤ vs.length) (x : TupsS s.heap vs) (hf : ∀ v ∈ vs, ∀ ns, TS.TupInts s.heap v ns → ns.length ≤ k ∧ Fits B ns) (r : Value → Int) (hr : ∀ v ∈ vs, ∀ ns, TS.TupInts s.heap v ns → r v = rk B k ns)
    (R : SortKind → Shared → Prop) (h : ∀ κ, TS.Cmp prog w A s κ (pairsOf vs) r → R κ s) : wpAny (model prog w) A (keyKind' vs.toArray) R E s := by
  have cmp : ∀ κ, (κ = oneType' ∨ ∃ b, κ = tuples' b) → TS.Cmp prog w A s κ (pairsOf vs) r := fun κ hκ p q hp hq R' E' hR => by
    rw [pairsOf_toList] at hp hq
    have mp := (mem_zip_self hp).2
    have mq := (mem_zip_self hq).2
    obtain ⟨ns, tp⟩ := x.1 _ mp
    obtain ⟨ms, tq⟩ := x.1 _ mq
    obtain ⟨l1, f1⟩ := hf _ mp _ tp
    obtain ⟨l2, f2⟩ := hf _ mq _ tq
    rw [hr _ mp _ tp, hr _ mq _ tq, rk_lt hB k ns ms l1 l2 f1 f2] at hR
    rcases hκ with rfl | ⟨b, rfl⟩
    · exact one_tups hu tp tq hR
    · exact two_tups tp tq hR
  rcases x.2 with hn | ⟨v, t, rfl, hv⟩
  · exact kind_ne h2 hn fun b => h _ (cmp _ (.inr ⟨b, rfl⟩))
  · cases t with
    | nil => exact absurd h2 (by simp)
    | cons u t => exact kind_nil hv (fun z hz => x.1 z (List.mem_cons_of_mem _ hz)) (h _ (cmp _ (.inl rfl)))
end
end Ow

set_option Elab.async false
set_option linter.all false
set_option maxRecDepth 100000
set_option maxHeartbeats 4000000
namespace Ow
open PySem PySem.Spec PyProof.Rows L2
theorem TupsS.mono {h h' : Heap} {vs : List Value} (x : TupsS h vs) (k : ∀ b o, h.get? b = some o → o.cls = .type "tuple" → h'.get? b = some o) : TupsS h' vs := by
  refine ⟨fun v hv => ?_, ?_⟩
  · obtain ⟨ns, t⟩ := x.1 v hv
    exact ⟨ns, t.keeps k⟩
  · rcases x.2 with q | ⟨v, r, e, t⟩
    · refine .inl fun v hv => ?_
      obtain ⟨ns, t, n⟩ := q v hv
      exact ⟨ns, t.keeps k, n⟩
    · exact .inr ⟨v, r, e, t.keeps k⟩
abbrev rkOf (h : Heap) (B : Int) (k : Nat) (v : Value) : Int := rk B k (TS.intsOf h v)
section
variable {prog : Program} {w : World} {A : Around} {E : Value → Shared → Prop} {s : Shared}
theorem sort_inS {h0 : Heap} {a : Addr} {vs : List Value} {n k : Nat} {B : Int} {P : PySem.Fin → Shared → Prop} (hB : 1 ≤ B) (hu : A.units < cLine) (ho : s.heap.get? a = some (seqObj "list" vs.toArray n)) (few : vs.length < 64)
    (x : TupsS h0 vs) (hf : ∀ v ∈ vs, ∀ ns, TS.TupInts h0 v ns → ns.length ≤ k ∧ Fits B ns) (kp : ∀ b o, h0.get? b = some o → o.cls = .type "tuple" → s.heap.get? b = some o)
    (q : ∀ out : Array Value, out.toList.Perm vs → out.toList.Pairwise (fun u v => rkOf h0 B k u ≤ rkOf h0 B k v) → P (.done (.ret .none)) { s with heap := sortedHeap s.heap a vs out }) :
    wpAny (model prog w) A (Builtin.«list.sort» ⟨[.ref a], []⟩) P E s := by
  have kp2 : ∀ b o, h0.get? b = some o → o.cls = .type "tuple" → (TS.midHeap s.heap a vs).get? b = some o := fun b o e hc => by
    have e2 := kp b o e hc
    refine TS.midHeap_old (fun z => ?_) e2
    rw [z, ho] at e2
    rw [← Option.some.inj e2] at hc
    exact absurd (Value.type.inj (show Value.type "list" = Value.type "tuple" from hc)) (by decide)
  have same : ∀ v ∈ vs, ∀ ns, TS.TupInts (TS.midHeap s.heap a vs) v ns → TS.TupInts h0 v ns := fun v hv ns t => by
    obtain ⟨ms, t0⟩ := x.1 v hv
    have e : ns = ms := t.ints.symm.trans (t0.keeps kp2).ints
    rw [e]
    exact t0
  refine SK.plain_sort (r := rkOf h0 B k) ho few (fun two R hR => ?_) fun ps out e pm so => ?_
  · exact kind_tupsS (s := { s with heap := TS.midHeap s.heap a vs }) hB hu two (x.mono kp2) (fun v hv ns t => hf v hv ns (same v hv ns t)) _ (fun v hv ns t => by rw [rkOf, (same v hv ns t).ints]) R hR
  · obtain ⟨p1, p2⟩ := TS.out_rank e pm so
    exact q out p1 p2
/-- sorted(xs), xs a list of tuples of ints -/
theorem sorted_raw {l : Addr} {vs : List Value} {k : Nat} {B : Int} {R : Value → Shared → Prop} (hB : 1 ≤ B) (hu : A.units + 4 < cLine) (hl : s.heap.IsList l vs.toArray) (few : vs.length < 64) (x : TupsS s.heap vs)
    (hf : ∀ v ∈ vs, ∀ ns, TS.TupInts s.heap v ns → ns.length ≤ k ∧ Fits B ns)
    (q : ∀ out : Array Value, out.toList.Perm vs → out.toList.Pairwise (fun u v => rkOf s.heap B k u ≤ rkOf s.heap B k v) → R (.ref (s.heap.objs.size + 1)) { s with heap := sortedAll s.heap vs out }) :
    wpAny (model prog w) A (call (.builtin "sorted") [.ref l]) R E s := by
  have room : vs.length ≤ sizeLine := by
    rw [sizeLine_eq]
    omega
  refine Calls.call_function_entry (b := Builtin.«sorted») kind_sorted plain_sorted entry_sorted (args_sorted1 (.ref l)) ?_
  unfold Builtin.«sorted»
  refine wpAny_bind (m := checkCount "sorted" 1 1 _) (wpAny_pure (wpAny_bind (collect_list hl ?_ (by simpa using room))))
  refine wpAny_bind (wpAny_newList ?_ room)
  generalize hg : (s.heap.push (seqObj "list" #[] 0)).update s.heap.objs.size (Obj.mapSeq (· ++ vs.toArray)) = g
  have gs : g.objs.size = s.heap.objs.size + 1 := by rw [← hg, Heap.size_update, size_push']
  have at_ : (g.push (seqObj "list" vs.toArray 0)).get? (s.heap.objs.size + 1) = some (seqObj "list" vs.toArray 0) := by
    rw [← gs]
    exact Heap.get?_push_size g rfl
  have old : ∀ b o, s.heap.get? b = some o → o.cls = .type "tuple" → (g.push (seqObj "list" vs.toArray 0)).get? b = some o := fun b o e _ => by
    have lt := Heap.lt_size e
    have n1 : b ≠ s.heap.objs.size := Nat.ne_of_lt lt
    have n2 : b ≠ g.objs.size := gs ▸ Nat.ne_of_lt (Nat.lt_succ_of_lt lt)
    rw [Heap.get?_push_ne _ _ _ n2, ← hg, Heap.get?_update_ne _ _ _ _ n1, Heap.get?_push_ne _ _ _ n1]
    exact e
  show wpAny _ _ _ _ _ { s with heap := g.push (seqObj "list" vs.toArray 0) }
  have eg : (g.objs.size : Nat) = s.heap.objs.size + 1 := gs
  rw [eg]
  refine wpAny_bind (wpAny_holding (wpAny_call_entry slot_list_sort ⟨_, at_, rfl⟩ entry_list_sort ?_ (args_list_sort _)))
  refine sort_inS (h0 := s.heap) hB (show _ < cLine from ?_) at_ few x hf old fun out p1 p2 => ?_
  · rw [Around.in1_units, Around.in1_units]
    omega
  refine ⟨_, rfl, wpAny_pure ⟨_, rfl, ?_⟩⟩
  rw [← hg]
  exact q out p1 p2
end
end Ow

set_option Elab.async false
set_option linter.all false
set_option maxRecDepth 100000
set_option maxHeartbeats 4000000
namespace Ow
open PySem PySem.Spec PyProof.Rows L2
/-! ### sorted of a list of tuples of ints: the one result -/
/-- x is a tuple of these ints -/
def TpI (K : PySem.W.Frag) (H : Hp) (x : V) (ns : List Int) : Prop := ∃ t, x = .ref t ∧ H t = some (.tup (ns.map V.int))
inductive AllT (K : PySem.W.Frag) (H : Hp) : List V → List (List Int) → Prop
  | nil : AllT K H [] []
  | cons {x : V} {xs : List V} {ns : List Int} {nss : List (List Int)} : TpI K H x ns → AllT K H xs nss → AllT K H (x :: xs) (ns :: nss)
theorem AllT.len {K : PySem.W.Frag} {H : Hp} {xs : List V} {nss : List (List Int)} (h : AllT K H xs nss) : xs.length = nss.length := by
  induction h with
  | nil => rfl
  | cons _ _ ih => rw [List.length_cons, List.length_cons, ih]
theorem AllT.mem {K : PySem.W.Frag} {H : Hp} {xs : List V} {nss : List (List Int)} (h : AllT K H xs nss) : ∀ x ∈ xs, ∃ ns ∈ nss, TpI K H x ns := by
  induction h with
  | nil => exact fun _ z => nomatch z
  | cons t _ ih =>
    intro x hx
    rcases List.mem_cons.mp hx with rfl | hx
    · exact ⟨_, List.mem_cons_self, t⟩
    · obtain ⟨ns, m, t⟩ := ih x hx
      exact ⟨ns, List.mem_cons_of_mem _ m, t⟩
/-- ascending in Python's order of tuples -/
def AscT (nss : List (List Int)) : Prop := nss.Pairwise fun a b => lexB a b = true
where lexB (a b : List Int) : Bool := HT.lexLt a b || decide (a = b)
theorem lex_irr : ∀ a : List Int, HT.lexLt a a = false
  | [] => rfl
  | x :: r => by rw [HT.lexLt_cons, if_pos rfl]; exact lex_irr r
theorem lex_asym {B : Int} {k : Nat} (hB : 1 ≤ B) {a b : List Int} (l1 : a.length ≤ k) (l2 : b.length ≤ k) (f1 : Fits B a) (f2 : Fits B b) (h : rk B k a ≤ rk B k b) : AscT.lexB a b = true := by
  unfold AscT.lexB
  by_cases e : a = b
  · rw [decide_eq_true e, Bool.or_true]
  · have : HT.lexLt b a = false := by
      rw [← rk_lt hB k b a l2 l1 f2 f1]
      exact decide_eq_false (by omega)
    rw [lex_ne (fun z => e z.symm) this]
    rfl
/-- the texts read off -/
theorem AllT.raw {X : Cx} {pins : List (Addr × Obj)} {σ : L2.St} {H : Hp} {s : Shared} (I : Inv X pins σ H s) {x : V} {u : Value} {ns : List Int} (r : RelV x u) (h : TpI X.K H x ns) : TS.TupInts s.heap u ns := by
  obtain ⟨t, rfl, ht⟩ := h
  cases r
  obtain ⟨its, rv, pl, hz⟩ := I.tuple (.of ht)
  exact ⟨t, its.toArray, rfl, pl, by simpa using rv.ints⟩
theorem AllT.raws {X : Cx} {pins : List (Addr × Obj)} {σ : L2.St} {H : Hp} {s : Shared} (I : Inv X pins σ H s) : ∀ {xs : List V} {us : List Value} {nss : List (List Int)}, Vals xs us → AllT X.K H xs nss → us.map (TS.intsOf s.heap) = nss
  | [], [], _, _, .nil => rfl
  | x :: xs, u :: us, _, .cons r rs, .cons t ts => by
    rw [List.map_cons, (AllT.raw I r t).ints, AllT.raws I rs ts]
theorem AllT.rawM {X : Cx} {pins : List (Addr × Obj)} {σ : L2.St} {H : Hp} {s : Shared} (I : Inv X pins σ H s) : ∀ {xs : List V} {us : List Value} {nss : List (List Int)}, Vals xs us → AllT X.K H xs nss → ∀ u ∈ us, ∃ ns ∈ nss, TS.TupInts s.heap u ns ∧ TpI X.K H (bkV u) ns
  | [], [], _, _, .nil, _, m => nomatch m
  | x :: xs, u :: us, _, .cons r rs, .cons t ts, v, m => by
    rcases List.mem_cons.mp m with rfl | m
    · refine ⟨_, List.mem_cons_self, AllT.raw I r t, ?_⟩
      obtain ⟨b, rfl, hb⟩ := t
      cases r
      exact ⟨b, rfl, hb⟩
    · obtain ⟨ns, a, b⟩ := AllT.rawM I rs ts v m
      exact ⟨ns, List.mem_cons_of_mem _ a, b⟩
def rSortS (K : PySem.W.Frag) : List V → Hp → VK → Prop := fun vs H Q => ∃ (a : Addr) (xs : List V) (nss : List (List Int)) (B : Int) (k : Nat), vs = [.ref a] ∧ SqL K H a xs ∧ xs.length < 64 ∧ AllT K H xs nss ∧ 1 ≤ B ∧ (∀ ns ∈ nss, ns.length ≤ k ∧ Fits B ns) ∧ ((∀ ns ∈ nss, ns ≠ []) ∨ ∃ r, nss = [] :: r) ∧
  ∀ ys mss p, AllT K H ys mss → mss.Perm nss → AscT mss → H p = none → Q (.ref p) (upd H p (.lst ys))
theorem allT_map {K : PySem.W.Frag} {H : Hp} {f : Value → V} {g : Value → List Int} : ∀ {us : List Value}, (∀ u ∈ us, TpI K H (f u) (g u)) → AllT K H (us.map f) (us.map g)
  | [], _ => .nil
  | u :: us, h => .cons (h u List.mem_cons_self) (allT_map fun v hv => h v (List.mem_cons_of_mem _ hv))
theorem cr_sortS {X : Cx} (hu : X.A.units + 4 < cLine) : CallR X (.builtin "sorted") (rSortS X.K) := by
  intro pins s σ H vs us Q I r h
  obtain ⟨a, xs, nss, B, k, rfl, hs, few, ht, hB, hf, alt, q⟩ := h
  obtain ⟨its, rv, pl, room⟩ := I.list hs
  rw [Vals.ref1 r]
  have lx := rv.length
  have mem := AllT.rawM I rv ht
  have whole := AllT.raws I rv ht
  obtain ⟨e1, e2⟩ := bkV_refs rv fun x m => by
    obtain ⟨ns, _, t, e, _⟩ := ht.mem x m
    exact ⟨t, e⟩
  have ok : TupsS s.heap its := by
    refine ⟨fun v hv => ?_, ?_⟩
    · obtain ⟨ns, _, t, _⟩ := mem v hv
      exact ⟨ns, t⟩
    · rcases alt with n | ⟨t, e⟩
      · refine .inl fun v hv => ?_
        obtain ⟨ns, m, t, _⟩ := mem v hv
        exact ⟨ns, t, n ns m⟩
      · cases its with
        | nil =>
          rw [e] at whole
          cases whole
        | cons v vs =>
          refine .inr ⟨v, vs, rfl, ?_⟩
          obtain ⟨ns, _, t, _⟩ := mem v List.mem_cons_self
          rw [e, List.map_cons] at whole
          have z := (List.cons.inj whole).1
          rw [t.ints] at z
          rw [← z]
          exact t
  refine sorted_raw (k := k) (B := B) hB hu pl.isList (by omega) ok (fun v hv ns t => ?_) fun out p1 p2 => ?_
  · obtain ⟨ms, m, t2, _⟩ := mem v hv
    have e : ns = ms := t.ints.symm.trans t2.ints
    rw [e]
    exact hf ms m
  · obtain ⟨ep, he⟩ := PyProof.Rows.sortedAll_at s.heap its out
    have sub : ∀ u ∈ out.toList, u ∈ its := fun u hu => p1.mem_iff.mp hu
    have hT : ∀ u ∈ out.toList, TpI X.K H (bkV u) (TS.intsOf s.heap u) := fun u hu => by
      obtain ⟨ns, _, t, t2⟩ := mem u (sub u hu)
      rw [t.ints]
      exact t2
    have lo : (out.toList.map bkV).length ≤ sizeLine := by
      rw [List.length_map, p1.length_eq, ← lx]
      exact room
    refine ⟨.ref _, upd H (s.heap.objs.size + 1) (.lst (out.toList.map bkV)), I.laid (t' := s.toks) (fun b o e => PyProof.Rows.sortedAll_old e) (Nat.le_add_right _ 1) ⟨lo, out.toList, ep, bkV_vals fun u hu => e2 u (sub u hu), he⟩, rfl, ?_⟩
    refine q _ (out.toList.map (TS.intsOf s.heap)) _ (allT_map hT) ?_ ?_ (I.hok.fresh (Nat.le_add_right _ 1))
    · rw [← whole]
      exact p1.map _
    · unfold AscT
      rw [List.pairwise_map]
      refine List.Pairwise.imp_of_mem (fun {u v} hu hv le => ?_) p2
      obtain ⟨ns, m1, t1, _⟩ := mem u (sub u hu)
      obtain ⟨ms, m2, t2, _⟩ := mem v (sub v hv)
      have l1 := hf ns m1
      have l2 := hf ms m2
      unfold rkOf at le
      rw [t1.ints, t2.ints] at le ⊢
      exact lex_asym hB l1.1 l2.1 l1.2 l2.2 le
theorem lex_no : ∀ {a b : List Int}, HT.lexLt b a = true → HT.lexLt a b = false
  | [], [], h => nomatch h
  | [], _ :: _, h => nomatch h
  | _ :: _, [], _ => rfl
  | x :: r, y :: q, h => by
    rw [HT.lexLt_cons] at h ⊢
    by_cases e : x = y
    · rw [if_pos e.symm] at h
      rw [if_pos e]
      exact lex_no h
    · rw [if_neg fun z => e z.symm] at h
      rw [if_neg e]
      have := of_decide_eq_true h
      exact decide_eq_false (by omega)
/-- ascending lists of the same tuples are one -/
theorem lexB_anti {a b : List Int} (h : AscT.lexB a b = true) (g : AscT.lexB b a = true) : a = b := by
  by_cases e : a = b
  · exact e
  · unfold AscT.lexB at h g
    rw [decide_eq_false e, Bool.or_false] at h
    rw [decide_eq_false (fun z => e z.symm), Bool.or_false] at g
    exact absurd h (by rw [lex_no g]; decide)
theorem asc_unique : ∀ {l m : List (List Int)}, l.Perm m → AscT l → AscT m → l = m
  | [], m, p, _, _ => (List.nil_perm.mp p).symm
  | a :: l, [], p, _, _ => absurd p.length_eq (by simp)
  | a :: l, b :: m, p, h, g => by
    have h1 := List.pairwise_cons.mp h
    have g1 := List.pairwise_cons.mp g
    have e : a = b := by
      rcases List.mem_cons.mp (p.mem_iff.mp List.mem_cons_self) with e | m1
      · exact e
      · rcases List.mem_cons.mp (p.mem_iff.mpr List.mem_cons_self) with e | m2
        · exact e.symm
        · exact lexB_anti (h1.1 b m2) (g1.1 a m1)
    subst e
    rw [asc_unique (List.Perm.cons_inv p) h1.2 g1.2]
end Ow

set_option Elab.async false
set_option linter.all false
set_option maxRecDepth 100000
set_option maxHeartbeats 4000000
namespace Ow
open PySem PySem.Spec PyProof.Rows L2
/-! ### {x for .. for ..}, x an int -/
abbrev sc2 (elt t0 i0 t1 i1 : Expr) (scope : Scope) (pos : Pos) : Expr := .SetComp elt [⟨t0, i0, [], 0⟩, ⟨t1, i1, [], 0⟩] scope pos
theorem turn_out (elt t0 i0 t1 i1 : Expr) (scope : Scope) (pos : Pos) (it acc : Value) (env : Env) : compTurn (sc2 elt t0 i0 t1 i1 scope pos) 0 it acc env = (do
    standAt i0.pos
    let got ← pyNext it
    match got with
    | none => pure (.done .next)
    | some v => do
      letOwnedTupleGo t0 it v
      assign t0 env v
      let src ← eval i1 env
      standAt i1.pos
      let src ← foldedSetIterable i1 env src
      let _ ← runOwn (.compStart (sc2 elt t0 i0 t1 i1 scope pos) 1 (← holding [src] (pyIter src)) acc env) env
      again (.compLoop (sc2 elt t0 i0 t1 i1 scope pos) 0 it acc env)) := by rfl
theorem turn_in (elt t0 i0 t1 i1 : Expr) (scope : Scope) (pos : Pos) (it acc : Value) (env : Env) : compTurn (sc2 elt t0 i0 t1 i1 scope pos) 1 it acc env = (do
    standAt i1.pos
    let got ← pyNext it
    match got with
    | none => pure (.done .next)
    | some v => do
      letOwnedTupleGo t1 it v
      assign t1 env v
      (do let y ← eval elt env; standAt elt.pos; let _ ← call (.builtin "set.add") [acc, y])
      again (.compLoop (sc2 elt t0 i0 t1 i1 scope pos) 1 it acc env)) := by rfl
abbrev no : Value → Shared → Prop := fun _ _ => False
section
variable {prog : Program} {w : World} {A : Around} {R : Result → Shared → Prop} {s : Shared} {elt t0 i0 t1 i1 : Expr} {scope : Scope} {pos : Pos} {it acc : Value} {env : Env}
theorem bnd {α β : Type} {M : Model} {m : Sem α} {f : α → Sem β} {P : β → Shared → Prop} {E : Value → Shared → Prop} (h : wpAny M A m (fun a s' => wpAny M A (f a) P E s') no s) : wpAny M A (m >>= f) P E s := wpAny_bind (thnF h fun _ _ z => z)
/-- the loop over the second source -/
theorem sc2_inner (J : Nat → Shared → Prop) (turn : ∀ n s, J n s → wpAny (model prog w) A (pyNext it) (fun got s1 => match got with
      | none => R (.ok .next) s1
      | some v => wpAny (model prog w) A (letOwnedTupleGo t1 it v) (fun _ s2 => wpAny (model prog w) A (assign t1 env v) (fun _ s3 => wpAny (model prog w) A (eval elt env) (fun y s4 =>
          wpAny (model prog w) A (call (.builtin "set.add") [acc, y]) (fun _ s5 => ∃ m, m < n ∧ J m s5) no s4) no s3) no s2) no s1) no s)
    (n : Nat) (h : J n s) : codeAny (model prog w) A (.compLoop (sc2 elt t0 i0 t1 i1 scope pos) 1 it acc env) R s := by
  refine codeAny_loop rfl J (fun n s hJ => ?_) n h
  show wpAny _ A ((compTurn (sc2 elt t0 i0 t1 i1 scope pos) 1 it acc env).onRaise _) _ _ s
  refine wpAny_noted ?_
  rw [turn_in]
  refine wpAny_bind (wpAny_standAt (bnd (thn (turn n s hJ) fun got s1 hg => ?_)))
  cases got with
  | none => exact wpAny_pure hg
  | some v => exact bnd (thn hg fun _ s2 h2 => bnd (thn h2 fun _ s3 h3 => wpAny_bind (bnd (thn h3 fun y s4 h4 => wpAny_bind (wpAny_standAt (bnd (thn h4 fun _ s5 h5 => wpAny_pure (wpAny_pure ⟨rfl, h5⟩)))))))) 
/-- the loop over the first one -/
theorem sc2_outer (hs : ∀ x, foldedSetIterable i1 env x = pure x) (I : Nat → Shared → Prop) (turn : ∀ n s, I n s → wpAny (model prog w) A (pyNext it) (fun got s1 => match got with
      | none => R (.ok .next) s1
      | some v => wpAny (model prog w) A (letOwnedTupleGo t0 it v) (fun _ s2 => wpAny (model prog w) A (assign t0 env v) (fun _ s3 => wpAny (model prog w) A (eval i1 env) (fun x s4 => wpAny (model prog w) A (pyIter x) (fun it1 s5 =>
          codeAny (model prog w) A (.compStart (sc2 elt t0 i0 t1 i1 scope pos) 1 it1 acc env) (fun r s6 => match r with
            | .ok _ => ∃ m, m < n ∧ I m s6
            | .error _ => False) s5) no s4) no s3) no s2) no s1) no s)
    (n : Nat) (h : I n s) : codeAny (model prog w) A (.compLoop (sc2 elt t0 i0 t1 i1 scope pos) 0 it acc env) R s := by
  refine codeAny_loop rfl I (fun n s hI => ?_) n h
  show wpAny _ A ((compTurn (sc2 elt t0 i0 t1 i1 scope pos) 0 it acc env).onRaise _) _ _ s
  refine wpAny_noted ?_
  rw [turn_out]
  refine wpAny_bind (wpAny_standAt (bnd (thn (turn n s hI) fun got s1 hg => ?_)))
  cases got with
  | none => exact wpAny_pure hg
  | some v =>
    refine bnd (thn hg fun _ s2 h2 => bnd (thn h2 fun _ s3 h3 => bnd (thn h3 fun x s4 h4 => wpAny_bind (wpAny_standAt (wpAny_bind (wpAny_of_eq (hs x) ?_))))))
    refine wpAny_bind (wpAny_holding (thnF h4 fun it1 s5 h5 => wpAny_bind (wpAny_runOwn ?_)))
    rw [Around.mark_none]
    refine codeAny_mono h5 fun r s6 h6 => ?_
    cases r with
    | ok f => exact wpAny_pure ⟨rfl, h6⟩
    | error e => exact h6.elim
/-- the second source's begin -/
theorem sc2_start (h0 : codeAny (model prog w) A (.compLoop (sc2 elt t0 i0 t1 i1 scope pos) 1 it acc env) R s)
    (h : wpAny (model prog w) A (pyIter it) (fun it' s' => codeAny (model prog w) A (.compLoop (sc2 elt t0 i0 t1 i1 scope pos) 1 it' acc env) R s') (notedBy (model prog w) A env fun x s' => R (.error x) s') s) :
    codeAny (model prog w) A (.compStart (sc2 elt t0 i0 t1 i1 scope pos) 1 it acc env) R s := by
  refine codeAny_of_tree ?_
  show wpAny _ _ ((compStart (sc2 elt t0 i0 t1 i1 scope pos) 1 it acc env).onRaise _) _ _ s
  refine wpAny_notedAt ?_
  unfold compStart
  show wpAny _ _ (ask >>= _) _ _ s
  refine wpAny_bind (wpAny_askSetting (wpAny_ite ?_))
  split
  · exact wpAny_pure (And.intro rfl h0)
  · refine wpAny_bind (wpAny_rule ?_)
    show wpAny _ _ (standAt i1.pos >>= _) _ _ s
    exact wpAny_bind (wpAny_standAt (wpAny_bind (thn h fun it' s' q => wpAny_pure (And.intro rfl q))))
end
end Ow


set_option Elab.async false
set_option linter.all false
set_option maxRecDepth 100000
set_option maxHeartbeats 4000000
namespace Ow
open PySem PySem.Spec PyProof.Rows L2 PpSet
section
variable {X : Cx}
/-- set.add of an int -/
theorem addI {pins : List (Addr × Obj)} {σ : L2.St} {H : Hp} {s : Shared} {E : Value → Shared → Prop} {D : Addr} {S : Int → Bool} {n : Nat} {c : Int} {u : Value} {P : Value → Shared → Prop} (I : Inv X pins σ H s) (r : RelV (.int c) u) (hD : H D = some (SetO X.w D S n)) (few : n + 1 < scanBound)
    (k : ∀ s', Inv X pins σ (upd H D (SetO X.w D (fun j => S j || decide (j = c)) (if S c = true then n else n + 1))) s' → P .none s') : wpAny (model X.prog X.w) X.A (call (.builtin "set.add") [.ref D, u]) P E s := by
  obtain ⟨t, rfl⟩ := r
  refine setR_add (setO_get I hD) few fun g sb new => ?_
  obtain ⟨o, _, _, _, at_, _⟩ := id new
  exact k _ (I.write (e := D) (t' := s.toks + 1) (by rw [hD]; trivial) (.inl rfl) (fun b z hb hz => (sb.2 b hb).trans hz) ⟨o, at_⟩ (setO_new new))
/-- {y for tg in iter for tg1 in iter1}: D the new set -/
def tSc2 (w : World) (wi : TI) (g : TG) (wi1 : TI) (g1 : TG) (te : TE) (vs vs1 : List Nat) : TE := fun σ H Q => wi σ H fun J H1 => ∀ D, H1 D = none → ∃ W : Nat → Nat → Hp → Prop, (∃ m, W 0 m (upd H1 D (SetO w D (fun _ => false) 0))) ∧ ∀ i m H, W i m H →
  (J.stop i H ∧ Q (.ref D) H) ∨ (J.go i H ∧ ∃ Nx : Hp → Prop, (∀ H', Nx H' → ∃ m', m' < m ∧ W (i + 1) m' H') ∧ ∀ x H', J.yld i H x H' → g x (wipe σ vs) H' fun σ2 H2 => wipe σ2 vs = wipe σ vs ∧
    wi1 σ2 H2 fun J1 H4 => ∃ W1 : Nat → Nat → Hp → Prop, (∃ m, W1 0 m H4) ∧ ∀ j k H, W1 j k H →
      (J1.stop j H ∧ Nx H) ∨ (J1.go j H ∧ ∃ Nx1 : Hp → Prop, (∀ H', Nx1 H' → ∃ k', k' < k ∧ W1 (j + 1) k' H') ∧ ∀ x H', J1.yld j H x H' → g1 x (wipe σ2 vs1) H' fun σ3 H5 => wipe σ3 vs1 = wipe σ2 vs1 ∧
        te σ3 H5 fun y H7 => ∃ (c : Int) (S : Int → Bool) (n : Nat), y = .int c ∧ H7 D = some (SetO w D S n) ∧ n + 1 < scanBound ∧ Nx1 (upd H7 D (SetO w D (fun j => S j || decide (j = c)) (if S c = true then n else n + 1)))))
/-- what the block's clauses and its value are -/
structure Blk2 (X : Cx) (scope : Scope) (tg tg1 iter1 elt : Expr) (g : TG) (wi1 : TI) (g1 : TG) (te : TE) : Prop where
  g : ∀ (s : Shared) (H : Hp) (C : Addr) (cl : List (Str × Addr)) (fp : List Addr), PG (X.blk s H scope (compEnvC scope cl C X.env) fp) tg g
  i : ∀ (s : Shared) (H : Hp) (C : Addr) (cl : List (Str × Addr)) (fp : List Addr), PI (X.blk s H scope (compEnvC scope cl C X.env) fp) tg1 iter1 wi1
  g1 : ∀ (s : Shared) (H : Hp) (C : Addr) (cl : List (Str × Addr)) (fp : List Addr), PG (X.blk s H scope (compEnvC scope cl C X.env) fp) tg1 g1
  e : ∀ (s : Shared) (H : Hp) (C : Addr) (cl : List (Str × Addr)) (fp : List Addr), PE (X.blk s H scope (compEnvC scope cl C X.env) fp) elt te
abbrev newS (w : World) : Obj := { cls := .type "set", dict := none, data := .set #[] 0 (.fresh 0 0 (!w.params.followText "set-order")) }
theorem sc2_core {pins : List (Addr × Obj)} {s : Shared} {σ : L2.St} {H : Hp} {Q : VK} {elt tg iter tg1 iter1 : Expr} {scope : Scope} {own : List (Str × Nat)} {vs1 : List Nat} {pos pos2 : Pos} {wi wi1 : TI} {g g1 : TG} {te : TE} {use : Option (Value → Sem Unit)} {Qf : Value → Shared → Prop}
    (calm : X.calm = true) (nd : X.N.Nodup) (I0 : Inv X pins σ H s) (src : PI X tg iter wi) (ok : BlkOk X.N X.env.scope scope own) (sub : ∀ i ∈ vs1, i ∈ own.map (·.2)) (B : Blk2 X scope tg tg1 iter1 elt g wi1 g1 te)
    (f0 : ∀ x, foldedSetIterable iter X.env x = pure x) (f1 : ∀ env x, foldedSetIterable iter1 env x = pure x) (h : tSc2 X.w wi g wi1 g1 te (own.map (·.2)) vs1 σ H Q)
    (fin : ∀ D C s' m H', Inv X pins σ H' s' → Q (.ref D) H' → s'.heap.Ns C m → FpOk X pins H' C → compPost (model X.prog X.w) X.A X.xe use Qf (.ref D) C (.ok .next) s') :
    wpAny (model X.prog X.w) X.A (comprehension (sc2 elt tg iter tg1 iter1 scope pos) scope X.env pos2 (newSet (.type "set")) false (eval iter X.env) use) Qf X.xe s := by
  have cells : ∀ y ∈ scope.names, y.2 = .free → ∃ c, X.env.cells.lookup y.1 = some c := fun y my e => (ok.free y my e).elim (fun z => I0.ok.has _ (.inl z)) fun z => I0.ok.has _ (.inr z)
  refine wpAny_comprehension_free (use := use) rfl f0 (closure_ok cells) ok.kind (fun y my e => (ok.uniq y my).trans (congrArg some e)) (thn (src.run pins s σ H _ I0 h) fun xv sa ha => thn ha fun itv sb hb => ?_)
  obtain ⟨it, fp, tn, J, H1, rfl, I1, T, st1, fo, loopQ⟩ := hb
  refine newSet_ok (newEnv_comp ?_)
  generalize eD : sb.heap.objs.size = D
  obtain ⟨W, ⟨m0, w0⟩, go_on⟩ := loopQ D (I1.hok.fresh (Nat.le_of_eq eD))
  -- the set is laid
  generalize es : ({ sb with heap := sb.heap.push (newS X.w) } : Shared) = sc
  have hc : sc.heap = sb.heap.push (newS X.w) := by rw [← es]
  have I2 : Inv X pins σ (upd H1 D (SetO X.w D (fun _ => false) 0)) sc := by
    subst es
    refine I1.laid (t' := sb.toks) (fun b o z => Heap.get?_push_of_some _ z) (Nat.le_of_eq eD) ?_
    subst eD
    exact setO_new (setR_fresh X.w)
  have low : ∀ b ∈ fp, b < sb.heap.objs.size := fun b mb => by
    obtain ⟨o, z, _⟩ := T.obj _ _ st1 b mb
    exact Heap.lt_size z
  have fo2 : ∀ b ∈ fp, FpOk X pins (upd H1 D (SetO X.w D (fun _ => false) 0)) b ∧ b < sc.heap.objs.size := fun b mb => by
    have lt := low b mb
    have ne : b ≠ D := fun z => Nat.lt_irrefl _ (by rw [← eD] at z; exact z ▸ lt)
    exact ⟨⟨(upd_ne ne).trans (fo b mb).1, (fo b mb).2⟩, by rw [hc, Heap.size_push]; exact Nat.lt_succ_of_lt lt⟩
  have st2 : tn 0 sc.heap := T.keep _ _ _ st1 fun b _ o z => by
    rw [hc]
    exact Heap.get?_push_of_some _ z
  have I3 := block_start I2 ok nd fo2
  generalize eH : upd H1 D (SetO X.w D (fun _ => false) 0) = H2 at I2 I3 w0 fo2
  generalize eC : cellsFrom (sc.heap.objs.size + 1) scope.names (cloFrom X.env.cells scope.names []) = cl at I3 ⊢
  have pg := B.g sc H2 sc.heap.objs.size cl fp
  have pi := B.i sc H2 sc.heap.objs.size cl fp
  have pg1 := B.g1 sc H2 sc.heap.objs.size cl fp
  have pe := B.e sc H2 sc.heap.objs.size cl fp
  have gone : ∀ b ∈ fp, H2 b = none := fun b mb => (fo2 b mb).1.1
  show codeAny _ _ (.compStart (sc2 elt tg iter tg1 iter1 scope pos) 0 (.ref it) (.ref D) (compEnvC scope cl sc.heap.objs.size X.env)) (compPost (model X.prog X.w) X.A X.xe use Qf (.ref D) sc.heap.objs.size) { sc with heap := pushCells (sc.heap.push { cls := .type "dict", data := .dict #[] }) scope.names }
  generalize eE : compEnvC scope cl sc.heap.objs.size X.env = ce at I3 pg pi pg1 pe ⊢
  have loc : ce.locals = sc.heap.objs.size := by rw [← eE]; rfl
  generalize ed : ({ sc with heap := pushCells (sc.heap.push { cls := .type "dict", data := .dict #[] }) scope.names } : Shared) = sd at I3 ⊢
  have st3 : tn 0 sd.heap := T.keep _ _ _ st2 fun b _ o z => by
    rw [← ed]
    exact pushCells_keeps _ _ _ _ (Heap.get?_push_of_some _ z)
  have stat : ∀ {σ' : L2.St} {H' : Hp} {s' : Shared}, Inv (X.blk sc H2 scope ce fp) [] σ' H' s' → (∀ b ∈ fp, H' b = none) → ∀ b ∈ fp, FpOk (X.blk sc H2 scope ce fp) [] H' b := fun {σ' H' s'} K n b mb =>
    ⟨n b mb, (K.ok.exf b mb).1, K.ok.exfs b mb, .inl mb, (K.ok.exf b mb).2, fun p mp => absurd (show p ∈ ([] : List (Addr × Obj)) from mp) (fun z => nomatch z)⟩
  have loop : codeAny (model X.prog X.w) X.A (.compLoop (sc2 elt tg iter tg1 iter1 scope pos) 0 (.ref it) (.ref D) ce) (compPost (model X.prog X.w) X.A X.xe use Qf (.ref D) sc.heap.objs.size) sd := by
    refine sc2_outer (f1 ce) (fun n s' => ∃ i H', Inv (X.blk sc H2 scope ce fp) [] (wipe σ (own.map (·.2))) H' s' ∧ tn i s'.heap ∧ (∀ b ∈ fp, H' b = none) ∧ W i n H') (fun n se ⟨i, H5, I5, st5, n5, w5⟩ => ?_) m0 ⟨0, H2, I3, st3, gone, w0⟩
    rcases go_on i n H5 w5 with ⟨stop, done⟩ | ⟨more, Nx, down, step⟩
    · -- nothing left: back in the def
      refine thnF (T.done (X.blk sc H2 scope ce fp) rfl rfl rfl calm i [] se _ H5 no I5 (stat I5 n5) st5 stop) fun r sf ⟨er, I6⟩ => ?_
      subst er
      have I7 : Inv X pins σ H5 sf := I2.call' (ch := fp) I6.os I6.base I6.hok I6.bare fun b mb => let z := (fo2 b mb).1.2; ⟨z.2.2.1, z.1, z.2.2.2.1, z.2.2.2.2⟩
      have unC : H5 sc.heap.objs.size = none := loc ▸ (show H5 ce.locals = none from I6.free)
      obtain ⟨m, ns, _⟩ := I6.loc
      exact fin D sc.heap.objs.size sf m H5 I7 done (loc ▸ (show sf.heap.Ns ce.locals m from ns)) (I2.fpOk (Nat.le_refl _) unC)
    · refine thnF (T.item (X.blk sc H2 scope ce fp) rfl rfl rfl calm i [] se _ H5 no I5 (stat I5 n5) st5 more) fun r sf ⟨u, er, h6⟩ => ?_
      subst er
      refine thnF h6 fun _ sg ⟨x, H7, I7, r7, y7, st7, n7⟩ => ?_
      have P7 := I7.pinned (stat I7 n7) (T.obj _ _ st7)
      refine thnF (pg.run _ sg _ H7 x u _ P7 r7 (step x H7 y7)) fun _ sh ⟨σ8, H8, I8, e8, q8⟩ => ?_
      have len8 : (wipe σ (own.map (·.2))).length = σ8.length := (congrArg List.length e8).symm.trans (wipe_length _ _)
      have know : ∀ (j : Nat) v, (wipe σ (own.map (·.2)))[j]? = some (some v) → (wipe σ8 vs1)[j]? = some (some v) := fun j v z => by
        rw [← e8] at z
        obtain ⟨z1, z2⟩ := wipe_some z
        rw [wipe_out fun mj => z2 (sub j mj)]
        exact z1
      -- the end of a turn
      have turned : ∀ {s' : Shared} {H' : Hp}, Inv (X.blk sc H2 scope ce fp) ([] ++ pinsAt fp sg.heap) (wipe σ8 vs1) H' s' → Nx H' → ∃ m, m < n ∧ ∃ i H', Inv (X.blk sc H2 scope ce fp) [] (wipe σ (own.map (·.2))) H' s' ∧ tn i s'.heap ∧ (∀ b ∈ fp, H' b = none) ∧ W i m H' := fun {s' H'} K nx => by
        obtain ⟨m', lt, w'⟩ := down H' nx
        have held : ∀ b ∈ fp, ∀ o, sg.heap.get? b = some o → s'.heap.get? b = some o ∧ H' b = none := fun b mb o z =>
          have y := K.pin (b, o) (List.mem_append_right _ (List.mem_append_right _ (mem_pinsAt mb z)))
          ⟨y.1, y.2.1⟩
        refine ⟨m', lt, i + 1, H', (K.unpinned (pins := [])).weak (len8.trans (wipe_length _ _).symm) know, T.keep _ _ _ st7 fun b mb o z => (held b mb o z).1, fun b mb => ?_, w'⟩
        obtain ⟨o, z, _⟩ := T.obj _ _ st7 b mb
        exact (held b mb o z).2
      refine thnF (pi.run _ sh σ8 H8 _ I8 q8) fun xv1 si hx => thnF hx fun itv1 sj ⟨it1, fp1, tn1, J1, H11, e11, I11, T1, st11, fo1, W1, ⟨m1, w1⟩, turn1⟩ => ?_
      subst e11
      have stat1 : ∀ {H' : Hp}, (∀ b ∈ fp1, H' b = none) → ∀ b ∈ fp1, FpOk (X.blk sc H2 scope ce fp) ([] ++ pinsAt fp sg.heap) H' b := fun n b mb => ⟨n b mb, (fo1 b mb).2⟩
      have inner : codeAny (model X.prog X.w) X.A (.compLoop (sc2 elt tg iter tg1 iter1 scope pos) 1 (.ref it1) (.ref D) ce) (fun r s6 => match r with
          | .ok _ => ∃ m, m < n ∧ ∃ i H', Inv (X.blk sc H2 scope ce fp) [] (wipe σ (own.map (·.2))) H' s6 ∧ tn i s6.heap ∧ (∀ b ∈ fp, H' b = none) ∧ W i m H'
          | .error _ => False) sj := by
        refine sc2_inner (fun k s' => ∃ j H', Inv (X.blk sc H2 scope ce fp) ([] ++ pinsAt fp sg.heap) (wipe σ8 vs1) H' s' ∧ tn1 j s'.heap ∧ (∀ b ∈ fp1, H' b = none) ∧ W1 j k H') (fun k sk ⟨j, H12, I12, st12, n12, w12⟩ => ?_) m1
          ⟨0, H11, I11.weak (wipe_length _ _) (fun j v z => (wipe_some z).1), st11, fun b mb => (fo1 b mb).1, w1⟩
        rcases turn1 j k H12 w12 with ⟨stop1, nx1⟩ | ⟨more1, Nx1, down1, step1⟩
        · refine thnF (T1.done (X.blk sc H2 scope ce fp) rfl rfl rfl calm j _ sk (wipe σ8 vs1) H12 no I12 (stat1 n12) st12 stop1) fun r sl ⟨er, I13⟩ => ?_
          subst er
          exact turned I13 nx1
        · refine thnF (T1.item (X.blk sc H2 scope ce fp) rfl rfl rfl calm j _ sk (wipe σ8 vs1) H12 no I12 (stat1 n12) st12 more1) fun r sl ⟨u1, er, h13⟩ => ?_
          subst er
          refine thnF h13 fun _ sm ⟨x1, H14, I14, r14, y14, st14, n14⟩ => ?_
          have P14 := I14.pinned (stat1 n14) (T1.obj _ _ st14)
          refine thnF (pg1.run _ sm (wipe σ8 vs1) H14 x1 u1 _ P14 r14 (step1 x1 H14 y14)) fun _ sn ⟨σ15, H15, I15, e15, q15⟩ => ?_
          refine thnF (pe.run _ sn σ15 H15 _ I15 q15) fun z so ⟨yv, H16, I16, r16, c, S, cnt, ey, hD, few, nx⟩ => ?_
          subst ey
          refine addI (X := X.blk sc H2 scope ce fp) I16 r16 hD few fun sp I17 => ?_
          obtain ⟨m', lt, w'⟩ := down1 _ nx
          have held : ∀ b ∈ fp1, ∀ o, sm.heap.get? b = some o → sp.heap.get? b = some o ∧ _ = none := fun b mb o z =>
            have y := I17.pin (b, o) (List.mem_append_right _ (List.mem_append_right _ (mem_pinsAt mb z)))
            ⟨y.1, y.2.1⟩
          refine ⟨m', lt, j + 1, _, I17.unpinned.weak ((wipe_length _ _).trans ?_) (fun a v z => ?_), T1.keep _ _ _ st14 fun b mb o z => (held b mb o z).1, fun b mb => ?_, w'⟩
          · rw [← wipe_length σ15 vs1, e15, wipe_length]
          · rw [← e15] at z
            exact (wipe_some z).1
          · obtain ⟨o, z, _⟩ := T1.obj _ _ st14 b mb
            exact (held b mb o z).2
      exact sc2_start inner (T1.self X.A 0 _ _ _ st11 inner)
  exact codeAny_compStart_set loop (T.self X.A 0 _ _ _ st3 loop)
end
end Ow

set_option Elab.async false
set_option linter.all false
set_option maxRecDepth 100000
set_option maxHeartbeats 4000000
namespace Ow
open PySem PySem.Spec PyProof.Rows L2 PpSet
/-! ### {x for .. in ..}, x an int -/
abbrev sc1 (elt t0 i0 : Expr) (scope : Scope) (pos : Pos) : Expr := .SetComp elt [⟨t0, i0, [], 0⟩] scope pos
theorem turn_one (elt t0 i0 : Expr) (scope : Scope) (pos : Pos) (it acc : Value) (env : Env) : compTurn (sc1 elt t0 i0 scope pos) 0 it acc env = (do
    standAt i0.pos
    let got ← pyNext it
    match got with
    | none => pure (.done .next)
    | some v => do
      letOwnedTupleGo t0 it v
      assign t0 env v
      (do let y ← eval elt env; standAt elt.pos; let _ ← call (.builtin "set.add") [acc, y])
      again (.compLoop (sc1 elt t0 i0 scope pos) 0 it acc env)) := by rfl
section
variable {prog : Program} {w : World} {A : Around} {R : Result → Shared → Prop} {s : Shared} {elt t0 i0 : Expr} {scope : Scope} {pos : Pos} {it acc : Value} {env : Env}
theorem sc1_loop (J : Nat → Shared → Prop) (turn : ∀ n s, J n s → wpAny (model prog w) A (pyNext it) (fun got s1 => match got with
      | none => R (.ok .next) s1
      | some v => wpAny (model prog w) A (letOwnedTupleGo t0 it v) (fun _ s2 => wpAny (model prog w) A (assign t0 env v) (fun _ s3 => wpAny (model prog w) A (eval elt env) (fun y s4 =>
          wpAny (model prog w) A (call (.builtin "set.add") [acc, y]) (fun _ s5 => ∃ m, m < n ∧ J m s5) no s4) no s3) no s2) no s1) no s)
    (n : Nat) (h : J n s) : codeAny (model prog w) A (.compLoop (sc1 elt t0 i0 scope pos) 0 it acc env) R s := by
  refine codeAny_loop rfl J (fun n s hJ => ?_) n h
  show wpAny _ A ((compTurn (sc1 elt t0 i0 scope pos) 0 it acc env).onRaise _) _ _ s
  refine wpAny_noted ?_
  rw [turn_one]
  refine wpAny_bind (wpAny_standAt (bnd (thn (turn n s hJ) fun got s1 hg => ?_)))
  cases got with
  | none => exact wpAny_pure hg
  | some v => exact bnd (thn hg fun _ s2 h2 => bnd (thn h2 fun _ s3 h3 => wpAny_bind (bnd (thn h3 fun y s4 h4 => wpAny_bind (wpAny_standAt (bnd (thn h4 fun _ s5 h5 => wpAny_pure (wpAny_pure ⟨rfl, h5⟩))))))))
end
section
variable {X : Cx}
def tSc1 (w : World) (wi : TI) (g : TG) (te : TE) (vs : List Nat) : TE := fun σ H Q => wi σ H fun J H1 => ∀ D, H1 D = none → ∃ W : Nat → Nat → Hp → Prop, (∃ m, W 0 m (upd H1 D (SetO w D (fun _ => false) 0))) ∧ ∀ i m H, W i m H →
  (J.stop i H ∧ Q (.ref D) H) ∨ (J.go i H ∧ ∃ Nx : Hp → Prop, (∀ H', Nx H' → ∃ m', m' < m ∧ W (i + 1) m' H') ∧ ∀ x H', J.yld i H x H' → g x (wipe σ vs) H' fun σ2 H2 => wipe σ2 vs = wipe σ vs ∧
    te σ2 H2 fun y H7 => ∃ (c : Int) (S : Int → Bool) (n : Nat), y = .int c ∧ H7 D = some (SetO w D S n) ∧ n + 1 < scanBound ∧ Nx (upd H7 D (SetO w D (fun j => S j || decide (j = c)) (if S c = true then n else n + 1))))
theorem pe_sc1 {elt tg iter : Expr} {scope : Scope} {own : List (Str × Nat)} {pos : Pos} {wi : TI} {g : TG} {te : TE} (calm : X.calm = true) (nd : X.N.Nodup) (src : PI X tg iter wi) (ok : BlkOk X.N X.env.scope scope own)
    (bg : ∀ (s : Shared) (H : Hp) (C : Addr) (cl : List (Str × Addr)) (fp : List Addr), PG (X.blk s H scope (compEnvC scope cl C X.env) fp) tg g) (be : ∀ (s : Shared) (H : Hp) (C : Addr) (cl : List (Str × Addr)) (fp : List Addr), PE (X.blk s H scope (compEnvC scope cl C X.env) fp) elt te)
    (f0 : ∀ x, foldedSetIterable iter X.env x = pure x := by intro _; rfl) : PE X (.SetComp elt [⟨tg, iter, [], 0⟩] scope pos) (tSc1 X.w wi g te (own.map (·.2))) := by
  refine ⟨fun pins s σ H Q I0 h => ?_⟩
  rw [eval_SetComp]
  have cells : ∀ y ∈ scope.names, y.2 = .free → ∃ c, X.env.cells.lookup y.1 = some c := fun y my e => (ok.free y my e).elim (fun z => I0.ok.has _ (.inl z)) fun z => I0.ok.has _ (.inr z)
  refine wpAny_comprehension_free rfl f0 (closure_ok cells) ok.kind (fun y my e => (ok.uniq y my).trans (congrArg some e)) (thn (src.run pins s σ H _ I0 h) fun xv sa ha => thn ha fun itv sb hb => ?_)
  obtain ⟨it, fp, tn, J, H1, rfl, I1, T, st1, fo, loopQ⟩ := hb
  refine newSet_ok (newEnv_comp ?_)
  generalize eD : sb.heap.objs.size = D
  obtain ⟨W, ⟨m0, w0⟩, go_on⟩ := loopQ D (I1.hok.fresh (Nat.le_of_eq eD))
  generalize es : ({ sb with heap := sb.heap.push (newS X.w) } : Shared) = sc
  have hc : sc.heap = sb.heap.push (newS X.w) := by rw [← es]
  have I2 : Inv X pins σ (upd H1 D (SetO X.w D (fun _ => false) 0)) sc := by
    subst es
    refine I1.laid (t' := sb.toks) (fun b o z => Heap.get?_push_of_some _ z) (Nat.le_of_eq eD) ?_
    subst eD
    exact setO_new (setR_fresh X.w)
  have low : ∀ b ∈ fp, b < sb.heap.objs.size := fun b mb => by
    obtain ⟨o, z, _⟩ := T.obj _ _ st1 b mb
    exact Heap.lt_size z
  have fo2 : ∀ b ∈ fp, FpOk X pins (upd H1 D (SetO X.w D (fun _ => false) 0)) b ∧ b < sc.heap.objs.size := fun b mb => by
    have lt := low b mb
    have ne : b ≠ D := fun z => Nat.lt_irrefl _ (by rw [← eD] at z; exact z ▸ lt)
    exact ⟨⟨(upd_ne ne).trans (fo b mb).1, (fo b mb).2⟩, by rw [hc, Heap.size_push]; exact Nat.lt_succ_of_lt lt⟩
  have st2 : tn 0 sc.heap := T.keep _ _ _ st1 fun b _ o z => by
    rw [hc]
    exact Heap.get?_push_of_some _ z
  have I3 := block_start I2 ok nd fo2
  generalize eH : upd H1 D (SetO X.w D (fun _ => false) 0) = H2 at I2 I3 w0 fo2
  generalize eC : cellsFrom (sc.heap.objs.size + 1) scope.names (cloFrom X.env.cells scope.names []) = cl at I3 ⊢
  have pg := bg sc H2 sc.heap.objs.size cl fp
  have pe := be sc H2 sc.heap.objs.size cl fp
  have gone : ∀ b ∈ fp, H2 b = none := fun b mb => (fo2 b mb).1.1
  show codeAny _ _ (.compStart (sc1 elt tg iter scope pos) 0 (.ref it) (.ref D) (compEnvC scope cl sc.heap.objs.size X.env)) (compPost (model X.prog X.w) X.A X.xe _ _ (.ref D) sc.heap.objs.size) { sc with heap := pushCells (sc.heap.push { cls := .type "dict", data := .dict #[] }) scope.names }
  generalize eE : compEnvC scope cl sc.heap.objs.size X.env = ce at I3 pg pe ⊢
  have loc : ce.locals = sc.heap.objs.size := by rw [← eE]; rfl
  generalize ed : ({ sc with heap := pushCells (sc.heap.push { cls := .type "dict", data := .dict #[] }) scope.names } : Shared) = sd at I3 ⊢
  have st3 : tn 0 sd.heap := T.keep _ _ _ st2 fun b _ o z => by
    rw [← ed]
    exact pushCells_keeps _ _ _ _ (Heap.get?_push_of_some _ z)
  have stat : ∀ {σ' : L2.St} {H' : Hp} {s' : Shared}, Inv (X.blk sc H2 scope ce fp) [] σ' H' s' → (∀ b ∈ fp, H' b = none) → ∀ b ∈ fp, FpOk (X.blk sc H2 scope ce fp) [] H' b := fun {σ' H' s'} K n b mb =>
    ⟨n b mb, (K.ok.exf b mb).1, K.ok.exfs b mb, .inl mb, (K.ok.exf b mb).2, fun p mp => absurd (show p ∈ ([] : List (Addr × Obj)) from mp) (fun z => nomatch z)⟩
  refine codeAny_compStart_set ?loop (T.self X.A 0 _ _ _ st3 ?loop)
  refine sc1_loop (fun n s' => ∃ i H', Inv (X.blk sc H2 scope ce fp) [] (wipe σ (own.map (·.2))) H' s' ∧ tn i s'.heap ∧ (∀ b ∈ fp, H' b = none) ∧ W i n H') (fun n se ⟨i, H5, I5, st5, n5, w5⟩ => ?_) m0 ⟨0, H2, I3, st3, gone, w0⟩
  rcases go_on i n H5 w5 with ⟨stop, done⟩ | ⟨more, Nx, down, step⟩
  · refine thnF (T.done (X.blk sc H2 scope ce fp) rfl rfl rfl calm i [] se _ H5 no I5 (stat I5 n5) st5 stop) fun r sf ⟨er, I6⟩ => ?_
    subst er
    have I7 : Inv X pins σ H5 sf := I2.call' (ch := fp) I6.os I6.base I6.hok I6.bare fun b mb => let z := (fo2 b mb).1.2; ⟨z.2.2.1, z.1, z.2.2.2.1, z.2.2.2.2⟩
    have unC : H5 sc.heap.objs.size = none := loc ▸ (show H5 ce.locals = none from I6.free)
    obtain ⟨m, ns, _⟩ := I6.loc
    have f := I2.fpOk (Nat.le_refl _) unC
    exact ⟨m, loc ▸ (show sf.heap.Ns ce.locals m from ns), fun h2 sb => ⟨.ref D, H5, I7.turned (t' := sf.toks) (fun b o ne e => (sb.2 b ne).trans e) f.1 f.2.1 f.2.2.2.1 f.2.2.2.2.1 f.2.2.2.2.2, rfl, done⟩⟩
  · refine thnF (T.item (X.blk sc H2 scope ce fp) rfl rfl rfl calm i [] se _ H5 no I5 (stat I5 n5) st5 more) fun r sf ⟨u, er, h6⟩ => ?_
    subst er
    refine thnF h6 fun _ sg ⟨x, H7, I7, r7, y7, st7, n7⟩ => ?_
    have P7 := I7.pinned (stat I7 n7) (T.obj _ _ st7)
    refine thnF (pg.run _ sg _ H7 x u _ P7 r7 (step x H7 y7)) fun _ sh ⟨σ8, H8, I8, e8, q8⟩ => ?_
    refine thnF (pe.run _ sh σ8 H8 _ I8 q8) fun z so ⟨yv, H16, I16, r16, c, S, cnt, ey, hD, few, nx⟩ => ?_
    subst ey
    refine addI (X := X.blk sc H2 scope ce fp) I16 r16 hD few fun sp I17 => ?_
    obtain ⟨m', lt, w'⟩ := down _ nx
    have held : ∀ b ∈ fp, ∀ o, sg.heap.get? b = some o → sp.heap.get? b = some o ∧ _ = none := fun b mb o z =>
      have y := I17.pin (b, o) (List.mem_append_right _ (List.mem_append_right _ (mem_pinsAt mb z)))
      ⟨y.1, y.2.1⟩
    refine ⟨m', lt, i + 1, _, I17.unpinned.weak ((congrArg List.length e8).symm.trans (wipe_length _ _) |>.symm.symm.symm ▸ rfl) (fun a v z => ?_), T.keep _ _ _ st7 fun b mb o z => (held b mb o z).1, fun b mb => ?_, w'⟩
    · rw [← e8] at z
      exact (wipe_some z).1
    · obtain ⟨o, z, _⟩ := T.obj _ _ st7 b mb
      exact (held b mb o z).2
end
theorem sc1_it {w : World} {J : It} {n : Nat} {G : Hp → Prop} {Y : Nat → Hp → V → Hp → Prop} (wk : Walk J n G Y) {g : TG} {te : TE} {vs : List Nat} {σ : L2.St} {H1 : Hp} {D : Addr} {Qd : Hp → Prop} (Pv : Nat → Hp → Prop)
    (h0 : Pv 0 (upd H1 D (SetO w D (fun _ => false) 0))) (hG : ∀ i H, i ≤ n → Pv i H → G H)
    (hs : ∀ i x H H', i < n → Pv i H → Y i H x H' → g x (wipe σ vs) H' fun σ2 H2 => wipe σ2 vs = wipe σ vs ∧ te σ2 H2 fun y H7 => ∃ (c : Int) (S : Int → Bool) (m : Nat), y = .int c ∧ H7 D = some (SetO w D S m) ∧ m + 1 < scanBound ∧ Pv (i + 1) (upd H7 D (SetO w D (fun j => S j || decide (j = c)) (if S c = true then m else m + 1))))
    (hd : ∀ H, Pv n H → Qd H) :
    ∃ W : Nat → Nat → Hp → Prop, (∃ m, W 0 m (upd H1 D (SetO w D (fun _ => false) 0))) ∧ ∀ i m H, W i m H →
      (J.stop i H ∧ Qd H) ∨ (J.go i H ∧ ∃ Nx : Hp → Prop, (∀ H', Nx H' → ∃ m', m' < m ∧ W (i + 1) m' H') ∧ ∀ x H', J.yld i H x H' → g x (wipe σ vs) H' fun σ2 H2 => wipe σ2 vs = wipe σ vs ∧
        te σ2 H2 fun y H7 => ∃ (c : Int) (S : Int → Bool) (n : Nat), y = .int c ∧ H7 D = some (SetO w D S n) ∧ n + 1 < scanBound ∧ Nx (upd H7 D (SetO w D (fun j => S j || decide (j = c)) (if S c = true then n else n + 1)))) := by
  refine ⟨fun i m H => i + m = n ∧ Pv i H, ⟨n, Nat.zero_add n, h0⟩, fun i m H ⟨e, p⟩ => ?_⟩
  have le : i ≤ n := by omega
  have q := hG i H le p
  cases m with
  | zero =>
    have : i = n := by omega
    subst this
    exact .inl ⟨wk.stops H q, hd H p⟩
  | succ m =>
    have lt : i < n := by omega
    exact .inr ⟨wk.goes i H lt q, Pv (i + 1), fun H' p' => ⟨m, Nat.lt_succ_self m, by omega, p'⟩, fun x H' y => hs i x H H' lt p (wk.yields i H x H' lt q y)⟩
end Ow

set_option Elab.async false
set_option linter.all false
set_option maxRecDepth 100000
set_option maxHeartbeats 4000000
set_option exponentiation.threshold 3000
namespace Ow
open PySem PySem.Spec PyProof.Rows L2
theorem scHasBoth : FnScope ["rows", "at", "row"] ["rows", "at"] (defScope dHasBoth) := ⟨rfl, rfl, rfl, by decide +kernel, rfl, by decide +kernel, by decide +kernel⟩
theorem scAreRows : FnScope ["value", "many", "row", "at"] ["value", "many"] (defScope dAreRows) := ⟨rfl, rfl, rfl, by decide +kernel, rfl, by decide +kernel, by decide +kernel⟩
/-- len(set of ints) -/
def rLenS (w : World) : List V → Hp → VK → Prop := fun xs H Q => ∃ (a : Addr) (S : Int → Bool) (n : Nat), xs = [.ref a] ∧ H a = some (SetO w a S n) ∧ n ≤ 5000 ∧ Q (.int n) H
theorem cr_lenS {X : Cx} : CallR X (.builtin "len") (rLenS X.w) := by
  intro pins s σ H xs us Q I r h
  obtain ⟨a, S, n, rfl, ha, hn5, q⟩ := h
  obtain ⟨u, rfl, rx⟩ := vals1 r
  cases rx
  obtain ⟨o, es, ep, t, ho, hex, hd, _, _, _, hf, hn⟩ := (setO_get I ha).setOf (P := X.prog)
  exact PySem.call_len_set ho hex hd hf (by rw [hn] <;> omega) ⟨.int n, H, I.tok _, ⟨_, by rw [hn]⟩, q⟩
def rowAt (k : Nat) (r : List Int) : Int := r.getD k 0
def bothB (rs : List (List Int)) (k : Nat) : Bool := (rs.any fun r => decide (rowAt k r = 0)) && (rs.any fun r => decide (rowAt k r = 1))
def RowsOk (m : Nat) (rs : List (List Int)) : Prop := ∀ r ∈ rs, bitsB r = true ∧ r.length = m
def ascR (rs : List (List Int)) : Bool := ((rs.zip rs.tail).map fun p => HT.lexLt p.1 p.2).all id
theorem row_bit {m : Nat} {rs : List (List Int)} (h : RowsOk m rs) {k : Nat} (hk : k < m) {r : List Int} (hr : r ∈ rs) : (rowAt k r = 0 ∨ rowAt k r = 1) ∧ r[k]? = some (rowAt k r) := by
  obtain ⟨hb, hl⟩ := h r hr
  have e : r[k]? = some (rowAt k r) := by
    unfold rowAt
    rw [List.getD_eq_getElem?_getD, List.getElem?_eq_getElem (by omega)]
    rfl
  have := List.all_eq_true.mp hb _ (List.mem_of_getElem? e)
  rw [Bool.or_eq_true, decide_eq_true_iff, decide_eq_true_iff] at this
  exact ⟨this, e⟩
def colS (rs : List (List Int)) (k : Nat) : Int → Bool := fun j => rs.any fun r => decide (rowAt k r = j)
def colN (rs : List (List Int)) (k : Nat) : Nat := (if colS rs k 0 = true then 1 else 0) + (if colS rs k 1 = true then 1 else 0)
theorem col_next {m : Nat} {rs : List (List Int)} (h : RowsOk m rs) {k : Nat} (hk : k < m) {i : Nat} {r : List Int} (hr : rs[i]? = some r) :
    (fun j => colS (rs.take i) k j || decide (j = rowAt k r)) = colS (rs.take (i + 1)) k ∧ (if colS (rs.take i) k (rowAt k r) = true then colN (rs.take i) k else colN (rs.take i) k + 1) = colN (rs.take (i + 1)) k := by
  have e1 : (fun j => colS (rs.take i) k j || decide (j = rowAt k r)) = colS (rs.take (i + 1)) k := by
    funext j
    unfold colS
    rw [List.take_add_one, hr, List.any_append]
    show _ = (_ || (decide (rowAt k r = j) || false))
    rw [Bool.or_false]
    congr 1
    rw [decide_eq_decide]
    exact eq_comm
  refine ⟨e1, ?_⟩
  unfold colN
  rw [← e1]
  show (if colS (rs.take i) k (rowAt k r) = true then _ else _) = (if (colS (rs.take i) k 0 || decide ((0 : Int) = rowAt k r)) = true then 1 else 0) + (if (colS (rs.take i) k 1 || decide ((1 : Int) = rowAt k r)) = true then 1 else 0)
  have two : ∀ b0 b1 : Bool, (if b0 = true then (if b0 = true then 1 else 0) + (if b1 = true then 1 else 0) else (if b0 = true then 1 else 0) + (if b1 = true then 1 else 0) + 1) = (if (b0 || decide ((0 : Int) = 0)) = true then 1 else 0) + (if (b1 || decide ((1 : Int) = 0)) = true then 1 else 0) := by decide
  have two' : ∀ b0 b1 : Bool, (if b1 = true then (if b0 = true then 1 else 0) + (if b1 = true then 1 else 0) else (if b0 = true then 1 else 0) + (if b1 = true then 1 else 0) + 1) = (if (b0 || decide ((0 : Int) = 1)) = true then 1 else 0) + (if (b1 || decide ((1 : Int) = 1)) = true then 1 else 0) := by decide
  rcases (row_bit h hk (List.mem_of_getElem? hr)).1 with e | e
  · rw [e]
    exact two _ _
  · rw [e]
    exact two' _ _
section
variable {P : Program} {w : World} {K : PySem.W.Frag} {mg : Str → Option Value} {base : Heap}
def spBoth : Sp := fun vs H Q _ => ∃ (a : Addr) (rs : List (List Int)) (m k : Nat), vs = [.ref a, .int k] ∧ IsRows H (.ref a) rs ∧ RowsOk m rs ∧ k < m ∧ rs.length ≤ 4000 ∧ ∀ H', Same H H' → Q (.bl (bothB rs k)) H'
theorem ok_hasboth {f : Addr} {fd : FuncData} (F : Fun K "_has_both" "_has_both" dHasBoth f fd) (ml : mg "len" = none) : FnOk P w K mg base CX0 1 f fd ["rows", "at"] spBoth := by
  refine F.ok scHasBoth (fun vs H Q E h => ?_) (fun cdv A outer s H vs Q E hr h => ?_)
  · obtain ⟨a, rs, m, k, rfl, _⟩ := h
    rfl
  obtain ⟨a, rs, m, k, rfl, hR, ok, hk, hl, q⟩ := h
  obtain ⟨t, xs, et, ht, hx⟩ := hR
  cases et
  refine ⟨_, pss_one (ps_ret (pe_cmpR op_eq (pe_callB cr_lenS (by rfl) ml PySem.boot_len (pa_cons
    (pe_sc1 (te := tOp (rIxT K) (tVar 2) (tVar 1)) (own := [("row", 2)]) (g := gName 2) rfl scHasBoth.nd (pi_tup (pv 0)) (blkOk_by (N := ["rows", "at", "row"]) (sc := defScope dHasBoth) (by decide +kernel))
      (fun _ _ _ _ _ => pg_name (i := 2) scHasBoth.nd rfl (Or.inl rfl)) (fun _ _ _ _ _ => pe_ix ix_tup (pv 2) (pv 1) (fun _ _ => rfl))) pa_nil)) pe_int (nomark _))), ?_⟩
  refine ⟨.ref a, rfl, a, rfl, ⟨_, .of ht⟩, fun D nD => ?_⟩
  refine sc1_it (walk_tup (K := K) (a := a) (xs := xs)) (fun i Hx => Same H Hx ∧ Hx D = some (SetO w D (colS (rs.take i) k) (colN (rs.take i) k)))
    ⟨same_new nD, upd_same⟩ (fun i Hx _ h => .of (h.1 _ _ ht)) (fun i x Hx Hx' hi h hY => ?_) (fun Hx h => ?_)
  · obtain ⟨rfl, hxi⟩ := hY
    obtain ⟨sx, eD⟩ := h
    obtain ⟨r, hr, b, rfl, hb⟩ := hx.get hxi
    obtain ⟨_, er⟩ := row_bit ok hk (List.mem_of_getElem? hr)
    obtain ⟨c1, c2⟩ := col_next ok hk hr
    have at_ : (r.map V.int)[k]? = some (.int (rowAt k r)) := by rw [List.getElem?_map, er]; rfl
    refine ⟨rfl, .ref b, rfl, .int k, rfl, b, _, _, .int (rowAt k r), rfl, rfl, .of (sx _ _ hb), atI_nat at_, rowAt k r, _, _, rfl, eD, ?_, ?_, ?_⟩
    · have : colN (rs.take i) k ≤ 2 := by unfold colN; split <;> split <;> omega
      exact Nat.lt_of_le_of_lt (show colN (rs.take i) k + 1 ≤ 3 by omega) (by decide)
    · exact fun c o e => (upd_ne (ne_of_none e nD)).trans (sx _ _ e)
    · rw [c1, c2]
      exact upd_same
  · obtain ⟨sx, eD⟩ := h
    have lx := hx.len
    rw [lx, List.take_length] at eD
    refine ⟨D, _, _, rfl, eD, ?_, rfl, ?_⟩
    · have : colN rs k ≤ 2 := by unfold colN; split <;> split <;> omega
      omega
    · have e : decide (V.int ((colN rs k : Nat) : Int) = V.int 2) = bothB rs k := by
        unfold colN bothB
        show _ = (colS rs k 0 && colS rs k 1)
        cases colS rs k 0 <;> cases colS rs k 1 <;> decide
      rw [e]
      exact q _ sx
def spAscR : Sp := fun vs H Q _ => ∃ (a : Addr) (rs : List (List Int)), vs = [.ref a] ∧ IsRows H (.ref a) rs ∧ rs.length ≤ 4000 ∧ ∀ H', Same H H' → Q (.bl (ascR rs)) H'
theorem ok_ascr {f : Addr} {fd : FuncData} (F : Fun K "is_ascending" "is_ascending" dAscending f fd) (mz : mg "zip" = none) (ma : mg "all" = none) : FnOk P w K mg base CX0 1 f fd ["items"] spAscR := by
  refine F.ok scAsc (fun vs H Q E h => ?_) (fun cdv A outer s H vs Q E hr h => ?_)
  · obtain ⟨a, rs, rfl, _⟩ := h
    rfl
  obtain ⟨a, rs, rfl, hR, hl, q⟩ := h
  obtain ⟨t, xs, et, ha, hx⟩ := hR
  cases et
  have lx := hx.len
  refine ⟨_, pss_one (ps_ret (pe_callB (cr_all rfl) (by rfl) ma boot_all (pa_cons
    (pe_lc (te := tOp (rLtT K) (tVar 1) (tVar 2)) (own := [("one", 1), ("other", 2)]) (g := gTup K 2 (gCons (gName 1) (gCons (gName 2) gNil))) (tt := tYes) rfl scAsc.nd
      (RZ.pi_zipA (by rfl) mz (pa_cons (pv 0) (pa_cons (pe_slice sl_tup (pv 0) (po_some pe_int) po_none) pa_nil)))
      (blkOk_by (N := ["items", "one", "other"]) (sc := defScope dAscending) (by decide +kernel))
      (fun _ _ _ _ _ => pg_tup rfl (pgs_cons (pg_name (i := 1) scAsc.nd rfl (Or.inl rfl)) (pgs_cons (pg_name (i := 2) scAsc.nd rfl (Or.inl rfl)) pgs_nil)))
      (fun _ _ _ _ _ => pts_nil) (fun _ _ _ _ _ => pe_cmpR (op_ltT (Nat.lt_of_succ_lt (hu_of hr))) (pv 1) (pv 2) (nomark _))) pa_nil))), ?_⟩
  refine ⟨.ref a, rfl, .ref a, rfl, 1, rfl, a, xs, rfl, ha, fun H1 b s1 hb => ?_⟩
  rw [cut_tail] at hb
  refine ⟨a, b, xs, xs.tail, rfl, .inr ⟨.of (s1 _ _ ha), .of hb, fun D nD => ?_⟩⟩
  have hx1 := all_tk (Tk.same s1) hx
  refine lc_map (M := No) (walk_zipT (K := K) (a := a) (b := b) (xs := xs) (ys := xs.tail) rfl) (by rw [List.length_tail]; omega) Jg.no nD
    (fun i _ y => ∃ p, (rs.zip rs.tail)[i]? = some p ∧ y = .bl (HT.lexLt p.1 p.2)) (fun _ _ _ _ _ h => h) (fun Hx g _ => ⟨.of (g.toSame _ _ (s1 _ _ ha)), .of (g.toSame _ _ hb)⟩)
    (fun i x Hx Hx' Kk hi g _ hY hK => ?_) (fun Hx ys g _ eD hlen hp => ?_)
  · obtain ⟨T, x, y, rfl, nT, rfl, hx0, hy0⟩ := hY
    have hx0 : xs[i]? = some x := hx0
    have hy0 : xs.tail[i]? = some y := hy0
    obtain ⟨r1, e1, b1, rfl, hb1⟩ := hx1.get hx0
    rw [List.getElem?_tail] at hy0
    obtain ⟨r2, e2, b2, rfl, hb2⟩ := hx1.get hy0
    have sT := (g.toSame).trans (same_new (o := .tup [.ref b1, .ref b2]) nT)
    refine ⟨T, [.ref b1, .ref b2], rfl, .of upd_same, rfl, _, _, rfl, _, _, rfl, rfl, rfl, .ref b1, rfl, .ref b2, rfl, b1, b2, r1, r2, rfl, rfl, .of (sT _ _ hb1), .of (sT _ _ hb2), hK _ _ (Gw.new nT) Jg.no ⟨(r1, r2), List.getElem?_zip_eq_some.mpr ⟨e1, by rw [List.getElem?_tail]; exact e2⟩, rfl⟩⟩
  · have e : ys = ((rs.zip rs.tail).map fun p => HT.lexLt p.1 p.2).map V.bl := by
      rw [List.map_map]
      exact list_eq (f := V.bl ∘ fun p : List Int × List Int => HT.lexLt p.1 p.2) hlen (by rw [List.length_zip, List.length_tail, List.length_tail, lx]) hp
    rw [e] at eD
    refine ⟨D, _, rfl, .of eD, q _ ?_⟩
    exact s1.trans g.toSame
end
end Ow

set_option Elab.async false
set_option linter.all false
set_option maxRecDepth 100000
set_option maxHeartbeats 4000000
set_option exponentiation.threshold 3000
namespace Ow
open PySem PySem.Spec PyProof.Rows L2
theorem scInit : FnScope ["self", "issues", "rows"] ["self", "issues", "rows"] (defScope dInit) := ⟨rfl, rfl, rfl, by decide +kernel, rfl, by decide +kernel, by decide +kernel⟩
theorem scPI : FnScope ["self"] ["self"] (defScope dPIssues) := ⟨rfl, rfl, rfl, by decide +kernel, rfl, by decide +kernel, by decide +kernel⟩
theorem scPR : FnScope ["self"] ["self"] (defScope dPRows) := ⟨rfl, rfl, rfl, by decide +kernel, rfl, by decide +kernel, by decide +kernel⟩
theorem scLen : FnScope ["self"] ["self"] (defScope dLen) := ⟨rfl, rfl, rfl, by decide +kernel, rfl, by decide +kernel, by decide +kernel⟩
def RightR (m : Nat) (rs : List (List Int)) : Prop := RowsOk m rs ∧ ascR rs = true ∧ (∀ k < m, bothB rs k = true) ∧ rs.length ≤ 4000 ∧ m ≤ 60
theorem bits_small {ns : List Int} (h : bitsB ns = true) : ∀ n ∈ ns, n.natAbs < 2 ^ 400 := fun n hn => by
  have := List.all_eq_true.mp h n hn
  rw [Bool.or_eq_true, decide_eq_true_iff, decide_eq_true_iff] at this
  have b : (1 : Nat) < 2 ^ 400 := by decide +kernel
  omega
/-- an agenda, made -/
def agF (t u : Addr) : List (Str × V) := [("_issues", .ref t), ("_rows", .ref u)]
def AgAt (C : Addr) (H : Hp) (a : Addr) (zs : List Str) (rs : List (List Int)) : Prop := ∃ dx t u, H a = some (.ins C dx (agF t u)) ∧ H t = some (.tup (zs.map V.str)) ∧ IsRows H (.ref u) rs
theorem AgAt.tk {C : Addr} {H H' : Hp} {a : Addr} {zs : List Str} {rs : List (List Int)} (t : Tk H H') (h : AgAt C H a zs rs) : AgAt C H' a zs rs := by
  obtain ⟨dx, t0, u, h1, h2, h3⟩ := h
  exact ⟨dx, t0, u, t _ _ (fun _ z => nomatch z) h1, t.tup h2, h3.tk t⟩
structure AgC (K : PySem.W.Frag) (C : Addr) : Prop where
  cl : Cls K C
  nI : NoAttr K C "_issues"
  nR : NoAttr K C "_rows"
theorem all_true {ys : List V} {n : Nat} (hlen : ys.length = n) (hq : ∀ (i : Nat) y, ys[i]? = some y → y = .bl true) : ys = (List.replicate n true).map V.bl :=
  list_eq (f := V.bl) hlen (by rw [List.length_replicate]) fun i y hy => by
    have hi : i < n := by have := (List.getElem?_eq_some_iff.mp hy).1; omega
    exact ⟨true, by rw [List.getElem?_replicate, if_pos hi], hq i y hy⟩
theorem all_rep' (n : Nat) : (List.replicate n true).all id = true := by
  rw [List.all_eq_true]
  intro x hx
  exact (List.mem_replicate.mp hx).2
section
variable {P : Program} {w : World} {K : PySem.W.Frag} {mg : Str → Option Value} {base : Heap} {C : Addr}
def spAreR : Sp := fun vs H Q _ => ∃ (a : Addr) (m : Nat) (rs : List (List Int)), vs = [.ref a, .int m] ∧ IsRows H (.ref a) rs ∧ RightR m rs ∧ ∀ H', Same H H' → Q (.bl true) H'
theorem ok_arerows {f fV fA fB : Addr} {fd fdV fdA fdB : FuncData} (F : Fun K "_are_rows" "_are_rows" dAreRows f fd)
    (FV : FnOk P w K mg base CX0 4 fV fdV ["value", "many"] spHV) (kV : PySem.W.keepIn K (.ref fV) = true) (bV : Binds K fdV ["value", "many"] []) (gV : mg "has_values" = some (.ref fV))
    (FA : FnOk P w K mg base CX0 1 fA fdA ["items"] spAscR) (kA : PySem.W.keepIn K (.ref fA) = true) (bA : Binds K fdA ["items"] []) (gA : mg "is_ascending" = some (.ref fA))
    (FB : FnOk P w K mg base CX0 1 fB fdB ["rows", "at"] spBoth) (kB : PySem.W.keepIn K (.ref fB) = true) (bB : Binds K fdB ["rows", "at"] []) (gB : mg "_has_both" = some (.ref fB))
    (mi : mg "isinstance" = none) (mt : mg "tuple" = none) (ma : mg "all" = none) (mr : mg "range" = none) : FnOk P w K mg base CX0 5 f fd ["value", "many"] spAreR := by
  refine F.ok scAreRows (fun vs H Q E h => ?_) (fun cdv A outer s H vs Q E hr h => ?_)
  · obtain ⟨a, m, rs, rfl, _⟩ := h
    rfl
  obtain ⟨a, m, rs, rfl, hR, ⟨ok, asc, both, hl, hm⟩, q⟩ := h
  obtain ⟨t, xs, et, ht, hx⟩ := id hR
  cases et
  have lx := hx.len
  refine ⟨_, pss_cons (ps_if (PW.pt (pw_or (pt_not (pt_val (pe_isi (T := "tuple") (by rfl) mi (pv 0) (by rfl) mt boot_tup)))
      (pw_or1 (pt_not (pt_val (pe_callB (cr_all rfl) (by rfl) ma boot_all (pa_cons
        (pe_lc (te := tCall spHV [] E0 (tCons (tVar 2) (tCons (tVar 1) tNil))) (own := [("row", 2)]) (g := gName 2) (tt := tYes) rfl scAreRows.nd (pi_tup (pv 0)) (blkOk_by (N := ["value", "many", "row", "at"]) (sc := defScope dAreRows) (by decide +kernel))
          (fun _ _ _ _ _ => pg_name (i := 2) scAreRows.nd rfl (Or.inl rfl)) (fun _ _ _ _ _ => pts_nil)
          (fun _ _ _ _ _ => pe_call FV hr (by rfl) gV kV bV .nil pass0 (pa_cons (pv 2) (pa_cons (pv 1) pa_nil)))) pa_nil))))))) (pss_one ps_never) pss_nil)
    (pss_one (ps_ret (pe_and (pe_call FA (hr.mono (by decide)) (by rfl) gA kA bA .nil pass0 (pa_cons (pv 0) pa_nil))
      (pe_one (pe_callB (cr_all rfl) (by rfl) ma boot_all (pa_cons
        (pe_lc (te := tCall spBoth [] E0 (tCons (tVar 0) (tCons (tVar 3) tNil))) (own := [("at", 3)]) (g := gName 3) (tt := tYes) rfl scAreRows.nd (pi_range1 (by rfl) mr (pa_cons (pv 1) pa_nil)) (blkOk_by (N := ["value", "many", "row", "at"]) (sc := defScope dAreRows) (by decide +kernel))
          (fun _ _ _ _ _ => pg_name (i := 3) scAreRows.nd rfl (Or.inl rfl)) (fun _ _ _ _ _ => pts_nil)
          (fun _ _ _ _ _ => pe_call FB (hr.mono (by decide)) (by rfl) gB kB bB .nil pass0 (pa_cons (pv 0) (pa_cons (pv 3) pa_nil)))) pa_nil)))))), ?_⟩
  refine isi_at "tuple" rfl (.base (.tup ht)) (b := true) (by decide +kernel) ⟨true, rfl, iteF ?_⟩
  refine ⟨.ref a, rfl, a, rfl, ⟨_, .of ht⟩, fun D nD => ?_⟩
  refine lc_map (M := No) (walk_tup (K := K) (a := a) (xs := xs)) (by omega) Jg.no nD (fun i _ y => y = .bl true) (fun _ _ _ _ _ h => h) (fun Hx g _ => .of (g.toSame _ _ ht))
    (fun i x Hx Hx' Kk hi g _ hY hK => ?_) (fun Hx ys g _ eD hlen hq => ?_)
  · obtain ⟨rfl, hxi⟩ := hY
    obtain ⟨r, hr', b, rfl, hb⟩ := hx.get hxi
    obtain ⟨b1, b2⟩ := ok r (List.mem_of_getElem? hr')
    refine ⟨rfl, .ref b, rfl, .int m, rfl, b, r, m, rfl, g.toSame _ _ hb, by omega, bits_small b1, fun H2 s2 => hK _ _ (Gw.same s2) Jg.no ?_⟩
    rw [b1, b2, decide_eq_true rfl]
    rfl
  have sx := g.toSame
  rw [all_true hlen hq] at eD
  refine ⟨D, _, rfl, .of eD, true, by rw [all_rep'], iteF ?_⟩
  have hR1 := hR.tk (Tk.same sx)
  refine ⟨.ref a, rfl, a, rs, rfl, hR1, hl, fun H2 s2 => ⟨true, by rw [asc], iteT ?_⟩⟩
  have hR2 := hR1.tk (Tk.same s2)
  refine ⟨.int m, rfl, m, rfl, by omega, by omega, fun D2 nD2 => ?_⟩
  refine lc_map (M := No) (walk_range (lo := 0) (n := m)) (by omega) Jg.no nD2 (fun i _ y => y = .bl true) (fun _ _ _ _ _ h => h) (fun Hx g _ => trivial)
    (fun i x Hy Hy' Kk hi g _ hY hK => ?_) (fun Hy zs g2 _ eD2 hlen2 hq2 => ?_)
  · obtain ⟨e1, e2⟩ := hY
    subst e1 e2
    refine ⟨rfl, .ref a, rfl, .int (0 + (i : Int)), rfl, a, rs, m, i, by rw [Int.zero_add]; rfl, hR2.tk (Tk.same g.toSame), ok, hi, hl, fun H3 s3 => hK _ _ (Gw.same s3) Jg.no ?_⟩
    rw [both i hi]
  · rw [all_true hlen2 hq2] at eD2
    refine ⟨D2, _, rfl, .of eD2, ?_⟩
    rw [all_rep']
    exact q _ (sx.trans (s2.trans g2.toSame))
/-- Agenda.__init__, for right ones -/
def spInit (C : Addr) : Sp := fun vs H Q _ => ∃ (a dx t u : Addr) (zs : List Str) (rs : List (List Int)), vs = [.ref a, .ref t, .ref u] ∧ H a = some (.ins C dx []) ∧ H t = some (.tup (zs.map V.str)) ∧ IsRows H (.ref u) rs ∧ zs.length ≤ 60 ∧ Plain zs ∧ issuesB zs = true ∧ RightR zs.length rs ∧
  ∀ H', Sb a H H' → AgAt C H' a zs rs → Q .non H'
theorem ok_init {f fI fA : Addr} {fd fdI fdA : FuncData} (R : AgC K C) (F : Fun K "__init__" "Agenda.__init__" dInit f fd)
    (FI : FnOk P w K mg base CX0 3 fI fdI ["value"] (spTexts issuesB)) (kI : PySem.W.keepIn K (.ref fI) = true) (bI : Binds K fdI ["value"] []) (gI : mg "is_issues" = some (.ref fI))
    (FA : FnOk P w K mg base CX0 5 fA fdA ["value", "many"] spAreR) (kA : PySem.W.keepIn K (.ref fA) = true) (bA : Binds K fdA ["value", "many"] []) (gA : mg "_are_rows" = some (.ref fA)) (ml : mg "len" = none) : FnOk P w K mg base CX0 6 f fd ["self", "issues", "rows"] (spInit C) := by
  refine F.ok scInit (fun vs H Q E h => ?_) (fun cdv A outer s H vs Q E hr h => ?_)
  · obtain ⟨a, dx, t, u, zs, rs, rfl, _⟩ := h
    rfl
  obtain ⟨a, dx, t, u, zs, rs, rfl, ha, ht, hu, hl, hp, hi, ok, q⟩ := h
  refine ⟨_, pss_cons (ps_if (pt_not (pt_val (pe_call FI (hr.mono (by decide)) (by rfl) gI kI bI .nil pass0 (pa_cons (pv 1) pa_nil)))) (pss_one ps_never) pss_nil)
    (pss_cons (ps_if (pt_not (pt_val (pe_call FA (hr.mono (by decide)) (by rfl) gA kA bA .nil pass0 (pa_cons (pv 2) (pa_cons (pe_callB call_len_seq (by rfl) ml PySem.boot_len (pa_cons (pv 1) pa_nil)) pa_nil))))) (pss_one ps_never) pss_nil)
    (pss_cons (ps_fld (pv 0) (pv 1) rfl) (pss_one (ps_fld (pv 0) (pv 2) rfl)))), ?_⟩
  refine ⟨.ref t, rfl, t, zs, rfl, ht, hl, hp, fun H1 s1 => ⟨true, by rw [hi], iteF ?_⟩⟩
  refine ⟨.ref u, rfl, .ref t, rfl, t, _, rfl, .inr (.of (s1 _ _ ht)), u, zs.length, rs, by rw [List.length_map]; rfl, hu.tk (Tk.same s1), ok, fun H2 s2 => ⟨true, rfl, iteF ?_⟩⟩
  have s12 := s1.trans s2
  have ha2 := s12 _ _ ha
  refine ⟨.ref t, rfl, .ref a, rfl, a, C, dx, [], rfl, ha2, R.cl, R.nI, (by decide), ?_⟩
  have e1 : upd H2 a (.ins C dx (putF "_issues" (.ref t) [])) a = some (.ins C dx [("_issues", .ref t)]) := upd_same
  refine ⟨.ref u, rfl, .ref a, rfl, a, C, dx, [("_issues", .ref t)], rfl, e1, R.cl, R.nR, (by show 1 < 1000; decide), ?_⟩
  have pf : putF "_rows" (.ref u) [("_issues", V.ref t)] = agF t u := by
    unfold putF
    rw [if_neg (by decide)]
    rfl
  rw [pf]
  have sb : Sb a H (upd (upd H2 a (.ins C dx (putF "_issues" (.ref t) []))) a (.ins C dx (agF t u))) := (Sb.same s12).trans (Sb.at.trans Sb.at)
  refine q _ sb ⟨dx, t, u, upd_same, sb _ _ (ne_of ht ha (by intro z; cases z)) ht, ?_⟩
  obtain ⟨u', xs, eu, hu', hx⟩ := hu
  cases eu
  exact ⟨u, xs, rfl, sb _ _ (ne_of hu' ha (by intro z; cases z)) hu', hx.imp fun x r ⟨b, e, hb⟩ => ⟨b, e, sb _ _ (ne_of hb ha (by intro z; cases z)) hb⟩⟩
theorem ok_pissues {f : Addr} {fd : FuncData} (R : AgC K C) (F : Fun K "issues" "Agenda.issues" dPIssues f fd) : FnOk P w K mg base CX0 1 f fd ["self"] (getSp C "_issues") := by
  refine F.ok scPI (fun vs H Q E h => ?_) (fun cdv A outer s H vs Q E hr h => ?_)
  · obtain ⟨a, dx, fs, v, rfl, _⟩ := h
    rfl
  obtain ⟨a, dx, fs, v, rfl, ea, l, q⟩ := h
  refine ⟨_, pss_one (ps_ret (pe_fld (pv 0) rfl)), ?_⟩
  exact ⟨.ref a, rfl, a, C, dx, fs, v, rfl, ea, R.cl, R.nI, l, q⟩
theorem ok_prows {f : Addr} {fd : FuncData} (R : AgC K C) (F : Fun K "rows" "Agenda.rows" dPRows f fd) : FnOk P w K mg base CX0 1 f fd ["self"] (getSp C "_rows") := by
  refine F.ok scPR (fun vs H Q E h => ?_) (fun cdv A outer s H vs Q E hr h => ?_)
  · obtain ⟨a, dx, fs, v, rfl, _⟩ := h
    rfl
  obtain ⟨a, dx, fs, v, rfl, ea, l, q⟩ := h
  refine ⟨_, pss_one (ps_ret (pe_fld (pv 0) rfl)), ?_⟩
  exact ⟨.ref a, rfl, a, C, dx, fs, v, rfl, ea, R.cl, R.nR, l, q⟩
def spLen (C : Addr) : Sp := fun vs H Q _ => ∃ (a : Addr) (zs : List Str) (rs : List (List Int)), vs = [.ref a] ∧ AgAt C H a zs rs ∧ Q (.int rs.length) H
theorem ok_len {f : Addr} {fd : FuncData} (R : AgC K C) (F : Fun K "__len__" "Agenda.__len__" dLen f fd) (ml : mg "len" = none) : FnOk P w K mg base CX0 1 f fd ["self"] (spLen C) := by
  refine F.ok scLen (fun vs H Q E h => ?_) (fun cdv A outer s H vs Q E hr h => ?_)
  · obtain ⟨a, zs, rs, rfl, _⟩ := h
    rfl
  obtain ⟨a, zs, rs, rfl, ⟨dx, t, u, ha, ht, ⟨u', xs, eu, hu, hx⟩⟩, q⟩ := h
  cases eu
  refine ⟨_, pss_one (ps_ret (pe_callB call_len_seq (by rfl) ml PySem.boot_len (pa_cons (pe_fld (pv 0) rfl) pa_nil))), ?_⟩
  refine ⟨.ref a, rfl, a, C, dx, _, .ref u, rfl, ha, R.cl, R.nR, rfl, u, _, rfl, .inr (.of hu), ?_⟩
  rw [hx.len]
  exact q
end
end Ow

set_option Elab.async false
set_option linter.all false
set_option maxRecDepth 100000
set_option maxHeartbeats 4000000
set_option exponentiation.threshold 3000
namespace Ow
open PySem PySem.Spec PyProof.Rows L2
/-! ### the sorted rows of the orders -/
def pairsN (n : Nat) : Nat := n * (n - 1) / 2
def sortedO (n : Nat) : List (List Int) := (rowsN (pairsN n)).filter fun r => (rowsO n).contains r
theorem sortedO_perm : ∀ n < 5, 2 ≤ n → (sortedO n).Perm (rowsO n) := by decide +kernel
theorem sortedO_asc : ∀ n < 5, 2 ≤ n → AscT (sortedO n) := by unfold AscT; decide +kernel
theorem sortedO_ok : ∀ n < 5, 2 ≤ n → (∀ r ∈ sortedO n, bitsB r = true ∧ r.length = pairsN n) ∧ ascR (sortedO n) = true ∧ (∀ k < pairsN n, bothB (sortedO n) k = true) ∧ (sortedO n).length ≤ 24 ∧ pairsN n ≤ 6 ∧ 1 ≤ pairsN n := by decide +kernel
theorem sortedO_right {n : Nat} (h : n < 5) (h2 : 2 ≤ n) : RightR (pairsN n) (sortedO n) := by
  obtain ⟨a, b, c, d, e, _⟩ := sortedO_ok n h h2
  exact ⟨a, b, c, by omega, by omega⟩
theorem check_all {n : Nat} (h : n < 5) (h2 : 2 ≤ n) : checkN n = true := by
  have : n = 2 ∨ n = 3 ∨ n = 4 := by omega
  rcases this with rfl | rfl | rfl
  · exact check2
  · exact check3
  · exact check4
/-! ### names of one letter -/
def letter (c : Nat) : Str := ⟨#[c]⟩
theorem letter_inj {c d : Nat} (h : letter c = letter d) : c = d := by
  have : #[c] = #[d] := congrArg Str.cps h
  simpa using this
theorem letter_lt (c d : Nat) : ltS (letter c) (letter d) = decide (c < d) := by
  unfold ltS letter
  show decide ([c] < [d]) = _
  rw [decide_eq_decide]
  refine ⟨fun h => ?_, fun h => List.Lex.rel h⟩
  have h : List.Lex (· < ·) [c] [d] := h
  cases h with
  | rel h => exact h
  | cons h => cases h
/-- the things -/
structure Th (cs : List Nat) : Prop where
  asc : cs.Pairwise (· < ·)
  two : 2 ≤ cs.length
  four : cs.length ≤ 4
  low : ∀ c ∈ cs, 97 ≤ c ∧ c ≤ 122
section
variable {cs : List Nat} (h : Th cs)
abbrev thF (cs : List Nat) (i : Fin cs.length) : Str := letter cs[i]
theorem th_map (cs : List Nat) : cs.map letter = (allF cs.length).map (thF cs) := by
  refine List.ext_getElem (by simp) fun i h1 h2 => ?_
  simp
  rfl
include h in
theorem Th.inj : ∀ a b : Fin cs.length, thF cs a = thF cs b → a = b := fun a b e => by
  have e := letter_inj e
  have p := List.pairwise_iff_getElem.mp h.asc
  rcases Nat.lt_trichotomy a.1 b.1 with l | l | l
  · have : cs[a.1] < cs[b.1] := p a.1 b.1 a.2 b.2 l
    have e : cs[a.1] = cs[b.1] := e
    omega
  · exact Fin.ext l
  · have : cs[b.1] < cs[a.1] := p b.1 a.1 b.2 a.2 l
    have e : cs[a.1] = cs[b.1] := e
    omega
include h in
theorem Th.mono : ∀ a b : Fin cs.length, ltS (thF cs a) (thF cs b) = ltF a b := fun a b => by
  rw [letter_lt]
  unfold ltF
  have p := List.pairwise_iff_getElem.mp h.asc
  rw [decide_eq_decide]
  show cs[a.1] < cs[b.1] ↔ a.1 < b.1
  rcases Nat.lt_trichotomy a.1 b.1 with l | l | l
  · have : cs[a.1] < cs[b.1] := p a.1 b.1 a.2 b.2 l
    omega
  · have : cs[a.1] = cs[b.1] := by simp only [l]
    omega
  · have : cs[b.1] < cs[a.1] := p b.1 a.1 b.2 a.2 l
    omega
include h in
theorem Th.name : ∀ z ∈ cs.map letter, nameB (.str z) = true ∧ z.length = 1 := fun z hz => by
  obtain ⟨c, hc, rfl⟩ := List.mem_map.mp hz
  obtain ⟨a, b⟩ := h.low c hc
  refine ⟨?_, rfl⟩
  show (true && ([c].all signB)) = true
  show (true && ((decide (97 ≤ c) && decide (c ≤ 122)) && true)) = true
  rw [decide_eq_true a, decide_eq_true b]
  rfl
include h in
theorem Th.nd : (cs.map letter).Nodup := by
  rw [th_map]
  unfold List.Nodup
  rw [List.pairwise_map]
  exact (List.nodup_finRange _).imp fun ne e => ne (h.inj _ _ e)
end
theorem asc_chain : ∀ cs : List Nat, cs.Pairwise (· < ·) → ascB (cs.map letter) = true
  | [], _ => rfl
  | [c], _ => rfl
  | c :: d :: r, p => by
    have ih := asc_chain (d :: r) (List.pairwise_cons.mp p).2
    have l := (List.pairwise_cons.mp p).1 d List.mem_cons_self
    unfold ascB at ih ⊢
    show (ltS (letter c) (letter d) && (((d :: r).map letter).zip ((d :: r).map letter).tail |>.map fun p => ltS p.1 p.2).all id) = true
    rw [ih, letter_lt, decide_eq_true l]
    rfl
theorem Th.names {cs : List Nat} (h : Th cs) : namesB (cs.map letter) = true := by
  unfold namesB
  rw [asc_chain cs h.asc, Bool.and_true]
  exact List.all_eq_true.mpr fun z hz => (h.name z hz).1
theorem Th.plain {cs : List Nat} (h : Th cs) : Plain (cs.map letter) := fun z hz => by
  obtain ⟨c, hc, rfl⟩ := List.mem_map.mp hz
  obtain ⟨a, b⟩ := h.low c hc
  refine ⟨by show 1 ≤ 4000; decide, fun d hd => ?_⟩
  have : d = c := by simpa [letter] using hd
  omega
/-! ### the pairs, as names -/
abbrev cat2 (p : Str × Str) : Str := p.1 ++ p.2
theorem prs_th {cs : List Nat} (h : Th cs) : prs ltS (cs.map letter) = (prs ltF (allF cs.length)).map (pairF (thF cs)) := by
  rw [th_map, prs_map h.mono]
theorem prs_len : ∀ n < 5, (prs ltF (allF n)).length = pairsN n := by decide +kernel
theorem prs_lt {n : Nat} : ∀ p ∈ prs ltF (allF n), p.1.1 < p.2.1 := fun p hp => by
  unfold prs at hp
  obtain ⟨a, _, hp⟩ := List.mem_flatMap.mp hp
  obtain ⟨b, _, hp⟩ := List.mem_filterMap.mp hp
  split at hp
  · rename_i l
    cases hp
    unfold ltF at l
    exact of_decide_eq_true l
  · cases hp
def lexP {n : Nat} (p q : Fin n × Fin n) : Bool := decide (p.1.1 < q.1.1) || (decide (p.1.1 = q.1.1) && decide (p.2.1 < q.2.1))
theorem prs_asc : ∀ n < 5, (prs ltF (allF n)).Pairwise fun p q => lexP p q = true := by decide +kernel
theorem cat_lt {cs : List Nat} (h : Th cs) {p q : Fin cs.length × Fin cs.length} (l : lexP p q = true) : ltS (cat2 (pairF (thF cs) p)) (cat2 (pairF (thF cs) q)) = true := by
  have m := List.pairwise_iff_getElem.mp h.asc
  unfold ltS
  show decide ([cs[p.1.1], cs[p.2.1]] < [cs[q.1.1], cs[q.2.1]]) = true
  rw [decide_eq_true_iff]
  unfold lexP at l
  rw [Bool.or_eq_true, Bool.and_eq_true, decide_eq_true_iff, decide_eq_true_iff, decide_eq_true_iff] at l
  rcases l with l | ⟨e, l⟩
  · exact List.Lex.rel (m _ _ p.1.2 q.1.2 l)
  · have e' : cs[p.1.1] = cs[q.1.1] := by simp only [e]
    rw [e']
    exact List.Lex.cons (List.Lex.rel (m _ _ p.2.2 q.2.2 l))
theorem ascB_of : ∀ zs : List Str, zs.Pairwise (fun a b => ltS a b = true) → ascB zs = true
  | [], _ => rfl
  | [c], _ => rfl
  | c :: d :: r, p => by
    have ih := ascB_of (d :: r) (List.pairwise_cons.mp p).2
    have l := (List.pairwise_cons.mp p).1 d List.mem_cons_self
    unfold ascB at ih ⊢
    show (ltS c d && ((d :: r).zip (d :: r).tail |>.map fun p => ltS p.1 p.2).all id) = true
    rw [ih, l]
    rfl
theorem Th.issues {cs : List Nat} (h : Th cs) : issuesB ((prs ltS (cs.map letter)).map cat2) = true ∧ ((prs ltS (cs.map letter)).map cat2).length = pairsN cs.length ∧ Plain ((prs ltS (cs.map letter)).map cat2) := by
  have l5 : cs.length < 5 := by have := h.four; omega
  have ln : ((prs ltS (cs.map letter)).map cat2).length = pairsN cs.length := by rw [List.length_map, prs_th h, List.length_map, prs_len _ l5]
  obtain ⟨_, _, _, _, p6, p1⟩ := sortedO_ok cs.length l5 h.two
  have nm : ∀ z ∈ (prs ltS (cs.map letter)).map cat2, nameB (.str z) = true ∧ (z.length ≤ 4000 ∧ ∀ c ∈ z.cps.toList, c < 128) := fun z hz => by
    rw [prs_th h, List.map_map] at hz
    obtain ⟨p, _, rfl⟩ := List.mem_map.mp hz
    have a := h.low _ (List.getElem_mem p.1.2)
    have b := h.low _ (List.getElem_mem p.2.2)
    refine ⟨?_, by show 2 ≤ 4000; decide, fun c hc => ?_⟩
    · show (true && ((decide (97 ≤ cs[p.1.1]) && decide (cs[p.1.1] ≤ 122)) && ((decide (97 ≤ cs[p.2.1]) && decide (cs[p.2.1] ≤ 122)) && true))) = true
      rw [decide_eq_true a.1, decide_eq_true a.2, decide_eq_true b.1, decide_eq_true b.2]
      rfl
    · have hc : c ∈ [cs[p.1.1], cs[p.2.1]] := hc
      rcases List.mem_cons.mp hc with rfl | hc
      · omega
      · rw [List.mem_singleton.mp hc]
        omega
  refine ⟨?_, ln, fun z hz => (nm z hz).2⟩
  unfold issuesB namesB
  rw [ln, decide_eq_true p1, decide_eq_true p6, ascB_of _ ?_]
  · rw [List.all_eq_true.mpr fun z hz => (nm z hz).1]
    rfl
  · rw [prs_th h, List.map_map, List.pairwise_map]
    exact (prs_asc _ l5).imp fun l => cat_lt h l
end Ow

set_option Elab.async false
set_option linter.all false
set_option maxRecDepth 100000
set_option maxHeartbeats 4000000
set_option exponentiation.threshold 3000
namespace Ow
open PySem PySem.Spec PyProof.Rows L2
theorem scNeedT : FnScope ["things", "thing"] ["things"] (defScope dNeedThings) := ⟨rfl, rfl, rfl, by decide +kernel, rfl, by decide +kernel, by decide +kernel⟩
theorem scPairs : FnScope ["things", "one", "other"] ["things"] (defScope dPairs) := ⟨rfl, rfl, rfl, by decide +kernel, rfl, by decide +kernel, by decide +kernel⟩
theorem scIssuesOf : FnScope ["things", "one", "other"] ["things"] (defScope dIssuesOf) := ⟨rfl, rfl, rfl, by decide +kernel, rfl, by decide +kernel, by decide +kernel⟩
theorem scAllOrd : FnScope ["things", "found", "_", "order", "thing"] ["things"] (defScope dAllOrders) := ⟨rfl, rfl, rfl, by decide +kernel, rfl, by decide +kernel, by decide +kernel⟩
/-- a tuple of names -/
def TxtT (H : Hp) (v : V) (zs : List Str) : Prop := ∃ p, v = .ref p ∧ H p = some (.tup (zs.map V.str))
theorem TxtT.tk {H H' : Hp} {v : V} {zs : List Str} (t : Tk H H') (h : TxtT H v zs) : TxtT H' v zs := by
  obtain ⟨p, e, hp⟩ := h
  exact ⟨p, e, t.tup hp⟩
abbrev p2 (p : Str × Str) : List Str := [p.1, p.2]
def PairT (H : Hp) (v : V) (p : Str × Str) : Prop := TxtT H v (p2 p)
section
variable {P : Program} {w : World} {K : PySem.W.Frag} {mg : Str → Option Value} {base : Heap} {C : Addr}
def spNeedT : Sp := fun vs H Q _ => ∃ (t : Addr) (cs : List Nat), vs = [.ref t] ∧ H t = some (.tup ((cs.map letter).map V.str)) ∧ Th cs ∧ ∀ H', Same H H' → Q .non H'
theorem ok_needthings {f fS : Addr} {fd fdS : FuncData} (F : Fun K "_need_things" "_need_things" dNeedThings f fd) (FS : FnOk P w K mg base CX0 2 fS fdS ["value"] (spTexts namesB)) (kS : PySem.W.keepIn K (.ref fS) = true) (bS : Binds K fdS ["value"] []) (gS : mg "is_set_of_names" = some (.ref fS))
    (ml : mg "len" = none) (ma : mg "all" = none) : FnOk P w K mg base CX0 3 f fd ["things"] spNeedT := by
  refine F.ok scNeedT (fun vs H Q E h => ?_) (fun cdv A outer s H vs Q E hr h => ?_)
  · obtain ⟨t, cs, rfl, _⟩ := h
    rfl
  obtain ⟨t, cs, rfl, ht, th, q⟩ := h
  refine ⟨_, pss_one (ps_if (PW.pt (pw_or (pt_not (pt_val (pe_call FS hr (by rfl) gS kS bS .nil pass0 (pa_cons (pv 0) pa_nil))))
      (pw_or (pt_not (pt_chain op_le op_le pe_int (pe_callB call_len_seq (by rfl) ml PySem.boot_len (pa_cons (pv 0) pa_nil)) pe_int))
        (pw_or1 (pt_not (pt_val (pe_callB (cr_all rfl) (by rfl) ma boot_all (pa_cons
          (pe_lc (own := [("thing", 1)]) (g := gName 1) (tt := tYes) rfl scNeedT.nd (pi_tup (pv 0)) (blkOk_by (N := ["things", "thing"]) (sc := defScope dNeedThings) (by decide +kernel))
            (fun _ _ _ _ _ => pg_name (i := 1) scNeedT.nd rfl (Or.inl rfl)) (fun _ _ _ _ _ => pts_nil)
            (fun _ _ _ _ _ => pe_cmpR op_eq (pe_callB call_len_str (by rfl) ml PySem.boot_len (pa_cons (pv 1) pa_nil)) pe_int (nomark _))) pa_nil)))))))) (pss_one ps_never) pss_nil), ?_⟩
  have two := th.two
  have four := th.four
  refine ⟨.ref t, rfl, t, _, rfl, ht, by rw [List.length_map]; omega, th.plain, fun H1 s1 => ⟨true, by rw [th.names], iteF ?_⟩⟩
  have ht1 := s1 _ _ ht
  have ll : ((cs.map letter).map V.str).length = cs.length := by rw [List.length_map, List.length_map]
  refine ⟨.ref t, rfl, t, _, rfl, .inr (.of ht1), 2, _, rfl, rfl, true, congrArg V.bl (decide_eq_true (by rw [ll]; omega)), iteT ⟨_, 4, rfl, rfl, true, congrArg V.bl (decide_eq_true (by rw [ll]; omega)), iteF ?_⟩⟩
  refine ⟨.ref t, rfl, t, rfl, ⟨_, .of ht1⟩, fun D nD => ?_⟩
  refine lc_map (M := No) (walk_tup (K := K) (a := t) (xs := (cs.map letter).map V.str)) (by rw [List.length_map, List.length_map]; omega) Jg.no nD (fun i _ y => y = .bl true) (fun _ _ _ _ _ h => h) (fun Hx g _ => .of (g.toSame _ _ ht1))
    (fun i x Hx Hx' Kk hi g _ hY hK => ?_) (fun Hx ys g _ eD hlen hq => ?_)
  · obtain ⟨rfl, hx⟩ := hY
    rw [List.getElem?_map] at hx
    cases h1 : (cs.map letter)[i]? with
    | none => rw [h1] at hx; cases hx
    | some z =>
      rw [h1] at hx
      cases hx
      have l1 := (th.name z (List.mem_of_getElem? h1)).2
      refine ⟨rfl, .str z, rfl, z, rfl, by rw [l1]; decide, rfl, hK _ _ (Gw.same (Same.refl _)) Jg.no ?_⟩
      rw [l1]
      rfl
  · rw [all_true hlen hq] at eD
    refine ⟨D, _, rfl, .of eD, true, by rw [all_rep'], iteF (q Hx (s1.trans g.toSame))⟩
def spPairs : Sp := fun vs H Q _ => ∃ (t : Addr) (zs : List Str), vs = [.ref t] ∧ H t = some (.tup (zs.map V.str)) ∧ zs.length ≤ 60 ∧ ∀ H' l xs, Same H H' → H' l = some (.lst xs) → All2 (PairT H') xs (prs ltS zs) → Q (.ref l) H'
theorem ok_pairs {f : Addr} {fd : FuncData} (F : Fun K "_pairs" "_pairs" dPairs f fd) : FnOk P w K mg base CX0 1 f fd ["things"] spPairs := by
  refine F.ok scPairs (fun vs H Q E h => ?_) (fun cdv A outer s H vs Q E hr h => ?_)
  · obtain ⟨t, zs, rfl, _⟩ := h
    rfl
  obtain ⟨t, zs, rfl, ht, hl, q⟩ := h
  refine ⟨_, pss_one (ps_ret (pe_lc2 (own := [("one", 1), ("other", 2)]) (vs1 := [2]) (g := gName 1) (g1 := gName 2) (tt := tYes) (wi1 := iTup K (tVar 0)) (tt1 := tTest (tOp (fun x y H Q => ∃ i j, x = .str i ∧ y = .str j ∧ Q (.bl (decide (i.cps.toList < j.cps.toList))) H) (tVar 1) (tVar 2)))
      (te := tTup (tCons (tVar 1) (tCons (tVar 2) tNil))) rfl scPairs.nd (pi_tup (pv 0)) (blkOk_by (N := ["things", "one", "other"]) (sc := defScope dPairs) (by decide +kernel)) (by decide)
      (fun _ _ _ _ _ => pg_name (i := 1) scPairs.nd rfl (Or.inl rfl)) (fun _ _ _ _ _ => pts_nil) (fun _ _ _ _ _ => pi_tup (pv 0)) (fun _ _ _ _ _ => pg_name (i := 2) scPairs.nd rfl (Or.inl rfl))
      (fun _ _ _ _ _ => pts_one (pt_cmpR op_lt_str (pv 1) (pv 2) (nomark _))) (fun _ _ _ _ _ => pe_tup (pa_cons (pv 1) (pa_cons (pv 2) pa_nil))))), ?_⟩
  refine ⟨.ref t, rfl, t, rfl, ⟨_, .of ht⟩, fun D nD => ?_⟩
  refine lc2_grow (K := K) (walk_tup (K := K) (a := t) (xs := zs.map V.str)) zs zs (fun a b => if ltS a b = true then some (a, b) else none) PairT (fun t h => h.tk t) (by rw [List.length_map]) (by rw [List.length_map]) ?_ nD ht (fun H s => .of (s _ _ ht)) (fun _ => rfl) (fun _ => rfl) (fun _ _ => rfl)
    (fun i j x y a b Hx K0 K1 hx ha hy hb sx k0 k1 => ?_) (fun Hx us sx eD ax => q Hx D us sx eD ax)
  · rw [List.length_map]
    exact Nat.le_trans (Nat.mul_le_mul hl hl) (by decide)
  · rw [List.getElem?_map, ha] at hx
    rw [List.getElem?_map, hb] at hy
    cases hx
    cases hy
    refine ⟨.str a, rfl, .str b, rfl, a, b, rfl, rfl, _, rfl, ?_⟩
    cases e : ltS a b with
    | false =>
      have e' : decide (a.cps.toList < b.cps.toList) = false := e
      rw [e']
      exact iteF (k0 _ (Same.refl _) (by simp only [e, if_neg Bool.false_ne_true]))
    | true =>
      have e' : decide (a.cps.toList < b.cps.toList) = true := e
      rw [e']
      exact iteT ⟨.str a, rfl, .str b, rfl, (by show 2 ≤ sizeLine; decide), fun T nT => k1 _ _ (a, b) (same_new nT) (by simp only [e, if_true]) ⟨T, rfl, upd_same⟩⟩
end
end Ow

set_option Elab.async false
set_option linter.all false
set_option maxRecDepth 100000
set_option maxHeartbeats 4000000
namespace Ow
open PySem PySem.Spec PyProof.Rows L2
/-! ### tuples whose very object is known: their methods can be called -/
def FT (H : Hp) (p : Addr) (xs : List V) : Prop := ∃ o : Obj, o.dict = none ∧ H p = some (.frz o (.tup xs))
theorem FT.sq {K : PySem.W.Frag} {H : Hp} {p : Addr} {xs : List V} (h : FT H p xs) : SqT K H p xs := by
  obtain ⟨o, _, e⟩ := h
  exact .inl (.inr ⟨o, e⟩)
theorem FT.tk {H H' : Hp} {p : Addr} {xs : List V} (t : Tk H H') (h : FT H p xs) : FT H' p xs := by
  obtain ⟨o, d, e⟩ := h
  exact ⟨o, d, t _ _ (fun _ z => nomatch z) e⟩
theorem sameT {K : PySem.W.Frag} {H H' : Hp} {a : Addr} {xs : List V} (s : Same H H') (h : SqT K H a xs) : SqT K H' a xs := by
  rcases h with (h | ⟨o, h⟩) | h
  · exact .inl (.inl (s _ _ h))
  · exact .inl (.inr ⟨o, s _ _ h⟩)
  · exact .inr h
/-- a tuple of texts, its very object known -/
def TxtF (H : Hp) (v : V) (zs : List Str) : Prop := ∃ p, v = .ref p ∧ FT H p (zs.map V.str)
theorem TxtF.tk {H H' : Hp} {v : V} {zs : List Str} (t : Tk H H') (h : TxtF H v zs) : TxtF H' v zs := by
  obtain ⟨p, e, q⟩ := h
  exact ⟨p, e, q.tk t⟩
section
variable {X : Cx}
def tTupF (t : TA) : TE := fun σ H Q => t σ H fun xs H1 => xs.length ≤ sizeLine ∧ ∀ p o, o.dict = none → H1 p = none → Q (.ref p) (upd H1 p (.frz o (.tup xs)))
theorem pe_tupF {es : List Expr} {t : TA} {pos : Pos} {x1} (h : PA X es t) : PE X (.Tuple es x1 pos) (tTupF t) := by
  refine ⟨fun pins s σ H Q I hq => ?_⟩
  refine wpAny_Tuple_spliced (thn (h.run pos pins s σ H _ I hq) fun us s1 got => ?_)
  obtain ⟨xs, H1, I1, r, z, q⟩ := got
  refine ⟨by rw [← r.length]; exact z, ?_⟩
  have fresh : H1 s1.heap.objs.size = none := I1.hok.fresh (Nat.le_refl _)
  have new : (s1.heap.push { cls := .type "tuple", data := .seq us.toArray }).get? s1.heap.objs.size = some { cls := .type "tuple", data := .seq us.toArray } := Heap.get?_push_size _ rfl
  exact ⟨.ref s1.heap.objs.size, _, I1.laid (t' := s1.toks) (o := .frz _ (.tup xs)) (fun b u e => Heap.get?_push_of_some _ e) (Nat.le_refl _) ⟨new, z, us, r, ⟨_, new, rfl, _, rfl⟩⟩, rfl, q _ _ rfl fresh⟩
/-- t + u, u not empty, its very object known -/
def rTCatF (K : PySem.W.Frag) : R2 := fun x y H Q => ∃ a b xs ys, x = .ref a ∧ y = .ref b ∧ SqT K H a xs ∧ FT H b ys ∧ ys ≠ [] ∧ xs.length + ys.length ≤ 5000 ∧ ∀ H' p, Same H H' → FT H' p (xs ++ ys) → Q (.ref p) H'
theorem op_tcatF : OpR X (binaryOp .Add) (rTCatF X.K) := by
  intro pins s σ H x y v u Q I rx ry got
  obtain ⟨a, b, xs, ys, rfl, rfl, ha, hb, ne, few, q⟩ := got
  cases xs with
  | nil => 
    refine op_catA pins s σ H _ _ v u Q I rx ry ⟨a, b, [], ys, rfl, rfl, ha, hb.sq, Nat.le_trans few (by decide), fun _ => ?_, fun h _ => absurd rfl h, fun h _ _ _ => absurd rfl h⟩
    exact q H b (Same.refl H) hb
  | cons x0 xs0 =>
    cases rx
    cases ry
    obtain ⟨its, r1, p1, _⟩ := I.tuple ha
    obtain ⟨its2, r2, p2, _⟩ := I.tuple (show SqT X.K H b ys from hb.sq)
    have room : (x0 :: xs0).length + ys.length ≤ sizeLine := Nat.le_trans few (by decide)
    refine HT.cat_tup p1 p2 (fun z => nomatch (r1.nil_iff.mp z)) (fun z => absurd (r2.nil_iff.mp z) ne) (fun _ => ?_) (by rw [← r1.length, ← r2.length]; exact room)
    refine ⟨.ref s.heap.objs.size, _, I.laid (t' := s.toks) (o := .frz _ (.tup ((x0 :: xs0) ++ ys))) (fun b ob e => Heap.get?_push_of_some _ e) (Nat.le_refl _) ⟨Heap.get?_push_size _ rfl, by rw [List.length_append]; exact room, _, r1.append r2, IsTup.new _ _⟩, rfl, ?_⟩
    have fresh := I.hok.fresh (Nat.le_refl s.heap.objs.size)
    exact q _ _ (same_new fresh) ⟨_, rfl, upd_same⟩
/-- t.index(z), t a tuple of texts, its very object known -/
def rIdxF (K : PySem.W.Frag) : V → List V → Hp → VK → Prop := fun x xs H Q => ∃ p, ∃ ys : List Str, ∃ z j, x = .ref p ∧ xs = [.str z] ∧ SqT K H p (ys.map V.str) ∧ ys[j]? = some z ∧ (∀ m, m < j → ys[m]? ≠ some z) ∧ Q (.int (j : Nat)) H
def tIdxF (K : PySem.W.Frag) (to : TE) (t : TA) : TE := fun σ H Q => to σ H fun x H1 => (∃ p xs, x = .ref p ∧ FT H1 p xs) ∧ t σ H1 fun vs H2 => rIdxF K x vs H2 Q
theorem pe_idxF {o e : Expr} {es : List Expr} {to : TE} {t : TA} {apos cpos : Pos} (ho : PE X o to) (ha : PA X (e :: es) t)
    (base : attributeBase o "index" X.env (eval o X.env) = eval o X.env := by rfl)
    (few : ((backTo cpos (starEach (e :: es) X.env)).all (fun x => !x.1) && (backToKw cpos (keywordEach [] X.env)).all (fun x => x.1.isSome) && decide ((e :: es).length + ([] : List Keyword).length + (if ([] : List Keyword).isEmpty then 0 else 1) < 30)) = true := by rfl)
    (line : (apos.endLine == cpos.line) = true := by rfl) (star : starEach (e :: es) X.env = (false, eval e X.env) :: starEach es X.env := by rfl) (plain : (backTo cpos (starEach es X.env)).any (·.1) = false := by rfl) :
    PE X (.Call (.Attribute o "index" apos) (e :: es) [] cpos) (tIdxF X.K to t) := by
  refine ⟨fun pins s σ H Q I h => wpAny_Call_method_late base few line rfl (thn (ho.run pins s σ H _ I h) fun v s1 got => ?_)⟩
  obtain ⟨x, H1, I1, r1, ⟨p, xs, rfl, ft⟩, q1⟩ := got
  cases r1
  obtain ⟨ob, bare, eo⟩ := ft
  obtain ⟨there, _, its, _, ob2, there2, cl, _⟩ := I1.hok p _ eo
  rw [there] at there2
  cases there2
  refine ⟨"tuple", "tuple.index", PySem.F.plainAttrs_tuple, PySem.F.slot_tuple_index, PySem.F.type_tuple_index, ⟨ob, there, cl⟩, fun a e => ?_, ?_⟩
  · cases e
    exact ⟨ob, there, bare⟩
  have hA := ha.run cpos pins s1 σ H1 _ I1 q1
  rw [star] at hA ⊢
  refine Calls.callWith_builtin (by show (false || (backTo cpos (starEach es X.env)).any (·.1)) = false; rw [plain] <;> rfl) (Calls.evalArgs_plain ?_)
  exact thn hA fun us s2 got => by
    obtain ⟨vs, H2, I2, r2, q2⟩ := got
    exact mt_tup_index pins s2 σ H2 (.ref p) vs (.ref p) us Q I2 rfl r2 q2
end
end Ow

set_option Elab.async false
set_option linter.all false
set_option maxRecDepth 100000
set_option maxHeartbeats 4000000
set_option exponentiation.threshold 3000
namespace Ow
open PySem PySem.Spec PyProof.Rows L2
theorem in_strsD (z : Str) : ∀ ys : List Str, inV (.str z) (ys.map V.str) = decide (z ∈ ys)
  | [] => rfl
  | y :: ys => by
    have ih := in_strsD z ys
    unfold inV at ih ⊢
    rw [List.map_cons, List.any_cons, ih]
    show ((y == z) || decide (z ∈ ys)) = decide (z ∈ y :: ys)
    rw [Bool.eq_iff_iff, Bool.or_eq_true, beq_iff_eq, decide_eq_true_iff, decide_eq_true_iff, List.mem_cons]
    exact ⟨fun h => h.elim (fun e => .inl e.symm) .inr, fun h => h.elim (fun e => .inl e.symm) .inr⟩
theorem ordStep_len {α : Type} [DecidableEq α] (xs : List α) (fs : List (List α)) : (ordStep xs fs).length ≤ fs.length * xs.length := by
  unfold ordStep
  induction fs with
  | nil => simp
  | cons o fs ih =>
    have := List.length_filterMap_le (fun t => if t ∈ o then none else some (o ++ [t])) xs
    rw [List.flatMap_cons, List.length_append, List.length_cons, Nat.succ_mul]
    omega
theorem ords_len {α : Type} [DecidableEq α] (xs : List α) (h : xs.length ≤ 4) : ∀ n, n ≤ 4 → (ords xs n).length ≤ 256
  | 0, _ => (by decide : 1 ≤ 256)
  | 1, _ => Nat.le_trans (ordStep_len xs _) (by show 1 * xs.length ≤ 256; omega)
  | n + 2, hn => by
    have h1 := ordStep_len xs (ords xs (n + 1))
    have h2 := ordStep_len xs (ords xs n)
    have key : ∀ m ≤ 4, (ords xs m).length ≤ 4 ^ m := fun m => by
      induction m with
      | zero => intro _; exact Nat.le_refl 1
      | succ m ih =>
        intro hm
        have a := ordStep_len xs (ords xs m)
        have b := ih (by omega)
        show (ordStep xs (ords xs m)).length ≤ 4 ^ (m + 1)
        rw [Nat.pow_succ]
        exact Nat.le_trans a (Nat.mul_le_mul b h)
    exact Nat.le_trans (key (n + 2) hn) (by
      have : n + 2 = 2 ∨ n + 2 = 3 ∨ n + 2 = 4 := by omega
      rcases this with e | e | e <;> rw [e] <;> decide)
theorem ords_item {α : Type} [DecidableEq α] (xs : List α) : ∀ n, ∀ o ∈ ords xs n, o.length = n ∧ ∀ t ∈ o, t ∈ xs
  | 0, o, h => by
    rw [List.mem_singleton.mp h]
    exact ⟨rfl, fun _ z => nomatch z⟩
  | n + 1, o, h => by
    obtain ⟨o', ho, h⟩ := List.mem_flatMap.mp h
    obtain ⟨t, ht, h⟩ := List.mem_filterMap.mp h
    obtain ⟨a, b⟩ := ords_item xs n o' ho
    split at h
    · cases h
    · cases h
      refine ⟨by rw [List.length_append, a]; rfl, fun u hu => ?_⟩
      rcases List.mem_append.mp hu with hu | hu
      · exact b u hu
      · rw [List.mem_singleton.mp hu]
        exact ht
section
variable {P : Program} {w : World} {K : PySem.W.Frag} {mg : Str → Option Value} {base : Heap} {C : Addr}
def spIssuesOf : Sp := fun vs H Q _ => ∃ (t : Addr) (cs : List Nat), vs = [.ref t] ∧ H t = some (.tup ((cs.map letter).map V.str)) ∧ Th cs ∧ ∀ H' u, Same H H' → H' u = some (.tup (((prs ltS (cs.map letter)).map cat2).map V.str)) → Q (.ref u) H'
theorem ok_issuesof {f fP : Addr} {fd fdP : FuncData} (F : Fun K "_issues_of" "_issues_of" dIssuesOf f fd) (FP : FnOk P w K mg base CX0 1 fP fdP ["things"] spPairs) (kP : PySem.W.keepIn K (.ref fP) = true) (bP : Binds K fdP ["things"] []) (gP : mg "_pairs" = some (.ref fP))
    (mt : mg "tuple" = none) : FnOk P w K mg base CX0 2 f fd ["things"] spIssuesOf := by
  refine F.ok scIssuesOf (fun vs H Q E h => ?_) (fun cdv A outer s H vs Q E hr h => ?_)
  · obtain ⟨t, cs, rfl, _⟩ := h
    rfl
  obtain ⟨t, cs, rfl, ht, th, q⟩ := h
  refine ⟨_, pss_one (ps_ret (pe_callTy call_tuple_of (by rfl) mt boot_tup (pa_cons
    (pe_lc (te := tOp (fun x y H Q => ∃ i j, x = .str i ∧ y = .str j ∧ i.length + j.length ≤ sizeLine ∧ Q (.str (i ++ j)) H) (tVar 1) (tVar 2)) (own := [("one", 1), ("other", 2)]) (g := gTup K 2 (gCons (gName 1) (gCons (gName 2) gNil))) (tt := tYes) rfl scIssuesOf.nd
      (pi_list (pe_call FP hr (by rfl) gP kP bP .nil pass0 (pa_cons (pv 0) pa_nil))) (blkOk_by (N := ["things", "one", "other"]) (sc := defScope dIssuesOf) (by decide +kernel))
      (fun _ _ _ _ _ => pg_tup rfl (pgs_cons (pg_name (i := 1) scIssuesOf.nd rfl (Or.inl rfl)) (pgs_cons (pg_name (i := 2) scIssuesOf.nd rfl (Or.inl rfl)) pgs_nil)))
      (fun _ _ _ _ _ => pts_nil) (fun _ _ _ _ _ => pe_op op_add_str (pv 1) (pv 2))) pa_nil))), ?_⟩
  have four := th.four
  refine ⟨.ref t, rfl, t, cs.map letter, rfl, ht, by rw [List.length_map]; omega, fun H1 l xs s1 hl hx => ?_⟩
  have lx := hx.len
  have l5 : cs.length < 5 := by omega
  obtain ⟨_, _, _, _, p6, _⟩ := sortedO_ok cs.length l5 th.two
  have lp := th.issues.2.1
  rw [List.length_map] at lp
  refine ⟨l, rfl, ⟨_, .of hl⟩, fun D nD => ?_⟩
  refine lc_map (M := No) (walk_list (K := K) (a := l) (xs := xs)) (by omega) Jg.no nD (fun i _ y => ∃ p, (prs ltS (cs.map letter))[i]? = some p ∧ y = .str (cat2 p)) (fun _ _ _ _ _ h => h) (fun Hx g _ => .of (g.toSame _ _ hl))
    (fun i x Hx Hx' Kk hi g _ hY hK => ?_) (fun Hx ys g _ eD hlen hq => ?_)
  · obtain ⟨rfl, hxi⟩ := hY
    obtain ⟨p, hp, b, rfl, hb⟩ := hx.get hxi
    have lz := th.issues.2.2 (cat2 p) (List.mem_map.mpr ⟨p, List.mem_of_getElem? hp, rfl⟩)
    have hb' := g.toSame _ _ hb
    refine ⟨b, _, rfl, .of hb', rfl, _, _, rfl, _, _, rfl, rfl, rfl, .str p.1, rfl, .str p.2, rfl, p.1, p.2, rfl, rfl, ?_, hK _ _ (Gw.same (Same.refl _)) Jg.no ⟨p, hp, rfl⟩⟩
    have e : (cat2 p).length = p.1.length + p.2.length := by
      show (p.1.cps ++ p.2.cps).size = _
      rw [Array.size_append]
      rfl
    rw [← e]
    exact Nat.le_trans lz.1 (by decide)
  · have e : ys = ((prs ltS (cs.map letter)).map cat2).map V.str := list_eq (f := V.str) hlen (by rw [List.length_map, lx]) fun i y hy => by
      obtain ⟨p, hp, e⟩ := hq i y hy
      exact ⟨cat2 p, by rw [List.getElem?_map, hp]; rfl, e⟩
    rw [e] at eD
    refine ⟨D, _, rfl, .inl ⟨.of eD, fun u nu => q _ u (s1.trans (g.toSame.trans (same_new nu))) upd_same⟩⟩
def spAllOrd : Sp := fun vs H Q _ => ∃ (t : Addr) (zs : List Str), vs = [.ref t] ∧ H t = some (.tup (zs.map V.str)) ∧ zs.length ≤ 4 ∧ ∀ H' l xs, Same H H' → H' l = some (.lst xs) → All2 (TxtF H') xs (ords zs zs.length) → Q (.ref l) H'
theorem ok_allorders {f : Addr} {fd : FuncData} (F : Fun K "_all_orders" "_all_orders" dAllOrders f fd) : FnOk P w K mg base CX0 1 f fd ["things"] spAllOrd := by
  refine F.ok scAllOrd (fun vs H Q E h => ?_) (fun cdv A outer s H vs Q E hr h => ?_)
  · obtain ⟨t, zs, rfl, _⟩ := h
    rfl
  obtain ⟨t, zs, rfl, ht, hl, q⟩ := h
  refine ⟨_, pss_cons (ps_set (i := 1) scAllOrd.nd rfl (.inl rfl) (pe_lst (pa_cons (pe_tupF pa_nil) pa_nil)))
    (pss_cons (ps_for PassesOwn.never rfl (pi_tup (pv 0)) (pg_name (i := 2) scAllOrd.nd rfl (.inl rfl))
      (pss_one (ps_setLc2 (i := 1) (own := [("order", 3), ("thing", 4)]) (vs1 := [4]) (g := gName 3) (g1 := gName 4) (tt := tYes) (tt1 := tTest (tOp (rIn K true) (tVar 4) (tVar 3))) (wi1 := iTup K (tVar 0))
        (te := tTupF (StX.tStar K (tVar 3) (tCons (tVar 4) tNil))) rfl scAllOrd.nd rfl rfl (sw_true rfl rfl rfl (by decide +kernel)) (pi_list (pv 1)) (blkOk_by (N := ["things", "found", "_", "order", "thing"]) (sc := defScope dAllOrders) (by decide +kernel)) (by decide)
        (fun _ _ _ _ _ => pg_name (i := 3) scAllOrd.nd rfl (Or.inl rfl)) (fun _ _ _ _ _ => pts_nil) (fun _ _ _ _ _ => pi_tup (pv 0)) (fun _ _ _ _ _ => pg_name (i := 4) scAllOrd.nd rfl (Or.inl rfl))
        (fun _ _ _ _ _ => pts_one (pt_cmpR op_notIn_seq (pv 4) (pv 3) (by rfl)))
        (fun _ _ _ _ _ => pe_tupF (StX.pa_star (pv 3) (pa_cons (pv 4) pa_nil))))))
    (pss_one (ps_ret (pv 1)))), ?_⟩
  refine ⟨Nat.zero_le _, fun p1 o1 d1 n1 => ⟨(by show 1 ≤ sizeLine; decide), fun p2 n2 => ⟨.ref t, rfl, t, rfl, ⟨_, .of ((same_new n1).trans (same_new n2) _ _ ht)⟩, ?_⟩⟩⟩
  have s1 : Same H (upd H p1 (.frz o1 (.tup []))) := same_new n1
  have s2 := same_new (o := .lst [.ref p1]) n2
  have e1 := s2 p1 (.frz o1 (.tup [])) upd_same
  refine for_it (walk_tup (K := K) (a := t) (xs := zs.map V.str)) (fun i σ Hx => ∃ L xs y2 y3 y4, σ = [some (.ref t), some (.ref L), y2, y3, y4] ∧ Same H Hx ∧ Hx L = some (.lst xs) ∧ All2 (TxtF Hx) xs (ords zs i))
    ⟨p2, [.ref p1], none, none, none, rfl, s1.trans s2, upd_same, .cons ⟨p1, rfl, o1, d1, e1⟩ .nil⟩ (fun i σ Hx _ h => ?_) (fun i x σ Hx Hx' hi h hY => ?_) (fun σ Hx h => ?_)
  · obtain ⟨L, xs, y2, y3, y4, _, sx, _⟩ := h
    exact .of (sx _ _ ht)
  · obtain ⟨L, xs, y2, y3, y4, rfl, sx, eL, ax⟩ := h
    obtain ⟨rfl, hx⟩ := hY
    rw [List.length_map] at hi
    have lx := ax.len
    have lo := ords_len zs hl i (by omega)
    have htx := sx _ _ ht
    refine ⟨.ref L, rfl, L, rfl, ⟨xs, .of eL⟩, fun D nD => ?_⟩
    refine lc2_grow (K := K) (walk_list (K := K) (a := L) (xs := xs)) (ords zs i) zs (fun o t => if t ∈ o then none else some (o ++ [t])) TxtF (fun t h => h.tk t) lx.symm (by rw [List.length_map]) ?_ nD htx (fun H s => .of (s _ _ eL)) (fun _ => rfl) (fun _ => rfl) (fun _ _ => rfl)
      (fun j k x y o z Hy K0 K1 hx ho hy hz sy k0 k1 => ?_) (fun Hy us sy eD au => ⟨D, us, _, _, _, rfl, sx.trans sy, eD, au⟩)
    · rw [List.length_map]
      exact Nat.le_trans (Nat.mul_le_mul (show xs.length ≤ 256 by omega) hl) (by decide)
    · obtain ⟨o', ho', b, rfl, hb⟩ := ax.get hx
      rw [ho] at ho'
      cases ho'
      rw [List.getElem?_map, hz] at hy
      cases hy
      have hb' := hb.tk (Tk.same sy)
      have lo' := (ords_item zs i o (List.mem_of_getElem? ho)).1
      refine ⟨.str z, rfl, .ref b, rfl, b, _, rfl, .inr hb'.sq, rfl, flat_strs o, _, rfl, ?_⟩
      rw [in_strsD]
      by_cases m : z ∈ o
      · rw [decide_eq_true m]
        exact iteF (k0 _ (Same.refl _) (if_pos m))
      · rw [decide_eq_false m]
        refine iteT ⟨.ref b, rfl, b, _, rfl, .inl hb'.sq, .str z, rfl, ?_, fun T o2 d2 nT => k1 _ _ (o ++ [z]) (same_new nT) (if_neg m) ⟨T, rfl, o2, d2, ?_⟩⟩
        · rw [List.length_append, List.length_map]
          exact Nat.le_of_lt (small60 (by show o.length + 1 ≤ 5000; omega))
        · rw [upd_same, List.map_append]
          rfl
  · obtain ⟨L, xs, y2, y3, y4, rfl, sx, eL, ax⟩ := h
    rw [List.length_map] at ax
    exact ⟨.ref L, rfl, q _ L xs sx eL ax⟩
end
end Ow

set_option Elab.async false
set_option linter.all false
set_option maxRecDepth 100000
set_option maxHeartbeats 4000000
set_option exponentiation.threshold 3000
namespace Ow
open PySem PySem.Spec PyProof.Rows L2
abbrev rowNm : List Str := ["things", "order", "places", "thing", "at", "one", "other"]
theorem scRow : FnScope rowNm ["things", "order"] (defScope dRow) := ⟨rfl, rfl, rfl, by decide +kernel, rfl, by decide +kernel, by decide +kernel⟩
/-- a dict comprehension over a walk -/
theorem dc_it {J : It} {n : Nat} {G : Hp → Prop} {Y : Nat → Hp → V → Hp → Prop} (w : Walk J n G Y) {g : TG} {tk tv : TE} {vs : List Nat} {σ : L2.St} {H1 : Hp} {D : Addr} {Qd : Hp → Prop} (Pv : Nat → Hp → Prop) (h0 : Pv 0 (upd H1 D (.dK []))) (hG : ∀ i H, i ≤ n → Pv i H → G H)
    (hs : ∀ i x H H', i < n → Pv i H → Y i H x H' → g x (wipe σ vs) H' fun σ2 H2 => wipe σ2 vs = wipe σ vs ∧ 
      tk σ2 H2 fun y H4 => tv σ2 H4 fun z H5 => ∃ kvs k, y = kV k ∧ H5 D = some (.dK kvs) ∧ kvs.length < sizeLine ∧ Pv (i + 1) (upd H5 D (.dK (putK kvs k z)))) (hd : ∀ H, Pv n H → Qd H) :
    ∃ W : Nat → Nat → Hp → Prop, (∃ m, W 0 m (upd H1 D (.dK []))) ∧ ∀ i m H, W i m H →
      (J.stop i H ∧ Qd H) ∨ (J.go i H ∧ ∃ Nx : Hp → Prop, (∀ H', Nx H' → ∃ m', m' < m ∧ W (i + 1) m' H') ∧ ∀ x H', J.yld i H x H' → g x (wipe σ vs) H' fun σ2 H2 => wipe σ2 vs = wipe σ vs ∧ tYes σ2 H2 fun b H3 =>
        if b = true then tk σ2 H3 fun y H4 => tv σ2 H4 fun z H5 => ∃ kvs k, y = kV k ∧ H5 D = some (.dK kvs) ∧ kvs.length < sizeLine ∧ Nx (upd H5 D (.dK (putK kvs k z))) else Nx H3) := by
  refine ⟨fun i m H => m = n - i ∧ i ≤ n ∧ Pv i H, ⟨n, by simp, Nat.zero_le _, h0⟩, ?_⟩
  rintro i m H ⟨rfl, hi, p⟩
  have q := hG i H hi p
  by_cases hlt : i < n
  · exact .inr ⟨w.goes i H hlt q, Pv (i + 1), fun H' p' => ⟨n - (i + 1), by omega, rfl, hlt, p'⟩, fun x H' y => hs i x H H' hlt p (w.yields i H x H' hlt q y)⟩
  · have e : i = n := by omega
    subst e
    exact .inl ⟨w.stops H q, hd H p⟩
theorem idx_of {os : List Str} (nd : os.Nodup) {j : Nat} {z : Str} (h : os[j]? = some z) : os.idxOf z = j := by
  induction os generalizing j with
  | nil => simp at h
  | cons a os ih =>
    rw [List.idxOf_cons]
    cases j with
    | zero =>
      cases h
      simp
    | succ j =>
      have h : os[j]? = some z := h
      have nd' := List.nodup_cons.mp nd
      have ne : (a == z) = false := by
        rw [beq_eq_false_iff_ne]
        intro e
        subst e
        exact nd'.1 (List.mem_of_getElem? h)
      rw [ne, ih nd'.2 h]
      rfl
theorem prs_mem {lt : Str → Str → Bool} {zs : List Str} {p : Str × Str} (h : p ∈ prs lt zs) : p.1 ∈ zs ∧ p.2 ∈ zs := by
  unfold prs at h
  obtain ⟨a, ha, h⟩ := List.mem_flatMap.mp h
  obtain ⟨b, hb, h⟩ := List.mem_filterMap.mp h
  split at h
  · cases h
    exact ⟨ha, hb⟩
  · cases h
theorem prs_le {lt : Str → Str → Bool} (zs : List Str) : (prs lt zs).length ≤ zs.length * zs.length := by
  have one : ∀ (us ws : List Str), (us.flatMap fun a => ws.filterMap fun b => if lt a b = true then some (a, b) else none).length ≤ us.length * ws.length := fun us ws => by
    induction us with
    | nil => simp
    | cons u us ih =>
      have := List.length_filterMap_le (fun b => if lt u b = true then some (u, b) else none) ws
      rw [List.flatMap_cons, List.length_append, List.length_cons, Nat.succ_mul]
      omega
  exact one zs zs
section
variable {P : Program} {w : World} {K : PySem.W.Frag} {mg : Str → Option Value} {base : Heap} {C : Addr}
def spRow (K : PySem.W.Frag) : Sp := fun vs H Q _ => ∃ (t u : Addr) (zs os : List Str), vs = [.ref t, .ref u] ∧ H t = some (.tup (zs.map V.str)) ∧ SqT K H u (os.map V.str) ∧ zs.length ≤ 8 ∧ os.length ≤ 60 ∧ os.Nodup ∧ (∀ z ∈ zs, z ∈ os) ∧ ∀ H' p, Same H H' → IsRow H' (.ref p) (rowI ltS zs os) → Q (.ref p) H'
theorem ok_row {f fP : Addr} {fd fdP : FuncData} (F : Fun K "_row" "_row" dRow f fd) (FP : FnOk P w K mg base CX0 1 fP fdP ["things"] spPairs) (kP : PySem.W.keepIn K (.ref fP) = true) (bP : Binds K fdP ["things"] []) (gP : mg "_pairs" = some (.ref fP))
    (me : mg "enumerate" = none) (mt : mg "tuple" = none) (mi : mg "int" = none) : FnOk P w K mg base CX0 2 f fd ["things", "order"] (spRow K) := by
  refine F.ok scRow (fun vs H Q E h => ?_) (fun cdv A outer s H vs Q E hr h => ?_)
  · obtain ⟨t, u, zs, os, rfl, _⟩ := h
    rfl
  obtain ⟨t, u, zs, os, rfl, ht, hu, lz, lo, nd, mem, q⟩ := h
  refine ⟨_, pss_cons (ps_set (i := 2) scRow.nd rfl (.inr rfl)
      (pe_dc (own := [("thing", 3), ("at", 4)]) (g := gTup K 2 (gCons (gName 4) (gCons (gName 3) gNil))) (tt := tYes) (tk := tVar 3) (tv := tVar 4) rfl scRow.nd (pi_enumT (by rfl) me (pa_cons (pv 1) pa_nil)) (blkOk_by (N := rowNm) (sc := defScope dRow) (by decide +kernel))
        (fun _ _ _ _ _ => pg_tup rfl (pgs_cons (pg_name (i := 4) scRow.nd rfl (Or.inl rfl)) (pgs_cons (pg_name (i := 3) scRow.nd rfl (Or.inl rfl)) pgs_nil))) (fun _ _ _ _ _ => pts_nil) (fun _ _ _ _ _ => pv 3) (fun _ _ _ _ _ => pv 4)))
    (pss_one (ps_ret (pe_callTy call_tuple_of (by rfl) mt boot_tup (pa_cons
      (pe_lc (own := [("one", 5), ("other", 6)]) (g := gTup K 2 (gCons (gName 5) (gCons (gName 6) gNil))) (tt := tYes) rfl scRow.nd (pi_list (pe_call FP hr (by rfl) gP kP bP .nil pass0 (pa_cons (pv 0) pa_nil))) (blkOk_by (N := rowNm) (sc := defScope dRow) (by decide +kernel))
        (fun _ _ _ _ _ => pg_tup rfl (pgs_cons (pg_name (i := 5) scRow.nd rfl (Or.inl rfl)) (pgs_cons (pg_name (i := 6) scRow.nd rfl (Or.inl rfl)) pgs_nil))) (fun _ _ _ _ _ => pts_nil)
        (fun _ _ _ _ _ => pe_callTy call_int1 (by rfl) mi boot_int (pa_cons (pe_cmpR op_lt (pe_dget (hu_of hr) (pv 2) (pv 5) (fun _ _ => rfl)) (pe_dget (hu_of hr) (pv 2) (pv 6) (fun _ _ => rfl)) (nomark _)) pa_nil))) pa_nil)))), ?_⟩
  refine ⟨.ref u, rfl, u, os.map V.str, rfl, hu, fun D nD => ?_⟩
  refine dc_it (walk_enumT (K := K) (a := u) (xs := os.map V.str)) (fun i Hx => Same H Hx ∧ ∃ kvs, Hx D = some (.dK kvs) ∧ kvs.length ≤ i ∧ ∀ (j : Nat) z, j < i → os[j]? = some z → valV kvs (Sum.inr z) = some (.int j))
    ⟨same_new nD, [], upd_same, Nat.le_refl _, fun _ _ z => nomatch z⟩ (fun i Hx _ h => sameT h.1 hu) (fun i x Hx Hx' hi h hY => ?_) (fun Hx h => ?_)
  · obtain ⟨T, x, y, rfl, nT, rfl, hx, hy⟩ := hY
    obtain ⟨sx, kvs, eD, lk, hk⟩ := h
    have hx : some (V.int (i : Nat)) = some x := hx
    cases hx
    have hy : (os.map V.str)[i]? = some y := hy
    rw [List.getElem?_map] at hy
    cases hz : os[i]? with
    | none => rw [hz] at hy; cases hy
    | some z =>
      rw [hz] at hy
      cases hy
      have DT : D ≠ T := ne_of_none eD nT
      rw [List.length_map] at hi
      refine ⟨T, _, rfl, .of upd_same, rfl, _, _, rfl, _, _, rfl, rfl, rfl, .str z, rfl, .int i, rfl, kvs, Sum.inr z, rfl, by rw [upd_ne DT]; exact eD, small60 (by omega), ?_, _, upd_same, ?_, fun j z' hj hz' => ?_⟩
      · exact same_newer (sx.trans (same_new nT)) nD
      · have := length_putK kvs (Sum.inr z : Key) (.int (i : Int))
        omega
      · rw [valV_put]
        by_cases e : z' = z
        · subst e
          rw [if_pos rfl]
          have := idx_of nd hz
          have := idx_of nd hz'
          have : i = j := by omega
          rw [this]
        · rw [if_neg (fun q => e (Sum.inr.inj q))]
          refine hk j z' ?_ hz'
          rcases Nat.lt_or_ge j i with l | l
          · exact l
          · have : j = i := by omega
            rw [this, hz] at hz'
            exact absurd (Option.some.inj hz').symm e
  · obtain ⟨s1, kvs, eD, lk, hk⟩ := h
    rw [List.length_map] at hk lk
    have val : ∀ z ∈ zs, valV kvs (Sum.inr z) = some (.int (os.idxOf z)) := fun z hz => by
      have l := List.idxOf_lt_length_of_mem (mem z hz)
      refine hk (os.idxOf z) z l ?_
      rw [List.getElem?_eq_getElem l, List.getElem_idxOf l]
    refine ⟨.ref t, rfl, t, zs, rfl, s1 _ _ ht, by omega, fun H2 l xs s2 hl hx => ?_⟩
    have lx := hx.len
    have lp := prs_le (lt := ltS) zs
    have l64 : zs.length * zs.length ≤ 8 * 8 := Nat.mul_le_mul lz lz
    refine ⟨l, rfl, ⟨_, .of hl⟩, fun D2 nD2 => ?_⟩
    refine lc_map (M := No) (walk_list (K := K) (a := l) (xs := xs)) (by omega) Jg.no nD2 (fun i _ y => ∃ p, (prs ltS zs)[i]? = some p ∧ y = .int (if os.idxOf p.1 < os.idxOf p.2 then 1 else 0)) (fun _ _ _ _ _ h => h) (fun Hx g _ => .of (g.toSame _ _ hl))
      (fun i x Hx Hx' Kk hi g _ hY hK => ?_) (fun Hy ys g _ eD2 hlen hq => ?_)
    · obtain ⟨rfl, hxi⟩ := hY
      obtain ⟨p, hp, b, rfl, hb⟩ := hx.get hxi
      have hb' := g.toSame _ _ hb
      have hD' := g.toSame _ _ (s2 _ _ eD)
      obtain ⟨m1, m2⟩ := prs_mem (List.mem_of_getElem? hp)
      refine ⟨b, _, rfl, .of hb', rfl, _, _, rfl, _, _, rfl, rfl, rfl, .ref D, rfl, .str p.1, rfl, D, .int (os.idxOf p.1), rfl, ?_, .ref D, rfl, .str p.2, rfl, D, .int (os.idxOf p.2), rfl, ?_, _, _, rfl, rfl, .inr ⟨_, rfl, hK _ _ (Gw.same (Same.refl _)) Jg.no ⟨p, hp, ?_⟩⟩⟩
      · rw [← val p.1 m1]
        exact DGet.k (k := Sum.inr p.1) hD'
      · rw [← val p.2 m2]
        exact DGet.k (k := Sum.inr p.2) hD'
      · by_cases e : os.idxOf p.1 < os.idxOf p.2
        · rw [if_pos e, decide_eq_true (by omega : (os.idxOf p.1 : Int) < (os.idxOf p.2 : Int))]
          rfl
        · rw [if_neg e, decide_eq_false (by omega : ¬ (os.idxOf p.1 : Int) < (os.idxOf p.2 : Int))]
          rfl
    · have e : ys = (rowI ltS zs os).map V.int := by
        unfold rowI
        rw [List.map_map]
        exact list_eq (f := V.int ∘ fun p : Str × Str => if os.idxOf p.1 < os.idxOf p.2 then (1 : Int) else 0) hlen (by rw [lx]) hq
      rw [e] at eD2
      exact ⟨D2, _, rfl, .inl ⟨.of eD2, fun v nv => q _ v (s1.trans (s2.trans (g.toSame.trans (same_new nv)))) ⟨v, rfl, upd_same⟩⟩⟩
end
end Ow

set_option Elab.async false
set_option linter.all false
set_option maxRecDepth 100000
set_option maxHeartbeats 4000000
set_option exponentiation.threshold 3000
namespace Ow
open PySem PySem.Spec PyProof.Rows L2
theorem scOrdAg : FnScope ["things", "order"] ["things"] (defScope dOrdersAgenda) := ⟨rfl, rfl, rfl, by decide +kernel, rfl, by decide +kernel, by decide +kernel⟩
theorem scRowOf : FnScope ["things", "order"] ["things", "order"] (defScope dRowOf) := ⟨rfl, rfl, rfl, by decide +kernel, rfl, by decide +kernel, by decide +kernel⟩
theorem scNeedV : FnScope ["things", "values"] ["things", "values"] (defScope dNeedValues) := ⟨rfl, rfl, rfl, by decide +kernel, rfl, by decide +kernel, by decide +kernel⟩
theorem allT_of {K : PySem.W.Frag} {H : Hp} : ∀ {xs : List V} {rs : List (List Int)}, All2 (IsRow H) xs rs → AllT K H xs rs
  | _, _, .nil => .nil
  | _, _, .cons r rs => .cons r (allT_of rs)
theorem all_ofT {K : PySem.W.Frag} {H : Hp} : ∀ {xs : List V} {rs : List (List Int)}, AllT K H xs rs → All2 (IsRow H) xs rs
  | _, _, .nil => .nil
  | _, _, .cons r rs => .cons r (all_ofT rs)
/-! ### what was checked of all orders of two to four things -/
section
variable {n : Nat} (h : n < 5) (h2 : 2 ≤ n)
theorem check_split (h : n < 5) (h2 : 2 ≤ n) : ((rowsN (pairsN n)).all fun vs => ringOk vs (ringO ltF (allF n) vs) && ordOk vs (ordO ltF (allF n) vs)) = true ∧
    ((ords (allF n) n).all fun o => decide (ordO ltF (allF n) (rowI ltF (allF n) o) = some o) && (decide (o.length = n) && (decide o.Nodup && (allF n).all fun i => o.contains i))) = true ∧ lprs (allF n) = prs ltF (allF n) := by
  have c := check_all h h2
  unfold checkN at c
  rw [Bool.and_eq_true, Bool.and_eq_true, decide_eq_true_iff] at c
  exact ⟨c.1, c.2.1, c.2.2⟩
theorem check_val (h : n < 5) (h2 : 2 ≤ n) {vs : List Int} (m : vs ∈ rowsN (pairsN n)) : ringOk vs (ringO ltF (allF n) vs) = true ∧ ordOk vs (ordO ltF (allF n) vs) = true := by
  have c := List.all_eq_true.mp (check_split h h2).1 vs m
  rw [Bool.and_eq_true] at c
  exact c
theorem check_ord (h : n < 5) (h2 : 2 ≤ n) {o : List (Fin n)} (m : o ∈ ords (allF n) n) : ordO ltF (allF n) (rowI ltF (allF n) o) = some o ∧ o.length = n ∧ o.Nodup ∧ ∀ i : Fin n, i ∈ o := by
  have c := List.all_eq_true.mp (check_split h h2).2.1 o m
  rw [Bool.and_eq_true, Bool.and_eq_true, Bool.and_eq_true, decide_eq_true_iff, decide_eq_true_iff, decide_eq_true_iff] at c
  refine ⟨c.1, c.2.1, c.2.2.1, fun i => ?_⟩
  have := List.all_eq_true.mp c.2.2.2 i (List.mem_finRange i)
  simpa using this
end
section
variable {cs : List Nat}
theorem ords_th (h : Th cs) (n : Nat) : ords (cs.map letter) n = (ords (allF cs.length) n).map (List.map (thF cs)) := by
  rw [th_map, ords_map h.inj]
theorem row_th (h : Th cs) (o : List (Fin cs.length)) : rowI ltS (cs.map letter) (o.map (thF cs)) = rowI ltF (allF cs.length) o := by
  rw [th_map, rowI_map h.inj h.mono]
theorem rows_th (h : Th cs) : (ords (cs.map letter) cs.length).map (rowI ltS (cs.map letter)) = rowsO cs.length := by
  rw [ords_th h, List.map_map]
  exact List.map_congr_left fun o _ => row_th h o
theorem ord_facts (h : Th cs) {o : List Str} (m : o ∈ ords (cs.map letter) cs.length) : ∃ o' : List (Fin cs.length), o' ∈ ords (allF cs.length) cs.length ∧ o = o'.map (thF cs) ∧ o.length = cs.length ∧ o.Nodup ∧ ∀ z ∈ cs.map letter, z ∈ o := by
  rw [ords_th h] at m
  obtain ⟨o', m', rfl⟩ := List.mem_map.mp m
  have l5 : cs.length < 5 := by have := h.four; omega
  obtain ⟨_, e2, e3, e4⟩ := check_ord l5 h.two m'
  refine ⟨o', m', rfl, by rw [List.length_map, e2], ?_, fun z hz => ?_⟩
  · rw [List.nodup_iff_pairwise_ne] at e3 ⊢
    rw [List.pairwise_map]
    exact e3.imp fun ne e => ne (h.inj _ _ e)
  · rw [th_map] at hz
    obtain ⟨i, _, rfl⟩ := List.mem_map.mp hz
    exact List.mem_map.mpr ⟨i, e4 i, rfl⟩
end
/-! ### texts in tuples, as data -/
def textD (zs : List Str) : PyData := .tuple (zs.map .str)
def textsD (os : List (List Str)) : PyData := .list (os.map textD)
theorem dp_strs {K : PySem.W.Frag} {H : Hp} : ∀ zs : List Str, DpAll K H (zs.map V.str) (zs.map .str)
  | [] => .nil
  | n :: ns => .cons (.str n) (dp_strs ns)
theorem dp_text {K : PySem.W.Frag} {H : Hp} {v : V} {zs : List Str} (h : TxtT H v zs) : Dp K H v (textD zs) := by
  obtain ⟨a, rfl, h⟩ := h
  exact .tup (.of h) (dp_strs zs)
theorem dp_textF {K : PySem.W.Frag} {H : Hp} {v : V} {zs : List Str} (h : TxtF H v zs) : Dp K H v (textD zs) := by
  obtain ⟨a, rfl, h⟩ := h
  exact .tup h.sq (dp_strs zs)
theorem dp_textAllF {K : PySem.W.Frag} {H : Hp} {xs : List V} {os : List (List Str)} (h : All2 (TxtF H) xs os) : DpAll K H xs (os.map textD) := by
  induction h with
  | nil => exact .nil
  | cons r _ ih => exact .cons (dp_textF r) ih
theorem dp_textsF {K : PySem.W.Frag} {H : Hp} {l : Addr} {xs : List V} {os : List (List Str)} (hl : H l = some (.lst xs)) (h : All2 (TxtF H) xs os) : Dp K H (.ref l) (textsD os) := .lst (.of hl) (dp_textAllF h)
theorem dp_textAll {K : PySem.W.Frag} {H : Hp} {xs : List V} {os : List (List Str)} (h : All2 (TxtT H) xs os) : DpAll K H xs (os.map textD) := by
  induction h with
  | nil => exact .nil
  | cons r _ ih => exact .cons (dp_text r) ih
theorem dp_texts {K : PySem.W.Frag} {H : Hp} {l : Addr} {xs : List V} {os : List (List Str)} (hl : H l = some (.lst xs)) (h : All2 (TxtT H) xs os) : Dp K H (.ref l) (textsD os) := .lst (.of hl) (dp_textAll h)
theorem eqv_strs : ∀ ns ms : List Str, PyData.eqvAll (ns.map .str) (ms.map .str) = decide (ns = ms)
  | [], [] => rfl
  | [], m :: ms => rfl
  | n :: ns, [] => rfl
  | n :: ns, m :: ms => by
    show ((n == m) && PyData.eqvAll (ns.map .str) (ms.map .str)) = _
    rw [eqv_strs ns ms]
    by_cases h : n = m
    · subst h
      by_cases g : ns = ms
      · subst g
        simp
      · simp [g]
    · simp [h]
theorem eqv_text (ns ms : List Str) : PyData.eqv (textD ns) (textD ms) = decide (ns = ms) := eqv_strs ns ms
theorem any_text (o : List Str) : ∀ os : List (List Str), ((os.map textD).any fun z => PyData.eqv z (textD o)) = decide (o ∈ os)
  | [] => rfl
  | p :: os => by
    rw [List.map_cons, List.any_cons, any_text o os, eqv_text]
    rw [Bool.eq_iff_iff, Bool.or_eq_true, decide_eq_true_iff, decide_eq_true_iff, decide_eq_true_iff, List.mem_cons]
    exact ⟨fun h => h.elim (fun e => .inl e.symm) .inr, fun h => h.elim (fun e => .inl e.symm) .inr⟩
theorem ok_str {z : Str} (h : z.length ≤ 4000 ∧ ∀ c ∈ z.cps.toList, c < 128) : PyData.strOk z = true := by
  unfold PyData.strOk
  rw [Array.all_eq_true']
  intro c hc
  have := h.2 c (by simpa using hc)
  exact decide_eq_true (by omega)
theorem Plain.of_mem {zs os : List Str} (h : Plain zs) (m : ∀ z ∈ os, z ∈ zs) : Plain os := fun z hz => h z (m z hz)
theorem lay_strs : ∀ ns : List Str, Plain ns → PyData.canLayAll0 (ns.map .str) = true
  | [], _ => rfl
  | n :: ns, h => by
    show (PyData.strOk n && PyData.canLayAll0 (ns.map .str)) = true
    rw [lay_strs ns fun z hz => h z (List.mem_cons_of_mem _ hz), ok_str (h n List.mem_cons_self)]
    rfl
theorem depth_strs : ∀ ns : List Str, PyData.depthAll (ns.map .str) = 0
  | [] => rfl
  | n :: ns => by
    show max 0 (PyData.depthAll (ns.map .str)) = 0
    rw [depth_strs ns]
    rfl
theorem lay_text {ns : List Str} (h : Plain ns) : PyData.canLay0 (textD ns) = true := lay_strs ns h
theorem depth_text (ns : List Str) : PyData.depth (textD ns) = 1 := by
  show PyData.depthAll (ns.map .str) + 1 = 1
  rw [depth_strs]
theorem shaped_text {ns : List Str} (h : Plain ns) : SeqAt.shaped (textD ns) = true := by
  unfold SeqAt.shaped
  rw [lay_text h, depth_text]
  rfl
theorem lay_texts : ∀ os : List (List Str), (∀ o ∈ os, Plain o) → PyData.canLayAll0 (os.map textD) = true
  | [], _ => rfl
  | o :: os, h => by
    show (PyData.canLay0 (textD o) && PyData.canLayAll0 (os.map textD)) = true
    rw [lay_texts os fun z hz => h z (List.mem_cons_of_mem _ hz), lay_text (h o List.mem_cons_self)]
    rfl
theorem depth_texts : ∀ os : List (List Str), PyData.depthAll (os.map textD) ≤ 1
  | [] => Nat.zero_le _
  | o :: os => by
    show max (PyData.depth (textD o)) (PyData.depthAll (os.map textD)) ≤ 1
    have := depth_texts os
    rw [depth_text]
    omega
theorem shaped_texts {os : List (List Str)} (h0 : ∀ o ∈ os, Plain o) : SeqAt.shaped (textsD os) = true := by
  unfold SeqAt.shaped
  have h : PyData.canLay0 (textsD os) = true := lay_texts os h0
  have g : PyData.depth (textsD os) ≤ 64 := by
    show PyData.depthAll (os.map textD) + 1 ≤ 64
    have := depth_texts os
    omega
  rw [h, decide_eq_true g]
  rfl
/-- the orders' texts are plain -/
theorem ord_plain {cs : List Nat} (h : Th cs) {o : List Str} (m : o ∈ ords (cs.map letter) cs.length) : Plain o := h.plain.of_mem (ords_item (cs.map letter) cs.length o m).2
theorem pairs_plain {cs : List Nat} (h : Th cs) {ps : List (Str × Str)} (m : ∀ p ∈ ps, p.1 ∈ cs.map letter ∧ p.2 ∈ cs.map letter) : ∀ o ∈ ps.map p2, Plain o := fun o ho => by
  obtain ⟨p, hp, rfl⟩ := List.mem_map.mp ho
  refine h.plain.of_mem fun z hz => ?_
  rcases List.mem_cons.mp hz with rfl | hz
  · exact (m p hp).1
  · rw [List.mem_singleton.mp hz]
    exact (m p hp).2
theorem two_plain {cs : List Nat} (h : Th cs) {a b : Str} (ha : a ∈ cs.map letter) (hb : b ∈ cs.map letter) : Plain [a, b] := h.plain.of_mem fun z hz => by
  rcases List.mem_cons.mp hz with rfl | hz
  · exact ha
  · rw [List.mem_singleton.mp hz]
    exact hb
end Ow

set_option Elab.async false
set_option linter.all false
set_option maxRecDepth 100000
set_option maxHeartbeats 4000000
set_option exponentiation.threshold 3000
namespace Ow
open PySem PySem.Spec PyProof.Rows L2
theorem same_sb {H B H' : Hp} {x : Addr} (s : Same H B) (n : H x = none) (sb : Sb x B H') : Same H H' := fun b o e => sb b o (ne_of_none e n) (s b o e)
theorem AgAt.same {C : Addr} {H H' : Hp} {a : Addr} {zs : List Str} {rs : List (List Int)} (s : Same H H') (h : AgAt C H a zs rs) : AgAt C H' a zs rs := h.tk (Tk.same s)
/-- the issues of the things -/
abbrev issN (cs : List Nat) : List Str := (prs ltS (cs.map letter)).map cat2
section
variable {P : Program} {w : World} {K : PySem.W.Frag} {mg : Str → Option Value} {base : Heap} {C : Addr}
def spOrdAg (C : Addr) : Sp := fun vs H Q _ => ∃ (t : Addr) (cs : List Nat), vs = [.ref t] ∧ H t = some (.tup ((cs.map letter).map V.str)) ∧ Th cs ∧ ∀ H' a, Same H H' → H a = none → AgAt C H' a (issN cs) (sortedO cs.length) → Q (.ref a) H'
theorem ok_ordag {f fN fI fO fR fi : Addr} {fd fdN fdI fdO fdR fdi : FuncData} (F : Fun K "orders_agenda" "orders_agenda" dOrdersAgenda f fd)
    (FN : FnOk P w K mg base CX0 3 fN fdN ["things"] spNeedT) (kN : PySem.W.keepIn K (.ref fN) = true) (bN : Binds K fdN ["things"] []) (gN : mg "_need_things" = some (.ref fN))
    (FI : FnOk P w K mg base CX0 2 fI fdI ["things"] spIssuesOf) (kI : PySem.W.keepIn K (.ref fI) = true) (bI : Binds K fdI ["things"] []) (gI : mg "_issues_of" = some (.ref fI))
    (FO : FnOk P w K mg base CX0 1 fO fdO ["things"] spAllOrd) (kO : PySem.W.keepIn K (.ref fO) = true) (bO : Binds K fdO ["things"] []) (gO : mg "_all_orders" = some (.ref fO))
    (FR : FnOk P w K mg base CX0 2 fR fdR ["things", "order"] (spRow K)) (kR : PySem.W.keepIn K (.ref fR) = true) (bR : Binds K fdR ["things", "order"] []) (gR : mg "_row" = some (.ref fR))
    (M : Mk K C fi) (Fi : FnOk P w K mg base CX0 6 fi fdi ["self", "issues", "rows"] (spInit C)) (bi : Binds K fdi ["self", "issues", "rows"] []) (gC : mg "Agenda" = some (.ref C))
    (mt : mg "tuple" = none) (mo : mg "sorted" = none) : FnOk P w K mg base CX0 8 f fd ["things"] (spOrdAg C) := by
  refine F.ok scOrdAg (fun vs H Q E h => ?_) (fun cdv A outer s H vs Q E hr h => ?_)
  · obtain ⟨t, cs, rfl, _⟩ := h
    rfl
  obtain ⟨t, cs, rfl, ht, th, q⟩ := h
  have hu4 : (A.deeper (envOfC "orders_agenda" (defScope dOrdersAgenda) s.heap.objs.size f cdv)).units + 4 < cLine := by
    have := hr.units
    omega
  refine ⟨_, pss_cons (ps_expr (pe_call FN (hr.mono (by decide)) (by rfl) gN kN bN .nil pass0 (pa_cons (pv 0) pa_nil)))
    (pss_one (ps_ret (pe_make M Fi hr (by rfl) gC bi .nil pass0 (pa_cons (pe_call FI (hr.mono (by decide)) (by rfl) gI kI bI .nil pass0 (pa_cons (pv 0) pa_nil))
      (pa_cons (pe_callTy call_tuple_of (by rfl) mt boot_tup (pa_cons (pe_callB (cr_sortS hu4) (by rfl) mo (by decide +kernel) (pa_cons
        (pe_lc (te := tCall (spRow K) [] E0 (tCons (tVar 0) (tCons (tVar 1) tNil))) (own := [("order", 1)]) (g := gName 1) (tt := tYes) rfl scOrdAg.nd (pi_list (pe_call FO (hr.mono (by decide)) (by rfl) gO kO bO .nil pass0 (pa_cons (pv 0) pa_nil))) (blkOk_by (N := ["things", "order"]) (sc := defScope dOrdersAgenda) (by decide +kernel))
          (fun _ _ _ _ _ => pg_name (i := 1) scOrdAg.nd rfl (Or.inl rfl)) (fun _ _ _ _ _ => pts_nil)
          (fun _ _ _ _ _ => pe_call FR (hr.mono (by decide)) (by rfl) gR kR bR .nil pass0 (pa_cons (pv 0) (pa_cons (pv 1) pa_nil)))) pa_nil)) pa_nil)) pa_nil))))), ?_⟩
  have two := th.two
  have four := th.four
  have l5 : cs.length < 5 := by omega
  have lz : (cs.map letter).length = cs.length := List.length_map _
  refine ⟨.ref t, rfl, t, cs, rfl, ht, th, fun H1 s1 => ?_⟩
  have ht1 := s1 _ _ ht
  refine ⟨.ref t, rfl, t, cs, rfl, ht1, th, fun H2 u s2 hu => ?_⟩
  have ht2 := s2 _ _ ht1
  refine ⟨.ref t, rfl, t, cs.map letter, rfl, ht2, by omega, fun H3 l xs s3 hl ax => ?_⟩
  rw [lz] at ax
  have ht3 := s3 _ _ ht2
  have lx := ax.len
  have lo := ords_len (cs.map letter) (by omega) cs.length (by omega)
  have lrows : (rowsO cs.length).length = (sortedO cs.length).length := (sortedO_perm cs.length l5 two).length_eq.symm
  obtain ⟨so1, _, _, so24, so6, so0⟩ := sortedO_ok cs.length l5 two
  have er := rows_th th
  have lr : xs.length = (rowsO cs.length).length := by rw [lx, ← er, List.length_map]
  refine ⟨l, rfl, ⟨_, .of hl⟩, fun D nD => ?_⟩
  refine lc_map (M := No) (walk_list (K := K) (a := l) (xs := xs)) (by omega) Jg.no nD (fun i Hx y => ∃ o, (ords (cs.map letter) cs.length)[i]? = some o ∧ IsRow Hx y (rowI ltS (cs.map letter) o)) (fun _ _ _ _ tk ⟨o, e, r⟩ => ⟨o, e, r.tk tk⟩) (fun Hx g _ => .of (g.toSame _ _ hl))
    (fun i x Hx Hx' Kk hi g _ hY hK => ?_) (fun Hx ys g _ eD hlen hq => ?_)
  · obtain ⟨rfl, hxi⟩ := hY
    obtain ⟨o, ho, b, rfl, hb⟩ := ax.get hxi
    obtain ⟨_, _, _, f1, f2, f3⟩ := ord_facts th (List.mem_of_getElem? ho)
    refine ⟨rfl, .ref t, rfl, .ref b, rfl, t, b, cs.map letter, o, rfl, g.toSame _ _ ht3, sameT g.toSame hb.sq, by omega, by omega, f2, f3, fun H' p s' r => hK _ _ (Gw.same s') Jg.no ⟨o, ho, r⟩⟩
  have sx := g.toSame
  have rows : All2 (IsRow Hx) ys (rowsO cs.length) := by
    rw [← er]
    refine All2.of_get (by rw [hlen, List.length_map, lx]) fun i y r ey e2 => ?_
    obtain ⟨o, eo, row⟩ := hq i y ey
    rw [List.getElem?_map, eo] at e2
    cases e2
    exact row
  have pm := sortedO_perm cs.length l5 two
  refine ⟨D, ys, _, 5, 6, rfl, .of eD, by omega, allT_of rows, by decide, fun ns m => ?_, .inl fun ns m => ?_, fun zs mss v ht' p2 asc nv => ?_⟩
  · obtain ⟨b1, b2⟩ := so1 ns (pm.mem_iff.mpr m)
    refine ⟨by omega, fun k hk => ?_⟩
    have := List.all_eq_true.mp b1 k hk
    rw [Bool.or_eq_true, decide_eq_true_iff, decide_eq_true_iff] at this
    omega
  · obtain ⟨b1, b2⟩ := so1 ns (pm.mem_iff.mpr m)
    intro z
    rw [z] at b2
    have : (0 : Nat) = pairsN cs.length := b2
    omega
  have e : mss = sortedO cs.length := asc_unique (p2.trans pm.symm) asc (sortedO_asc cs.length l5 two)
  subst e
  have sv : Same Hx (upd Hx v (.lst zs)) := same_new nv
  have rowsV := all_tk (Tk.same sv) (all_ofT ht')
  have ev : upd Hx v (.lst zs) v = some (.lst zs) := upd_same
  generalize upd Hx v (.lst zs) = H5 at sv rowsV ev ⊢
  refine ⟨v, zs, rfl, .inl ⟨.of ev, fun T nT => ?_⟩⟩
  have sT : Same H5 (upd H5 T (.tup zs)) := same_new nT
  have rowsT := all_tk (Tk.same sT) rowsV
  have eT : upd H5 T (.tup zs) T = some (.tup zs) := upd_same
  have sAll : Same H2 (upd H5 T (.tup zs)) := s3.trans (sx.trans (sv.trans sT))
  generalize upd H5 T (.tup zs) = H6 at sT rowsT eT sAll ⊢
  intro x dx nx ndx nex
  have s7 : Same H6 (upd H6 dx (.own x)) := same_new ndx
  have nx7 : upd H6 dx (.own x) x = none := by rw [upd_ne nex.symm]; exact nx
  have s8 : Same H6 (upd (upd H6 dx (.own x)) x (.ins C dx [])) := s7.trans (same_new nx7)
  obtain ⟨i1, i2, i3⟩ := th.issues
  have nx2 : H2 x = none := same_none sAll nx
  refine ⟨x, dx, u, T, issN cs, sortedO cs.length, rfl, upd_same, s8 _ _ (sAll _ _ hu), ⟨T, zs, rfl, s8 _ _ eT, all_tk (Tk.same s8) rowsT⟩, by show (issN cs).length ≤ 60; rw [i2]; omega, i3, i1, ?_, fun H' sb ag => ⟨rfl, ?_⟩⟩
  · rw [i2]
    exact sortedO_right l5 two
  · have s02 := s1.trans s2
    exact q H' x (s02.trans (same_sb (sAll.trans s8) nx2 sb)) (same_none s02 nx2) ag
def spRowOf (K : PySem.W.Frag) : Sp := fun vs H Q _ => ∃ (t u : Addr) (cs : List Nat) (o : List Str), vs = [.ref t, .ref u] ∧ H t = some (.tup ((cs.map letter).map V.str)) ∧ Th cs ∧ SqT K H u (o.map V.str) ∧ o ∈ ords (cs.map letter) cs.length ∧ ∀ H' p, Same H H' → IsRow H' (.ref p) (rowI ltS (cs.map letter) o) → Q (.ref p) H'
theorem ok_rowof {f fN fO fR : Addr} {fd fdN fdO fdR : FuncData} (F : Fun K "row_of" "row_of" dRowOf f fd)
    (FN : FnOk P w K mg base CX0 3 fN fdN ["things"] spNeedT) (kN : PySem.W.keepIn K (.ref fN) = true) (bN : Binds K fdN ["things"] []) (gN : mg "_need_things" = some (.ref fN))
    (FO : FnOk P w K mg base CX0 1 fO fdO ["things"] spAllOrd) (kO : PySem.W.keepIn K (.ref fO) = true) (bO : Binds K fdO ["things"] []) (gO : mg "_all_orders" = some (.ref fO))
    (FR : FnOk P w K mg base CX0 2 fR fdR ["things", "order"] (spRow K)) (kR : PySem.W.keepIn K (.ref fR) = true) (bR : Binds K fdR ["things", "order"] []) (gR : mg "_row" = some (.ref fR)) : FnOk P w K mg base CX0 4 f fd ["things", "order"] (spRowOf K) := by
  refine F.ok scRowOf (fun vs H Q E h => ?_) (fun cdv A outer s H vs Q E hr h => ?_)
  · obtain ⟨t, u, cs, o, rfl, _⟩ := h
    rfl
  obtain ⟨t, u, cs, o, rfl, ht, th, hu, mo, q⟩ := h
  have hu65 : (A.deeper (envOfC "row_of" (defScope dRowOf) s.heap.objs.size f cdv)).units + 65 < cLine := by
    have := hr.un
    omega
  refine ⟨_, pss_cons (ps_expr (pe_call FN (hr.mono (by decide)) (by rfl) gN kN bN .nil pass0 (pa_cons (pv 0) pa_nil)))
    (pss_cons (ps_if (pt_cmpR (op_notInD hu65) (pv 1) (pe_call FO (hr.mono (by decide)) (by rfl) gO kO bO .nil pass0 (pa_cons (pv 0) pa_nil)) (by rfl)) (pss_one ps_never) pss_nil)
    (pss_one (ps_ret (pe_call FR (hr.mono (by decide)) (by rfl) gR kR bR .nil pass0 (pa_cons (pv 0) (pa_cons (pv 1) pa_nil)))))), ?_⟩
  have two := th.two
  have four := th.four
  have lz : (cs.map letter).length = cs.length := List.length_map _
  obtain ⟨_, _, _, f1, f2, f3⟩ := ord_facts th mo
  refine ⟨.ref t, rfl, t, cs, rfl, ht, th, fun H1 s1 => ?_⟩
  refine ⟨.ref u, rfl, .ref t, rfl, t, cs.map letter, rfl, s1 _ _ ht, by omega, fun H2 l xs s2 hl ax => ?_⟩
  rw [lz] at ax
  have s12 := s1.trans s2
  refine ⟨textD o, (ords (cs.map letter) cs.length).map textD, Dp.tup (sameT s12 hu) (dp_strs o), dp_textsF hl ax, shaped_text (ord_plain th mo), shaped_texts (fun _ m => ord_plain th m), _, rfl, ?_⟩
  rw [any_text, decide_eq_true mo]
  refine iteF ?_
  exact ⟨.ref t, rfl, .ref u, rfl, t, u, cs.map letter, o, rfl, s12 _ _ ht, sameT s12 hu, by omega, by omega, f2, f3, fun H' p s' r => q H' p (s12.trans s') r⟩
def spNeedV : Sp := fun vs H Q _ => ∃ (t a : Addr) (cs : List Nat) (ns : List Int), vs = [.ref t, .ref a] ∧ H t = some (.tup ((cs.map letter).map V.str)) ∧ Th cs ∧ H a = some (.tup (ns.map V.int)) ∧ bitsB ns = true ∧ ns.length = pairsN cs.length ∧ ∀ H', Same H H' → Q .non H'
theorem ok_needvalues {f fV fP : Addr} {fd fdV fdP : FuncData} (F : Fun K "_need_values" "_need_values" dNeedValues f fd)
    (FV : FnOk P w K mg base CX0 4 fV fdV ["value", "many"] spHV) (kV : PySem.W.keepIn K (.ref fV) = true) (bV : Binds K fdV ["value", "many"] []) (gV : mg "has_values" = some (.ref fV))
    (FP : FnOk P w K mg base CX0 1 fP fdP ["things"] spPairs) (kP : PySem.W.keepIn K (.ref fP) = true) (bP : Binds K fdP ["things"] []) (gP : mg "_pairs" = some (.ref fP)) (ml : mg "len" = none) : FnOk P w K mg base CX0 5 f fd ["things", "values"] spNeedV := by
  refine F.ok scNeedV (fun vs H Q E h => ?_) (fun cdv A outer s H vs Q E hr h => ?_)
  · obtain ⟨t, a, cs, ns, rfl, _⟩ := h
    rfl
  obtain ⟨t, a, cs, ns, rfl, ht, th, ha, bits, len, q⟩ := h
  refine ⟨_, pss_one (ps_if (pt_not (pt_val (pe_call FV (hr.mono (by decide)) (by rfl) gV kV bV .nil pass0 (pa_cons (pv 1) (pa_cons (pe_callB call_len_seq (by rfl) ml PySem.boot_len (pa_cons (pe_call FP (hr.mono (by decide)) (by rfl) gP kP bP .nil pass0 (pa_cons (pv 0) pa_nil)) pa_nil)) pa_nil))))) (pss_one ps_never) pss_nil), ?_⟩
  have two := th.two
  have four := th.four
  have l5 : cs.length < 5 := by omega
  have lz : (cs.map letter).length = cs.length := List.length_map _
  obtain ⟨_, _, _, _, p6, _⟩ := sortedO_ok cs.length l5 two
  refine ⟨.ref a, rfl, .ref t, rfl, t, cs.map letter, rfl, ht, by omega, fun H1 l xs s1 hl ax => ?_⟩
  have lx : xs.length = pairsN cs.length := by rw [ax.len, prs_th th, List.length_map, prs_len _ l5]
  refine ⟨l, xs, rfl, .inl (.of hl), a, ns, xs.length, rfl, s1 _ _ ha, by omega, bits_small bits, fun H2 s2 => ⟨true, ?_, iteF (q H2 (s1.trans s2))⟩⟩
  rw [bits, decide_eq_true (by omega)]
  rfl
end
end Ow

set_option Elab.async false
set_option linter.all false
set_option maxRecDepth 100000
set_option maxHeartbeats 4000000
set_option exponentiation.threshold 3000
namespace Ow
open PySem PySem.Spec PyProof.Rows L2
theorem scOrderOf : FnScope ["things", "values", "order"] ["things", "values"] (defScope dOrderOf) := ⟨rfl, rfl, rfl, by decide +kernel, rfl, by decide +kernel, by decide +kernel⟩
abbrev ringNm : List Str := ["things", "values", "ahead", "one", "other", "third", "value"]
theorem scRing : FnScope ringNm ["things", "values"] (defScope dRing) := ⟨rfl, rfl, rfl, by decide +kernel, rfl, by decide +kernel, by decide +kernel⟩
theorem find_at {α : Type} {f : α → Bool} : ∀ {l : List α} {i : Nat} {x : α}, (∀ (j : Nat) z, j < i → l[j]? = some z → f z = false) → l[i]? = some x → f x = true → l.find? f = some x
  | [], i, x, _, e, _ => by simp at e
  | a :: l, 0, x, _, e, h => by
    cases e
    rw [List.find?_cons, h]
  | a :: l, i + 1, x, k, e, h => by
    rw [List.find?_cons, k 0 a (Nat.succ_pos _) rfl]
    exact find_at (fun j z hj hz => k (j + 1) z (Nat.succ_lt_succ hj) hz) e h
theorem find_no {α : Type} {f : α → Bool} {l : List α} (k : ∀ (j : Nat) z, l[j]? = some z → f z = false) : l.find? f = none := by
  rw [List.find?_eq_none]
  intro x hx
  obtain ⟨j, hj⟩ := List.mem_iff_getElem?.mp hx
  rw [k j x hj]
  exact Bool.false_ne_true
theorem findSome_at {α β : Type} {f : α → Option β} : ∀ {l : List α} {i : Nat} {x : α} {y : β}, (∀ (j : Nat) z, j < i → l[j]? = some z → f z = none) → l[i]? = some x → f x = some y → l.findSome? f = some y
  | [], i, x, _, _, e, _ => by simp at e
  | a :: l, 0, x, _, _, e, h => by
    cases e
    rw [List.findSome?_cons, h]
  | a :: l, i + 1, x, _, k, e, h => by
    rw [List.findSome?_cons, k 0 a (Nat.succ_pos _) rfl]
    exact findSome_at (fun j z hj hz => k (j + 1) z (Nat.succ_lt_succ hj) hz) e h
theorem findSome_no {α β : Type} {f : α → Option β} {l : List α} (k : ∀ (j : Nat) z, l[j]? = some z → f z = none) : l.findSome? f = none := by
  rw [List.findSome?_eq_none_iff]
  intro x hx
  obtain ⟨j, hj⟩ := List.mem_iff_getElem?.mp hx
  exact k j x hj
def OptT (H : Hp) (v : V) : Option (List Str) → Prop
  | none => v = .non
  | some o => TxtT H v o
abbrev trip3 (r : Str × Str × Str) : List Str := [r.1, r.2.1, r.2.2]
def OptF (H : Hp) (v : V) : Option (List Str) → Prop
  | none => v = .non
  | some o => TxtF H v o
theorem OptF.tk {H H' : Hp} {v : V} {o : Option (List Str)} (t : Tk H H') (h : OptF H v o) : OptF H' v o := by
  cases o with
  | none => exact h
  | some o => exact TxtF.tk t h
def RingT (H : Hp) (v : V) (o : Option (Str × Str × Str)) : Prop := OptT H v (o.map trip3)
theorem OptT.tk {H H' : Hp} {v : V} {o : Option (List Str)} (t : Tk H H') (h : OptT H v o) : OptT H' v o := by
  cases o with
  | none => exact h
  | some o => exact TxtT.tk t h
section
variable {P : Program} {w : World} {K : PySem.W.Frag} {mg : Str → Option Value} {base : Heap} {C : Addr}
def spOrderOf : Sp := fun vs H Q _ => ∃ (t a : Addr) (cs : List Nat) (ns : List Int), vs = [.ref t, .ref a] ∧ H t = some (.tup ((cs.map letter).map V.str)) ∧ Th cs ∧ H a = some (.tup (ns.map V.int)) ∧ bitsB ns = true ∧ ns.length = pairsN cs.length ∧
  ∀ H' v, Same H H' → OptF H' v (ordO ltS (cs.map letter) ns) → Q v H'
theorem ok_orderof {f fN fO fR fV : Addr} {fd fdN fdO fdR fdV : FuncData} (F : Fun K "order_of" "order_of" dOrderOf f fd)
    (FN : FnOk P w K mg base CX0 3 fN fdN ["things"] spNeedT) (kN : PySem.W.keepIn K (.ref fN) = true) (bN : Binds K fdN ["things"] []) (gN : mg "_need_things" = some (.ref fN))
    (FV : FnOk P w K mg base CX0 5 fV fdV ["things", "values"] spNeedV) (kV : PySem.W.keepIn K (.ref fV) = true) (bV : Binds K fdV ["things", "values"] []) (gV : mg "_need_values" = some (.ref fV))
    (FO : FnOk P w K mg base CX0 1 fO fdO ["things"] spAllOrd) (kO : PySem.W.keepIn K (.ref fO) = true) (bO : Binds K fdO ["things"] []) (gO : mg "_all_orders" = some (.ref fO))
    (FR : FnOk P w K mg base CX0 2 fR fdR ["things", "order"] (spRow K)) (kR : PySem.W.keepIn K (.ref fR) = true) (bR : Binds K fdR ["things", "order"] []) (gR : mg "_row" = some (.ref fR)) : FnOk P w K mg base CX0 6 f fd ["things", "values"] spOrderOf := by
  refine F.ok scOrderOf (fun vs H Q E h => ?_) (fun cdv A outer s H vs Q E hr h => ?_)
  · obtain ⟨t, a, cs, ns, rfl, _⟩ := h
    rfl
  obtain ⟨t, a, cs, ns, rfl, ht, th, ha, bits, len, q⟩ := h
  refine ⟨_, pss_cons (ps_expr (pe_call FN (hr.mono (by decide)) (by rfl) gN kN bN .nil pass0 (pa_cons (pv 0) pa_nil)))
    (pss_cons (ps_expr (pe_call FV (hr.mono (by decide)) (by rfl) gV kV bV .nil pass0 (pa_cons (pv 0) (pa_cons (pv 1) pa_nil))))
    (pss_cons (ps_for PassesOwn.never rfl (pi_list (pe_call FO (hr.mono (by decide)) (by rfl) gO kO bO .nil pass0 (pa_cons (pv 0) pa_nil))) (pg_name (i := 2) scOrderOf.nd rfl (.inl rfl))
      (pss_one (ps_if (pt_cmpR (op_eqD hr.units) (pe_call FR (hr.mono (by decide)) (by rfl) gR kR bR .nil pass0 (pa_cons (pv 0) (pa_cons (pv 2) pa_nil))) (pv 1) (nomark _)) (pss_one (ps_ret (pv 2))) pss_nil)))
    (pss_one (ps_ret pe_non)))), ?_⟩
  have two := th.two
  have four := th.four
  have lz : (cs.map letter).length = cs.length := List.length_map _
  refine ⟨.ref t, rfl, t, cs, rfl, ht, th, fun H1 s1 => ⟨.ref t, rfl, .ref a, rfl, t, a, cs, ns, rfl, s1 _ _ ht, th, s1 _ _ ha, bits, len, fun H2 s2 => ?_⟩⟩
  have s12 := s1.trans s2
  refine ⟨.ref t, rfl, t, cs.map letter, rfl, s12 _ _ ht, by omega, fun H3 l xs s3 hl ax => ⟨l, rfl, ⟨_, .of hl⟩, ?_⟩⟩
  have s13 := s12.trans s3
  have lx := ax.len
  refine for_it (walk_list (K := K) (a := l) (xs := xs)) (fun i σ Hx => ∃ y2, σ = [some (.ref t), some (.ref a), y2] ∧ Same H3 Hx ∧ ∀ (j : Nat) o, j < i → (ords (cs.map letter) (cs.map letter).length)[j]? = some o → decide (rowI ltS (cs.map letter) o = ns) = false)
    ⟨none, rfl, fun _ _ e => e, fun _ _ z => nomatch z⟩ (fun i σ Hx _ h => ?_) (fun i x σ Hx Hx' hi h hY => ?_) (fun σ Hx h => ?_)
  · obtain ⟨y2, _, sx, _⟩ := h
    exact .of (sx _ _ hl)
  · obtain ⟨y2, rfl, sx, no⟩ := h
    obtain ⟨rfl, hxi⟩ := hY
    obtain ⟨o, ho, b, rfl, hb⟩ := ax.get hxi
    have hb' := hb.tk (Tk.same sx)
    have mo := List.mem_of_getElem? ho
    rw [lz] at mo
    obtain ⟨_, _, _, f1, f2, f3⟩ := ord_facts th mo
    refine ⟨.ref t, rfl, .ref b, rfl, t, b, cs.map letter, o, rfl, sx _ _ (s13 _ _ ht), hb'.sq, by omega, by omega, f2, f3, fun H' p s' r => ?_⟩
    have hx' := s13.trans (sx.trans s')
    refine ⟨.ref a, rfl, rowD (rowI ltS (cs.map letter) o), rowD ns, dp_row r, dp_row ⟨a, rfl, hx' _ _ ha⟩, shaped_row _, shaped_row _, _, rfl, ?_⟩
    rw [eqv_row]
    cases e : decide (rowI ltS (cs.map letter) o = ns) with
    | true =>
      refine iteT ⟨.ref b, rfl, q _ _ hx' ?_⟩
      have fo : ordO ltS (cs.map letter) ns = some o := find_at no ho e
      rw [fo]
      exact ⟨b, rfl, hb'.tk (Tk.same s')⟩
    | false =>
      refine iteF ⟨_, rfl, sx.trans s', fun j o' hj ho' => ?_⟩
      rcases Nat.lt_or_ge j i with lt | ge
      · exact no j o' lt ho'
      · have : j = i := by omega
        rw [this, ho] at ho'
        cases ho'
        exact e
  · obtain ⟨y2, rfl, sx, no⟩ := h
    refine q _ _ (s13.trans sx) ?_
    have fo : ordO ltS (cs.map letter) ns = none := find_no fun j o ho => no j o (by rw [lx]; exact (List.getElem?_eq_some_iff.mp ho).1) ho
    rw [fo]
    rfl
theorem all_pairs {H : Hp} {xs : List V} {ps : List (Str × Str)} (h : All2 (PairT H) xs ps) : All2 (TxtT H) xs (ps.map p2) := by
  induction h with
  | nil => exact .nil
  | cons r _ ih => exact .cons r ih
theorem mem_pairs {a b : Str} {ps : List (Str × Str)} : [a, b] ∈ ps.map p2 ↔ (a, b) ∈ ps := by
  rw [List.mem_map]
  refine ⟨fun ⟨p, hp, e⟩ => ?_, fun h => ⟨_, h, rfl⟩⟩
  obtain ⟨c, d⟩ := p
  injection e with e1 e2
  injection e2 with e2 _
  have e1 : c = a := e1
  have e2 : d = b := e2
  subst e1 e2
  exact hp
def spRing : Sp := fun vs H Q _ => ∃ (t a : Addr) (cs : List Nat) (ns : List Int), vs = [.ref t, .ref a] ∧ H t = some (.tup ((cs.map letter).map V.str)) ∧ Th cs ∧ H a = some (.tup (ns.map V.int)) ∧ bitsB ns = true ∧ ns.length = pairsN cs.length ∧
  ∀ H' v, Same H H' → RingT H' v (ringO ltS (cs.map letter) ns) → Q v H'
theorem ok_ring {f fN fV fP : Addr} {fd fdN fdV fdP : FuncData} (F : Fun K "ring" "ring" dRing f fd)
    (FN : FnOk P w K mg base CX0 3 fN fdN ["things"] spNeedT) (kN : PySem.W.keepIn K (.ref fN) = true) (bN : Binds K fdN ["things"] []) (gN : mg "_need_things" = some (.ref fN))
    (FV : FnOk P w K mg base CX0 5 fV fdV ["things", "values"] spNeedV) (kV : PySem.W.keepIn K (.ref fV) = true) (bV : Binds K fdV ["things", "values"] []) (gV : mg "_need_values" = some (.ref fV))
    (FP : FnOk P w K mg base CX0 1 fP fdP ["things"] spPairs) (kP : PySem.W.keepIn K (.ref fP) = true) (bP : Binds K fdP ["things"] []) (gP : mg "_pairs" = some (.ref fP)) (mz : mg "zip" = none) : FnOk P w K mg base CX0 6 f fd ["things", "values"] spRing := by
  refine F.ok scRing (fun vs H Q E h => ?_) (fun cdv A outer s H vs Q E hr h => ?_)
  · obtain ⟨t, a, cs, ns, rfl, _⟩ := h
    rfl
  obtain ⟨t, a, cs, ns, rfl, ht, th, ha, bits, len, q⟩ := h
  have hu65 : (A.deeper (envOfC "ring" (defScope dRing) s.heap.objs.size f cdv)).units + 65 < cLine := by
    have := hr.un
    omega
  refine ⟨_, pss_cons (ps_expr (pe_call FN (hr.mono (by decide)) (by rfl) gN kN bN .nil pass0 (pa_cons (pv 0) pa_nil)))
    (pss_cons (ps_expr (pe_call FV (hr.mono (by decide)) (by rfl) gV kV bV .nil pass0 (pa_cons (pv 0) (pa_cons (pv 1) pa_nil))))
    (pss_cons (ps_setLc (i := 2) (te := tIf (tTest (tOp rEq (tVar 6) (tC (.int 1)))) (tTup (tCons (tVar 3) (tCons (tVar 4) tNil))) (tTup (tCons (tVar 4) (tCons (tVar 3) tNil))))
        (own := [("one", 3), ("other", 4), ("value", 6)]) (g := gTup K 2 (gCons (gTup K 2 (gCons (gName 3) (gCons (gName 4) gNil))) (gCons (gName 6) gNil))) (tt := tYes) rfl scRing.nd rfl rfl (sw_true rfl rfl rfl (by decide +kernel))
        (pi_zipK (by rfl) mz (pa_cons (pe_call FP (hr.mono (by decide)) (by rfl) gP kP bP .nil pass0 (pa_cons (pv 0) pa_nil)) (pa_cons (pv 1) pa_nil))) (blkOk_by (N := ringNm) (sc := defScope dRing) (by decide +kernel))
        (fun _ _ _ _ _ => pg_tup rfl (pgs_cons (pg_tup rfl (pgs_cons (pg_name (i := 3) scRing.nd rfl (Or.inl rfl)) (pgs_cons (pg_name (i := 4) scRing.nd rfl (Or.inl rfl)) pgs_nil))) (pgs_cons (pg_name (i := 6) scRing.nd rfl (Or.inl rfl)) pgs_nil)))
        (fun _ _ _ _ _ => pts_nil)
        (fun _ _ _ _ _ => pe_ifExp (pt_cmpR op_eq (pv 6) pe_int (nomark _)) (pe_tup (pa_cons (pv 3) (pa_cons (pv 4) pa_nil))) (pe_tup (pa_cons (pv 4) (pa_cons (pv 3) pa_nil)))))
    (pss_cons (ps_for PassesOwn.never rfl (pi_list (pv 2)) (pg_tup rfl (pgs_cons (pg_name (i := 3) scRing.nd rfl (.inl rfl)) (pgs_cons (pg_name (i := 4) scRing.nd rfl (.inl rfl)) pgs_nil)))
      (pss_one (ps_for PassesOwn.never rfl (pi_tup (pv 0)) (pg_name (i := 5) scRing.nd rfl (.inl rfl))
        (pss_one (ps_if (PW.pt (pw_and (pt_cmpR (op_inD hu65) (pe_tup (pa_cons (pv 4) (pa_cons (pv 5) pa_nil))) (pv 2) (by rfl)) (pw_and1 (pt_cmpR (op_inD hu65) (pe_tup (pa_cons (pv 5) (pa_cons (pv 3) pa_nil))) (pv 2) (by rfl)))))
          (pss_one (ps_ret (pe_tup (pa_cons (pv 3) (pa_cons (pv 4) (pa_cons (pv 5) pa_nil)))))) pss_nil)))))
    (pss_one (ps_ret pe_non))))), ?_⟩
  have two := th.two
  have four := th.four
  have l5 : cs.length < 5 := by omega
  have lz : (cs.map letter).length = cs.length := List.length_map _
  obtain ⟨_, _, _, _, p6, _⟩ := sortedO_ok cs.length l5 two
  refine ⟨.ref t, rfl, t, cs, rfl, ht, th, fun H1 s1 => ⟨.ref t, rfl, .ref a, rfl, t, a, cs, ns, rfl, s1 _ _ ht, th, s1 _ _ ha, bits, len, fun H2 s2 => ?_⟩⟩
  have s12 := s1.trans s2
  refine ⟨.ref t, rfl, t, cs.map letter, rfl, s12 _ _ ht, by omega, fun H3 l xs s3 hl ax => ?_⟩
  have s13 := s12.trans s3
  have lx : xs.length = pairsN cs.length := by rw [ax.len, prs_th th, List.length_map, prs_len _ l5]
  have ha3 := s13 _ _ ha
  refine ⟨.ref a, rfl, .lst, .tup, l, a, xs, ns.map V.int, rfl, .of hl, .of ha3, fun D nD => ?_⟩
  refine lc_map (M := No) (walk_zipK (K := K) (k1 := .lst) (k2 := .tup) (a := l) (b := a) (xs := xs) (ys := ns.map V.int)) (by omega) Jg.no nD (fun i Hx y => ∃ p, (ahead ltS (cs.map letter) ns)[i]? = some p ∧ PairT Hx y p) (fun _ _ _ _ tk ⟨p, e, r⟩ => ⟨p, e, TxtT.tk tk r⟩)
    (fun Hx g _ => ⟨.of (g.toSame _ _ hl), .of (g.toSame _ _ ha3)⟩) (fun i x Hx Hx' Kk hi g _ hY hK => ?_) (fun Hx ys g _ eD hlen hq => ?_)
  · obtain ⟨T, x, y, rfl, nT, rfl, hx, hy⟩ := hY
    have hx : xs[i]? = some x := hx
    have hy : (ns.map V.int)[i]? = some y := hy
    obtain ⟨p, hp, b, rfl, hb⟩ := ax.get hx
    rw [List.getElem?_map] at hy
    cases hv : ns[i]? with
    | none => rw [hv] at hy; cases hy
    | some v =>
      rw [hv] at hy
      cases hy
      have sT := (g.toSame).trans (same_new (o := .tup [.ref b, .int v]) nT)
      have ea : (ahead ltS (cs.map letter) ns)[i]? = some (if v = 1 then p else (p.2, p.1)) := by
        unfold ahead
        rw [List.getElem?_map, List.getElem?_zip_eq_some (z := (p, v)).mpr ⟨hp, hv⟩]
        rfl
      refine ⟨T, _, rfl, .of upd_same, rfl, _, _, rfl, b, _, rfl, .of (sT _ _ hb), rfl, _, _, rfl, _, _, rfl, rfl, _, _, rfl, rfl, rfl, .int v, rfl, rfl, _, rfl, ?_⟩
      have e0 : decide (V.int v = V.int 1) = decide (v = 1) := decide_eq_decide.mpr ⟨fun e => V.int.inj e, fun e => congrArg V.int e⟩
      rw [e0]
      by_cases e : v = 1
      · rw [if_pos e] at ea
        rw [decide_eq_true e]
        exact iteT ⟨.str p.1, rfl, .str p.2, rfl, (by show 2 ≤ sizeLine; decide), fun T2 nT2 => hK _ _ ((Gw.new nT).trans (Gw.new nT2)) Jg.no ⟨_, ea, T2, rfl, upd_same⟩⟩
      · rw [if_neg e] at ea
        rw [decide_eq_false e]
        exact iteF ⟨.str p.2, rfl, .str p.1, rfl, (by show 2 ≤ sizeLine; decide), fun T2 nT2 => hK _ _ ((Gw.new nT).trans (Gw.new nT2)) Jg.no ⟨_, ea, T2, rfl, upd_same⟩⟩
  have sx := g.toSame
  generalize eas : ahead ltS (cs.map letter) ns = as at hq
  have la : as.length = pairsN cs.length := by
    rw [← eas]
    unfold ahead
    rw [List.length_map, List.length_zip, prs_th th, List.length_map, prs_len _ l5]
    omega
  have aD : All2 (PairT Hx) ys as := by
    refine All2.of_get (by rw [hlen, la, List.length_map]; omega) fun i y r ey e2 => ?_
    obtain ⟨p, ep, r'⟩ := hq i y ey
    rw [e2] at ep
    cases ep
    exact r'
  have am : ∀ p ∈ as, p.1 ∈ cs.map letter ∧ p.2 ∈ cs.map letter := fun p hp => by
    rw [← eas] at hp
    unfold ahead at hp
    obtain ⟨x, hx, rfl⟩ := List.mem_map.mp hp
    have m := prs_mem (List.of_mem_zip (show (x.1, x.2) ∈ _ from hx)).1
    split
    · exact m
    · exact ⟨m.2, m.1⟩
  have er : ringO ltS (cs.map letter) ns = as.findSome? (ringIn (cs.map letter) as) := by
    unfold ringO
    rw [eas]
  have s3x := s13.trans sx
  have htx := s3x _ _ ht
  refine ⟨.ref D, rfl, D, rfl, ⟨_, .of eD⟩, ?_⟩
  have ly := aD.len
  refine for_it (walk_list (K := K) (a := D) (xs := ys)) (fun i σ Hy => ∃ y3 y4 y5 y6, σ = [some (.ref t), some (.ref a), some (.ref D), y3, y4, y5, y6] ∧ Same Hx Hy ∧ ∀ (j : Nat) p, j < i → as[j]? = some p → ringIn (cs.map letter) as p = none)
    ⟨none, none, none, none, rfl, fun _ _ e => e, fun _ _ z => nomatch z⟩ (fun i σ Hy _ h => ?_) (fun i x σ Hy Hy' hi h hY => ?_) (fun σ Hy h => ?_)
  · obtain ⟨y3, y4, y5, y6, _, sy, _⟩ := h
    exact .of (sy _ _ eD)
  · obtain ⟨y3, y4, y5, y6, rfl, sy, no⟩ := h
    obtain ⟨rfl, hxi⟩ := hY
    obtain ⟨p, hp, b, rfl, hb⟩ := aD.get hxi
    have hb' := sy _ _ hb
    refine ⟨b, _, rfl, .of hb', rfl, _, _, rfl, _, _, rfl, rfl, ?_⟩
    refine ⟨.ref t, rfl, t, rfl, ⟨_, .of (sy _ _ htx)⟩, ?_⟩
    refine for_it (walk_tup (K := K) (a := t) (xs := (cs.map letter).map V.str)) (fun j σ Hz => ∃ z5, σ = [some (.ref t), some (.ref a), some (.ref D), some (.str p.1), some (.str p.2), z5, y6] ∧ Same Hy' Hz ∧ ∀ (k : Nat) z, k < j → (cs.map letter)[k]? = some z → ¬ ((p.2, z) ∈ as ∧ (z, p.1) ∈ as))
      ⟨y5, rfl, fun _ _ e => e, fun _ _ z => nomatch z⟩ (fun j σ Hz _ h => ?_) (fun j x σ Hz Hz' hj h hY => ?_) (fun σ Hz h => ?_)
    · obtain ⟨z5, _, sz, _⟩ := h
      exact .of (sz _ _ (sy _ _ htx))
    · obtain ⟨z5, rfl, sz, nz⟩ := h
      obtain ⟨rfl, hxj⟩ := hY
      rw [List.getElem?_map] at hxj
      cases hz : (cs.map letter)[j]? with
      | none => rw [hz] at hxj; cases hxj
      | some z =>
        rw [hz] at hxj
        cases hxj
        have syz := sy.trans sz
        have go : ∀ {Hw : Hp}, Same Hz' Hw → ¬ ((p.2, z) ∈ as ∧ (z, p.1) ∈ as) → ∃ z5, [some (.ref t), some (.ref a), some (.ref D), some (V.str p.1), some (.str p.2), some (.str z), y6] = [some (.ref t), some (.ref a), some (.ref D), some (.str p.1), some (.str p.2), z5, y6] ∧ Same Hy' Hw ∧ ∀ (k : Nat) z, k < j + 1 → (cs.map letter)[k]? = some z → ¬ ((p.2, z) ∈ as ∧ (z, p.1) ∈ as) := fun {Hw} sw nn => ⟨_, rfl, sz.trans sw, fun k z' hk hz' => by
          rcases Nat.lt_or_ge k j with lt | ge
          · exact nz k z' lt hz'
          · have : k = j := by omega
            rw [this, hz] at hz'
            cases hz'
            exact nn⟩
        refine ⟨.str p.2, rfl, .str z, rfl, (by show 2 ≤ sizeLine; decide), fun T nT => ⟨.ref D, rfl, ?_⟩⟩
        have sT := same_new (o := .tup [.str p.2, .str z]) nT
        have eT : upd Hz' T (.tup [.str p.2, .str z]) T = some (.tup ([p.2, z].map V.str)) := upd_same
        generalize upd Hz' T (.tup [.str p.2, .str z]) = Hw at sT eT ⊢
        have sDw := syz.trans sT
        have dpD := dp_texts (K := K) (sDw _ _ eD) ((all_pairs aD).imp fun _ _ r => r.tk (Tk.same sDw))
        refine ⟨textD [p.2, z], _, dp_text ⟨T, rfl, eT⟩, dpD, shaped_text (two_plain th (am _ (List.mem_of_getElem? hp)).2 (List.mem_of_getElem? hz)), shaped_texts (pairs_plain th am), _, rfl, ?_⟩
        rw [any_text]
        by_cases m1 : (p.2, z) ∈ as
        · rw [decide_eq_true (mem_pairs.mpr m1)]
          refine iteT ⟨.str z, rfl, .str p.1, rfl, (by show 2 ≤ sizeLine; decide), fun T2 nT2 => ⟨.ref D, rfl, ?_⟩⟩
          have sT2 := same_new (o := .tup [.str z, .str p.1]) nT2
          have eT2 : upd Hw T2 (.tup [.str z, .str p.1]) T2 = some (.tup ([z, p.1].map V.str)) := upd_same
          generalize upd Hw T2 (.tup [.str z, .str p.1]) = Hv at sT2 eT2 ⊢
          have sDv := sDw.trans sT2
          have dpD2 := dp_texts (K := K) (sDv _ _ eD) ((all_pairs aD).imp fun _ _ r => r.tk (Tk.same sDv))
          refine ⟨textD [z, p.1], _, dp_text ⟨T2, rfl, eT2⟩, dpD2, shaped_text (two_plain th (List.mem_of_getElem? hz) (am _ (List.mem_of_getElem? hp)).1), shaped_texts (pairs_plain th am), _, rfl, ?_⟩
          rw [any_text]
          by_cases m2 : (z, p.1) ∈ as
          · rw [decide_eq_true (mem_pairs.mpr m2)]
            refine iteT ⟨.str p.1, rfl, .str p.2, rfl, .str z, rfl, (by show 3 ≤ sizeLine; decide), fun T3 nT3 => ?_⟩
            refine q _ _ (s3x.trans (sDv.trans (same_new nT3))) ?_
            have e1 : ringIn (cs.map letter) as p = some (p.1, p.2, z) := findSome_at (i := j) (x := z) (fun k z' hk hz' => if_neg (nz k z' hk hz')) hz (if_pos ⟨m1, m2⟩)
            rw [er, findSome_at (i := i) (x := p) no hp e1]
            exact ⟨T3, rfl, upd_same⟩
          · rw [decide_eq_false (fun z => m2 (mem_pairs.mp z))]
            exact iteF (go (sT.trans sT2) fun z => m2 z.2)
        · rw [decide_eq_false (fun z => m1 (mem_pairs.mp z))]
          exact iteF (go sT fun z => m1 z.1)
    · obtain ⟨z5, rfl, sz, nz⟩ := h
      refine ⟨_, _, _, _, rfl, sy.trans sz, fun j p' hj hp' => ?_⟩
      rcases Nat.lt_or_ge j i with lt | ge
      · exact no j p' lt hp'
      · have : j = i := by omega
        rw [this, hp] at hp'
        cases hp'
        exact findSome_no fun k z hz => if_neg (nz k z (by rw [List.length_map]; exact (List.getElem?_eq_some_iff.mp hz).1) hz)
  · obtain ⟨y3, y4, y5, y6, rfl, sy, no⟩ := h
    refine q _ _ (s3x.trans sy) ?_
    rw [er, findSome_no fun j p hp => no j p (by rw [ly]; exact (List.getElem?_eq_some_iff.mp hp).1) hp]
    rfl
end
end Ow

set_option Elab.async false
set_option linter.all false
set_option maxRecDepth 100000
set_option maxHeartbeats 4000000
namespace Ow
open PySem PySem.Spec PyProof.Rows L2
/-- a comprehension of one clause with a test: what is kept, item by item -/
theorem lc_grow {J : It} {G : Hp → Prop} {xs : List V} (wk : Walk J xs.length G (YAt xs)) {g : TG} {tt : TT} {te : TE} {vs : List Nat} {σ : L2.St} {H1 : Hp} {D : Addr} {Qd : Hp → Prop}
    {α β : Type} (as : List α) (f : α → Option β) (R : Hp → V → β → Prop) (hR : ∀ {H H' v b}, Tk H H' → R H v b → R H' v b) (la : as.length = xs.length) (few : xs.length ≤ 5000)
    (nD : H1 D = none) (hG : ∀ H, Same H1 H → G H)
    (elt : ∀ (i : Nat) (x : V) (a : α) (H : Hp) (K0 : Hp → Prop) (K1 : V → Hp → Prop), xs[i]? = some x → as[i]? = some a → Same H1 H →
      (∀ H6, Same H H6 → f a = none → K0 H6) → (∀ v H7 c, Same H H7 → f a = some c → R H7 v c → K1 v H7) →
      g x (wipe σ vs) H fun σ2 H2 => wipe σ2 vs = wipe σ vs ∧ tt σ2 H2 fun c H6 => if c = true then te σ2 H6 K1 else K0 H6)
    (hd : ∀ H zs, Same H1 H → H D = some (.lst zs) → All2 (R H) zs (as.filterMap f) → Qd H) :
    ∃ W : Nat → Nat → Hp → Prop, (∃ m, W 0 m (upd H1 D (.lst []))) ∧ ∀ i m H, W i m H →
      (J.stop i H ∧ Qd H) ∨ (J.go i H ∧ ∃ Nx : Hp → Prop, (∀ H', Nx H' → ∃ m', m' < m ∧ W (i + 1) m' H') ∧ ∀ x H', J.yld i H x H' → g x (wipe σ vs) H' fun σ2 H2 => wipe σ2 vs = wipe σ vs ∧ tt σ2 H2 fun b H3 =>
        if b = true then te σ2 H3 fun y H4 => ∃ acc, H4 D = some (.lst acc) ∧ acc.length < sizeLine ∧ Nx (upd H4 D (.lst (acc ++ [y]))) else Nx H3) := by
  let Pv : Nat → Hp → Prop := fun i H => Same H1 H ∧ ∃ zs, H D = some (.lst zs) ∧ All2 (R H) zs ((as.take i).filterMap f)
  refine lc_it wk Pv ⟨same_new nD, [], upd_same, .nil⟩ (fun i H _ h => hG H h.1) (fun i x H H' hi h y => ?_) (fun H h => ?_)
  · obtain ⟨s1, zs, eD, az⟩ := h
    obtain ⟨rfl, hx⟩ := y
    obtain ⟨a, ha⟩ : ∃ a, as[i]? = some a := ⟨as[i], List.getElem?_eq_getElem (by omega)⟩
    have eT : (as.take (i + 1)).filterMap f = (as.take i).filterMap f ++ (f a).toList := by
      rw [List.take_add_one, ha, List.filterMap_append]
      congr 1
    refine elt i x a H' (Pv (i + 1)) _ hx ha s1 (fun H6 s6 e6 => ?_) (fun v H7 c s7 e7 r7 => ?_)
    · refine ⟨s1.trans s6, zs, s6 _ _ eD, ?_⟩
      rw [eT, e6]
      show All2 (R H6) zs (_ ++ [])
      rw [List.append_nil]
      exact az.imp fun _ _ q => hR (Tk.same s6) q
    · have eD7 := s7 _ _ eD
      have lz := az.len
      have lf := List.length_filterMap_le f (as.take i)
      rw [List.length_take] at lf
      refine ⟨zs, eD7, small60 (by omega), fun o ob e => ?_, zs ++ [v], upd_same, ?_⟩
      · rw [upd_ne (ne_of_none e nD)]
        exact s7 _ _ (s1 _ _ e)
      · rw [eT, e7]
        have tk : Tk H7 (upd H7 D (.lst (zs ++ [v]))) := Tk.lst eD7
        exact (az.imp fun _ _ q => hR ((Tk.same s7).trans tk) q).app (.cons (hR tk r7) .nil)
  · obtain ⟨s1, zs, eD, az⟩ := h
    rw [← la, List.take_length] at az
    exact hd H zs s1 eD az
end Ow

set_option Elab.async false
set_option linter.all false
set_option maxRecDepth 100000
set_option maxHeartbeats 4000000
set_option exponentiation.threshold 3000
namespace Ow
open PySem PySem.Spec PyProof.Rows L2
abbrev lprNm : List Str := ["things", "found", "at", "one", "other"]
theorem scLPr : FnScope lprNm ["things"] (defScope dLPairs) := ⟨rfl, rfl, rfl, by decide +kernel, rfl, by decide +kernel, by decide +kernel⟩
abbrev lorNm : List Str := ["things", "found", "turn", "longer", "some", "thing"]
theorem scLOr : FnScope lorNm ["things"] (defScope dLOrders) := ⟨rfl, rfl, rfl, by decide +kernel, rfl, by decide +kernel, by decide +kernel⟩
theorem cut_drop (xs : List V) (k : Nat) (h : k ≤ xs.length) : cutV xs (some (k : Int)) none = xs.drop k := by
  have e : HT.sIx xs.length 0 (some (k : Int)) = k := by rw [HT.sIx_nat, Nat.min_eq_left h]
  unfold cutV
  rw [e]
  show (xs.drop k).take (xs.length - k) = _
  rw [List.take_of_length_le (by rw [List.length_drop]; exact Nat.le_refl _)]
theorem cut_take (xs : List V) (k : Nat) (h : k ≤ xs.length) : cutV xs none (some (k : Int)) = xs.take k := by
  have e : HT.sIx xs.length xs.length (some (k : Int)) = k := by rw [HT.sIx_nat, Nat.min_eq_left h]
  unfold cutV
  rw [e]
  rfl
/-- the first so many things with what stands behind them -/
def lprG (zs : List Str) (i : Nat) : List Str := ((zs.zipIdx.take i).flatMap fun p => (zs.drop (p.2 + 1)).map fun b => (p.1, b)).map cat2
theorem lprG_next {zs : List Str} {i : Nat} {z : Str} (h : zs[i]? = some z) : lprG zs (i + 1) = lprG zs i ++ (zs.drop (i + 1)).map (z ++ ·) := by
  unfold lprG
  have e : zs.zipIdx[i]? = some (z, i) := by
    rw [List.getElem?_zipIdx, h]
    simp
  rw [List.take_add_one, e, List.flatMap_append, List.map_append]
  congr 1
  show List.map cat2 (_ ++ []) = _
  rw [List.append_nil, List.map_map]
  rfl
theorem lprG_all (zs : List Str) : lprG zs zs.length = (lprs zs).map cat2 := by
  unfold lprG lprs
  rw [List.take_of_length_le (by rw [List.length_zipIdx]; exact Nat.le_refl _)]
theorem lprG_len (zs : List Str) (h : zs.length ≤ 8) : ∀ i, i ≤ zs.length → (lprG zs i).length ≤ 8 * i
  | 0, _ => Nat.zero_le _
  | i + 1, hi => by
    have ih := lprG_len zs h i (by omega)
    rw [lprG_next (List.getElem?_eq_getElem (by omega : i < zs.length)), List.length_append, List.length_map, List.length_drop]
    omega
section
variable {P : Program} {w : World} {K : PySem.W.Frag} {mg : Str → Option Value} {base : Heap} {C : Addr}
def spLPr : Sp := fun vs H Q _ => ∃ (t : Addr) (zs : List Str), vs = [.ref t] ∧ H t = some (.tup (zs.map V.str)) ∧ zs.length ≤ 8 ∧ Plain zs ∧ ∀ H' l, Same H H' → H' l = some (.lst (((lprs zs).map cat2).map V.str)) → Q (.ref l) H'
theorem ok_lpairs {f : Addr} {fd : FuncData} (F : Fun K "_law_pairs_of" "_law_pairs_of" dLPairs f fd) (me : mg "enumerate" = none) : FnOk P w K mg base CX0 1 f fd ["things"] spLPr := by
  refine F.ok scLPr (fun vs H Q E h => ?_) (fun cdv A outer s H vs Q E hr h => ?_)
  · obtain ⟨t, zs, rfl, _⟩ := h
    rfl
  obtain ⟨t, zs, rfl, ht, hl, hp, q⟩ := h
  refine ⟨_, pss_cons (ps_set (i := 1) scLPr.nd rfl (.inl rfl) (pe_lst pa_nil))
    (pss_cons (ps_for PassesOwn.never rfl (pi_enumT (by rfl) me (pa_cons (pv 0) pa_nil)) (pg_tup rfl (pgs_cons (pg_name (i := 2) scLPr.nd rfl (.inl rfl)) (pgs_cons (pg_name (i := 3) scLPr.nd rfl (.inr rfl)) pgs_nil)))
      (pss_one (ps_set (i := 1) scLPr.nd rfl (.inl rfl) (pe_op op_cat (pv 1)
        (pe_lc (te := tOp (fun x y H Q => ∃ i j, x = .str i ∧ y = .str j ∧ i.length + j.length ≤ sizeLine ∧ Q (.str (i ++ j)) H) (tVar 3) (tVar 4)) (own := [("other", 4)]) (g := gName 4) (tt := tYes) rfl scLPr.nd (pi_tup (pe_slice sl_tup (pv 0) (po_some (pe_op op_add (pv 2) pe_int)) po_none)) (blkOk_by (N := lprNm) (sc := defScope dLPairs) (by decide +kernel))
          (fun _ _ _ _ _ => pg_name (i := 4) scLPr.nd rfl (Or.inl rfl)) (fun _ _ _ _ _ => pts_nil) (fun _ _ _ _ _ => pe_op op_add_str (pv 3) (pv 4)))))))
    (pss_one (ps_ret (pv 1)))), ?_⟩
  refine ⟨Nat.zero_le _, fun p1 n1 => ⟨.ref t, rfl, t, _, rfl, .of (same_new n1 _ _ ht), ?_⟩⟩
  refine for_it (walk_enumT (K := K) (a := t) (xs := zs.map V.str)) (fun i σ Hx => ∃ L y2 y3 y4, σ = [some (.ref t), some (.ref L), y2, y3, y4] ∧ Same H Hx ∧ Hx L = some (.lst ((lprG zs i).map V.str)))
    ⟨p1, none, none, none, rfl, same_new n1, upd_same⟩ (fun i σ Hx _ h => ?_) (fun i x σ Hx Hx' hi h hY => ?_) (fun σ Hx h => ?_)
  · obtain ⟨L, y2, y3, y4, _, sx, _⟩ := h
    exact .of (sx _ _ ht)
  · obtain ⟨L, y2, y3, y4, rfl, sx, eL⟩ := h
    obtain ⟨T, x, y, rfl, nT, rfl, hx, hy⟩ := hY
    have hx : some (V.int (i : Nat)) = some x := hx
    cases hx
    have hy : (zs.map V.str)[i]? = some y := hy
    rw [List.length_map] at hi
    rw [List.getElem?_map] at hy
    cases hz : zs[i]? with
    | none => rw [hz] at hy; cases hy
    | some z =>
      rw [hz] at hy
      cases hy
      have sT := same_new (o := .tup [.int i, .str z]) nT
      have eL1 := sT _ _ eL
      have ht1 := sT _ _ (sx _ _ ht)
      refine ⟨T, _, rfl, .of upd_same, rfl, _, _, rfl, _, _, rfl, rfl, .ref L, rfl, ?_⟩
      generalize upd Hx T (.tup [.int i, .str z]) = H1 at sT eL1 ht1 ⊢
      refine ⟨.ref t, rfl, .int i, rfl, i, 1, rfl, rfl, i + 1, rfl, t, zs.map V.str, rfl, ht1, fun H2 b s2 hb => ?_⟩
      have ec : cutV (zs.map V.str) (some ((i : Int) + 1)) none = (zs.drop (i + 1)).map V.str := by
        rw [List.map_drop]
        exact cut_drop _ (i + 1) (by rw [List.length_map]; omega)
      rw [ec] at hb
      refine ⟨b, rfl, ⟨_, .of hb⟩, fun D nD => ?_⟩
      refine lc_map (M := No) (walk_tup (K := K) (a := b) (xs := (zs.drop (i + 1)).map V.str)) (by rw [List.length_map, List.length_drop]; omega) Jg.no nD (fun k _ y => ∃ u, (zs.drop (i + 1))[k]? = some u ∧ y = .str (z ++ u)) (fun _ _ _ _ _ h => h) (fun Hy g _ => .of (g.toSame _ _ hb))
        (fun k x Hy Hy' Kk hk g _ hY hK => ?_) (fun Hy ys g _ eD hlen hq => ?_)
      · obtain ⟨rfl, hx⟩ := hY
        rw [List.getElem?_map] at hx
        cases hu : (zs.drop (i + 1))[k]? with
        | none => rw [hu] at hx; cases hx
        | some u =>
          rw [hu] at hx
          cases hx
          have l1 := (hp z (List.mem_of_getElem? hz)).1
          have l2 := (hp u (List.mem_of_mem_drop (List.mem_of_getElem? hu))).1
          refine ⟨rfl, .str z, rfl, .str u, rfl, z, u, rfl, rfl, Nat.le_trans (Nat.add_le_add l1 l2) (by decide), hK _ _ (Gw.same (Same.refl _)) Jg.no ⟨u, hu, rfl⟩⟩
      · have sy := s2.trans g.toSame
        have e : ys = ((zs.drop (i + 1)).map (z ++ ·)).map V.str := by
          rw [List.map_map]
          exact list_eq (f := V.str ∘ (z ++ ·)) hlen (by rw [List.length_map]) hq
        rw [e] at eD
        have lg := lprG_len zs hl i (by omega)
        refine ⟨L, D, _, _, rfl, rfl, sy _ _ eL1, eD, ?_, fun p np => ⟨p, _, _, _, rfl, sx.trans (sT.trans (sy.trans (same_new np))), ?_⟩⟩
        · rw [List.length_map, List.length_map, List.length_map, List.length_drop]
          exact Nat.le_of_lt (small60 (by omega))
        · rw [upd_same, lprG_next hz, List.map_append]
  · obtain ⟨L, y2, y3, y4, rfl, sx, eL⟩ := h
    rw [List.length_map, lprG_all] at eL
    exact ⟨.ref L, rfl, q _ L sx eL⟩
end
end Ow

set_option Elab.async false
set_option linter.all false
set_option maxRecDepth 100000
set_option maxHeartbeats 4000000
set_option exponentiation.threshold 3000
namespace Ow
open PySem PySem.Spec PyProof.Rows L2
theorem scLRow : FnScope ["things", "order", "name"] ["things", "order"] (defScope dLRow) := ⟨rfl, rfl, rfl, by decide +kernel, rfl, by decide +kernel, by decide +kernel⟩
/-- the orders with one thing more, of the first so many -/
def ordG (zs : List Str) (fs : List (List Str)) (j : Nat) : List (List Str) := (fs.take j).flatMap fun o => zs.filterMap fun t => if t ∈ o then none else some (o ++ [t])
theorem ordG_next {zs : List Str} {fs : List (List Str)} {j : Nat} {o : List Str} (h : fs[j]? = some o) : ordG zs fs (j + 1) = ordG zs fs j ++ zs.filterMap fun t => if t ∈ o then none else some (o ++ [t]) := by
  unfold ordG
  rw [List.take_add_one, h, List.flatMap_append]
  congr 1
  show (zs.filterMap fun t => if t ∈ o then none else some (o ++ [t])) ++ [] = _
  rw [List.append_nil]
theorem ordG_len (zs : List Str) (hz : zs.length ≤ 4) (fs : List (List Str)) : ∀ j, (ordG zs fs j).length ≤ 4 * j
  | 0 => Nat.zero_le _
  | j + 1 => by
    have ih := ordG_len zs hz fs j
    cases e : fs[j]? with
    | none =>
      have : ordG zs fs (j + 1) = ordG zs fs j := by
        unfold ordG
        rw [List.take_add_one, e]
        congr 1
        exact List.append_nil _
      rw [this]
      omega
    | some o =>
      have := List.length_filterMap_le (fun t => if t ∈ o then none else some (o ++ [t])) zs
      rw [ordG_next e, List.length_append]
      omega
theorem ordG_all (zs : List Str) (fs : List (List Str)) : ordG zs fs fs.length = ordStep zs fs := by
  unfold ordG ordStep
  rw [List.take_length]
section
variable {P : Program} {w : World} {K : PySem.W.Frag} {mg : Str → Option Value} {base : Heap} {C : Addr}
theorem ok_lorders {f : Addr} {fd : FuncData} (F : Fun K "_law_orders_of" "_law_orders_of" dLOrders f fd) (mr : mg "range" = none) (ml : mg "len" = none) (mls : mg "list" = none) : FnOk P w K mg base CX0 1 f fd ["things"] spAllOrd := by
  refine F.ok scLOr (fun vs H Q E h => ?_) (fun cdv A outer s H vs Q E hr h => ?_)
  · obtain ⟨t, zs, rfl, _⟩ := h
    rfl
  obtain ⟨t, zs, rfl, ht, hl, q⟩ := h
  refine ⟨_, pss_cons (ps_set (i := 1) scLOr.nd rfl (.inl rfl) (pe_lst (pa_cons (pe_tupF pa_nil) pa_nil)))
    (pss_cons (ps_for PassesOwn.never rfl (pi_range1 (by rfl) mr (pa_cons (pe_callB call_len_seq (by rfl) ml PySem.boot_len (pa_cons (pv 0) pa_nil)) pa_nil)) (pg_name (i := 2) scLOr.nd rfl (.inl rfl))
      (pss_cons (ps_set (i := 3) scLOr.nd rfl (.inl rfl) (pe_lst pa_nil))
      (pss_cons (ps_for PassesOwn.never rfl (pi_list (pe_callTy call_list_of (by rfl) mls (by decide +kernel) (pa_cons (pv 1) pa_nil))) (pg_name (i := 4) scLOr.nd rfl (.inr rfl))
        (pss_one (ps_expr (pe_bm PySem.F.plainAttrs_list PySem.F.slot_list_extend PySem.F.type_list_extend mt_extend (pv 3) (pa_cons
          (pe_lc (te := tOp (rTCatF K) (tVar 4) (tTupF (tCons (tVar 5) tNil))) (own := [("thing", 5)]) (g := gName 5) (tt := tTest (tOp (rIn K true) (tVar 5) (tVar 4))) rfl scLOr.nd (pi_tup (pv 0)) (blkOk_by (N := lorNm) (sc := defScope dLOrders) (by decide +kernel))
            (fun _ _ _ _ _ => pg_name (i := 5) scLOr.nd rfl (Or.inl rfl)) (fun _ _ _ _ _ => pts_one (pt_cmpR op_notIn_seq (pv 5) (pv 4) (by rfl))) (fun _ _ _ _ _ => pe_op op_tcatF (pv 4) (pe_tupF (pa_cons (pv 5) pa_nil)))) pa_nil)))))
      (pss_one (ps_set (i := 1) scLOr.nd rfl (.inl rfl) (pv 3))))))
    (pss_one (ps_ret (pv 1)))), ?_⟩
  refine ⟨Nat.zero_le _, fun p1 o1 d1 n1 => ⟨(by show 1 ≤ sizeLine; decide), fun p2 n2 => ?_⟩⟩
  have s1 : Same H (upd H p1 (.frz o1 (.tup []))) := same_new n1
  have s2 := same_new (o := .lst [.ref p1]) n2
  have e1 := s2 p1 (.frz o1 (.tup [])) upd_same
  have ht2 := (s1.trans s2) _ _ ht
  refine ⟨.ref t, rfl, t, _, rfl, .inr (.of ht2), zs.length, by rw [List.length_map], by omega, by omega, ?_⟩
  refine for_it (walk_range (lo := 0) (n := zs.length)) (fun i σ Hx => ∃ L xs y2 y3 y4 y5, σ = [some (.ref t), some (.ref L), y2, y3, y4, y5] ∧ Same H Hx ∧ Hx L = some (.lst xs) ∧ All2 (TxtF Hx) xs (ords zs i))
    ⟨p2, [.ref p1], none, none, none, none, rfl, s1.trans s2, upd_same, .cons ⟨p1, rfl, o1, d1, e1⟩ .nil⟩ (fun i σ Hx _ h => trivial) (fun i x σ Hx Hx' hi h hY => ?_) (fun σ Hx h => ?_)
  · obtain ⟨L, xs, y2, y3, y4, y5, rfl, sx, eL, ax⟩ := h
    obtain ⟨rfl, rfl⟩ := hY
    have lx := ax.len
    have lo := ords_len zs hl i (by omega)
    refine ⟨Nat.zero_le _, fun p3 n3 => ⟨.ref L, rfl, L, xs, rfl, .inl (.of (same_new n3 _ _ eL)), fun M nM => ?_⟩⟩
    have s3 : Same Hx' (upd Hx' p3 (.lst [])) := same_new n3
    have sM := same_new (o := .lst xs) nM
    have eM : upd (upd Hx' p3 (.lst [])) M (.lst xs) M = some (.lst xs) := upd_same
    have e3 := sM p3 (.lst []) upd_same
    have n3M : p3 ≠ M := ne_of_none (show upd Hx' p3 (.lst []) p3 = some (.lst []) from upd_same) nM
    have sxM := s3.trans sM
    generalize upd (upd Hx' p3 (.lst [])) M (.lst xs) = H4 at eM e3 sxM ⊢
    have htM := sxM _ _ (sx _ _ ht)
    have axM := ax.imp fun _ _ r => r.tk (Tk.same sxM)
    refine ⟨M, rfl, ⟨_, .of eM⟩, ?_⟩
    refine for_it (walk_list (K := K) (a := M) (xs := xs)) (fun j σ Hy => ∃ us y4 y5, σ = [some (.ref t), some (.ref L), some (.int (0 + (i : Int))), some (.ref p3), y4, y5] ∧ (∀ b o, b ≠ p3 → H4 b = some o → Hy b = some o) ∧ Hy p3 = some (.lst us) ∧ All2 (TxtF Hy) us (ordG zs (ords zs i) j))
      ⟨[], y4, y5, rfl, fun _ _ _ e => e, e3, .nil⟩ (fun j σ Hy _ h => ?_) (fun j x σ Hy Hy' hj h hY => ?_) (fun σ Hy h => ?_)
    · obtain ⟨us, _, _, _, sy, _⟩ := h
      exact .of (sy _ _ n3M.symm eM)
    · obtain ⟨us, y4, y5, rfl, sy, eU, au⟩ := h
      obtain ⟨rfl, hx⟩ := hY
      obtain ⟨o, ho, b, rfl, hb⟩ := axM.get hx
      have htN : t ≠ p3 := ne_of htM e3 (by intro z; cases z)
      have hty := sy _ _ htN htM
      have tky : Tk H4 Hy' := fun b o n e => sy b o (fun z => by rw [z, e3] at e; cases e; exact n _ rfl) e
      have hb' := hb.tk tky
      refine ⟨.ref p3, rfl, .inl ⟨rfl, _, .of eU⟩, .ref t, rfl, t, rfl, ⟨_, .of hty⟩, fun D nD => ?_⟩
      refine lc_grow (walk_tup (K := K) (a := t) (xs := zs.map V.str)) zs (fun t => if t ∈ o then none else some (o ++ [t])) TxtF (fun t h => h.tk t) (by rw [List.length_map]) (by rw [List.length_map]; omega) nD (fun Hz s => .of (s _ _ hty))
        (fun k x z Hz K0 K1 hx hz sz k0 k1 => ?_) (fun Hz vs sz eD av => ?_)
      · rw [List.getElem?_map, hz] at hx
        cases hx
        have hbz := hb'.tk (Tk.same sz)
        refine ⟨rfl, .str z, rfl, .ref b, rfl, b, _, rfl, .inr hbz.sq, rfl, flat_strs o, _, rfl, ?_⟩
        rw [in_strsD]
        have lo' := (ords_item zs i o (List.mem_of_getElem? ho)).1
        by_cases m : z ∈ o
        · rw [decide_eq_true m]
          exact iteF (k0 _ (Same.refl _) (if_pos m))
        · rw [decide_eq_false m]
          refine iteT ⟨.ref b, rfl, .str z, rfl, (by show 1 ≤ sizeLine; decide), fun T o2 d2 nT => ?_⟩
          have sT := same_new (o := .frz o2 (.tup [.str z])) nT
          refine ⟨b, T, o.map V.str, [.str z], rfl, rfl, sameT sT hbz.sq, ⟨o2, d2, upd_same⟩, by simp, ?_, fun H' p s' fp => k1 _ _ (o ++ [z]) (sT.trans s') (if_neg m) ⟨p, rfl, ?_⟩⟩
          · rw [List.length_map]
            show o.length + 1 ≤ 5000
            omega
          · rw [List.map_append]
            exact fp
      · have lv := av.len
        have lf := List.length_filterMap_le (fun t => if t ∈ o then none else some (o ++ [t])) zs
        have lg := ordG_len zs hl (ords zs i) j
        have lu := au.len
        have eU2 := sz _ _ eU
        refine ⟨p3, D, us, vs, rfl, rfl, eU2, eD, Nat.le_of_lt (small60 (by omega)), us ++ vs, _, _, rfl, fun b o n e => ?_, upd_same, ?_⟩
        · rw [upd_ne n]
          exact sz _ _ (sy b o n e)
        · have tk2 : Tk Hz (upd Hz p3 (.lst (us ++ vs))) := Tk.lst eU2
          rw [ordG_next ho]
          exact (au.imp fun _ _ r => r.tk ((Tk.same sz).trans tk2)).app (av.imp fun _ _ r => r.tk tk2)
    · obtain ⟨us, y4, y5, rfl, sy, eU, au⟩ := h
      rw [lx, ordG_all] at au
      refine ⟨.ref p3, rfl, p3, us, _, _, _, _, rfl, fun b o e => ?_, eU, au⟩
      have e4 := sxM _ _ (sx _ _ e)
      refine sy b o (fun z => ?_) e4
      have : Hx' p3 = some o := sx _ _ (z ▸ e)
      rw [n3] at this
      cases this
  · obtain ⟨L, xs, y2, y3, y4, y5, rfl, sx, eL, ax⟩ := h
    exact ⟨.ref L, rfl, q _ L xs sx eL ax⟩
end
end Ow

set_option Elab.async false
set_option linter.all false
set_option maxRecDepth 100000
set_option maxHeartbeats 4000000
set_option exponentiation.threshold 3000
namespace Ow
open PySem PySem.Spec PyProof.Rows L2
theorem scThings : FnScope ["jug", "least", "found"] ["jug", "least"] (defScope dThings) := ⟨rfl, rfl, rfl, by decide +kernel, rfl, by decide +kernel, by decide +kernel⟩
abbrev ahNm : List Str := ["things", "values", "one", "other", "names"]
theorem scAhead : FnScope ahNm ["things", "values", "one", "other"] (defScope dIsAhead) := ⟨rfl, rfl, rfl, by decide +kernel, rfl, by decide +kernel, by decide +kernel⟩
theorem lprs_th {cs : List Nat} (h : Th cs) : lprs (cs.map letter) = prs ltS (cs.map letter) := by
  have l5 : cs.length < 5 := by have := h.four; omega
  have e := (check_split l5 h.two).2.2
  rw [prs_th h, ← e]
  conv => lhs; rw [th_map]
  exact lprs_map _
theorem pair_letters {cs : List Nat} {p : Str × Str} (h : p ∈ prs ltS (cs.map letter)) : ∃ c d, c ∈ cs ∧ d ∈ cs ∧ p = (letter c, letter d) := by
  obtain ⟨m1, m2⟩ := prs_mem h
  obtain ⟨c, hc, e1⟩ := List.mem_map.mp m1
  obtain ⟨d, hd, e2⟩ := List.mem_map.mp m2
  obtain ⟨a, b⟩ := p
  have e1 : letter c = a := e1
  have e2 : letter d = b := e2
  subst e1 e2
  exact ⟨c, d, hc, hd, rfl⟩
theorem at_idx {o : List Str} {z : Str} (h : z ∈ o) (nd : o.Nodup) : o[o.idxOf z]? = some z ∧ ∀ m, m < o.idxOf z → o[m]? ≠ some z := by
  have l := List.idxOf_lt_length_of_mem h
  refine ⟨by rw [List.getElem?_eq_getElem l, List.getElem_idxOf l], fun m hm e => ?_⟩
  have := idx_of nd e
  omega
/-! ### drawn things -/
def seven : List Nat := [97, 98, 99, 109, 120, 122, 113]
theorem sorted_letters : ∀ cs : List Nat, cs.Nodup → sortedS (cs.map letter) = true → cs.Pairwise (· < ·)
  | [], _, _ => .nil
  | c :: r, nd, h => by
    have nd' := List.nodup_cons.mp nd
    refine List.pairwise_cons.mpr ⟨fun d hd => ?_, ?_⟩
    · have q := risingS_all (r.map letter) (letter c) h (letter d) (List.mem_map.mpr ⟨d, hd, rfl⟩)
      rw [ltCps_eq] at q
      have q2 : ltS (letter d) (letter c) = false := q
      rw [letter_lt] at q2
      have := of_decide_eq_false q2
      have ne : c ≠ d := fun e => nd'.1 (e ▸ hd)
      omega
    · cases r with
      | nil => exact .nil
      | cons x r =>
        have h : risingS (letter c) (letter x :: r.map letter) = true := h
        unfold risingS at h
        rw [Bool.and_eq_true] at h
        exact sorted_letters (x :: r) nd'.2 h.2
theorem perm_strs {ys : List V} {ls : List Str} (h : ys.Perm (ls.map V.str)) : ∃ zs : List Str, ys = zs.map V.str ∧ zs.Perm ls := by
  let g : V → Str := fun v => match v with
    | .str z => z
    | _ => ⟨#[]⟩
  have back : ∀ v ∈ ys, V.str (g v) = v := fun v hv => by
    obtain ⟨z, _, rfl⟩ := List.mem_map.mp (h.mem_iff.mp hv)
    rfl
  refine ⟨ys.map g, ?_, ?_⟩
  · rw [List.map_map]
    conv => lhs; rw [← List.map_id ys]
    exact List.map_congr_left fun v hv => (back v hv).symm
  · have := h.map g
    rw [List.map_map] at this
    have e : ls.map (g ∘ V.str) = ls := by
      conv => rhs; rw [← List.map_id ls]
      exact List.map_congr_left fun _ _ => rfl
    rw [e] at this
    exact this
theorem perm_letters {zs : List Str} {cs : List Nat} (h : zs.Perm (cs.map letter)) : ∃ ds : List Nat, zs = ds.map letter ∧ ds.Perm cs := by
  let g : Str → Nat := fun z => z.cps.toList.headD 0
  have back : ∀ z ∈ zs, letter (g z) = z := fun z hz => by
    obtain ⟨c, _, rfl⟩ := List.mem_map.mp (h.mem_iff.mp hz)
    rfl
  refine ⟨zs.map g, ?_, ?_⟩
  · rw [List.map_map]
    conv => lhs; rw [← List.map_id zs]
    exact List.map_congr_left fun v hv => (back v hv).symm
  · have := h.map g
    rw [List.map_map] at this
    have e : cs.map (g ∘ letter) = cs := by
      conv => rhs; rw [← List.map_id cs]
      exact List.map_congr_left fun _ _ => rfl
    rw [e] at this
    exact this
theorem th_drawn {zs : List Str} {ls : List Str} {k : Nat} (h2 : 2 ≤ k) (h4 : k ≤ 4) (hl : ls.Perm (seven.map letter)) (pm : zs.Perm (ls.take k)) (so : sortedS zs = true) : ∃ cs, zs = cs.map letter ∧ Th cs := by
  obtain ⟨ds, rfl, hd⟩ := perm_letters hl
  rw [← List.map_take] at pm
  obtain ⟨cs, rfl, hc⟩ := perm_letters pm
  have n7 : seven.Nodup := by decide
  have nd := hd.nodup_iff.mpr n7
  have ncs : cs.Nodup := hc.nodup_iff.mpr (nd.sublist (List.take_sublist _ _))
  have l7 := hd.length_eq
  have lc := hc.length_eq
  rw [List.length_take] at lc
  have e7 : seven.length = 7 := rfl
  refine ⟨cs, rfl, sorted_letters cs ncs so, by omega, by omega, fun c m => ?_⟩
  have m7 : c ∈ seven := hd.mem_iff.mp (List.mem_of_mem_take (hc.mem_iff.mp m))
  have all : ∀ c ∈ seven, 97 ≤ c ∧ c ≤ 122 := by decide
  exact all c m7
section
variable {P : Program} {w : World} {K : PySem.W.Frag} {mg : Str → Option Value} {base : Heap} {C : Addr}
def spLRow (K : PySem.W.Frag) : Sp := fun vs H Q _ => ∃ (t u : Addr) (cs : List Nat) (o : List Str), vs = [.ref t, .ref u] ∧ H t = some (.tup ((cs.map letter).map V.str)) ∧ Th cs ∧ FT H u (o.map V.str) ∧ o ∈ ords (cs.map letter) cs.length ∧ ∀ H' p, Same H H' → IsRow H' (.ref p) (rowI ltS (cs.map letter) o) → Q (.ref p) H'
theorem ok_lrow {f fP : Addr} {fd fdP : FuncData} (F : Fun K "_law_row" "_law_row" dLRow f fd) (FP : FnOk P w K mg base CX0 1 fP fdP ["things"] spLPr) (kP : PySem.W.keepIn K (.ref fP) = true) (bP : Binds K fdP ["things"] []) (gP : mg "_law_pairs_of" = some (.ref fP))
    (mt : mg "tuple" = none) (mi : mg "int" = none) : FnOk P w K mg base CX0 2 f fd ["things", "order"] (spLRow K) := by
  refine F.ok scLRow (fun vs H Q E h => ?_) (fun cdv A outer s H vs Q E hr h => ?_)
  · obtain ⟨t, u, cs, o, rfl, _⟩ := h
    rfl
  obtain ⟨t, u, cs, o, rfl, ht, th, hu, mo, q⟩ := h
  refine ⟨_, pss_one (ps_ret (pe_callTy call_tuple_of (by rfl) mt boot_tup (pa_cons
    (pe_lc (te := tCB (fun xs H Q => (∃ i, xs = [V.int i] ∧ Q (.int i) H) ∨ ∃ k, xs = [V.bl k] ∧ Q (.int (if k = true then 1 else 0)) H) (tCons (tOp (rI0 fun i j => .bl (decide (i < j))) (tIdxF K (tVar 1) (tCons (tOp rIxS (tVar 2) (tC (.int 0))) tNil)) (tIdxF K (tVar 1) (tCons (tOp rIxS (tVar 2) (tC (.int 1))) tNil))) tNil)) (own := [("name", 2)]) (g := gName 2) (tt := tYes) rfl scLRow.nd (pi_list (pe_call FP hr (by rfl) gP kP bP .nil pass0 (pa_cons (pv 0) pa_nil))) (blkOk_by (N := ["things", "order", "name"]) (sc := defScope dLRow) (by decide +kernel))
      (fun _ _ _ _ _ => pg_name (i := 2) scLRow.nd rfl (Or.inl rfl)) (fun _ _ _ _ _ => pts_nil)
      (fun _ _ _ _ _ => pe_callTy call_int1 (by rfl) mi boot_int (pa_cons (pe_cmpR op_lt (pe_idxF (pv 1) (pa_cons (pe_ix ix_str (pv 2) pe_int (fun _ _ => rfl)) pa_nil)) (pe_idxF (pv 1) (pa_cons (pe_ix ix_str (pv 2) pe_int (fun _ _ => rfl)) pa_nil)) (nomark _)) pa_nil))) pa_nil))), ?_⟩
  have two := th.two
  have four := th.four
  have l5 : cs.length < 5 := by omega
  have lz : (cs.map letter).length = cs.length := List.length_map _
  obtain ⟨_, _, _, _, p6, _⟩ := sortedO_ok cs.length l5 two
  obtain ⟨_, _, _, f1, f2, f3⟩ := ord_facts th mo
  refine ⟨.ref t, rfl, t, cs.map letter, rfl, ht, by omega, th.plain, fun H1 l s1 hl => ?_⟩
  rw [lprs_th th] at hl
  have lp : (prs ltS (cs.map letter)).length = pairsN cs.length := by rw [prs_th th, List.length_map, prs_len _ l5]
  refine ⟨l, rfl, ⟨_, .of hl⟩, fun D nD => ?_⟩
  refine lc_map (M := No) (walk_list (K := K) (a := l) (xs := ((prs ltS (cs.map letter)).map cat2).map V.str)) (by rw [List.length_map, List.length_map]; omega) Jg.no nD (fun i _ y => ∃ p, (prs ltS (cs.map letter))[i]? = some p ∧ y = .int (if o.idxOf p.1 < o.idxOf p.2 then 1 else 0)) (fun _ _ _ _ _ h => h) (fun Hx g _ => .of (g.toSame _ _ hl))
    (fun i x Hx Hx' Kk hi g _ hY hK => ?_) (fun Hy ys g _ eD hlen hq => ?_)
  · obtain ⟨rfl, hx⟩ := hY
    rw [List.getElem?_map, List.getElem?_map] at hx
    cases hp : (prs ltS (cs.map letter))[i]? with
    | none => rw [hp] at hx; cases hx
    | some p =>
      rw [hp] at hx
      cases hx
      obtain ⟨c, d, hc, hd, rfl⟩ := pair_letters (List.mem_of_getElem? hp)
      have hu' := hu.tk (Tk.same (s1.trans g.toSame))
      obtain ⟨i1, i2⟩ := at_idx (f3 _ (List.mem_map.mpr ⟨c, hc, rfl⟩)) f2
      obtain ⟨j1, j2⟩ := at_idx (f3 _ (List.mem_map.mpr ⟨d, hd, rfl⟩)) f2
      refine ⟨rfl, .ref u, rfl, ⟨u, _, rfl, hu'⟩, .str (cat2 (letter c, letter d)), rfl, cat2 (letter c, letter d), 0, c, rfl, rfl, (by show 2 ≤ sizeLine; decide), rfl, u, o, letter c, o.idxOf (letter c), rfl, rfl, hu'.sq, i1, i2, ?_⟩
      refine ⟨.ref u, rfl, ⟨u, _, rfl, hu'⟩, .str (cat2 (letter c, letter d)), rfl, cat2 (letter c, letter d), 1, d, rfl, rfl, (by show 2 ≤ sizeLine; decide), rfl, u, o, letter d, o.idxOf (letter d), rfl, rfl, hu'.sq, j1, j2, _, _, rfl, rfl, .inr ⟨_, rfl, hK _ _ (Gw.same (Same.refl _)) Jg.no ⟨_, hp, ?_⟩⟩⟩
      show V.int (if decide ((o.idxOf (letter c) : Int) < (o.idxOf (letter d) : Int)) = true then 1 else 0) = V.int (if o.idxOf (letter c) < o.idxOf (letter d) then 1 else 0)
      by_cases e : o.idxOf (letter c) < o.idxOf (letter d)
      · rw [if_pos e, decide_eq_true (by omega : (o.idxOf (letter c) : Int) < (o.idxOf (letter d) : Int))]
        rfl
      · rw [if_neg e, decide_eq_false (by omega : ¬ (o.idxOf (letter c) : Int) < (o.idxOf (letter d) : Int))]
        rfl
  · have e : ys = (rowI ltS (cs.map letter) o).map V.int := by
      unfold rowI
      rw [List.map_map]
      exact list_eq (f := V.int ∘ fun p : Str × Str => if o.idxOf p.1 < o.idxOf p.2 then (1 : Int) else 0) hlen (by rw [List.length_map, List.length_map]) hq
    rw [e] at eD
    exact ⟨D, _, rfl, .inl ⟨.of eD, fun v nv => q _ v (s1.trans (g.toSame.trans (same_new nv))) ⟨v, rfl, upd_same⟩⟩⟩
def spThings : Sp := fun vs H Q _ => ∃ J : Addr, vs = [.ref J, .int 2] ∧ Jug H J ∧ ∀ H' t cs, Sb J H H' → Jug H' J → H' t = some (.tup ((cs.map letter).map V.str)) → Th cs → Q (.ref t) H'
theorem ok_things {f fJ fD : Addr} {fd fdJ fdD : FuncData} (F : Fun K "_law_things" "_law_things" dThings f fd)
    (FJ : FnOk P w K mg base CX0 2 fJ fdJ ["jug", "items"] spJum) (kJ : PySem.W.keepIn K (.ref fJ) = true) (bJ : Binds K fdJ ["jug", "items"] []) (gJ : mg "_law_jumbled" = some (.ref fJ))
    (FD : FnOk P w K mg base CX0 1 fD fdD ["jug", "total"] spDip) (kD : PySem.W.keepIn K (.ref fD) = true) (bD : Binds K fdD ["jug", "total"] []) (gD : mg "_law_dip" = some (.ref fD))
    (mt : mg "tuple" = none) (mo : mg "sorted" = none) : FnOk P w K mg base CX0 3 f fd ["jug", "least"] spThings := by
  refine F.ok scThings (fun vs H Q E h => ?_) (fun cdv A outer s H vs Q E hr h => ?_)
  · obtain ⟨J, rfl, _⟩ := h
    rfl
  obtain ⟨J, rfl, hJ, q⟩ := h
  refine ⟨_, pss_cons (ps_set (i := 2) scThings.nd rfl (.inl rfl) (pe_slice sl_list (pe_call FJ hr (by rfl) gJ kJ bJ .nil pass0 (pa_cons (pv 0) (pa_cons
        (pe_lst (pa_cons pe_str (pa_cons pe_str (pa_cons pe_str (pa_cons pe_str (pa_cons pe_str (pa_cons pe_str (pa_cons pe_str pa_nil)))))))) pa_nil))) po_none
      (po_some (pe_op op_add (pv 1) (pe_call FD (hr.mono (by decide)) (by rfl) gD kD bD .nil pass0 (pa_cons (pv 0) (pa_cons (pe_op op_sub pe_int (pv 1)) pa_nil)))))))
    (pss_one (ps_ret (pe_callTy call_tuple_of (by rfl) mt boot_tup (pa_cons (pe_callB cr_sortedS (by rfl) mo (by decide +kernel) (pa_cons (pv 2) pa_nil)) pa_nil)))), ?_⟩
  refine ⟨.ref J, rfl, (by show 7 ≤ sizeLine; decide), fun p7 n7 => ?_⟩
  have s7 := same_new (o := .lst ((seven.map letter).map V.str)) n7
  have e7 : upd H p7 (.lst ((seven.map letter).map V.str)) p7 = some (.lst ((seven.map letter).map V.str)) := upd_same
  refine ⟨J, .ref p7, (seven.map letter).map V.str, rfl, jug_same s7 hJ, .inl ⟨p7, rfl, jug_none hJ n7, e7⟩, by decide, fun H2 p ys sb2 j2 np hp pm => ?_⟩
  have sb02 : Sb J H H2 := (Sb.same s7).trans sb2
  have np' : upd H p7 (.lst ((seven.map letter).map V.str)) p = none := np
  have pJ : p ≠ J := jug_none (jug_same s7 hJ) np'
  obtain ⟨ls, rfl, hl⟩ := perm_strs pm
  have ll := hl.length_eq
  have e7' : (seven.map letter).length = 7 := rfl
  refine ⟨.int 2, rfl, .ref J, rfl, .int 2, rfl, 5, 2, rfl, rfl, J, 3, rfl, by decide, by decide, j2, fun H3 k sb3 j3 k0 k3 => ?_⟩
  have hp3 := sb3 _ _ pJ hp
  refine ⟨2, k, rfl, rfl, 2 + k, rfl, p, ls.map V.str, rfl, .of hp3, fun T nT => ?_⟩
  obtain ⟨m, rfl⟩ : ∃ m : Nat, k = m := ⟨k.toNat, by omega⟩
  have ec : cutV (ls.map V.str) none (some (2 + (m : Int))) = (ls.take (2 + m)).map V.str := by
    rw [List.map_take]
    exact cut_take _ (2 + m) (by rw [List.length_map]; omega)
  rw [ec]
  refine ⟨.ref T, rfl, T, ls.take (2 + m), rfl, .of upd_same, by rw [List.length_take]; omega, fun zs U p2 so nU => ?_⟩
  obtain ⟨cs, rfl, th⟩ := th_drawn (by omega) (by omega) hl p2 so
  refine ⟨U, _, rfl, .inl ⟨.of upd_same, fun W nW => ?_⟩⟩
  have sT := same_new (o := .lst ((ls.take (2 + m)).map V.str)) nT
  have sU := same_new (o := .lst ((cs.map letter).map V.str)) nU
  have sW := same_new (o := .tup ((cs.map letter).map V.str)) nW
  have sall := sT.trans (sU.trans sW)
  exact q _ W cs (sb02.trans (sb3.trans (.same sall))) (jug_same sall j3) upd_same th
end
end Ow

set_option Elab.async false
set_option linter.all false
set_option maxRecDepth 100000
set_option maxHeartbeats 4000000
set_option exponentiation.threshold 3000
namespace Ow
open PySem PySem.Spec PyProof.Rows L2
theorem cat2_inj {a b c d : Nat} (h : cat2 (letter a, letter b) = cat2 (letter c, letter d)) : a = c ∧ b = d := by
  have e : [a, b] = [c, d] := congrArg (fun z : Str => z.cps.toList) h
  injection e with e1 e2
  injection e2 with e2 _
  exact ⟨e1, e2⟩
/-- where a pair's name stands -/
theorem name_at {cs : List Nat} (h : Th cs) {a b : Str} (m : (a, b) ∈ prs ltS (cs.map letter)) :
    ∃ j, (((prs ltS (cs.map letter)).map cat2).map V.str)[j]? = some (.str (a ++ b)) ∧ (∀ (k : Nat) (z : V), k < j → (((prs ltS (cs.map letter)).map cat2).map V.str)[k]? = some z → eqV z (.str (a ++ b)) = false) ∧ j = (lprs (cs.map letter)).idxOf (a, b) ∧ j < pairsN cs.length := by
  have l5 : cs.length < 5 := by have := h.four; omega
  have lp : (prs ltS (cs.map letter)).length = pairsN cs.length := by rw [prs_th h, List.length_map, prs_len _ l5]
  have l := List.idxOf_lt_length_of_mem m
  have gi : (prs ltS (cs.map letter))[(prs ltS (cs.map letter)).idxOf (a, b)]? = some (a, b) := by rw [List.getElem?_eq_getElem l, List.getElem_idxOf l]
  refine ⟨(prs ltS (cs.map letter)).idxOf (a, b), ?_, fun k z hk hz => ?_, by rw [lprs_th h], by omega⟩
  · rw [List.getElem?_map, List.getElem?_map, gi]
    rfl
  · rw [List.getElem?_map, List.getElem?_map] at hz
    cases hp : (prs ltS (cs.map letter))[k]? with
    | none => rw [hp] at hz; cases hz
    | some p =>
      rw [hp] at hz
      cases hz
      show (cat2 p == a ++ b) = false
      rw [beq_eq_false_iff_ne]
      intro e
      obtain ⟨c, d, _, _, rfl⟩ := pair_letters (List.mem_of_getElem? hp)
      obtain ⟨c', d', _, _, e2⟩ := pair_letters m
      injection e2 with e3 e4
      subst e3 e4
      obtain ⟨e5, e6⟩ := cat2_inj e
      subst e5 e6
      obtain ⟨hk', ek⟩ := List.getElem?_eq_some_iff.mp hp
      have := List.not_of_lt_findIdx (p := fun x => x == (letter c, letter d)) (xs := prs ltS (cs.map letter)) (i := k) hk
      rw [ek] at this
      simp at this
section
variable {P : Program} {w : World} {K : PySem.W.Frag} {mg : Str → Option Value} {base : Heap} {C : Addr}
def spAhead : Sp := fun vs H Q _ => ∃ (t u : Addr) (cs : List Nat) (ns : List Int) (a b : Str), vs = [.ref t, .ref u, .str a, .str b] ∧ H t = some (.tup ((cs.map letter).map V.str)) ∧ Th cs ∧ H u = some (.tup (ns.map V.int)) ∧ ns.length = pairsN cs.length ∧ a ∈ cs.map letter ∧ b ∈ cs.map letter ∧ a ≠ b ∧
  ∀ H', Same H H' → Q (.bl (aheadB ltS (cs.map letter) ns a b)) H'
theorem ok_isahead {f fP : Addr} {fd fdP : FuncData} (F : Fun K "_law_is_ahead" "_law_is_ahead" dIsAhead f fd) (FP : FnOk P w K mg base CX0 1 fP fdP ["things"] spLPr) (kP : PySem.W.keepIn K (.ref fP) = true) (bP : Binds K fdP ["things"] []) (gP : mg "_law_pairs_of" = some (.ref fP)) :
    FnOk P w K mg base CX0 2 f fd ["things", "values", "one", "other"] spAhead := by
  refine F.ok scAhead (fun vs H Q E h => ?_) (fun cdv A outer s H vs Q E hr h => ?_)
  · obtain ⟨t, u, cs, ns, a, b, rfl, _⟩ := h
    rfl
  obtain ⟨t, u, cs, ns, a, b, rfl, ht, th, hu, ln, ma, mb, ne, q⟩ := h
  refine ⟨_, pss_cons (ps_set (i := 4) scAhead.nd rfl (.inl rfl) (pe_call FP hr (by rfl) gP kP bP .nil pass0 (pa_cons (pv 0) pa_nil)))
    (pss_one (ps_ret (pe_ifExp (pt_cmpR op_lt_str (pv 2) (pv 3) (nomark _))
      (pe_cmpR op_eq (pe_ix ix_tup (pv 1) (pe_bm PySem.F.plainAttrs_list PySem.F.slot_list_index PySem.F.type_list_index mt_index (pv 4) (pa_cons (pe_op op_add_str (pv 2) (pv 3)) pa_nil)) (fun _ _ => rfl)) pe_int (nomark _))
      (pe_cmpR op_eq (pe_ix ix_tup (pv 1) (pe_bm PySem.F.plainAttrs_list PySem.F.slot_list_index PySem.F.type_list_index mt_index (pv 4) (pa_cons (pe_op op_add_str (pv 3) (pv 2)) pa_nil)) (fun _ _ => rfl)) pe_int (nomark _))))), ?_⟩
  have two := th.two
  have four := th.four
  have lz : (cs.map letter).length = cs.length := List.length_map _
  have pl := th.plain
  have la := (pl a ma).1
  have lb := (pl b mb).1
  have flat := flat_strs ((prs ltS (cs.map letter)).map cat2)
  refine ⟨.ref t, rfl, t, cs.map letter, rfl, ht, by omega, pl, fun H1 l s1 hl => ?_⟩
  rw [lprs_th th] at hl
  have hu1 := s1 _ _ hu
  have at_ns : ∀ {j : Nat}, j < pairsN cs.length → atI (ns.map V.int) (j : Int) = some (.int (ns.getD j 0)) := fun {j} hj => atI_nat (by
    rw [List.getElem?_map, List.getD_eq_getElem?_getD, List.getElem?_eq_getElem (by omega)]
    rfl)
  have e0 : ∀ x y : Int, decide (V.int x = V.int y) = decide (x = y) := fun x y => decide_eq_decide.mpr ⟨fun e => V.int.inj e, fun e => congrArg V.int e⟩
  refine ⟨.str a, rfl, .str b, rfl, a, b, rfl, rfl, _, rfl, ?_⟩
  cases e : ltS a b with
  | true =>
    have e' : decide (a.cps.toList < b.cps.toList) = true := e
    rw [e']
    have m : (a, b) ∈ prs ltS (cs.map letter) := List.mem_flatMap.mpr ⟨a, ma, List.mem_filterMap.mpr ⟨b, mb, if_pos e⟩⟩
    obtain ⟨j, j1, j2, j3, j4⟩ := name_at th m
    refine iteT ⟨.ref u, rfl, .ref l, rfl, .inl ⟨rfl, _, .of hl⟩, .str a, rfl, .str b, rfl, a, b, rfl, rfl, Nat.le_trans (Nat.add_le_add la lb) (by decide), l, _, .str (a ++ b), j, .str (a ++ b), rfl, rfl, .of hl, rfl, flat, j1, ?_, j2, u, _, (j : Int), .int (ns.getD j 0), rfl, rfl, .of hu1, at_ns j4, rfl, ?_⟩
    · show (a ++ b == a ++ b) = true
      exact beq_self_eq_true _
    · rw [e0]
      have ea : aheadB ltS (cs.map letter) ns a b = decide (ns.getD j 0 = 1) := by
        unfold aheadB
        rw [if_pos e, ← j3]
      rw [← ea]
      exact q H1 s1
  | false =>
    have e' : decide (a.cps.toList < b.cps.toList) = false := e
    rw [e']
    have e2 : ltS b a = true := by
      obtain ⟨c, hc, rfl⟩ := List.mem_map.mp ma
      obtain ⟨d, hd, rfl⟩ := List.mem_map.mp mb
      rw [letter_lt] at e ⊢
      have n : c ≠ d := fun z => ne (by rw [z])
      have := of_decide_eq_false e
      exact decide_eq_true (by omega)
    have m : (b, a) ∈ prs ltS (cs.map letter) := List.mem_flatMap.mpr ⟨b, mb, List.mem_filterMap.mpr ⟨a, ma, if_pos e2⟩⟩
    obtain ⟨j, j1, j2, j3, j4⟩ := name_at th m
    refine iteF ⟨.ref u, rfl, .ref l, rfl, .inl ⟨rfl, _, .of hl⟩, .str b, rfl, .str a, rfl, b, a, rfl, rfl, Nat.le_trans (Nat.add_le_add lb la) (by decide), l, _, .str (b ++ a), j, .str (b ++ a), rfl, rfl, .of hl, rfl, flat, j1, ?_, j2, u, _, (j : Int), .int (ns.getD j 0), rfl, rfl, .of hu1, at_ns j4, rfl, ?_⟩
    · show (b ++ a == b ++ a) = true
      exact beq_self_eq_true _
    · rw [e0]
      have ea : aheadB ltS (cs.map letter) ns a b = decide (ns.getD j 0 = 0) := by
        unfold aheadB
        rw [if_neg (by rw [e]; exact Bool.false_ne_true), ← j3]
      rw [← ea]
      exact q H1 s1
end
end Ow

set_option Elab.async false
set_option linter.all false
set_option maxRecDepth 100000
set_option maxHeartbeats 4000000
/-! sorted(t), t a tuple of texts -/
namespace Ow
open PySem PySem.Spec PyProof.Rows L2
def rSortTS (K : PySem.W.Frag) : List V → Hp → VK → Prop := fun vs H Q => ∃ (a : Addr) (zs : List Str), vs = [.ref a] ∧ SqT K H a (zs.map V.str) ∧ zs.length < 64 ∧ ∀ ys p, ys.Perm zs → sortedS ys = true → H p = none → Q (.ref p) (upd H p (.lst (ys.map V.str)))
theorem cr_sortedTS {X : Cx} : CallR X (.builtin "sorted") (rSortTS X.K) := by
  intro pins s σ H vs us Q I r got
  obtain ⟨a, zs, rfl, hq, few, q⟩ := got
  rw [Vals.ref1 r]
  obtain ⟨its, rv, pl, hz⟩ := I.tuple hq
  have txt : StrsAre its zs := rv.strs
  have many : its.length = zs.length := by rw [← rv.length, List.length_map]
  obtain ⟨o, ho, hc, n, hd⟩ := pl
  refine Calls.call_function_entry PyProof.Rows.kind_sorted PyProof.Rows.plain_sorted PyProof.Rows.entry_sorted (PyProof.Rows.args_sorted1 _) ?_
  unfold Builtin.«sorted»
  refine wpAny_bind (m := checkCount "sorted" 1 1 _) (wpAny_pure ?_)
  refine wpAny_bind (wpAny_collect_seq a (.inr rfl) ho hc hd (fun h' kept => ?_) (by rw [List.size_toArray, many, sizeLine_eq]; omega))
  have I1 : Inv X pins σ H { s with heap := h' } := I.kept (t' := s.toks) kept
  rw [List.toList_toArray]
  refine wpAny_bind (wpAny_newList ?_ (by rw [many, sizeLine_eq]; omega))
  have hoL : (h'.push (seqObj "list" its.toArray 0)).get? h'.objs.size = some (seqObj "list" its.toArray 0) := Heap.get?_push_size _ rfl
  refine wpAny_bind (wpAny_holding (wpAny_call_entry PyProof.Rows.slot_list_sort ⟨_, hoL, rfl⟩ PyProof.Rows.entry_list_sort
    (list_sort_treeK strKind_oneLt (s := { s with heap := h'.push (seqObj "list" its.toArray 0) }) hoL txt.keysOf (fun v₁ v₂ rest e => keyKind_strs (by rw [← e]; exact txt)) (by rw [many]; exact few) fun st' hp hs => ⟨_, rfl, ?_⟩)
    (PyProof.Rows.args_list_sort _)))
  obtain ⟨ys, g1, g2, g3⟩ := sorted_out_str txt hp hs
  obtain ⟨e', he'⟩ := PyProof.Rows.sortedHeap_at (vs := its) (out := (arrOf st').map (·.2)) hoL
  have room : (ys.map V.str).length ≤ sizeLine := by
    rw [List.length_map, g2.length_eq]
    exact Nat.le_trans (Nat.le_of_lt few) (by decide)
  refine wpAny_pure ⟨_, rfl, .ref h'.objs.size, upd H h'.objs.size (.lst (ys.map V.str)), I1.laid (t' := s.toks) (fun b u e => ?_) (Nat.le_refl _)
    (show ObjOk X.prog X.w _ _ _ (.lst (ys.map V.str)) from ⟨room, ((arrOf st').map (·.2)).toList, e', vals_of_strs g1, by rw [Array.toArray_toList]; exact he'⟩), rfl, q ys _ g2 g3 (I1.hok.fresh (Nat.le_refl _))⟩
  have low : b < h'.objs.size := Heap.lt_size e
  rw [PyProof.Rows.sortedHeap_old (Nat.ne_of_lt low) (by rw [size_push']; exact Nat.lt_succ_of_lt low)]
  exact Heap.get?_push_of_some _ e
end Ow

set_option Elab.async false
set_option linter.all false
set_option maxRecDepth 100000
set_option maxHeartbeats 4000000
/-! set(t), t a tuple of unlike texts -/
namespace SN
open PySem PySem.Spec PyProof.Rows SS
section
variable {prog : Program} {w : World} {A : Around} {R : Result → Shared → Prop} {I : Addr} {fp wr : List Addr} {G : Array GenState → Array GenState → Prop} {n : Nat} {P : Nat → Value → Prop} {St : Nat → Shared → Prop}
theorem loopN (W : WalksS prog w A.in1 I fp wr G n P St) (S : Addr) (hSf : S ∉ fp) (xs : List Str) (hsz : xs.length = n) (hn1 : n + 1 < scanBound) (nodup : xs.Nodup)
    (hval : ∀ i v, P i v → ∃ t, v = .str (xs.getD i Str.empty) t) :
    ∀ (k i : Nat) (s : Shared), n - i = k → i ≤ n → St i s →
      s.heap.SetOf (PySem.strKind prog w) S (fun k' => (xs.take i).any (· == k')) i →
      (∀ s', Moved (S :: wr) G s s' → s'.heap.SetOf (PySem.strKind prog w) S (fun k' => (xs.take n).any (· == k')) n → R (.ok (.ret .none)) s') →
      codeAny (model prog w) A (.builtin "set.update.loop" ⟨[.ref S, .ref I], []⟩) R s := by
  have hSw : S ∉ wr := fun h => hSf (W.sub _ h)
  have hsub : ∀ b ∈ wr, b ∈ S :: wr := fun b hb => List.mem_cons_of_mem _ hb
  intro k
  induction k with
  | zero =>
    intro i s hk hi hst hS hR
    have hin : i = n := by omega
    subst hin
    refine codeAny_builtin PyProof.Rows.F.entry_set_update_loop ?_
    rw [Around.under_plainId PyProof.Rows.F.plain_set_update_loop _]
    show wpAny _ A.in1 (pyNext (.ref I) >>= _) _ _ s
    refine wpAny_bind (W.done s _ _ hst fun s' hm => ?_)
    show wpAny _ A.in1 (ret Value.none) _ _ s'
    exact wpAny_pure (hR s' (hm.mono hsub) (by
      obtain ⟨o, es, ep, t, ho, rest⟩ := hS
      exact ⟨o, es, ep, t, hm.heap S _ hSw ho, rest⟩))
  | succ k ih =>
    intro i s hk hi hst hS hR
    have hlt : i < n := by omega
    refine codeAny_builtin PyProof.Rows.F.entry_set_update_loop ?_
    rw [Around.under_plainId PyProof.Rows.F.plain_set_update_loop _]
    show wpAny _ A.in1 (pyNext (.ref I) >>= _) _ _ s
    refine wpAny_bind (W.item i s _ _ hlt hst fun v s' hP hst' hm => ?_)
    obtain ⟨t, rfl⟩ := hval i v hP
    have hS' : s'.heap.SetOf (PySem.strKind prog w) S (fun k' => (xs.take i).any (· == k')) i := by
      obtain ⟨o, es, ep, tb, ho, rest⟩ := hS
      exact ⟨o, es, ep, tb, hm.heap S _ hSw ho, rest⟩
    show wpAny _ A.in1 (holding [Value.str (xs.getD i Str.empty) t] (setAdd S (.str (xs.getD i Str.empty) t)) >>= _) _ _ s'
    refine wpAny_bind (wpAny_holding ?_)
    unfold setAdd
    refine wpAny_holding ?_
    refine wpAny_bind ((PySem.strKind prog w).pyHash (k := xs.getD i Str.empty) (strKind_is _ _ _ _) ?_)
    refine wpAny_setAddHashed_of (knd := PySem.strKind prog w) (s := { s' with toks := s'.toks + 1 }) (strKind_is _ _ _ _) rfl hS' (by omega) fun h' hsb hS2 => ?_
    have hSi : h'.SetOf (PySem.strKind prog w) S (fun k' => (xs.take (i + 1)).any (· == k')) (i + 1) := by
      obtain ⟨hx, gx⟩ : ∃ hx : i < xs.length, xs.getD i Str.empty = xs[i] := ⟨by omega, by
        rw [List.getD_eq_getElem?_getD, List.getElem?_eq_getElem (by omega)]
        rfl⟩
      have fresh : ((xs.take i).any fun q => q == xs[i]) = false := by
        cases bz : (xs.take i).any fun q => q == xs[i] with
        | false => rfl
        | true =>
          obtain ⟨q, mq, eq⟩ := List.any_eq_true.mp bz
          have eq := eq_of_beq eq
          subst eq
          obtain ⟨j, hj, ej⟩ := List.getElem_of_mem mq
          rw [List.length_take] at hj
          rw [List.getElem_take] at ej
          have := List.pairwise_iff_getElem.mp nodup j i (by omega) (by omega) (by omega)
          exact absurd ej this
      rw [gx] at hS2
      refine SetOf_congr hS2 (fun k' => ?_) (by rw [fresh]; rfl)
      rw [List.take_add_one, List.getElem?_eq_getElem hx, List.any_append]
      show ((xs.take i).any (· == k') || decide (k' = xs[i])) = ((xs.take i).any (· == k') || ((xs[i] == k') || false))
      rw [Bool.or_false]
      congr 1
      by_cases e : k' = xs[i]
      · rw [decide_eq_true e, e, beq_self_eq_true]
      · rw [decide_eq_false e, beq_eq_false_iff_ne.mpr fun z => e z.symm]
    refine wpAny_pure ⟨plainId_quiet PyProof.Rows.F.plain_set_update_loop _, ih (i + 1) _ (by omega) hlt (W.frame _ s' _ _ hst' (Nat.le_succ _) fun b hb o e => ?_) hSi fun s'' hm'' hS'' => ?_⟩
    · rw [hsb.2 b (fun h : b = S => hSf (by rw [← h]; exact hb))]; exact e
    · refine hR s'' (Moved.trans W.gtrans ((hm.mono hsub).then_heap (Nat.le_succ _) fun b o hb e => ?_) hm'') hS''
      rw [hsb.2 b (fun h : b = S => hb (by rw [h]; exact List.mem_cons_self))]; exact e
end

section
variable {prog : Program} {w : World} {A : Around} {E : Value → Shared → Prop} {s : Shared}
section
variable {prog : Program} {w : World} {A : Around} {E : Value → Shared → Prop} {s : Shared}
set_option maxHeartbeats 3200000 in
theorem call_set_tupN {l : Addr} {items : Array Value} {xs : List Str} {Q : Value → Shared → Prop}
    (hh : A.handled = none) (hl : s.heap.IsTuple l items) (hi : PyProof.Rows.StrsAre items.toList xs) (hn1 : xs.length + 1 < scanBound) (nodup : xs.Nodup)
    (h : ∀ (h' : Heap) (tk : Nat), h'.SetOf (PySem.strKind prog w) s.heap.objs.size (fun k' => (xs.take items.size).any (· == k')) items.size →
      (∀ b o, b < s.heap.objs.size → s.heap.get? b = some o → h'.get? b = some o) → Q (.ref s.heap.objs.size) { s with heap := h', toks := tk }) :
    wpAny (model prog w) A (call (.type "set") [.ref l]) Q E s := by
  obtain ⟨c, tl, hmro⟩ := PySem.F.called_set.mro
  have hmade := PySem.F.called_set.made
  have hsub := PySem.F.called_set.sub
  refine wpAny_call (codeAny_of_tree ?_)
  show wpAny _ _ (callAny (.type "set") _) _ _ _
  refine wpAny_pure ⟨Code.quiet_builtin _ (by decide +kernel), codeAny_builtin PySem.F.entry_type_call ?_⟩
  rw [Around.under_plain (weight_type_call_type "set" [.ref l] []) rfl]
  have h1 := PySem.F.called_set.notType
  have h2 := PySem.F.called_set.canCreate
  have hct := PySem.F.typeCall_set_1 (.ref l)
  repeat (any_goals (first | assumption | wp_step))

  refine codeAny_mono (code_set_new_1 (.ref l) (E := E) (Q₁ := fun obj s₁ => ∃ led : Bool, obj = .ref s.heap.objs.size ∧ s₁ = { s with heap := s.heap.push { cls := .type "set", dict := none, data := .set #[] 0 (.fresh 0 0 led) } }) fun led => ⟨led, rfl, rfl⟩) fun r s₁ hr => ?_
  cases r with
  | error e => exact hr
  | ok fl =>
    cases fl with
    | ret obj =>
      obtain ⟨led, rfl, rfl⟩ := hr
      have hS : (s.heap.push { cls := .type "set", dict := none, data := .set #[] 0 (.fresh 0 0 led) }).get? s.heap.objs.size = some { cls := .type "set", dict := none, data := .set #[] 0 (.fresh 0 0 led) } := Heap.get?_push_size _ rfl
      have hT : Shared.TypeIs { s with heap := s.heap.push { cls := .type "set", dict := none, data := .set #[] 0 (.fresh 0 0 led) } } (.ref s.heap.objs.size) "set" := ⟨_, hS, rfl⟩
      have hli := PySem.F.called_set.init.lookup
      have hbi := PySem.F.called_set.init.bind (.ref s.heap.objs.size)
      repeat (any_goals (first | assumption | wp_step))

      refine codeAny_mono (codeAny_call_builtin (R := wants (fun r s₂ => r = .none ∧ ∃ h' tk, s₂ = { s with heap := h', toks := tk } ∧
          h'.SetOf (PySem.strKind prog w) s.heap.objs.size (fun k' => (xs.take items.size).any (· == k')) items.size ∧
          (∀ b o, b < s.heap.objs.size → s.heap.get? b = some o → h'.get? b = some o)) E) PySem.F.called_set.init.plain PySem.F.entry_set_init (check_set_init_1 hT ?_)) fun r₂ s₂ hr₂ => ?_
      · obtain ⟨ol, hol, hcl, nl, hdl⟩ := hl
        obtain ⟨ocls, odict, odata, oslots⟩ := ol
        simp only at hcl hdl
        subst hcl; subst hdl
        have hol' : (s.heap.push { cls := .type "set", dict := none, data := .set #[] 0 (.fresh 0 0 led) }).get? l = some { cls := .type "tuple", dict := odict, data := .seq items nl, slots := oslots } := Heap.get?_push_of_some _ hol
        have hsls := PySem.F.sub_tuple_set
        have hslf := PySem.F.sub_tuple_frozenset
        have hne : (Value.type "tuple" == Value.type "dict") = false := by decide
        have hl1 : (s.heap.push { cls := .type "set", dict := none, data := .set #[] 0 (.fresh 0 0 led) }).IsTuple l items := ⟨_, hol', rfl, nl, rfl⟩
        unfold Builtin.«set.__init__» noKeywords Builtin.Frozenset.updateFrom
        generalize hPI : pyIter = PI
        wp_walk
        subst hPI

        refine wpAny_pyIter_tuple hl1 ?_
        refine wpAny_bind (wpAny_runValue ?_)
        have hlS : l < s.heap.objs.size := Heap.lt_size hol
        have hh3 : A.in1.in1.in1.handled = none := by simp [hh]
        have hneI : l ≠ (s.heap.push { cls := .type "set", dict := none, data := .set #[] 0 (.fresh 0 0 led) }).objs.size := by
          rw [Heap.size_push]; exact Nat.ne_of_lt (Nat.lt_succ_of_lt hlS)
        have hSf : s.heap.objs.size ∉ [(s.heap.push { cls := .type "set", dict := none, data := .set #[] 0 (.fresh 0 0 led) }).objs.size, l] := by
          rw [Heap.size_push]; simp only [List.mem_cons, List.mem_singleton, List.not_mem_nil, or_false, not_or]
          exact ⟨Nat.ne_of_lt (Nat.lt_succ_self _), Nat.ne_of_gt hlS⟩
        have hsz : xs.length = items.size := by rw [← StrsAre.len_eq hi, Array.length_toList]
        have hval : ∀ (i : Nat) (v : Value), items[i]? = some v → ∃ t, v = .str (xs.getD i Str.empty) t := fun i v hv => strs_at hi i v (by rw [Array.getElem?_toList]; exact hv)
        refine loopN ((Walks.tuple hh3 _ l hneI items).toS) s.heap.objs.size
          hSf xs hsz (by rw [← hsz]; exact hn1) nodup hval (items.size - 0) 0 _ (by omega) (Nat.zero_le _)
          ⟨⟨_, Heap.get?_push_size _ rfl, rfl, rfl⟩, (hl1.push _)⟩ ?hS0 ?hR
        case hS0 =>
          have hget : ((s.heap.push { cls := .type "set", dict := none, data := .set #[] 0 (.fresh 0 0 led) }).push { cls := .type "tuple_iterator", data := .fields #[.ref l, .int 0 0] }).get? s.heap.objs.size
              = some { cls := .type "set", dict := none, data := .set #[] 0 (.fresh 0 0 led) } := Heap.get?_push_of_some _ hS
          exact PyProof.Rows.SetOf_congr ((PyProof.Rows.setObjOf_fresh (knd := PySem.strKind prog w) led).setOf hget (by unfold scanBound; omega)) (fun _ => rfl) rfl
        case hR =>
          intro s' hm hS'
          obtain ⟨h', g', d', tk', os'⟩ := s'
          have eg : g' = s.gens := hm.gens
          have ed : d' = s.drawn := hm.drawn
          have eo : os' = s.os := hm.os
          subst eg; subst ed; subst eo
          show wpAny _ _ _ _ _ _
          refine wpAny_pure ?_
          show wpAny _ _ (ret Value.none) _ _ _
          refine wpAny_pure ⟨rfl, h', tk', rfl, hS', fun b o hb e => ?_⟩
          have hb1 : b ≠ s.heap.objs.size := Nat.ne_of_lt hb
          have hb2 : b ≠ (s.heap.push { cls := .type "set", dict := none, data := .set #[] 0 (.fresh 0 0 led) }).objs.size := by
            rw [Heap.size_push]; exact Nat.ne_of_lt (Nat.lt_succ_of_lt hb)
          exact hm.heap b o (by simp only [List.mem_cons, List.mem_singleton, List.not_mem_nil, or_false, not_or]; exact ⟨hb1, hb2⟩) (Heap.get?_push_of_some _ (Heap.get?_push_of_some _ e))

      · cases r₂ with
        | error e => exact hr₂
        | ok fl₂ =>
          cases fl₂ with
          | ret r =>
            obtain ⟨rfl, h', tk, rfl, hS', hk'⟩ := hr₂
            repeat (any_goals (first | assumption | wp_step))
            exact h _ _ hS' hk'
          | _ => exact hr₂.elim
    | _ => exact hr.elim

end

end
end SN
namespace Ow
open PySem PySem.Spec PyProof.Rows L2
/-- len(set(t)), t a tuple of unlike texts -/
def tLenSetN (K : PySem.W.Frag) (ta : TE) : TE := fun σ H Q => ta σ H fun x H1 => ∃ (l : Addr) (zs : List Str), x = .ref l ∧ SqT K H1 l (zs.map V.str) ∧ zs.Nodup ∧ zs.length ≤ 1000 ∧ Q (.int zs.length) H1
theorem pe_lenSetN {X : Cx} {a : Expr} {ta : TE} {p p2 q pos : Pos} (calm : X.calm = true) (gl : Gl X "len") (ml : X.mg "len" = none) (gs : Gl X "set") (ms : X.mg "set" = none) (ha : PE X a ta)
    (na : starEach [a] X.env = (false, eval a X.env) :: starEach [] X.env := by rfl) : PE X (.Call (.Name "len" p) [.Call (.Name "set" p2) [a] [] q] [] pos) (tLenSetN X.K ta) := by
  refine ⟨fun pins s σ H Q I h => Call_ (ld_blt I gl ml boot_len ?_)⟩
  refine PyProof.Rows.callWith_builtin1 (PyProof.Rows.args_cons (Call_ (ld_blt I gs ms boot_set ?_)) rfl) rfl rfl
  refine PyProof.Rows.callWith_type1 (PyProof.Rows.args_cons (thn (ha.run pins s σ H _ I h) fun v s1 got => PyProof.Rows.args_nil ?_) na) na rfl
  obtain ⟨x, H1, I1, r1, l, zs, rfl, hq, nd, few, q1⟩ := got
  cases r1
  obtain ⟨its, r, pl, _⟩ := I1.tuple hq
  have many : its.toArray.size = zs.length := by rw [List.size_toArray, ← r.length, List.length_map]
  refine SN.call_set_tupN (I1.ok.hd calm) pl (by simpa using strsAre_of r) (by unfold scanBound; omega) nd fun h' tk made kept => ?_
  rw [many] at made
  obtain ⟨o, es, ep, t, ho, hex, hd, _, _, _, hf, hn⟩ := made
  have I2 : Inv X pins σ H1 { s1 with heap := h', toks := tk } := I1.kept fun b o e => kept b o (Heap.lt_size e) e
  exact PyProof.Rows.args_nil (call_len_set ho hex hd hf (by rw [hn] <;> omega) ⟨.int zs.length, H1, I2.tok _, ⟨_, by rw [hn]⟩, q1⟩)
end Ow

set_option Elab.async false
set_option linter.all false
set_option maxRecDepth 100000
set_option maxHeartbeats 4000000
set_option exponentiation.threshold 3000
namespace Ow
open PySem PySem.Spec PyProof.Rows L2
abbrev trNm : List Str := ["things", "values", "rows", "told", "order", "one", "other", "last", "found"]
theorem scTR : FnScope trNm ["things", "values", "rows"] (defScope dTupleRight) := ⟨rfl, rfl, rfl, by decide +kernel, rfl, by decide +kernel, by decide +kernel⟩
theorem par_read {i j : Nat} {ta tb : TE} {r : TS} {D : Ends} {σ : L2.St} {H : Hp} (h : ta σ H fun x H1 => tb σ H1 fun y H2 => ∃ v w, [x, y] = [v, w] ∧ r D ((σ.set i (some v)).set j (some w)) H2) :
    tSeq (tPar i j (tCons ta (tCons tb tNil))) r D σ H := h
/-! ### what is told of a tuple of values -/
theorem ord_perm : ∀ n < 5, ∀ o ∈ ords (allF n) n, o.Perm (allF n) := by decide +kernel
theorem sorted_th : ∀ cs : List Nat, cs.Pairwise (· < ·) → sortedS (cs.map letter) = true
  | [], _ => rfl
  | [c], _ => rfl
  | c :: d :: r, p => by
    have ih := sorted_th (d :: r) (List.pairwise_cons.mp p).2
    have l := (List.pairwise_cons.mp p).1 d List.mem_cons_self
    have ih : risingS (letter d) (r.map letter) = true := ih
    show risingS (letter c) (letter d :: r.map letter) = true
    unfold risingS
    rw [ih, Bool.and_true, ltCps_eq]
    have q : ltS (letter d) (letter c) = decide (d < c) := letter_lt d c
    have q : decide ((letter d).cps.toList < (letter c).cps.toList) = decide (d < c) := q
    rw [q, decide_eq_false (by omega)]
    rfl
theorem rowsO_mem {n : Nat} (h : n < 5) (h2 : 2 ≤ n) {vs : List Int} : (rowsO n).contains vs = true ↔ vs ∈ sortedO n := by
  rw [List.contains_iff_mem]
  exact (sortedO_perm n h h2).mem_iff.symm
theorem tuple_facts {cs : List Nat} (th : Th cs) {ns : List Int} (m : ns ∈ rowsN (pairsN cs.length)) :
    (ringO ltS (cs.map letter) ns = none ∧ ns ∈ sortedO cs.length ∧ ∃ o, ordO ltS (cs.map letter) ns = some o ∧ o ∈ ords (cs.map letter) cs.length ∧ rowI ltS (cs.map letter) o = ns ∧ o.Perm (cs.map letter)) ∨
    (∃ a b c, ringO ltS (cs.map letter) ns = some (a, b, c) ∧ ns ∉ sortedO cs.length ∧ ordO ltS (cs.map letter) ns = none ∧ a ∈ cs.map letter ∧ b ∈ cs.map letter ∧ c ∈ cs.map letter ∧ a ≠ b ∧ b ≠ c ∧ a ≠ c ∧
      aheadB ltS (cs.map letter) ns a b = true ∧ aheadB ltS (cs.map letter) ns b c = true ∧ aheadB ltS (cs.map letter) ns c a = true) := by
  have l5 : cs.length < 5 := by have := th.four; omega
  obtain ⟨c1, c2⟩ := check_val l5 th.two m
  have er : ringO ltS (cs.map letter) ns = (ringO ltF (allF cs.length) ns).map (tripF (thF cs)) := by
    conv => lhs; rw [th_map]
    exact ringO_map th.inj th.mono _ _
  have eo : ordO ltS (cs.map letter) ns = (ordO ltF (allF cs.length) ns).map (List.map (thF cs)) := by
    conv => lhs; rw [th_map]
    exact ordO_map th.inj th.mono _ _
  have ea : ∀ a b, aheadB ltS (cs.map letter) ns (thF cs a) (thF cs b) = aheadB ltF (allF cs.length) ns a b := fun a b => by
    conv => lhs; rw [th_map]
    exact aheadB_map th.inj th.mono _ _ _ _
  have mem : ∀ i : Fin cs.length, thF cs i ∈ cs.map letter := fun i => List.mem_map.mpr ⟨cs[i], List.getElem_mem i.2, rfl⟩
  cases hr : ringO ltF (allF cs.length) ns with
  | none =>
    rw [hr] at c1 er
    have ms := (rowsO_mem l5 th.two).mp c1
    refine .inl ⟨er, ms, ?_⟩
    cases ho : ordO ltF (allF cs.length) ns with
    | none =>
      rw [ho] at c2
      have c1 : (rowsO cs.length).contains ns = true := c1
      have c2 : (!(rowsO cs.length).contains ns) = true := c2
      rw [c1] at c2
      cases c2
    | some o =>
      rw [ho] at c2 eo
      have c2 : ((rowsO cs.length).contains ns && decide (rowI ltF (allF cs.length) o = ns)) = true := c2
      rw [Bool.and_eq_true, decide_eq_true_iff] at c2
      have mo : o ∈ ords (allF cs.length) cs.length := by
        unfold ordO at ho
        have := List.mem_of_find?_eq_some ho
        rw [List.length_finRange] at this
        exact this
      refine ⟨o.map (thF cs), eo, ?_, ?_, ?_⟩
      · rw [ords_th th]
        exact List.mem_map.mpr ⟨o, mo, rfl⟩
      · rw [row_th th]
        exact c2.2
      · rw [th_map]
        exact (ord_perm _ l5 o mo).map _
  | some t =>
    obtain ⟨a, b, c⟩ := t
    rw [hr] at c1 er
    have c1 : (!(rowsO cs.length).contains ns && (decide (a ≠ b) && (decide (b ≠ c) && (decide (a ≠ c) && (aheadB ltF (allF cs.length) ns a b && (aheadB ltF (allF cs.length) ns b c && aheadB ltF (allF cs.length) ns c a)))))) = true := c1
    rw [Bool.and_eq_true, Bool.and_eq_true, Bool.and_eq_true, Bool.and_eq_true, Bool.and_eq_true, Bool.and_eq_true, decide_eq_true_iff, decide_eq_true_iff, decide_eq_true_iff] at c1
    obtain ⟨n0, n1, n2, n3, a1, a2, a3⟩ := c1
    have n0' : (rowsO cs.length).contains ns = false := by
      cases q : (rowsO cs.length).contains ns with
      | false => rfl
      | true => rw [q] at n0; cases n0
    refine .inr ⟨thF cs a, thF cs b, thF cs c, er, fun z => ?_, ?_, mem a, mem b, mem c, fun e => n1 (th.inj _ _ e), fun e => n2 (th.inj _ _ e), fun e => n3 (th.inj _ _ e), by rw [ea]; exact a1, by rw [ea]; exact a2, by rw [ea]; exact a3⟩
    · rw [(rowsO_mem l5 th.two).mpr z] at n0'
      cases n0'
    · cases ho : ordO ltF (allF cs.length) ns with
      | none => rw [eo, ho]; rfl
      | some o =>
        rw [ho] at c2
        have c2 : ((rowsO cs.length).contains ns && decide (rowI ltF (allF cs.length) o = ns)) = true := c2
        rw [n0'] at c2
        cases c2
/-! ### rows in a list, as data -/
theorem any_rows (r : List Int) : ∀ rs : List (List Int), ((rs.map rowD).any fun z => PyData.eqv z (rowD r)) = decide (r ∈ rs)
  | [] => rfl
  | p :: rs => by
    rw [List.map_cons, List.any_cons, any_rows r rs, eqv_row]
    rw [Bool.eq_iff_iff, Bool.or_eq_true, decide_eq_true_iff, decide_eq_true_iff, decide_eq_true_iff, List.mem_cons]
    exact ⟨fun h => h.elim (fun e => .inl e.symm) .inr, fun h => h.elim (fun e => .inl e.symm) .inr⟩
theorem shaped_rowsL (rs : List (List Int)) : SeqAt.shaped (.list (rs.map rowD)) = true := by
  unfold SeqAt.shaped
  have h : PyData.canLay0 (.list (rs.map rowD)) = true := lay_alls rs
  have g : PyData.depth (.list (rs.map rowD)) ≤ 64 := by
    show PyData.depthAll (rs.map rowD) + 1 ≤ 64
    have := depth_alls rs
    omega
  rw [h, decide_eq_true g]
  rfl
theorem shaped_strsL {zs : List Str} (h : Plain zs) : SeqAt.shaped (.list (zs.map .str)) = true := by
  unfold SeqAt.shaped
  have a : PyData.canLay0 (.list (zs.map .str)) = true := lay_strs zs h
  have g : PyData.depth (.list (zs.map .str)) ≤ 64 := by
    show PyData.depthAll (zs.map .str) + 1 ≤ 64
    rw [depth_strs]
    decide
  rw [a, decide_eq_true g]
  rfl
end Ow

set_option Elab.async false
set_option linter.all false
set_option maxRecDepth 100000
set_option maxHeartbeats 4000000
set_option exponentiation.threshold 3000
namespace Ow
open PySem PySem.Spec PyProof.Rows L2
section
variable {P : Program} {w : World} {K : PySem.W.Frag} {mg : Str → Option Value} {base : Heap} {C : Addr}
def spTR : Sp := fun vs H Q _ => ∃ (t u R : Addr) (cs : List Nat) (ns : List Int) (xs : List V), vs = [.ref t, .ref u, .ref R] ∧ H t = some (.tup ((cs.map letter).map V.str)) ∧ Th cs ∧ H u = some (.tup (ns.map V.int)) ∧ ns ∈ rowsN (pairsN cs.length) ∧ bitsB ns = true ∧ H R = some (.lst xs) ∧ All2 (IsRow H) xs (sortedO cs.length) ∧
  ∀ H', Same H H' → Q (.bl true) H'
theorem ok_tupleright {f fG fO fL fA : Addr} {fd fdG fdO fdL fdA : FuncData} (F : Fun K "_law_tuple_right" "_law_tuple_right" dTupleRight f fd)
    (FG : FnOk P w K mg base CX0 6 fG fdG ["things", "values"] spRing) (kG : PySem.W.keepIn K (.ref fG) = true) (bG : Binds K fdG ["things", "values"] []) (gG : mg "ring" = some (.ref fG))
    (FO : FnOk P w K mg base CX0 6 fO fdO ["things", "values"] spOrderOf) (kO : PySem.W.keepIn K (.ref fO) = true) (bO : Binds K fdO ["things", "values"] []) (gO : mg "order_of" = some (.ref fO))
    (FL : FnOk P w K mg base CX0 2 fL fdL ["things", "order"] (spLRow K)) (kL : PySem.W.keepIn K (.ref fL) = true) (bL : Binds K fdL ["things", "order"] []) (gL : mg "_law_row" = some (.ref fL))
    (FA : FnOk P w K mg base CX0 2 fA fdA ["things", "values", "one", "other"] spAhead) (kA : PySem.W.keepIn K (.ref fA) = true) (bA : Binds K fdA ["things", "values", "one", "other"] []) (gA : mg "_law_is_ahead" = some (.ref fA))
    (mo : mg "sorted" = none) (mls : mg "list" = none) (mi : mg "isinstance" = none) (mt : mg "tuple" = none) (ml : mg "len" = none) (ms : mg "set" = none) : FnOk P w K mg base CX0 7 f fd ["things", "values", "rows"] spTR := by
  refine F.ok scTR (fun vs H Q E h => ?_) (fun cdv A outer s H vs Q E hr h => ?_)
  · obtain ⟨t, u, R, cs, ns, xs, rfl, _⟩ := h
    rfl
  obtain ⟨t, u, R, cs, ns, xs, rfl, ht, th, hu, mn, bits, hR, aR, q⟩ := h
  have hu65 : (A.deeper (envOfC "_law_tuple_right" (defScope dTupleRight) s.heap.objs.size f cdv)).units + 65 < cLine := by
    have := hr.un
    omega
  refine ⟨_, pss_cons (ps_par (i := 3) (j := 4) (by rfl) scTR.nd rfl rfl (by decide) rfl rfl (pa_cons (pe_call FG hr (by rfl) gG kG bG .nil pass0 (pa_cons (pv 0) (pa_cons (pv 1) pa_nil))) (pa_cons (pe_call FO hr (by rfl) gO kO bO .nil pass0 (pa_cons (pv 0) (pa_cons (pv 1) pa_nil))) pa_nil)) (by rfl))
    (pss_cons (ps_if (PW.pt (pw_or (pt_cmpR op_ne (pe_cmpR op_isN (pv 3) pe_non (nomark _)) (pe_cmpR (op_inD hu65) (pv 1) (pv 2) (by rfl)) (nomark _))
        (pw_or1 (pt_cmpR op_ne (pe_cmpR op_isN (pv 4) pe_non (nomark _)) (pe_cmpR op_notN (pv 3) pe_non (nomark _)) (nomark _))))) (pss_one ps_never) pss_nil)
    (pss_cons (ps_if (pt_cmpR op_isN (pv 3) pe_non (nomark _))
        (pss_one (ps_ret (pe_and (pe_cmpR (op_eqD hr.units) (pe_call FL (hr.mono (by decide)) (by rfl) gL kL bL .nil pass0 (pa_cons (pv 0) (pa_cons (pv 4) pa_nil))) (pv 1) (nomark _))
          (pe_one (pe_cmpR (op_eqD hr.units) (pe_callB cr_sortedTS (by rfl) mo (by decide +kernel) (pa_cons (pv 4) pa_nil)) (pe_callTy (call_listA rfl) (by rfl) mls (by decide +kernel) (pa_cons (pv 0) pa_nil)) (nomark _)))))) pss_nil)
    (pss_cons (ps_if (PW.pt (pw_or (pt_not (pt_val (pe_isi (T := "tuple") (by rfl) mi (pv 3) (by rfl) mt boot_tup)))
        (pw_or (pt_cmpR op_ne (pe_callB call_len_seq (by rfl) ml PySem.boot_len (pa_cons (pv 3) pa_nil)) pe_int (nomark _))
        (pw_or (pt_cmpR (op_neD hr.units) (pe_lc (te := tVar 5) (own := [("one", 5)]) (g := gName 5) (tt := tTest (tOp (rIn K true) (tVar 5) (tVar 0))) rfl scTR.nd (pi_tup (pv 3)) (blkOk_by (N := trNm) (sc := defScope dTupleRight) (by decide +kernel))
            (fun _ _ _ _ _ => pg_name (i := 5) scTR.nd rfl (Or.inl rfl)) (fun _ _ _ _ _ => pts_one (pt_cmpR op_notIn_seq (pv 5) (pv 0) (by rfl))) (fun _ _ _ _ _ => pv 5)) (pe_lst pa_nil) (nomark _))
        (pw_or1 (pt_cmpR op_ne (pe_lenSetN rfl (by rfl) ml (by rfl) ms (pv 3)) pe_int (nomark _))))))) (pss_one ps_never) pss_nil)
    (pss_cons (ps_asg (pv 3) (pg_tup rfl (pgs_cons (pg_name (i := 5) scTR.nd rfl (.inl rfl)) (pgs_cons (pg_name (i := 6) scTR.nd rfl (.inl rfl)) (pgs_cons (pg_name (i := 7) scTR.nd rfl (.inl rfl)) pgs_nil)))))
    (pss_cons (ps_set (i := 8) scTR.nd rfl (.inl rfl) (pe_lst (pa_cons (pe_call FA (hr.mono (by decide)) (by rfl) gA kA bA .nil pass0 (pa_cons (pv 0) (pa_cons (pv 1) (pa_cons (pv 5) (pa_cons (pv 6) pa_nil)))))
        (pa_cons (pe_call FA (hr.mono (by decide)) (by rfl) gA kA bA .nil pass0 (pa_cons (pv 0) (pa_cons (pv 1) (pa_cons (pv 6) (pa_cons (pv 7) pa_nil))))) pa_nil))))
    (pss_one (ps_ret (pe_cmpR (op_eqD hr.units) (pe_op op_cat (pv 8) (pe_lst (pa_cons (pe_call FA (hr.mono (by decide)) (by rfl) gA kA bA .nil pass0 (pa_cons (pv 0) (pa_cons (pv 1) (pa_cons (pv 7) (pa_cons (pv 5) pa_nil))))) pa_nil)))
        (pe_op op_rep (pe_lst (pa_cons pe_bl pa_nil)) pe_int) (nomark _))))))))), ?red⟩
  case red =>
  have two := th.two
  have four := th.four
  have l5 : cs.length < 5 := by omega
  have lz : (cs.map letter).length = cs.length := List.length_map _
  have len := rowsN_size (pairsN cs.length) ns mn
  refine par_read ?_
  refine ⟨.ref t, rfl, .ref u, rfl, t, u, cs, ns, rfl, ht, th, hu, bits, len, fun H1 v1 s1 r1 => ?_⟩
  refine ⟨.ref t, rfl, .ref u, rfl, t, u, cs, ns, rfl, s1 _ _ ht, th, s1 _ _ hu, bits, len, fun H2 v2 s2 r2 => ⟨v1, v2, rfl, ?_⟩⟩
  have s12 := s1.trans s2
  have r1 : RingT H2 v1 (ringO ltS (cs.map letter) ns) := OptT.tk (Tk.same s2) r1
  have ht2 := s12 _ _ ht
  have hu2 := s12 _ _ hu
  have aR2 := all_tk (Tk.same s12) aR
  have dpR : Dp K H2 (.ref R) (.list ((sortedO cs.length).map rowD)) := .lst (.of (s12 _ _ hR)) (dp_all aR2)
  refine ⟨v1, rfl, rfl, .ref u, rfl, .ref R, rfl, rowD ns, (sortedO cs.length).map rowD, dp_row ⟨u, rfl, hu2⟩, dpR, shaped_row ns, shaped_rowsL _, rfl, _, rfl, ?_⟩
  rw [any_rows]
  rcases tuple_facts th mn with ⟨f1, f2, o, f3, f4, f5, f6⟩ | ⟨a, b, c, f1, f2, f3, ma, mb, mc, n1, n2, n3, a1, a2, a3⟩
  · rw [f1] at r1
    rw [f3] at r2
    have r1 : v1 = .non := r1
    subst r1
    obtain ⟨p, rfl, fp⟩ : TxtF H2 v2 o := r2
    rw [decide_eq_true f2]
    refine iteF ⟨.ref p, rfl, rfl, .non, rfl, rfl, rfl, _, rfl, iteF ?_⟩
    refine ⟨.non, rfl, rfl, _, rfl, iteT ?_⟩
    obtain ⟨_, _, _, g1, g2, g3⟩ := ord_facts th f4
    refine ⟨.ref t, rfl, .ref p, rfl, t, p, cs, o, rfl, ht2, th, fp, f4, fun H3 p3 s3 r3 => ?_⟩
    rw [f5] at r3
    refine ⟨.ref u, rfl, rowD ns, rowD ns, dp_row r3, dp_row ⟨u, rfl, s3 _ _ hu2⟩, shaped_row _, shaped_row _, true, ?_, iteT ?_⟩
    · rw [eqv_row, decide_eq_true rfl]
    refine ⟨.ref p, rfl, p, o, rfl, (fp.tk (Tk.same s3)).sq, by omega, fun ys L pm so nL => ?_⟩
    have e : ys = cs.map letter := sorted_unique (pm.trans f6) (pm.nodup_iff.mpr g2) so (sorted_th cs th.asc)
    subst e
    have sL := same_new (o := .lst ((cs.map letter).map V.str)) nL
    have eL : upd H3 L (.lst ((cs.map letter).map V.str)) L = some (.lst ((cs.map letter).map V.str)) := upd_same
    generalize upd H3 L (.lst ((cs.map letter).map V.str)) = H4 at sL eL ⊢
    refine ⟨.ref t, rfl, .inl ⟨t, _, rfl, .inr (.of (sL _ _ (s3 _ _ ht2))), fun M nM => ?_⟩⟩
    have sM := same_new (o := .lst ((cs.map letter).map V.str)) nM
    refine ⟨.list ((cs.map letter).map .str), .list ((cs.map letter).map .str), .lst (.of (sM _ _ eL)) (dp_strs _), .lst (.of upd_same) (dp_strs _), shaped_strsL th.plain, shaped_strsL th.plain, ?_⟩
    have e2 : PyData.eqv (.list ((cs.map letter).map .str)) (.list ((cs.map letter).map .str)) = true := by
      show PyData.eqvAll ((cs.map letter).map .str) ((cs.map letter).map .str) = true
      rw [eqv_strs, decide_eq_true rfl]
    rw [e2]
    exact q _ (s12.trans (s3.trans (sL.trans sM)))
  · rw [f1] at r1
    rw [f3] at r2
    have r2 : v2 = .non := r2
    subst r2
    obtain ⟨p, rfl, fp⟩ : TxtT H2 v1 [a, b, c] := r1
    rw [decide_eq_false f2]
    refine iteF ⟨.non, rfl, rfl, .ref p, rfl, rfl, rfl, _, rfl, iteF ?_⟩
    refine ⟨.ref p, rfl, rfl, _, rfl, iteF ?_⟩
    refine isi_at "tuple" rfl (.base (.tup fp)) (b := true) (by decide +kernel) ⟨true, rfl, iteF ?_⟩
    refine ⟨.ref p, rfl, p, _, rfl, .inr (.of fp), rfl, _, rfl, iteF ?_⟩
    refine ⟨.ref p, rfl, p, rfl, ⟨_, .of fp⟩, fun D nD => ?_⟩
    refine lc_grow (α := Str) (β := Str) (walk_tup (K := K) (a := p) (xs := [a, b, c].map V.str)) [a, b, c] (fun _ => none) (fun _ _ _ => True) (fun _ _ => trivial) rfl (by show 3 ≤ 5000; decide) nD (fun Hz s => .of (s _ _ fp))
      (fun k x z Hz K0 K1 hx hz sz k0 k1 => ?_) (fun Hz zs sz eD az => ?_)
    · rw [List.getElem?_map, hz] at hx
      cases hx
      have mz : z ∈ cs.map letter := by
        have := List.mem_of_getElem? hz
        rcases List.mem_cons.mp this with rfl | this
        · exact ma
        · rcases List.mem_cons.mp this with rfl | this
          · exact mb
          · rw [List.mem_singleton.mp this]
            exact mc
      refine ⟨rfl, .str z, rfl, .ref t, rfl, t, _, rfl, .inr (.of (sz _ _ ht2)), rfl, flat_strs _, _, rfl, ?_⟩
      rw [in_strsD, decide_eq_true mz]
      exact iteF (k0 _ (Same.refl _) rfl)
    have ez : zs = [] := List.length_eq_zero_iff.mp az.len
    subst ez
    refine ⟨Nat.zero_le _, fun L nL => ?_⟩
    have sL := same_new (o := .lst []) nL
    refine ⟨.list [], .list [], .lst (.of (sL _ _ eD)) .nil, .lst (.of upd_same) .nil, rfl, rfl, _, rfl, iteF ?_⟩
    have s3 := s12.trans (sz.trans sL)
    have ht3 := s3 _ _ ht
    have hu3 := s3 _ _ hu
    have fp3 := (sz.trans sL) _ _ fp
    generalize upd Hz L (.lst []) = H3 at s3 ht3 hu3 fp3 ⊢
    have nd3 : [a, b, c].Nodup := by
      rw [List.nodup_cons, List.nodup_cons, List.mem_cons, List.mem_singleton, List.mem_singleton]
      exact ⟨fun h => h.elim n1 n3, n2, List.nodup_cons.mpr ⟨by simp, List.nodup_nil⟩⟩
    refine ⟨.ref p, rfl, p, [a, b, c], rfl, .of fp3, nd3, by show 3 ≤ 1000; decide, rfl, _, rfl, iteF ?_⟩
    refine ⟨.ref p, rfl, p, _, rfl, .of fp3, rfl, _, _, rfl, _, _, rfl, _, _, rfl, rfl, ?_⟩
    refine ⟨.ref t, rfl, .ref u, rfl, .str a, rfl, .str b, rfl, t, u, cs, ns, a, b, rfl, ht3, th, hu3, len, ma, mb, n1, fun H4 s4 => ?_⟩
    refine ⟨.ref t, rfl, .ref u, rfl, .str b, rfl, .str c, rfl, t, u, cs, ns, b, c, rfl, s4 _ _ ht3, th, s4 _ _ hu3, len, mb, mc, n2, fun H5 s5 => ?_⟩
    have s35 := s4.trans s5
    refine ⟨(by show 2 ≤ sizeLine; decide), fun L1 nL1 => ?_⟩
    have sL1 := same_new (o := .lst [.bl (aheadB ltS (cs.map letter) ns a b), .bl (aheadB ltS (cs.map letter) ns b c)]) nL1
    have eL1 : upd H5 L1 (.lst [.bl (aheadB ltS (cs.map letter) ns a b), .bl (aheadB ltS (cs.map letter) ns b c)]) L1 = some (.lst [.bl true, .bl true]) := by rw [upd_same, a1, a2]
    generalize upd H5 L1 (.lst [.bl (aheadB ltS (cs.map letter) ns a b), .bl (aheadB ltS (cs.map letter) ns b c)]) = H6 at sL1 eL1 ⊢
    have s36 := s35.trans sL1
    refine ⟨.ref L1, rfl, .ref t, rfl, .ref u, rfl, .str c, rfl, .str a, rfl, t, u, cs, ns, c, a, rfl, s36 _ _ ht3, th, s36 _ _ hu3, len, mc, ma, fun e => n3 e.symm, fun H7 s7 => ?_⟩
    refine ⟨(by show 1 ≤ sizeLine; decide), fun L2 nL2 => ?_⟩
    have sL2 := same_new (o := .lst [.bl (aheadB ltS (cs.map letter) ns c a)]) nL2
    have eL2 : upd H7 L2 (.lst [.bl (aheadB ltS (cs.map letter) ns c a)]) L2 = some (.lst [.bl true]) := by rw [upd_same, a3]
    have eL1' := sL2 _ _ (s7 _ _ eL1)
    generalize upd H7 L2 (.lst [.bl (aheadB ltS (cs.map letter) ns c a)]) = H8 at sL2 eL2 eL1' ⊢
    refine ⟨L1, L2, _, _, rfl, rfl, eL1', eL2, (by show 3 ≤ sizeLine; decide), fun L3 nL3 => ?_⟩
    have sL3 := same_new (o := .lst ([V.bl true, .bl true] ++ [.bl true])) nL3
    have eL3 : upd H8 L3 (.lst ([V.bl true, .bl true] ++ [.bl true])) L3 = some (.lst [.bl true, .bl true, .bl true]) := upd_same
    generalize upd H8 L3 (.lst ([V.bl true, .bl true] ++ [.bl true])) = H9 at sL3 eL3 ⊢
    refine ⟨(by show 1 ≤ sizeLine; decide), fun L4 nL4 => ?_⟩
    have sL4 := same_new (o := .lst [.bl true]) nL4
    have eL4 : upd H9 L4 (.lst [.bl true]) L4 = some (.lst [.bl true]) := upd_same
    have eL3' := sL4 _ _ eL3
    generalize upd H9 L4 (.lst [.bl true]) = H10 at sL4 eL4 eL3' ⊢
    refine ⟨L4, 3, _, rfl, rfl, eL4, by decide, by decide, (by show 1 * 3 ≤ sizeLine; decide), fun L5 nL5 => ?_⟩
    have sL5 := same_new (o := .lst (List.replicate (3 : Int).toNat [V.bl true]).flatten) nL5
    refine ⟨.list [.bool true, .bool true, .bool true], .list [.bool true, .bool true, .bool true], .lst (.of (sL5 _ _ eL3')) (.cons (.bl _) (.cons (.bl _) (.cons (.bl _) .nil))), .lst (.of upd_same) (.cons (.bl _) (.cons (.bl _) (.cons (.bl _) .nil))), rfl, rfl, ?_⟩
    have e3 : PyData.eqv (.list [.bool true, .bool true, .bool true]) (.list [.bool true, .bool true, .bool true]) = true := by decide +kernel
    rw [e3]
    exact q _ (s3.trans (s36.trans (s7.trans (sL2.trans (sL3.trans (sL4.trans sL5))))))
end
end Ow

set_option Elab.async false
set_option linter.all false
set_option maxRecDepth 100000
set_option maxHeartbeats 4000000
set_option exponentiation.threshold 3000
namespace Ow
open PySem PySem.Spec PyProof.Rows L2
/-! ### data whose text fits -/
structure Fit (d : PyData) (k w : Nat) : Prop where
  sh : d.showable = true
  nd : d.hasDict = false
  dp : d.depth ≤ k
  ln : d.shown.length ≤ w
theorem Fit.mono {d : PyData} {k w k' w' : Nat} (h : Fit d k w) (hk : k ≤ k') (hw : w ≤ w') : Fit d k' w' := ⟨h.sh, h.nd, Nat.le_trans h.dp hk, Nat.le_trans h.ln hw⟩
theorem shAll (ds : List PyData) : PyData.shownAll ds = ds.map PyData.shown := by
  induction ds with
  | nil => rfl
  | cons d ds ih => rw [List.map_cons, ← ih]; rfl
theorem sumLe {α : Type} {f : α → Nat} {c : Nat} : ∀ {xs : List α}, (∀ x ∈ xs, f x ≤ c) → (xs.map f).sum ≤ c * xs.length
  | [], _ => by simp
  | x :: xs, h => by
    rw [List.map_cons, List.sum_cons, List.length_cons, Nat.mul_succ]
    have a := h x List.mem_cons_self
    have b := sumLe (xs := xs) fun y hy => h y (List.mem_cons_of_mem _ hy)
    omega
theorem fitAll {k w : Nat} : ∀ {ds : List PyData}, (∀ d ∈ ds, Fit d k w) → PyData.showableAll ds = true ∧ PyData.hasDictAll ds = false ∧ PyData.depthAll ds ≤ k
  | [], _ => ⟨rfl, rfl, Nat.zero_le _⟩
  | d :: ds, h => by
    obtain ⟨a, b, c⟩ := fitAll fun e he => h e (List.mem_cons_of_mem _ he)
    have hd := h d List.mem_cons_self
    refine ⟨?_, ?_, ?_⟩
    · show (PyData.showable d && PyData.showableAll ds) = true
      rw [hd.sh, a]
      rfl
    · show (PyData.hasDict d || PyData.hasDictAll ds) = false
      rw [hd.nd, b]
      rfl
    · show max (PyData.depth d) (PyData.depthAll ds) ≤ k
      have := hd.dp
      omega
theorem Fit.list {ds : List PyData} {k w : Nat} (h : ∀ d ∈ ds, Fit d k w) : Fit (.list ds) (k + 1) ((w + 2) * ds.length + 3) := by
  obtain ⟨a, b, c⟩ := fitAll h
  refine ⟨a, b, Nat.succ_le_succ c, ?_⟩
  have e : (PyData.list ds).shown = listText (PyData.shownAll ds) := rfl
  rw [e, shAll]
  have := listText_len_le (ds.map PyData.shown)
  rw [List.map_map, List.length_map] at this
  have s := sumLe (f := (fun s : Str => s.length) ∘ PyData.shown) (c := w) (xs := ds) fun d hd => (h d hd).ln
  have m : (w + 2) * ds.length = w * ds.length + 2 * ds.length := Nat.add_mul _ _ _
  omega
theorem Fit.tuple {ds : List PyData} {k w : Nat} (h : ∀ d ∈ ds, Fit d k w) : Fit (.tuple ds) (k + 1) ((w + 2) * ds.length + 3) := by
  obtain ⟨a, b, c⟩ := fitAll h
  refine ⟨a, b, Nat.succ_le_succ c, ?_⟩
  have e : (PyData.tuple ds).shown = tupleText (PyData.shownAll ds) := rfl
  rw [e, shAll]
  have := tupleText_len_le (ds.map PyData.shown)
  rw [List.map_map, List.length_map] at this
  have s := sumLe (f := (fun s : Str => s.length) ∘ PyData.shown) (c := w) (xs := ds) fun d hd => (h d hd).ln
  have m : (w + 2) * ds.length = w * ds.length + 2 * ds.length := Nat.add_mul _ _ _
  omega
theorem small_fit : ∀ i < 60, (PyData.int ((i : Nat) : Int)).showable = true ∧ (PyData.int ((i : Nat) : Int)).shown.length ≤ 2 := by decide +kernel
theorem Fit.nat {i : Nat} (h : i < 60) : Fit (.int (i : Int)) 0 2 := ⟨(small_fit i h).1, rfl, Nat.le_refl _, (small_fit i h).2⟩
theorem Fit.bit {i : Int} (h : i = 0 ∨ i = 1) : Fit (.int i) 0 2 := by
  rcases h with rfl | rfl
  · exact Fit.nat (i := 0) (by decide)
  · exact Fit.nat (i := 1) (by decide)
theorem Fit.bool (b : Bool) : Fit (.bool b) 0 5 := ⟨rfl, rfl, Nat.zero_le _, by cases b <;> decide +kernel⟩
theorem Fit.str {z : Str} (h : z.length ≤ 8 ∧ ∀ c ∈ z.cps.toList, c < 128) : Fit (.str z) 0 82 := by
  refine ⟨rfl, rfl, Nat.zero_le _, ?_⟩
  have e : (PyData.str z).shown = reprText z := rfl
  rw [e]
  have := PySem.StrLaws.reprText_len z fun c hc => Nat.lt_of_lt_of_le (h.2 c hc) (by decide)
  omega
theorem name_fit {z : Str} (h : nameB (.str z) = true) : z.length ≤ 8 ∧ ∀ c ∈ z.cps.toList, c < 128 := by
  unfold nameB at h
  rw [Bool.and_eq_true, Bool.and_eq_true] at h
  refine ⟨of_decide_eq_true h.1.2, fun c hc => ?_⟩
  have := List.all_eq_true.mp h.2 c hc
  unfold signB at this
  rw [Bool.and_eq_true] at this
  have h2 := of_decide_eq_true this.2
  omega
theorem row_fit {r : List Int} {n : Nat} (hl : r.length ≤ n) (hb : ∀ b ∈ r, b = 0 ∨ b = 1) : Fit (rowD r) 1 (4 * n + 3) := by
  refine (Fit.tuple (ds := r.map PyData.int) (k := 0) (w := 2) fun d hd => ?_).mono (Nat.le_refl _) (by rw [List.length_map]; omega)
  obtain ⟨b, hb', rfl⟩ := List.mem_map.mp hd
  exact Fit.bit (hb b hb')
theorem Fit.told {d : PyData} {k w : Nat} (h : Fit d k w) (hk : k ≤ 40) (hw : w ≤ 5000) (hi : ∀ i, d ≠ .int i) : d.showable = true ∧ d.hasDict = false ∧ d.depth ≤ 40 ∧ d.shown.length ≤ sizeLine ∧ (∀ i : Int, d = .int i → i.natAbs.log2 < 1920) :=
  ⟨h.sh, h.nd, Nat.le_trans h.dp hk, Nat.le_of_lt (small60 (Nat.le_trans h.ln hw)), fun i e => absurd e (hi i)⟩
end Ow

set_option Elab.async false
set_option linter.all false
set_option maxRecDepth 100000
set_option maxHeartbeats 4000000
set_option exponentiation.threshold 3000
namespace Ow
open PySem PySem.Spec PyProof.Rows L2
abbrev rtNm : List Str := ["jug", "things", "names", "every", "rows", "order", "made", "some", "values"]
theorem scRt : FnScope rtNm ["jug"] (defScope dRight) := ⟨rfl, rfl, rfl, by decide +kernel, rfl, by decide +kernel, by decide +kernel⟩
theorem gname_read {i : Nat} {x : V} {σ : L2.St} {H : Hp} {k : L2.St → Hp → Prop} (h : k (σ.set i (some x)) H) : gName i x σ H k := h
theorem rowsN_bits : ∀ n, ∀ r ∈ rowsN n, bitsB r = true
  | 0, r, h => by
    rw [List.mem_singleton.mp h]
    rfl
  | n + 1, r, h => by
    obtain ⟨r0, h0, h⟩ := List.mem_flatMap.mp h
    have ih := rowsN_bits n r0 h0
    unfold bitsB at ih ⊢
    rcases List.mem_cons.mp h with rfl | h
    · rw [List.all_append, ih]
      rfl
    · rw [List.mem_singleton.mp h, List.all_append, ih]
      rfl
/-- a property's getter -/
structure AgP (P : Program) (w : World) (K : PySem.W.Frag) (mg : Str → Option Value) (base : Heap) (C : Addr) (nm fld : Str) (p g : Addr) (gd : FuncData) : Prop where
  hp : PropOf K C nm p g
  F : FnOk P w K mg base CX0 1 g gd ["self"] (getSp C fld)
  b : Binds K gd ["self"] []
/-- what is told of the agenda -/
def toldD (cs : List Nat) : PyData := .list [textD (issN cs), rowsD (sortedO cs.length)]
theorem told_fit {cs : List Nat} (th : Th cs) : Fit (toldD cs) 3 2000 := by
  have l5 : cs.length < 5 := by have := th.four; omega
  obtain ⟨so1, _, _, so24, so6, _⟩ := sortedO_ok cs.length l5 th.two
  obtain ⟨i1, i2, i3⟩ := th.issues
  have f1 : Fit (textD (issN cs)) 1 600 := by
    refine (Fit.tuple (ds := (issN cs).map PyData.str) (k := 0) (w := 82) fun d hd => ?_).mono (Nat.le_refl _) ?_
    · obtain ⟨z, hz, rfl⟩ := List.mem_map.mp hd
      refine Fit.str ⟨?_, (i3 z hz).2⟩
      obtain ⟨p, hp, rfl⟩ := List.mem_map.mp hz
      obtain ⟨c, d, _, _, rfl⟩ := pair_letters hp
      show 2 ≤ 8
      decide
    · rw [List.length_map]
      have : (issN cs).length ≤ 6 := by rw [i2]; omega
      omega
  have f2 : Fit (rowsD (sortedO cs.length)) 2 900 := by
    refine (Fit.tuple (ds := (sortedO cs.length).map rowD) (k := 1) (w := 27) fun d hd => ?_).mono (Nat.le_refl _) (by rw [List.length_map]; omega)
    obtain ⟨r, hr, rfl⟩ := List.mem_map.mp hd
    obtain ⟨b1, b2⟩ := so1 r hr
    refine row_fit (n := 6) (by omega) fun b hb => ?_
    have := List.all_eq_true.mp b1 b hb
    rw [Bool.or_eq_true, decide_eq_true_iff, decide_eq_true_iff] at this
    exact this
  refine (Fit.list (ds := [textD (issN cs), rowsD (sortedO cs.length)]) (k := 2) (w := 900) fun d hd => ?_).mono (Nat.le_refl _) (by show (900 + 2) * 2 + 3 ≤ 2000; decide)
  rcases List.mem_cons.mp hd with rfl | hd
  · exact f1.mono (by decide) (by decide)
  · rw [List.mem_singleton.mp hd]
    exact f2
theorem row_order {cs : List Nat} (th : Th cs) {o : List Str} (m : o ∈ ords (cs.map letter) cs.length) : ordO ltS (cs.map letter) (rowI ltS (cs.map letter) o) = some o ∧ bitsB (rowI ltS (cs.map letter) o) = true ∧ (rowI ltS (cs.map letter) o).length = pairsN cs.length := by
  have l5 : cs.length < 5 := by have := th.four; omega
  obtain ⟨o', m', rfl, _⟩ := ord_facts th m
  obtain ⟨e1, _⟩ := check_ord l5 th.two m'
  have mr : rowI ltS (cs.map letter) (o'.map (thF cs)) ∈ sortedO cs.length := by
    refine (sortedO_perm cs.length l5 th.two).mem_iff.mpr ?_
    rw [row_th th]
    exact List.mem_map.mpr ⟨o', m', rfl⟩
  obtain ⟨so1, _⟩ := sortedO_ok cs.length l5 th.two
  refine ⟨?_, so1 _ mr⟩
  rw [row_th th]
  conv => lhs; rw [th_map]
  rw [ordO_map th.inj th.mono, e1]
  rfl
section
variable {P : Program} {w : World} {K : PySem.W.Frag} {mg : Str → Option Value} {base : Heap} {C : Addr}
def spRight : Sp := fun vs H Q _ => ∃ J : Addr, vs = [.ref J] ∧ Jug H J ∧ ∀ H', Sb J H H' → Jug H' J → Q (.bl true) H'
theorem ok_right {f fT fP fO fL fA fW fV fR fJ fX pi gi pr gr : Addr} {fd fdT fdP fdO fdL fdA fdW fdV fdR fdJ fdX gdi gdr : FuncData} (R : AgC K C) (PI : AgP P w K mg base C "issues" "_issues" pi gi gdi) (PR : AgP P w K mg base C "rows" "_rows" pr gr gdr)
    (F : Fun K "_law_right" "_law_right" dRight f fd)
    (FT : FnOk P w K mg base CX0 3 fT fdT ["jug", "least"] spThings) (kT : PySem.W.keepIn K (.ref fT) = true) (bT : Binds K fdT ["jug", "least"] []) (gT : mg "_law_things" = some (.ref fT))
    (FP : FnOk P w K mg base CX0 1 fP fdP ["things"] spLPr) (kP : PySem.W.keepIn K (.ref fP) = true) (bP : Binds K fdP ["things"] []) (gP : mg "_law_pairs_of" = some (.ref fP))
    (FO : FnOk P w K mg base CX0 1 fO fdO ["things"] spAllOrd) (kO : PySem.W.keepIn K (.ref fO) = true) (bO : Binds K fdO ["things"] []) (gO : mg "_law_orders_of" = some (.ref fO))
    (FL : FnOk P w K mg base CX0 2 fL fdL ["things", "order"] (spLRow K)) (kL : PySem.W.keepIn K (.ref fL) = true) (bL : Binds K fdL ["things", "order"] []) (gL : mg "_law_row" = some (.ref fL))
    (FA : FnOk P w K mg base CX0 8 fA fdA ["things"] (spOrdAg C)) (kA : PySem.W.keepIn K (.ref fA) = true) (bA : Binds K fdA ["things"] []) (gA : mg "orders_agenda" = some (.ref fA))
    (FW : FnOk P w K mg base CX0 4 fW fdW ["things", "order"] (spRowOf K)) (kW : PySem.W.keepIn K (.ref fW) = true) (bW : Binds K fdW ["things", "order"] []) (gW : mg "row_of" = some (.ref fW))
    (FV : FnOk P w K mg base CX0 6 fV fdV ["things", "values"] spOrderOf) (kV : PySem.W.keepIn K (.ref fV) = true) (bV : Binds K fdV ["things", "values"] []) (gV : mg "order_of" = some (.ref fV))
    (FR : FnOk P w K mg base CX0 1 fR fdR ["size"] spRowsL) (kR : PySem.W.keepIn K (.ref fR) = true) (bR : Binds K fdR ["size"] []) (gR : mg "_law_all_rows" = some (.ref fR))
    (FJ : FnOk P w K mg base CX0 2 fJ fdJ ["jug", "items"] spJum) (kJ : PySem.W.keepIn K (.ref fJ) = true) (bJ : Binds K fdJ ["jug", "items"] []) (gJ : mg "_law_jumbled" = some (.ref fJ))
    (FX : FnOk P w K mg base CX0 7 fX fdX ["things", "values", "rows"] spTR) (kX : PySem.W.keepIn K (.ref fX) = true) (bX : Binds K fdX ["things", "values", "rows"] []) (gX : mg "_law_tuple_right" = some (.ref fX))
    (mo : mg "sorted" = none) (mp : mg "repr" = none) (mt : mg "tuple" = none) (ml : mg "len" = none) : FnG P w K mg base 9 f fd ["jug"] spRight := by
  refine okG F scRt (fun vs H Q E h => ?_) (fun cdv A outer s H vs Q E gB hr h => ?_)
  · obtain ⟨J, rfl, _⟩ := h
    rfl
  obtain ⟨J, rfl, hJ, q⟩ := h
  have hu4 : (A.deeper (envOfC "_law_right" (defScope dRight) s.heap.objs.size f cdv)).units + 4 < cLine := by
    have := hr.un
    omega
  refine ⟨_, pss_cons (ps_set (i := 1) scRt.nd rfl (.inr rfl) (pe_call FT (hr.mono (by decide)) (by rfl) gT kT bT .nil pass0 (pa_cons (pv 0) (pa_cons pe_int pa_nil))))
    (pss_cons (ps_par (i := 2) (j := 3) (by rfl) scRt.nd rfl rfl (by decide) rfl rfl (pa_cons (pe_call FP (hr.mono (by decide)) (by rfl) gP kP bP .nil pass0 (pa_cons (pv 1) pa_nil)) (pa_cons (pe_call FO (hr.mono (by decide)) (by rfl) gO kO bO .nil pass0 (pa_cons (pv 1) pa_nil)) pa_nil)) (by rfl))
    (pss_cons (ps_set (i := 4) scRt.nd rfl (.inr rfl) (pe_callB (cr_sortS hu4) (by rfl) mo (by decide +kernel) (pa_cons
      (pe_lc (te := tCall (spLRow K) [] E0 (tCons (tVar 1) (tCons (tVar 5) tNil))) (own := [("order", 5)]) (g := gName 5) (tt := tYes) rfl scRt.nd (pi_list (pv 3)) (blkOk_by (N := rtNm) (sc := defScope dRight) (by decide +kernel))
        (fun _ _ _ _ _ => pg_name (i := 5) scRt.nd rfl (Or.inl rfl)) (fun _ _ _ _ _ => pts_nil) (fun _ _ _ _ _ => pe_call FL (hr.mono (by decide)) (by rfl) gL kL bL .nil pass0 (pa_cons (pv 1) (pa_cons (pv 5) pa_nil)))) pa_nil)))
    (pss_cons (ps_set (i := 6) scRt.nd rfl (.inl rfl) (pe_call FA (hr.mono (by decide)) (by rfl) gA kA bA .nil pass0 (pa_cons (pv 1) pa_nil)))
    (pss_cons (ps_if (pt_cmpR op_ne (pe_callB (call_repr gB hr.units) (by rfl) mp boot_repr (pa_cons (pe_lst (pa_cons (pe_prop (pv 6) R.cl PI.hp PI.F (hr.mono (by decide)) PI.b .nil pass0 (by rfl)) (pa_cons (pe_prop (pv 6) R.cl PR.hp PR.F (hr.mono (by decide)) PR.b .nil pass0 (by rfl)) pa_nil))) pa_nil))
        (pe_callB (call_repr gB hr.units) (by rfl) mp boot_repr (pa_cons (pe_lst (pa_cons (pe_callTy call_tuple_of (by rfl) mt boot_tup (pa_cons (pv 2) pa_nil)) (pa_cons (pe_callTy call_tuple_of (by rfl) mt boot_tup (pa_cons (pv 4) pa_nil)) pa_nil))) pa_nil)) (nomark _)) (pss_one ps_never) pss_nil)
    (pss_cons (ps_for PassesOwn.never rfl (pi_list (pv 3)) (pg_name (i := 5) scRt.nd rfl (.inl rfl))
      (pss_one (ps_if (PW.pt (pw_or (pt_cmpR (op_neD hr.units) (pe_call FW (hr.mono (by decide)) (by rfl) gW kW bW .nil pass0 (pa_cons (pv 1) (pa_cons (pv 5) pa_nil))) (pe_call FL (hr.mono (by decide)) (by rfl) gL kL bL .nil pass0 (pa_cons (pv 1) (pa_cons (pv 5) pa_nil))) (nomark _))
        (pw_or1 (pt_cmpR (op_neD hr.units) (pe_call FV (hr.mono (by decide)) (by rfl) gV kV bV .nil pass0 (pa_cons (pv 1) (pa_cons (pe_call FL (hr.mono (by decide)) (by rfl) gL kL bL .nil pass0 (pa_cons (pv 1) (pa_cons (pv 5) pa_nil))) pa_nil))) (pv 5) (nomark _))))) (pss_one ps_never) pss_nil)))
    (pss_cons (ps_set (i := 7) scRt.nd rfl (.inl rfl) (pe_call FR (hr.mono (by decide)) (by rfl) gR kR bR .nil pass0 (pa_cons (pe_callB call_len_seq (by rfl) ml PySem.boot_len (pa_cons (pv 2) pa_nil)) pa_nil)))
    (pss_cons (ps_if (pt_cmpR op_eq (pe_callB call_len_seq (by rfl) ml PySem.boot_len (pa_cons (pv 1) pa_nil)) pe_int (nomark _))
        (pss_one (ps_set (i := 7) scRt.nd rfl (.inl rfl) (pe_slice sl_list (pe_call FJ (hr.mono (by decide)) (by rfl) gJ kJ bJ .nil pass0 (pa_cons (pv 0) (pa_cons (pv 7) pa_nil))) po_none (po_some pe_int)))) pss_nil)
    (pss_one (ps_ret (pe_cmpR (op_eqD hr.units)
      (pe_lc (te := tVar 8) (own := [("values", 8)]) (g := gName 8) (tt := tNot (tB (tCall spTR [] E0 (tCons (tVar 1) (tCons (tVar 8) (tCons (tVar 4) tNil)))))) rfl scRt.nd (pi_list (pv 7)) (blkOk_by (N := rtNm) (sc := defScope dRight) (by decide +kernel))
        (fun _ _ _ _ _ => pg_name (i := 8) scRt.nd rfl (Or.inl rfl)) (fun _ _ _ _ _ => pts_one (pt_not (pt_val (pe_call FX (hr.mono (by decide)) (by rfl) gX kX bX .nil pass0 (pa_cons (pv 1) (pa_cons (pv 8) (pa_cons (pv 4) pa_nil))))))) (fun _ _ _ _ _ => pv 8))
      (pe_lst pa_nil) (nomark _))))))))))), ?red⟩
  case red =>
  refine ⟨.ref J, rfl, J, rfl, hJ, fun H1 t cs sb1 j1 ht th => ?_⟩
  have two := th.two
  have four := th.four
  have l5 : cs.length < 5 := by omega
  have lz : (cs.map letter).length = cs.length := List.length_map _
  obtain ⟨so1, _, _, so24, so6, so0⟩ := sortedO_ok cs.length l5 two
  obtain ⟨i1, i2, i3⟩ := th.issues
  refine gname_read ?_
  dsimp only
  refine par_read ?_
  refine ⟨.ref t, rfl, t, cs.map letter, rfl, ht, by omega, th.plain, fun H2 ln s2 hln => ?_⟩
  rw [lprs_th th] at hln
  have ht2 := s2 _ _ ht
  refine ⟨.ref t, rfl, t, cs.map letter, rfl, ht2, by omega, fun H3 le xs s3 hle ax => ⟨.ref ln, .ref le, rfl, ?_⟩⟩
  rw [lz] at ax
  have s13 := s2.trans s3
  have ht3 := s3 _ _ ht2
  have hln3 := s3 _ _ hln
  have lx := ax.len
  have er := rows_th th
  have lr : xs.length = (sortedO cs.length).length := by rw [lx, (sortedO_perm cs.length l5 two).length_eq, ← er, List.length_map]
  refine ⟨.ref le, rfl, le, rfl, ⟨_, .of hle⟩, fun D nD => ?_⟩
  refine lc_map (M := No) (walk_list (K := K) (a := le) (xs := xs)) (by omega) Jg.no nD (fun i Hx y => ∃ o, (ords (cs.map letter) cs.length)[i]? = some o ∧ IsRow Hx y (rowI ltS (cs.map letter) o)) (fun _ _ _ _ tk ⟨o, e, r⟩ => ⟨o, e, r.tk tk⟩) (fun Hx g _ => .of (g.toSame _ _ hle))
    (fun i x Hx Hx' Kk hi g _ hY hK => ?_) (fun Hx ys g _ eD hlen hq => ?_)
  · obtain ⟨rfl, hxi⟩ := hY
    obtain ⟨o, ho, b, rfl, hb⟩ := ax.get hxi
    exact ⟨rfl, .ref t, rfl, .ref b, rfl, t, b, cs, o, rfl, g.toSame _ _ ht3, th, hb.tk (Tk.same g.toSame), List.mem_of_getElem? ho, fun H' p s' r => hK _ _ (Gw.same s') Jg.no ⟨o, ho, r⟩⟩
  have sx := g.toSame
  have rows : All2 (IsRow Hx) ys (rowsO cs.length) := by
    rw [← er]
    refine All2.of_get (by rw [hlen, List.length_map, lx]) fun i y r ey e2 => ?_
    obtain ⟨o, eo, row⟩ := hq i y ey
    rw [List.getElem?_map, eo] at e2
    cases e2
    exact row
  have pm := sortedO_perm cs.length l5 two
  refine ⟨D, ys, _, 5, 6, rfl, .of eD, by omega, allT_of rows, by decide, fun ns m => ?_, .inl fun ns m => ?_, fun zs mss v ht' p2 asc nv => ?_⟩
  · obtain ⟨b1, b2⟩ := so1 ns (pm.mem_iff.mpr m)
    refine ⟨by omega, fun k hk => ?_⟩
    have := List.all_eq_true.mp b1 k hk
    rw [Bool.or_eq_true, decide_eq_true_iff, decide_eq_true_iff] at this
    omega
  · obtain ⟨b1, b2⟩ := so1 ns (pm.mem_iff.mpr m)
    intro z
    rw [z] at b2
    have : (0 : Nat) = pairsN cs.length := b2
    omega
  have e : mss = sortedO cs.length := asc_unique (p2.trans pm.symm) asc (sortedO_asc cs.length l5 two)
  subst e
  have vJ : v ≠ J := jug_none (jug_same (s13.trans sx) j1) nv
  have sv : Same Hx (upd Hx v (.lst zs)) := same_new nv
  have rowsV := all_tk (Tk.same sv) (all_ofT ht')
  have ev : upd Hx v (.lst zs) v = some (.lst zs) := upd_same
  generalize upd Hx v (.lst zs) = H5 at sv rowsV ev ⊢
  have s35 := sx.trans sv
  refine ⟨.ref t, rfl, t, cs, rfl, s35 _ _ ht3, th, fun H6 a s6 na ag => ?_⟩
  have s36 := s35.trans s6
  obtain ⟨dx, ti, ur, ha, hti, hur⟩ := ag
  have ev6 := s6 _ _ ev
  have hln6 := s36 _ _ hln3
  have rowsV6 := all_tk (Tk.same s6) rowsV
  refine ⟨.ref a, rfl, a, dx, _, rfl, ha, a, dx, _, .ref ti, rfl, ha, rfl, .ref a, rfl, a, dx, _, rfl, ha, a, dx, _, .ref ur, rfl, ha, rfl, (by show 2 ≤ sizeLine; decide), fun L1 nL1 => ?_⟩
  have sL1 := same_new (o := .lst [.ref ti, .ref ur]) nL1
  have dp1 : Dp K (upd H6 L1 (.lst [.ref ti, .ref ur])) (.ref L1) (toldD cs) := .lst (.of upd_same) (.cons (.tup (.of (sL1 _ _ hti)) (dp_strs _)) (.cons (dp_rows (hur.tk (Tk.same sL1))) .nil))
  generalize upd H6 L1 (.lst [.ref ti, .ref ur]) = H7 at sL1 dp1 ⊢
  obtain ⟨t1, t2, t3, t4, t5⟩ := (told_fit th).told (by decide) (by decide) (fun i e => nomatch e)
  refine ⟨.ref L1, toldD cs, rfl, dp1, t1, t2, t3, t4, t5, ?_⟩
  have s37 := s36.trans sL1
  refine ⟨.ref ln, rfl, ln, _, rfl, .inl ⟨.of (sL1 _ _ hln6), fun T1 nT1 => ?_⟩⟩
  have sT1 := same_new (o := .tup (((prs ltS (cs.map letter)).map cat2).map V.str)) nT1
  have eT1 : upd H7 T1 (.tup (((prs ltS (cs.map letter)).map cat2).map V.str)) T1 = some (.tup ((issN cs).map V.str)) := upd_same
  generalize upd H7 T1 (.tup (((prs ltS (cs.map letter)).map cat2).map V.str)) = H8 at sT1 eT1 ⊢
  refine ⟨.ref v, rfl, v, zs, rfl, .inl ⟨.of (sT1 _ _ (sL1 _ _ ev6)), fun T2 nT2 => ?_⟩⟩
  have sT2 := same_new (o := .tup zs) nT2
  have eT2 : upd H8 T2 (.tup zs) T2 = some (.tup zs) := upd_same
  have eT1' := sT2 _ _ eT1
  generalize upd H8 T2 (.tup zs) = H9 at sT2 eT2 eT1' ⊢
  refine ⟨(by show 2 ≤ sizeLine; decide), fun L2 nL2 => ?_⟩
  have sL2 := same_new (o := .lst [.ref T1, .ref T2]) nL2
  have s79 := sT1.trans (sT2.trans sL2)
  have dp2 : Dp K (upd H9 L2 (.lst [.ref T1, .ref T2])) (.ref L2) (toldD cs) := .lst (.of upd_same) (.cons (.tup (.of (sL2 _ _ eT1')) (dp_strs _)) (.cons (dp_rows ⟨T2, zs, rfl, sL2 _ _ eT2, all_tk (Tk.same ((sL1.trans s79))) rowsV6⟩) .nil))
  generalize upd H9 L2 (.lst [.ref T1, .ref T2]) = H10 at sL2 s79 dp2 ⊢
  refine ⟨.ref L2, toldD cs, rfl, dp2, t1, t2, t3, t4, t5, rfl, _, rfl, ?_⟩
  rw [decide_eq_true rfl]
  refine iteF ?_
  have s310 := s37.trans s79
  have hle10 := s310 _ _ hle
  have ht10 := s310 _ _ ht3
  have ax10 := ax.imp fun _ _ r => r.tk (Tk.same s310)
  have ev10 := (sL1.trans s79) _ _ ev6
  have rows10 := all_tk (Tk.same (sL1.trans s79)) rowsV6
  have hln10 := (sL1.trans s79) _ _ hln6
  have sb10 : Sb J H H10 := sb1.trans (.same (s13.trans s310))
  have j10 : Jug H10 J := jug_same (s13.trans s310) j1
  refine ⟨.ref le, rfl, le, rfl, ⟨_, .of hle10⟩, ?_⟩
  refine for_it (walk_list (K := K) (a := le) (xs := xs)) (fun i σ Hy => ∃ y5, σ = [some (.ref J), some (.ref t), some (.ref ln), some (.ref le), some (.ref v), y5, some (.ref a), none, none] ∧ Same H10 Hy)
    ⟨none, rfl, fun _ _ e => e⟩ (fun i σ Hy _ h => ?_) (fun i x σ Hy Hy' hi h hY => ?_) (fun σ Hy h => ?_)
  · obtain ⟨y5, _, sy⟩ := h
    exact .of (sy _ _ hle10)
  · obtain ⟨y5, rfl, sy⟩ := h
    obtain ⟨rfl, hxi⟩ := hY
    obtain ⟨o, ho, b, rfl, hb⟩ := ax10.get hxi
    have mo' := List.mem_of_getElem? ho
    have hb' := hb.tk (Tk.same sy)
    have ht' := sy _ _ ht10
    obtain ⟨oo, ob, ol⟩ := row_order th mo'
    refine ⟨.ref t, rfl, .ref b, rfl, t, b, cs, o, rfl, ht', th, hb'.sq, mo', fun G1 p1 g1 r1 => ?_⟩
    refine ⟨.ref t, rfl, .ref b, rfl, t, b, cs, o, rfl, g1 _ _ ht', th, hb'.tk (Tk.same g1), mo', fun G2 p2 g2 r2 => ?_⟩
    refine ⟨_, _, dp_row (r1.tk (Tk.same g2)), dp_row r2, shaped_row _, shaped_row _, _, rfl, ?_⟩
    rw [eqv_row, decide_eq_true rfl]
    have g12 := g1.trans g2
    refine iteF ⟨.ref t, rfl, .ref t, rfl, .ref b, rfl, t, b, cs, o, rfl, g12 _ _ ht', th, hb'.tk (Tk.same g12), mo', fun G3 p3 g3 r3 => ?_⟩
    obtain ⟨p3', e3, hp3⟩ := r3
    cases e3
    have g13 := g12.trans g3
    refine ⟨t, p3, cs, _, rfl, g13 _ _ ht', th, hp3, ob, ol, fun G4 v4 g4 ov => ?_⟩
    rw [oo] at ov
    have ov : TxtF G4 v4 o := ov
    refine ⟨.ref b, rfl, textD o, textD o, dp_textF ov, dp_textF ⟨b, rfl, hb'.tk (Tk.same (g13.trans g4))⟩, shaped_text (ord_plain th mo'), shaped_text (ord_plain th mo'), _, rfl, ?_⟩
    rw [eqv_text, decide_eq_true rfl]
    exact iteF ⟨_, rfl, sy.trans (g13.trans g4)⟩
  obtain ⟨y5, rfl, sy⟩ := h
  have ly := hln10
  have lnam : (((prs ltS (cs.map letter)).map cat2).map V.str).length = pairsN cs.length := by rw [List.length_map]; exact i2
  refine ⟨.ref ln, rfl, ln, _, rfl, .inl (.of (sy _ _ hln10)), pairsN cs.length, by rw [lnam]; rfl, so6, fun H11 S us s11 nS eS aS => ?_⟩
  have ht11 := s11 _ _ (sy _ _ ht10)
  have sb11 : Sb J H H11 := sb10.trans (.same (sy.trans s11))
  have j11 : Jug H11 J := jug_same (sy.trans s11) j10
  have lus := aS.len
  rw [rowsN_len] at lus
  have l64 := pow6 so6
  have ev11 := s11 _ _ (sy _ _ ev10)
  have rows11 := all_tk (Tk.same (sy.trans s11)) rows10
  have fin : ∀ (Hz : Hp) (S' : Addr) (us' : List V), Sb J H Hz → Jug Hz J → Hz t = some (.tup ((cs.map letter).map V.str)) → Hz v = some (.lst zs) → All2 (IsRow Hz) zs (sortedO cs.length) → Hz S' = some (.lst us') → us'.length ≤ 64 → (∀ x ∈ us', ∃ ns ∈ rowsN (pairsN cs.length), IsRow Hz x ns) →
      ∀ y5 : Option V, tRet (tOp (rEqD K) (tLc (iList K (tVar 7)) (gName 8) (tNot (tB (tCall spTR [] E0 (tCons (tVar 1) (tCons (tVar 8) (tCons (tVar 4) tNil)))))) (tVar 8) [8]) (tLst tNil)) { nx := fun _ H' => Q .non H', rt := Q } [some (.ref J), some (.ref t), some (.ref ln), some (.ref le), some (.ref v), y5, some (.ref a), some (.ref S'), none] Hz := fun Hz S' us' sbz jz htz hvz rz hS lS all y5 => by
    refine ⟨.ref S', rfl, S', rfl, ⟨_, .of hS⟩, fun D2 nD2 => ?_⟩
    refine lc_grow (α := V) (β := V) (walk_list (K := K) (a := S') (xs := us')) us' (fun _ => none) (fun _ _ _ => True) (fun _ _ => trivial) rfl (by omega) nD2 (fun Hw s => .of (s _ _ hS))
      (fun k x z Hw K0 K1 hx hz sz k0 k1 => ?_) (fun Hw zs2 sz eD2 az => ?_)
    · obtain ⟨ns, mn, u, rfl, hu⟩ := all x (List.mem_of_getElem? hx)
      refine ⟨rfl, .ref t, rfl, .ref u, rfl, .ref v, rfl, t, u, v, cs, ns, zs, rfl, sz _ _ htz, th, sz _ _ hu, mn, ?_, sz _ _ hvz, all_tk (Tk.same sz) rz, fun H' s' => ⟨true, rfl, iteF (k0 _ s' rfl)⟩⟩
      exact rowsN_bits _ ns mn
    have ez : zs2 = [] := List.length_eq_zero_iff.mp (by rw [az.len, List.length_filterMap_eq_countP]; simp)
    subst ez
    refine ⟨Nat.zero_le _, fun L nL => ?_⟩
    have sL := same_new (o := .lst []) nL
    refine ⟨.list [], .list [], .lst (.of (sL _ _ eD2)) .nil, .lst (.of upd_same) .nil, rfl, rfl, ?_⟩
    exact q _ (sbz.trans (.same (sz.trans sL))) (jug_same (sz.trans sL) jz)
  refine ⟨.ref t, rfl, t, _, rfl, .inr (.of ht11), rfl, _, rfl, ?_⟩
  by_cases h4 : decide (V.int ((((cs.map letter).map V.str).length : Nat) : Int) = V.int 4) = true
  · rw [h4]
    refine iteT ⟨.ref J, rfl, .ref S, rfl, J, .ref S, us, rfl, j11, .inl ⟨S, rfl, fun z => ?_, eS⟩, by omega, fun H12 p ys sb12 j12 np hp pmj => ?_⟩
    · exact jug_none (jug_same sy j10) nS z
    have lys := pmj.length_eq
    refine ⟨16, rfl, p, ys, rfl, .of hp, fun S2 nS2 => ?_⟩
    have sS2 := same_new (o := .lst (cutV ys none (some 16))) nS2
    have sb1112 : ∀ {b : Addr} {o : HO}, b ≠ J → H11 b = some o → upd H12 S2 (.lst (cutV ys none (some 16))) b = some o := fun n e => sS2 _ _ (sb12 _ _ n e)
    have tJ : t ≠ J := jug_tup j11 ht11
    have rowK : ∀ {x : V} {r : List Int}, IsRow H11 x r → IsRow (upd H12 S2 (.lst (cutV ys none (some 16)))) x r := fun {x r} h => by
      obtain ⟨b, e, hb⟩ := h
      exact ⟨b, e, sb1112 (jug_tup j11 hb) hb⟩
    refine fin _ S2 _ (sb11.trans (sb12.trans (.same sS2))) (jug_same sS2 j12) (sb1112 tJ ht11) (sb1112 vJ ev11) (rows11.imp fun _ _ => rowK) upd_same ?_ (fun x hx => ?_) y5
    · have := cutV_length ys none (some 16)
      omega
    · have mx : x ∈ ys := by
        unfold cutV at hx
        exact List.mem_of_mem_drop (List.mem_of_mem_take hx)
      obtain ⟨r, mr, hr'⟩ := aS.mem (pmj.mem_iff.mp mx)
      exact ⟨r, mr, rowK hr'⟩
  · rw [Bool.not_eq_true] at h4
    rw [h4]
    refine iteF (fin H11 S us sb11 j11 ht11 ev11 rows11 eS (by omega) (fun x hx => ?_) y5)
    obtain ⟨r, mr, hr'⟩ := aS.mem hx
    exact ⟨r, mr, hr'⟩
end
end Ow

set_option Elab.async false
set_option linter.all false
set_option maxRecDepth 100000
set_option maxHeartbeats 4000000
namespace Ow
open PySem PySem.Spec PyProof.Rows L2
/-! ### own in, not in, len, str, () -/
section
variable {X : Cx} {CX : CXT} {k : Nat} {f C : Addr} {fd : FuncData} {ps : List Str} {sp : Sp} {E : XK}
def rInO (C : Addr) (sp : Sp) (E : XK) (neg : Bool) : R2 := fun x y H Q => ∃ a dx fs, y = .ref a ∧ H a = some (.ins C dx fs) ∧ sp [.ref a, x] H (fun v H' => ∃ b : Bool, v = .bl b ∧ Q (.bl (if neg then !b else b)) H') E
theorem op_inO (hm : Meth X.K C "__contains__" f) (F : FnOk X.prog X.w X.K X.mg X.base CX k f fd ps sp) (hr : Room k X.A) (hb : Binds X.K fd ps []) (hx : Passes CX X E) : OpR X (compareOp .In) (rInO C sp E false) := by
  intro pins s σ H x y v u Q I rx ry h
  obtain ⟨a, dx, fs, rfl, ha, q⟩ := h
  cases ry
  obtain ⟨mA, J, _⟩ := ins_get I.hok ha
  obtain ⟨od, J, _⟩ := J.look
  obtain ⟨m, hF⟩ := I.fr
  have rr : Vals [V.ref a, x] [Value.ref a, v] := .cons rfl (.cons rx .nil)
  refine PySem.W.in_K hF I.ok.mod.kin J hm.at_ hm.fn (wpAny_mono (run_at (A := X.A) rfl F hr hb hx I rr q) (fun r s' hq => ?_) fun _ _ z => z)
  obtain ⟨z, H', I', rz, b, rfl, q'⟩ := hq
  cases rz
  exact wpAny_truthy_bool ⟨.bl b, H', I', rfl, q'⟩
theorem op_notInO (hm : Meth X.K C "__contains__" f) (F : FnOk X.prog X.w X.K X.mg X.base CX k f fd ps sp) (hr : Room k X.A) (hb : Binds X.K fd ps []) (hx : Passes CX X E) : OpR X (compareOp .NotIn) (rInO C sp E true) := by
  intro pins s σ H x y v u Q I rx ry h
  obtain ⟨a, dx, fs, rfl, ha, q⟩ := h
  cases ry
  obtain ⟨mA, J, _⟩ := ins_get I.hok ha
  obtain ⟨od, J, _⟩ := J.look
  obtain ⟨m, hF⟩ := I.fr
  have rr : Vals [V.ref a, x] [Value.ref a, v] := .cons rfl (.cons rx .nil)
  refine PySem.W.notIn_K hF I.ok.mod.kin J hm.at_ hm.fn (wpAny_mono (run_at (A := X.A) rfl F hr hb hx I rr q) (fun r s' hq => ?_) fun _ _ z => z)
  obtain ⟨z, H', I', rz, b, rfl, q'⟩ := hq
  cases rz
  exact wpAny_truthy_bool ⟨.bl (!b), H', I', rfl, q'⟩
/-- len(o) -/
theorem call_lenO (hm : Meth X.K C "__len__" f) (F : FnOk X.prog X.w X.K X.mg X.base CX k f fd ps sp) (hr : Room (k + 1) X.A) (hb : Binds X.K fd ps []) (hx : Passes CX X E) :
    CallR X (.builtin "len") (fun xs H Q => ∃ a dx fs, xs = [.ref a] ∧ H a = some (.ins C dx fs) ∧ sp [.ref a] H (fun v H' => ∃ n : Int, v = .int n ∧ 0 ≤ n ∧ n < 2 ^ 63 ∧ Q (.int n) H') E) := by
  intro pins s σ H xs us Q I r h
  obtain ⟨a, dx, fs, rfl, ha, q⟩ := h
  obtain ⟨u, rfl, rx⟩ := vals1 r
  cases rx
  obtain ⟨mA, J, _⟩ := ins_get I.hok ha
  obtain ⟨od, J, _⟩ := J.look
  obtain ⟨m, hF⟩ := I.fr
  have rr : Vals [V.ref a] [Value.ref a] := .cons rfl .nil
  refine PySem.W.len_K hF I.ok.mod.kin J hm.at_ hm.fn (wpAny_mono (run_at (A := X.A.in1) rfl F hr.in1 hb hx I rr q) (fun r s' hq => ?_) fun _ _ z => z)
  obtain ⟨z, H', I', rz, n, rfl, h0, h1, q'⟩ := hq
  obtain ⟨t, rfl⟩ := rz
  exact ⟨⟨h0, h1⟩, .int n, H', I'.tok _, ⟨_, rfl⟩, q'⟩
/-- str(o) -/
theorem call_strO (hm : Meth X.K C "__str__" f) (F : FnOk X.prog X.w X.K X.mg X.base CX k f fd ps sp) (hr : Room (k + 2) X.A) (hb : Binds X.K fd ps []) (hx : Passes CX X E) :
    CallR X (.type "str") (fun xs H Q => ∃ a dx fs, xs = [.ref a] ∧ H a = some (.ins C dx fs) ∧ sp [.ref a] H (fun v H' => ∃ z : Str, v = .str z ∧ Q (.str z) H') E) := by
  intro pins s σ H xs us Q I r h
  obtain ⟨a, dx, fs, rfl, ha, q⟩ := h
  obtain ⟨u, rfl, rx⟩ := vals1 r
  cases rx
  obtain ⟨mA, J, _⟩ := ins_get I.hok ha
  obtain ⟨od, J, _⟩ := J.look
  have rr : Vals [V.ref a] [Value.ref a] := .cons rfl .nil
  have hr2 : Room k X.A.in1.in1 := hr.in1.in1
  have hu : X.A.in1.in1.units < cLine := by have := hr2.un; omega
  refine PySem.W.kso_call hu I.kIn J hm.at_ hm.fn (wpAny_mono (run_at (A := X.A.in1.in1) rfl F hr2 hb hx I rr q) (fun r s' hq => ?_) fun _ _ z => z)
  obtain ⟨z, H', I', rz, t, rfl, q'⟩ := hq
  obtain ⟨t', rfl⟩ := rz
  exact ⟨.str t, H', I', ⟨_, rfl⟩, q'⟩
end
end Ow

set_option Elab.async false
set_option linter.all false
set_option maxRecDepth 100000
set_option maxHeartbeats 4000000
set_option exponentiation.threshold 3000
namespace Ow
open PySem PySem.Spec PyProof.Rows L2
theorem scLaw : FnScope ["script", "at", "jug", "told"] ["script"] (defScope dLaw) := ⟨rfl, rfl, rfl, by decide +kernel, rfl, by decide +kernel, by decide +kernel⟩
def abc : List Nat := [97, 98, 99]
def abcd : List Nat := [97, 98, 99, 100]
theorem th_abc : Th abc := ⟨by decide, by decide, by decide, by decide⟩
theorem th_abcd : Th abcd := ⟨by decide, by decide, by decide, by decide⟩
def bacS : List Str := [letter 98, letter 97, letter 99]
def acbS : List Str := [letter 97, letter 99, letter 98]
theorem abc_1 : bacS ∈ ords (abc.map letter) abc.length := by decide +kernel
theorem abc_2 : rowI ltS (abc.map letter) bacS = [0, 1, 1] := by decide +kernel
theorem abc_3 : ordO ltS (abc.map letter) [1, 1, 0] = some acbS := by decide +kernel
theorem abc_4 : ordO ltS (abc.map letter) [1, 0, 1] = none := by decide +kernel
theorem abcd_1 : (sortedO abcd.length).length = 24 := by decide +kernel
theorem acb_plain : Plain acbS := th_abc.plain.of_mem (by decide +kernel)
def lastD : PyData := .list [rowD [0, 1, 1], textD acbS, .none]
theorem last_shaped : SeqAt.shaped lastD = true := by decide +kernel
theorem last_eq : PyData.eqv lastD lastD = true := by decide +kernel
section
variable {P : Program} {w : World} {K : PySem.W.Frag} {mg : Str → Option Value} {base : Heap} {C : Addr}
def spLaw (K : PySem.W.Frag) : Sp := fun vs H Q _ => ∃ (a : Addr) (ns : List Int), vs = [.ref a] ∧ SqL K H a (ns.map V.int) ∧ ns.length ≤ 63 ∧ ∀ H', Q (.bl true) H'
theorem ok_law {f fR fJ fW fV fA fN : Addr} {fd fdR fdJ fdW fdV fdA fdN : FuncData} (F : Fun K "law" "law" dLaw f fd)
    (FR : FnG P w K mg base 9 fR fdR ["jug"] spRight) (kR : PySem.W.keepIn K (.ref fR) = true) (bR : Binds K fdR ["jug"] []) (gRt : mg "_law_right" = some (.ref fR))
    (FJ : FnOk P w K mg base CX0 1 fJ fdJ ["script", "at"] (spJug K)) (kJ : PySem.W.keepIn K (.ref fJ) = true) (bJ : Binds K fdJ ["script", "at"] []) (gJ : mg "_law_jug" = some (.ref fJ))
    (FW : FnOk P w K mg base CX0 4 fW fdW ["things", "order"] (spRowOf K)) (kW : PySem.W.keepIn K (.ref fW) = true) (bW : Binds K fdW ["things", "order"] []) (gW : mg "row_of" = some (.ref fW))
    (FV : FnOk P w K mg base CX0 6 fV fdV ["things", "values"] spOrderOf) (kV : PySem.W.keepIn K (.ref fV) = true) (bV : Binds K fdV ["things", "values"] []) (gV : mg "order_of" = some (.ref fV))
    (FA : FnOk P w K mg base CX0 8 fA fdA ["things"] (spOrdAg C)) (kA : PySem.W.keepIn K (.ref fA) = true) (bA : Binds K fdA ["things"] []) (gA : mg "orders_agenda" = some (.ref fA))
    (mN : Meth K C "__len__" fN) (FN : FnOk P w K mg base CX0 1 fN fdN ["self"] (spLen C)) (bN : Binds K fdN ["self"] [])
    (mr : mg "range" = none) (ml : mg "len" = none) (mx : mg "max" = none) (mn : mg "min" = none) : FnG P w K mg base 10 f fd ["script"] (spLaw K) := by
  refine okG F scLaw (fun vs H Q E h => ?_) (fun cdv A outer s H vs Q E gB hr h => ?_)
  · obtain ⟨a, ns, rfl, _⟩ := h
    rfl
  obtain ⟨a, ns, rfl, hS, hl, q⟩ := h
  refine ⟨_, pss_cons (ps_for PassesOwn.never rfl (pi_range1 (by rfl) mr (pa_cons (pe_callB (call_max2 rfl) (by rfl) mx boot_max (pa_cons pe_int
        (pa_cons (pe_callB (call_min2 rfl) (by rfl) mn boot_min (pa_cons pe_int (pa_cons (pe_callB call_len_seq (by rfl) ml PySem.boot_len (pa_cons (pv 0) pa_nil)) pa_nil))) pa_nil))) pa_nil)) (pg_name (i := 1) scLaw.nd rfl (.inl rfl))
      (pss_cons (ps_set (i := 2) scLaw.nd rfl (.inl rfl) (pe_call FJ (hr.mono (by decide)) (by rfl) gJ kJ bJ .nil pass0 (pa_cons (pv 0) (pa_cons (pv 1) pa_nil))))
      (pss_one (ps_if (PW.pt (pw_or (pt_not (pt_val (pe_callG FR gB hr (by rfl) gRt kR bR (pa_cons (pv 2) pa_nil)))) (pw_or1 (pt_not (pt_val (pe_callG FR gB hr (by rfl) gRt kR bR (pa_cons (pv 2) pa_nil))))))) (pss_one ps_never) pss_nil))))
    (pss_cons (ps_set (i := 3) scLaw.nd rfl (.inl rfl) (pe_lst
      (pa_cons (pe_call FW (hr.mono (by decide)) (by rfl) gW kW bW .nil pass0 (pa_cons (pe_tup (pa_cons pe_str (pa_cons pe_str (pa_cons pe_str pa_nil)))) (pa_cons (pe_tup (pa_cons pe_str (pa_cons pe_str (pa_cons pe_str pa_nil)))) pa_nil)))
      (pa_cons (pe_call FV (hr.mono (by decide)) (by rfl) gV kV bV .nil pass0 (pa_cons (pe_tup (pa_cons pe_str (pa_cons pe_str (pa_cons pe_str pa_nil)))) (pa_cons (pe_tup (pa_cons pe_int (pa_cons pe_int (pa_cons pe_int pa_nil)))) pa_nil)))
      (pa_cons (pe_call FV (hr.mono (by decide)) (by rfl) gV kV bV .nil pass0 (pa_cons (pe_tup (pa_cons pe_str (pa_cons pe_str (pa_cons pe_str pa_nil)))) (pa_cons (pe_tup (pa_cons pe_int (pa_cons pe_int (pa_cons pe_int pa_nil)))) pa_nil))) pa_nil)))))
    (pss_one (ps_ret (pe_and (pe_cmpR (op_eqD hr.units) (pv 3) (pe_lst (pa_cons (pe_tup (pa_cons pe_int (pa_cons pe_int (pa_cons pe_int pa_nil)))) (pa_cons (pe_tup (pa_cons pe_str (pa_cons pe_str (pa_cons pe_str pa_nil)))) (pa_cons pe_non pa_nil)))) (nomark _))
      (pe_one (pe_cmpR op_eq (pe_callB (call_lenO mN FN (hr.mono (by decide)) bN pass0) (by rfl) ml PySem.boot_len (pa_cons (pe_call FA (hr.mono (by decide)) (by rfl) gA kA bA .nil pass0 (pa_cons (pe_tup (pa_cons pe_str (pa_cons pe_str (pa_cons pe_str (pa_cons pe_str pa_nil))))) pa_nil)) pa_nil)) pe_int (nomark _))))))), ?red⟩
  case red =>
  refine ⟨.ref a, rfl, a, _, rfl, .inl hS, 6, _, rfl, 1, _, rfl, _, rfl, ?_, ?_, ?_⟩
  · split <;> split <;> omega
  · split <;> split <;> omega
  generalize (if (if (((ns.map V.int).length : Nat) : Int) < 6 then (((ns.map V.int).length : Nat) : Int) else 6) > 1 then (if (((ns.map V.int).length : Nat) : Int) < 6 then (((ns.map V.int).length : Nat) : Int) else 6) else 1) = m
  refine for_range (lo := 0) (n := m.toNat) (fun t σ Hx => ∃ y z, σ = [some (.ref a), y, z, none] ∧ Same H Hx)
    ⟨none, none, rfl, Same.refl _⟩ (fun t σ Hx ht hP => ?_) (fun σ Hx hP => ?_)
  · obtain ⟨y, z, rfl, sx⟩ := hP
    refine ⟨.ref a, rfl, .int (0 + (t : Int)), rfl, a, ns, t, ?_, sx.seq hS, fun H1 J s1 nJ jJ => ?_⟩
    · show [V.ref a, V.int (0 + (t : Int))] = _
      rw [Int.zero_add]
    refine ⟨.ref J, rfl, J, rfl, jJ, fun H2 sb2 j2 => ⟨true, rfl, iteF ⟨.ref J, rfl, J, rfl, j2, fun H3 sb3 j3 => ⟨true, rfl, iteF ⟨_, _, rfl, fun b o e => ?_⟩⟩⟩⟩⟩
    have n := ne_of_none (sx _ _ e) nJ
    exact sb3 b o n (sb2 b o n (s1 _ _ (sx _ _ e)))
  obtain ⟨y, z, rfl, sx⟩ := hP
  -- the first list
  refine ⟨(by show 3 ≤ sizeLine; decide), fun t1 n1 => ⟨(by show 3 ≤ sizeLine; decide), fun t2 n2 => ?_⟩⟩
  have e1 : upd Hx t1 (.tup ((abc.map letter).map V.str)) t1 = some (.tup ((abc.map letter).map V.str)) := upd_same
  have s2 := same_new (H := upd Hx t1 (.tup ((abc.map letter).map V.str))) (o := .tup (bacS.map V.str)) n2
  have e2 : upd (upd Hx t1 (.tup ((abc.map letter).map V.str))) t2 (.tup (bacS.map V.str)) t2 = some (.tup (bacS.map V.str)) := upd_same
  refine ⟨t1, t2, abc, bacS, rfl, s2 _ _ e1, th_abc, .of e2, abc_1, fun H3 p3 s3 r3 => ?_⟩
  rw [abc_2] at r3
  refine ⟨(by show 3 ≤ sizeLine; decide), fun t4 n4 => ⟨(by show 3 ≤ sizeLine; decide), fun t5 n5 => ?_⟩⟩
  have s4 := same_new (o := .tup ((abc.map letter).map V.str)) n4
  have e4 : upd H3 t4 (.tup ((abc.map letter).map V.str)) t4 = some (.tup ((abc.map letter).map V.str)) := upd_same
  have s5 := same_new (H := upd H3 t4 (.tup ((abc.map letter).map V.str))) (o := .tup (([1, 1, 0] : List Int).map V.int)) n5
  have e5 : upd (upd H3 t4 (.tup ((abc.map letter).map V.str))) t5 (.tup (([1, 1, 0] : List Int).map V.int)) t5 = some (.tup (([1, 1, 0] : List Int).map V.int)) := upd_same
  refine ⟨t4, t5, abc, [1, 1, 0], rfl, s5 _ _ e4, th_abc, e5, by decide, by decide, fun H6 v6 s6 r6 => ?_⟩
  rw [abc_3] at r6
  have r6 : TxtF H6 v6 acbS := r6
  refine ⟨(by show 3 ≤ sizeLine; decide), fun t7 n7 => ⟨(by show 3 ≤ sizeLine; decide), fun t8 n8 => ?_⟩⟩
  have s7 := same_new (o := .tup ((abc.map letter).map V.str)) n7
  have e7 : upd H6 t7 (.tup ((abc.map letter).map V.str)) t7 = some (.tup ((abc.map letter).map V.str)) := upd_same
  have s8 := same_new (H := upd H6 t7 (.tup ((abc.map letter).map V.str))) (o := .tup (([1, 0, 1] : List Int).map V.int)) n8
  have e8 : upd (upd H6 t7 (.tup ((abc.map letter).map V.str))) t8 (.tup (([1, 0, 1] : List Int).map V.int)) t8 = some (.tup (([1, 0, 1] : List Int).map V.int)) := upd_same
  refine ⟨t7, t8, abc, [1, 0, 1], rfl, s8 _ _ e7, th_abc, e8, by decide, by decide, fun H9 v9 s9 r9 => ?_⟩
  rw [abc_4] at r9
  have r9 : v9 = .non := r9
  subst r9
  refine ⟨(by show 3 ≤ sizeLine; decide), fun L nL => ?_⟩
  have s69 := (s7.trans s8).trans s9
  have s39 := ((s4.trans s5).trans s6).trans s69
  have sL := same_new (o := .lst [.ref p3, v6, .non]) nL
  have eL : upd H9 L (.lst [.ref p3, v6, .non]) L = some (.lst [.ref p3, v6, .non]) := upd_same
  have r3L := (r3.tk (Tk.same s39)).tk (Tk.same sL)
  have r6L := (r6.tk (Tk.same s69)).tk (Tk.same sL)
  generalize upd H9 L (.lst [.ref p3, v6, .non]) = H10 at sL eL r3L r6L ⊢
  refine ⟨.ref L, rfl, (by show 3 ≤ sizeLine; decide), fun t11 n11 => ⟨(by show 3 ≤ sizeLine; decide), fun t12 n12 => ⟨(by show 3 ≤ sizeLine; decide), fun L2 nL2 => ?_⟩⟩⟩
  have s11 := same_new (H := H10) (o := .tup (([0, 1, 1] : List Int).map V.int)) n11
  have e11 : upd H10 t11 (.tup (([0, 1, 1] : List Int).map V.int)) t11 = some (.tup (([0, 1, 1] : List Int).map V.int)) := upd_same
  have s12 := same_new (H := upd H10 t11 (.tup (([0, 1, 1] : List Int).map V.int))) (o := .tup (acbS.map V.str)) n12
  have e12 : upd (upd H10 t11 (.tup (([0, 1, 1] : List Int).map V.int))) t12 (.tup (acbS.map V.str)) t12 = some (.tup (acbS.map V.str)) := upd_same
  have sL2 := same_new (H := upd (upd H10 t11 (.tup (([0, 1, 1] : List Int).map V.int))) t12 (.tup (acbS.map V.str))) (o := .lst [.ref t11, .ref t12, .non]) nL2
  have eL2 : upd (upd (upd H10 t11 (.tup (([0, 1, 1] : List Int).map V.int))) t12 (.tup (acbS.map V.str))) L2 (.lst [.ref t11, .ref t12, .non]) L2 = some (.lst [.ref t11, .ref t12, .non]) := upd_same
  have sAll := (s11.trans s12).trans sL2
  have d1 : Dp K (upd (upd (upd H10 t11 (.tup (([0, 1, 1] : List Int).map V.int))) t12 (.tup (acbS.map V.str))) L2 (.lst [.ref t11, .ref t12, .non])) (.ref L) lastD := .lst (.of (sAll _ _ eL)) (.cons (dp_row (r3L.tk (Tk.same sAll))) (.cons (dp_textF (r6L.tk (Tk.same sAll))) (.cons .non .nil)))
  have d2 : Dp K (upd (upd (upd H10 t11 (.tup (([0, 1, 1] : List Int).map V.int))) t12 (.tup (acbS.map V.str))) L2 (.lst [.ref t11, .ref t12, .non])) (.ref L2) lastD := .lst (.of eL2) (.cons (dp_row ⟨t11, rfl, sL2 _ _ (s12 _ _ e11)⟩) (.cons (dp_text ⟨t12, rfl, sL2 _ _ e12⟩) (.cons .non .nil)))
  refine ⟨lastD, lastD, d1, d2, last_shaped, last_shaped, true, by rw [last_eq], iteT ?_⟩
  refine ⟨(by show 4 ≤ sizeLine; decide), fun t13 n13 => ?_⟩
  refine ⟨t13, abcd, rfl, upd_same, th_abcd, fun H14 a14 s14 na ag => ?_⟩
  obtain ⟨dx, ti, ur, ha, hti, hur⟩ := id ag
  refine ⟨a14, dx, _, rfl, ha, a14, issN abcd, sortedO abcd.length, rfl, ag, _, rfl, ?_, ?_, rfl, ?_⟩
  · rw [abcd_1]
    decide
  · rw [abcd_1]
    decide
  · rw [abcd_1]
    exact q _
end
end Ow

set_option Elab.async false
set_option linter.all false
set_option maxRecDepth 100000
set_option maxHeartbeats 4000000
set_option exponentiation.threshold 3000
namespace Ow
open PySem PySem.Spec PyProof.Rows L2
/-- a def found by its name -/
theorem Fun.ofD {K : PySem.W.Frag} {x qual : Str} {st : Stmt} {f : Addr} {fd : FuncData} (F : FunD K x qual (defArgs st) (defBody st) (defScope st) [] [] f fd) : Fun K x qual st f fd := by
  obtain ⟨oc, od, dV, kV, doc, pm, an, cdv, ct, osl, rfl, lk, hcd, hD, hK⟩ := F.ex
  rcases hD with ⟨_, rfl⟩ | ⟨e, _⟩
  · exact ⟨⟨oc, od, kV, doc, pm, an, cdv, ct, osl, rfl, lk, hcd⟩, F.kp⟩
  · exact absurd rfl e
/-! a def behind a property, a classmethod: found by the address that the record names -/
abbrev Seen : Type := Option (Str × Str × Arguments × FuncBody × Scope × Addr × List (Str × Addr) × Value × Addr)
def seen (K : PySem.W.Frag) (a : Addr) : Seen := (K.lookup a).bind fun o => match o.data with
  | .func d => some (d.name, d.qualname, d.params, d.body, d.scope, d.globals, d.closure, d.defaults, d.builtins)
  | _ => none
def coded (K : PySem.W.Frag) (a : Addr) (q : Str) : Bool := match K.lookup a with
  | some o => (match o.data with
    | .func d => PySem.W.codeIn K d.code q
    | _ => false)
  | none => false
def want (x q : Str) (st : Stmt) : Seen := some (x, q, defArgs st, .stmts (defBody st), defScope st, mainGlobals, [], .none, builtinsNs)
theorem seen_fun {K : PySem.W.Frag} {x q : Str} {st : Stmt} {a : Addr} (e : seen K a = want x q st) (c : coded K a q = true) (k : PySem.W.keepIn K (.ref a) = true) : ∃ fd, FunD K x q (defArgs st) (defBody st) (defScope st) [] [] a fd := by
  unfold coded at c
  unfold seen want at e
  cases r : K.lookup a with
  | none =>
    rw [r] at c
    cases c
  | some o =>
    obtain ⟨oc, od, dt, osl⟩ := o
    rw [r] at c e
    cases dt with
    | func d =>
      obtain ⟨n1, n2, n3, n4, n5, n6, n7, n8, n9, n10, n11, n12, n13, n14, n15⟩ := d
      have e2 : (some (n1, n2, n3, n4, n5, n6, n7, n8, n15) : Seen) = some (x, q, defArgs st, .stmts (defBody st), defScope st, mainGlobals, [], .none, builtinsNs) := e
      simp only [Option.some.injEq, Prod.mk.injEq] at e2
      obtain ⟨h1, h2, h3, h4, h5, h6, h7, h8, h9⟩ := e2
      subst h1 h2 h3 h4 h5 h6 h7 h8 h9
      exact ⟨_, ⟨oc, od, .none, n9, n10, n11, n12, n13, n14, osl, rfl, r, c, .inl ⟨rfl, rfl⟩, .inl rfl⟩, k⟩
    | _ => cases c
/-- the def that the record of a property, a classmethod names -/
def recA (K : PySem.W.Frag) (p : Addr) (T : String) : Addr := match PySem.W.recIn K p T with
  | some (.ref g :: _) => g
  | _ => 0
def recB (K : PySem.W.Frag) (p : Addr) (T : String) : Bool := match PySem.W.recIn K p T with
  | some (.ref _ :: _) => true
  | _ => false
theorem recB_ok {K : PySem.W.Frag} {p : Addr} {T : String} (h : recB K p T = true) : ∃ rest, PySem.W.recIn K p T = some (.ref (recA K p T) :: rest) := by
  unfold recB at h
  unfold recA
  split at h
  · rename_i g r e
    rw [e]
    exact ⟨r, rfl⟩
  · cases h
def propB (K : PySem.W.Frag) (C : Addr) (f : Str) : Bool := He.eqO (PySem.W.findIn K (.ref C) f) (some (some (.ref (He.ma K C f)))) && (He.eqO (PySem.W.specialIn K (.ref (He.ma K C f)) "__get__") (some (some (.builtin "property.__get__"))) && (decide (PySem.W.takesIn K (.ref (He.ma K C f)) = some true) && recB K (He.ma K C f) "property"))
theorem propB_ok {K : PySem.W.Frag} {C : Addr} {f : Str} (h : propB K C f = true) : PropOf K C f (He.ma K C f) (recA K (He.ma K C f) "property") := by
  obtain ⟨h1, h⟩ := He.ba h
  obtain ⟨h2, h⟩ := He.ba h
  obtain ⟨h3, h4⟩ := He.ba h
  exact ⟨He.eqO_ok h1, He.eqO_ok h2, of_decide_eq_true h3, recB_ok h4⟩
/-! the head by facts -/
def dd (i : Nat) (x : Str) : He.DefD := ⟨(x, none), x, x, defArgs (topS i), defBody (topS i), defScope (topS i), [], []⟩
def dm (j : Nat) (m q : Str) : He.DefD := ⟨("Agenda", some m), m, q, defArgs (inS 23 j), defBody (inS 23 j), defScope (inS 23 j), [], []⟩

def fns : List He.DefD := [dd 10 "is_integer", dd 11 "is_name", dd 12 "is_value", dd 13 "is_values", dd 14 "has_values", dd 15 "is_ascending", dd 16 "is_set_of_names", dd 19 "is_issues", dd 20 "_has_both", dd 21 "_are_rows", dm 0 "__init__" "Agenda.__init__", dm 7 "__len__" "Agenda.__len__", dd 25 "_need_things", dd 26 "_pairs", dd 27 "_issues_of", dd 28 "_all_orders", dd 29 "_row", dd 30 "orders_agenda", dd 31 "row_of", dd 32 "_need_values", dd 33 "order_of", dd 34 "ring", dd 36 "_law_jug", dd 37 "_law_dip", dd 39 "_law_jumbled", dd 40 "_law_all_rows", dd 41 "_law_pairs_of", dd 42 "_law_orders_of", dd 43 "_law_row", dd 44 "_law_things", dd 45 "_law_is_ahead", dd 46 "_law_tuple_right", dd 47 "_law_right", dd 48 "law"]
def fas : List He.Fa := [.glo "is_integer", .glo "is_name", .glo "is_value", .glo "is_values", .glo "has_values", .glo "is_ascending", .glo "is_set_of_names", .glo "is_issues", .glo "_has_both", .glo "_are_rows", .glo "_need_things", .glo "_pairs", .glo "_issues_of", .glo "_all_orders", .glo "_row", .glo "orders_agenda", .glo "row_of", .glo "_need_values", .glo "order_of", .glo "ring", .glo "_law_jug", .glo "_law_dip", .glo "_law_jumbled", .glo "_law_all_rows", .glo "_law_pairs_of", .glo "_law_orders_of", .glo "_law_row", .glo "_law_things", .glo "_law_is_ahead", .glo "_law_tuple_right", .glo "_law_right", .glo "law", .glo "Agenda", .int "_BOUND" 1000000000000000000000000000000000000000000000000000000000000, .int "MAX_LETTERS" 8, .int "MAX_ISSUES" 6, .free "isinstance", .free "int", .free "bool", .free "str", .free "len", .free "all", .free "tuple", .free "zip", .free "range", .free "enumerate", .free "sorted", .free "abs", .free "max", .free "list", .free "set", .free "repr", .free "min", .cls "Agenda", .noat "Agenda" "_issues", .noat "Agenda" "_rows", .meth "Agenda" "__len__", .mkr "Agenda"]
/-- more facts -/
abbrev aIs (K : PySem.W.Frag) : Addr := recA K (He.ma K (He.ga K "Agenda") "issues") "property"
abbrev aRo (K : PySem.W.Frag) : Addr := recA K (He.ma K (He.ga K "Agenda") "rows") "property"
def x2 (K : PySem.W.Frag) : Bool := propB K (He.ga K "Agenda") "issues" && propB K (He.ga K "Agenda") "rows"
def x3 (K : PySem.W.Frag) : Bool := coded K (aIs K) "Agenda.issues" && (PySem.W.keepIn K (.ref (aIs K)) && (coded K (aRo K) "Agenda.rows" && PySem.W.keepIn K (.ref (aRo K))))
def xtra (K : PySem.W.Frag) : Bool := x2 K && x3 K
def seens (K : PySem.W.Frag) : List Seen := [seen K (aIs K), seen K (aRo K)]
def wants : List Seen := [want "issues" "Agenda.issues" (inS 23 2), want "rows" "Agenda.rows" (inS 23 3)]
abbrev AlE : Type := He.AlD × Bool × List Seen
def obsK (K : PySem.W.Frag) : AlE := (He.obsD fas fns K, xtra K, seens K)
def obsE (n : Nat) (g : Addr → Option Obj) : AlE := obsK (He.frG g (cStatics :: He.asD g n))
def valE : AlE := (He.valD fns, true, wants)
def hookE (n : Nat) : PySem.W.Hook where
  α := AlE
  obs := fun s => obsE n s.heap.get?
  val := fun _ => valE
  says := fun _ h => ∃ K : PySem.W.Frag, K.In h ∧ He.SaysD fas fns K ∧ xtra K = true ∧ seens K = wants
  of := fun _ _ e => ⟨_, He.frG_in, congrArg (fun z : AlE => z.1) e, congrArg (fun z : AlE => z.2.1) e, congrArg (fun z : AlE => z.2.2) e⟩
  keeps := fun _ _ _ ⟨K, hK, c⟩ k => ⟨K, PySem.W.Frag.In.keeps hK k, c⟩
theorem obsE_eq {n : Nat} {g : Addr → Option Obj} {s : Shared} (h : ∀ a, g a = s.heap.get? a) : obsE n g = (hookE n).obs s := by
  have e : g = s.heap.get? := funext h
  rw [e] <;> rfl
theorem facts {P : Program} {w : World} {K : PySem.W.Frag} {h : Heap} {mg : Str → Option Value} {f : Addr} (X : K.In h) (G : h.Ns mainGlobals mg) (hfa : mg ("law" : Str) = some (.ref f)) (c : He.SaysD fas fns K) (xx : xtra K = true) (sn : seens K = wants) :
    ∃ fd : FuncData, (∀ (s : Shared) (v : Value), BindsTo s fd ⟨[v], []⟩ [("script", v)]) ∧ ∀ base : Heap, K.In base → base.Ns mainGlobals mg → FnG P w K mg base 10 f fd ["script"] (spLaw K) := by
  obtain ⟨xb, xc⟩ := He.ba xx
  obtain ⟨xp1, xp2⟩ := He.ba xb
  obtain ⟨c1, xc⟩ := He.ba xc
  obtain ⟨c2, xc⟩ := He.ba xc
  obtain ⟨c3, c4⟩ := He.ba xc
  have pIs := propB_ok xp1
  have pRo := propB_ok xp2
  injection sn with s1 sn
  injection sn with s2 sn
  obtain ⟨fd_Sissues, D_Sissues⟩ := seen_fun (st := inS 23 2) s1 c1 c2
  obtain ⟨fd_Srows, D_Srows⟩ := seen_fun (st := inS 23 3) s2 c3 c4
  obtain ⟨fd_is_integer, D_is_integer⟩ := c.def_ 0 (d := dd 10 "is_integer") rfl
  obtain ⟨fd_is_name, D_is_name⟩ := c.def_ 1 (d := dd 11 "is_name") rfl
  obtain ⟨fd_is_value, D_is_value⟩ := c.def_ 2 (d := dd 12 "is_value") rfl
  obtain ⟨fd_is_values, D_is_values⟩ := c.def_ 3 (d := dd 13 "is_values") rfl
  obtain ⟨fd_has_values, D_has_values⟩ := c.def_ 4 (d := dd 14 "has_values") rfl
  obtain ⟨fd_is_ascending, D_is_ascending⟩ := c.def_ 5 (d := dd 15 "is_ascending") rfl
  obtain ⟨fd_is_set_of_names, D_is_set_of_names⟩ := c.def_ 6 (d := dd 16 "is_set_of_names") rfl
  obtain ⟨fd_is_issues, D_is_issues⟩ := c.def_ 7 (d := dd 19 "is_issues") rfl
  obtain ⟨fd__has_both, D__has_both⟩ := c.def_ 8 (d := dd 20 "_has_both") rfl
  obtain ⟨fd__are_rows, D__are_rows⟩ := c.def_ 9 (d := dd 21 "_are_rows") rfl
  obtain ⟨fd_M__init__, D_M__init__⟩ := c.def_ 10 (d := dm 0 "__init__" "Agenda.__init__") rfl
  obtain ⟨fd_M__len__, D_M__len__⟩ := c.def_ 11 (d := dm 7 "__len__" "Agenda.__len__") rfl
  obtain ⟨fd__need_things, D__need_things⟩ := c.def_ 12 (d := dd 25 "_need_things") rfl
  obtain ⟨fd__pairs, D__pairs⟩ := c.def_ 13 (d := dd 26 "_pairs") rfl
  obtain ⟨fd__issues_of, D__issues_of⟩ := c.def_ 14 (d := dd 27 "_issues_of") rfl
  obtain ⟨fd__all_orders, D__all_orders⟩ := c.def_ 15 (d := dd 28 "_all_orders") rfl
  obtain ⟨fd__row, D__row⟩ := c.def_ 16 (d := dd 29 "_row") rfl
  obtain ⟨fd_orders_agenda, D_orders_agenda⟩ := c.def_ 17 (d := dd 30 "orders_agenda") rfl
  obtain ⟨fd_row_of, D_row_of⟩ := c.def_ 18 (d := dd 31 "row_of") rfl
  obtain ⟨fd__need_values, D__need_values⟩ := c.def_ 19 (d := dd 32 "_need_values") rfl
  obtain ⟨fd_order_of, D_order_of⟩ := c.def_ 20 (d := dd 33 "order_of") rfl
  obtain ⟨fd_ring, D_ring⟩ := c.def_ 21 (d := dd 34 "ring") rfl
  obtain ⟨fd__law_jug, D__law_jug⟩ := c.def_ 22 (d := dd 36 "_law_jug") rfl
  obtain ⟨fd__law_dip, D__law_dip⟩ := c.def_ 23 (d := dd 37 "_law_dip") rfl
  obtain ⟨fd__law_jumbled, D__law_jumbled⟩ := c.def_ 24 (d := dd 39 "_law_jumbled") rfl
  obtain ⟨fd__law_all_rows, D__law_all_rows⟩ := c.def_ 25 (d := dd 40 "_law_all_rows") rfl
  obtain ⟨fd__law_pairs_of, D__law_pairs_of⟩ := c.def_ 26 (d := dd 41 "_law_pairs_of") rfl
  obtain ⟨fd__law_orders_of, D__law_orders_of⟩ := c.def_ 27 (d := dd 42 "_law_orders_of") rfl
  obtain ⟨fd__law_row, D__law_row⟩ := c.def_ 28 (d := dd 43 "_law_row") rfl
  obtain ⟨fd__law_things, D__law_things⟩ := c.def_ 29 (d := dd 44 "_law_things") rfl
  obtain ⟨fd__law_is_ahead, D__law_is_ahead⟩ := c.def_ 30 (d := dd 45 "_law_is_ahead") rfl
  obtain ⟨fd__law_tuple_right, D__law_tuple_right⟩ := c.def_ 31 (d := dd 46 "_law_tuple_right") rfl
  obtain ⟨fd__law_right, D__law_right⟩ := c.def_ 32 (d := dd 47 "_law_right") rfl
  obtain ⟨fd_law, D_law⟩ := c.def_ 33 (d := dd 48 "law") rfl
  have e := hfa.symm.trans (He.glo_ok X G (c.fact 31 (f := .glo "law") rfl))
  cases e
  have g_is_integer := He.glo_ok X G (c.fact 0 (f := .glo "is_integer") rfl)
  have g_is_name := He.glo_ok X G (c.fact 1 (f := .glo "is_name") rfl)
  have g_is_value := He.glo_ok X G (c.fact 2 (f := .glo "is_value") rfl)
  have g_is_values := He.glo_ok X G (c.fact 3 (f := .glo "is_values") rfl)
  have g_has_values := He.glo_ok X G (c.fact 4 (f := .glo "has_values") rfl)
  have g_is_ascending := He.glo_ok X G (c.fact 5 (f := .glo "is_ascending") rfl)
  have g_is_set_of_names := He.glo_ok X G (c.fact 6 (f := .glo "is_set_of_names") rfl)
  have g_is_issues := He.glo_ok X G (c.fact 7 (f := .glo "is_issues") rfl)
  have g__has_both := He.glo_ok X G (c.fact 8 (f := .glo "_has_both") rfl)
  have g__are_rows := He.glo_ok X G (c.fact 9 (f := .glo "_are_rows") rfl)
  have g__need_things := He.glo_ok X G (c.fact 10 (f := .glo "_need_things") rfl)
  have g__pairs := He.glo_ok X G (c.fact 11 (f := .glo "_pairs") rfl)
  have g__issues_of := He.glo_ok X G (c.fact 12 (f := .glo "_issues_of") rfl)
  have g__all_orders := He.glo_ok X G (c.fact 13 (f := .glo "_all_orders") rfl)
  have g__row := He.glo_ok X G (c.fact 14 (f := .glo "_row") rfl)
  have g_orders_agenda := He.glo_ok X G (c.fact 15 (f := .glo "orders_agenda") rfl)
  have g_row_of := He.glo_ok X G (c.fact 16 (f := .glo "row_of") rfl)
  have g__need_values := He.glo_ok X G (c.fact 17 (f := .glo "_need_values") rfl)
  have g_order_of := He.glo_ok X G (c.fact 18 (f := .glo "order_of") rfl)
  have g_ring := He.glo_ok X G (c.fact 19 (f := .glo "ring") rfl)
  have g__law_jug := He.glo_ok X G (c.fact 20 (f := .glo "_law_jug") rfl)
  have g__law_dip := He.glo_ok X G (c.fact 21 (f := .glo "_law_dip") rfl)
  have g__law_jumbled := He.glo_ok X G (c.fact 22 (f := .glo "_law_jumbled") rfl)
  have g__law_all_rows := He.glo_ok X G (c.fact 23 (f := .glo "_law_all_rows") rfl)
  have g__law_pairs_of := He.glo_ok X G (c.fact 24 (f := .glo "_law_pairs_of") rfl)
  have g__law_orders_of := He.glo_ok X G (c.fact 25 (f := .glo "_law_orders_of") rfl)
  have g__law_row := He.glo_ok X G (c.fact 26 (f := .glo "_law_row") rfl)
  have g__law_things := He.glo_ok X G (c.fact 27 (f := .glo "_law_things") rfl)
  have g__law_is_ahead := He.glo_ok X G (c.fact 28 (f := .glo "_law_is_ahead") rfl)
  have g__law_tuple_right := He.glo_ok X G (c.fact 29 (f := .glo "_law_tuple_right") rfl)
  have g__law_right := He.glo_ok X G (c.fact 30 (f := .glo "_law_right") rfl)
  have g_law := He.glo_ok X G (c.fact 31 (f := .glo "law") rfl)
  have g_Agenda := He.glo_ok X G (c.fact 32 (f := .glo "Agenda") rfl)
  obtain ⟨t__BOUND, mI0__BOUND⟩ := He.int_ok X G (c.fact 33 (f := .int "_BOUND" 1000000000000000000000000000000000000000000000000000000000000) rfl)
  have mI__BOUND : mg "_BOUND" = some (.int (10 ^ 60) t__BOUND) := by
    rw [mI0__BOUND, show (10 : Int) ^ 60 = 1000000000000000000000000000000000000000000000000000000000000 by decide +kernel]
  obtain ⟨t_MAX_LETTERS, mI_MAX_LETTERS⟩ := He.int_ok X G (c.fact 34 (f := .int "MAX_LETTERS" 8) rfl)
  obtain ⟨t_MAX_ISSUES, mI_MAX_ISSUES⟩ := He.int_ok X G (c.fact 35 (f := .int "MAX_ISSUES" 6) rfl)
  have m_isinstance := He.free_ok X G (c.fact 36 (f := .free "isinstance") rfl)
  have m_int := He.free_ok X G (c.fact 37 (f := .free "int") rfl)
  have m_bool := He.free_ok X G (c.fact 38 (f := .free "bool") rfl)
  have m_str := He.free_ok X G (c.fact 39 (f := .free "str") rfl)
  have m_len := He.free_ok X G (c.fact 40 (f := .free "len") rfl)
  have m_all := He.free_ok X G (c.fact 41 (f := .free "all") rfl)
  have m_tuple := He.free_ok X G (c.fact 42 (f := .free "tuple") rfl)
  have m_zip := He.free_ok X G (c.fact 43 (f := .free "zip") rfl)
  have m_range := He.free_ok X G (c.fact 44 (f := .free "range") rfl)
  have m_enumerate := He.free_ok X G (c.fact 45 (f := .free "enumerate") rfl)
  have m_sorted := He.free_ok X G (c.fact 46 (f := .free "sorted") rfl)
  have m_abs := He.free_ok X G (c.fact 47 (f := .free "abs") rfl)
  have m_max := He.free_ok X G (c.fact 48 (f := .free "max") rfl)
  have m_list := He.free_ok X G (c.fact 49 (f := .free "list") rfl)
  have m_set := He.free_ok X G (c.fact 50 (f := .free "set") rfl)
  have m_repr := He.free_ok X G (c.fact 51 (f := .free "repr") rfl)
  have m_min := He.free_ok X G (c.fact 52 (f := .free "min") rfl)
  have RC : AgC K (He.ga K "Agenda") := ⟨He.cls_ok (c.fact 53 (f := .cls "Agenda") rfl), He.noat_ok (c.fact 54 (f := .noat "Agenda" "_issues") rfl), He.noat_ok (c.fact 55 (f := .noat "Agenda" "_rows") rfl)⟩
  have mt___len__ := He.meth_ok (c.fact 56 (f := .meth "Agenda" "__len__") rfl)
  have mk := He.mkr_ok (c.fact 57 (f := .mkr "Agenda") rfl)

  have b_is_integer : Binds K fd_is_integer ["value"] [] := D_is_integer.bindsN fun _ _ _ _ _ _ us hl => match us, hl with | [_], _ => rfl
  have b_is_name : Binds K fd_is_name ["value"] [] := D_is_name.bindsN fun _ _ _ _ _ _ us hl => match us, hl with | [_], _ => rfl
  have b_is_value : Binds K fd_is_value ["value"] [] := D_is_value.bindsN fun _ _ _ _ _ _ us hl => match us, hl with | [_], _ => rfl
  have b_is_values : Binds K fd_is_values ["value"] [] := D_is_values.bindsN fun _ _ _ _ _ _ us hl => match us, hl with | [_], _ => rfl
  have b_has_values : Binds K fd_has_values ["value", "many"] [] := D_has_values.bindsN fun _ _ _ _ _ _ us hl => match us, hl with | [_, _], _ => rfl
  have b_is_ascending : Binds K fd_is_ascending ["items"] [] := D_is_ascending.bindsN fun _ _ _ _ _ _ us hl => match us, hl with | [_], _ => rfl
  have b_is_set_of_names : Binds K fd_is_set_of_names ["value"] [] := D_is_set_of_names.bindsN fun _ _ _ _ _ _ us hl => match us, hl with | [_], _ => rfl
  have b_is_issues : Binds K fd_is_issues ["value"] [] := D_is_issues.bindsN fun _ _ _ _ _ _ us hl => match us, hl with | [_], _ => rfl
  have b__has_both : Binds K fd__has_both ["rows", "at"] [] := D__has_both.bindsN fun _ _ _ _ _ _ us hl => match us, hl with | [_, _], _ => rfl
  have b__are_rows : Binds K fd__are_rows ["value", "many"] [] := D__are_rows.bindsN fun _ _ _ _ _ _ us hl => match us, hl with | [_, _], _ => rfl
  have b_M__init__ : Binds K fd_M__init__ ["self", "issues", "rows"] [] := D_M__init__.bindsN fun _ _ _ _ _ _ us hl => match us, hl with | [_, _, _], _ => rfl
  have b_Sissues : Binds K fd_Sissues ["self"] [] := D_Sissues.bindsN fun _ _ _ _ _ _ us hl => match us, hl with | [_], _ => rfl
  have b_Srows : Binds K fd_Srows ["self"] [] := D_Srows.bindsN fun _ _ _ _ _ _ us hl => match us, hl with | [_], _ => rfl
  have b_M__len__ : Binds K fd_M__len__ ["self"] [] := D_M__len__.bindsN fun _ _ _ _ _ _ us hl => match us, hl with | [_], _ => rfl
  have b__need_things : Binds K fd__need_things ["things"] [] := D__need_things.bindsN fun _ _ _ _ _ _ us hl => match us, hl with | [_], _ => rfl
  have b__pairs : Binds K fd__pairs ["things"] [] := D__pairs.bindsN fun _ _ _ _ _ _ us hl => match us, hl with | [_], _ => rfl
  have b__issues_of : Binds K fd__issues_of ["things"] [] := D__issues_of.bindsN fun _ _ _ _ _ _ us hl => match us, hl with | [_], _ => rfl
  have b__all_orders : Binds K fd__all_orders ["things"] [] := D__all_orders.bindsN fun _ _ _ _ _ _ us hl => match us, hl with | [_], _ => rfl
  have b__row : Binds K fd__row ["things", "order"] [] := D__row.bindsN fun _ _ _ _ _ _ us hl => match us, hl with | [_, _], _ => rfl
  have b_orders_agenda : Binds K fd_orders_agenda ["things"] [] := D_orders_agenda.bindsN fun _ _ _ _ _ _ us hl => match us, hl with | [_], _ => rfl
  have b_row_of : Binds K fd_row_of ["things", "order"] [] := D_row_of.bindsN fun _ _ _ _ _ _ us hl => match us, hl with | [_, _], _ => rfl
  have b__need_values : Binds K fd__need_values ["things", "values"] [] := D__need_values.bindsN fun _ _ _ _ _ _ us hl => match us, hl with | [_, _], _ => rfl
  have b_order_of : Binds K fd_order_of ["things", "values"] [] := D_order_of.bindsN fun _ _ _ _ _ _ us hl => match us, hl with | [_, _], _ => rfl
  have b_ring : Binds K fd_ring ["things", "values"] [] := D_ring.bindsN fun _ _ _ _ _ _ us hl => match us, hl with | [_, _], _ => rfl
  have b__law_jug : Binds K fd__law_jug ["script", "at"] [] := D__law_jug.bindsN fun _ _ _ _ _ _ us hl => match us, hl with | [_, _], _ => rfl
  have b__law_dip : Binds K fd__law_dip ["jug", "total"] [] := D__law_dip.bindsN fun _ _ _ _ _ _ us hl => match us, hl with | [_, _], _ => rfl
  have b__law_jumbled : Binds K fd__law_jumbled ["jug", "items"] [] := D__law_jumbled.bindsN fun _ _ _ _ _ _ us hl => match us, hl with | [_, _], _ => rfl
  have b__law_all_rows : Binds K fd__law_all_rows ["size"] [] := D__law_all_rows.bindsN fun _ _ _ _ _ _ us hl => match us, hl with | [_], _ => rfl
  have b__law_pairs_of : Binds K fd__law_pairs_of ["things"] [] := D__law_pairs_of.bindsN fun _ _ _ _ _ _ us hl => match us, hl with | [_], _ => rfl
  have b__law_orders_of : Binds K fd__law_orders_of ["things"] [] := D__law_orders_of.bindsN fun _ _ _ _ _ _ us hl => match us, hl with | [_], _ => rfl
  have b__law_row : Binds K fd__law_row ["things", "order"] [] := D__law_row.bindsN fun _ _ _ _ _ _ us hl => match us, hl with | [_, _], _ => rfl
  have b__law_things : Binds K fd__law_things ["jug", "least"] [] := D__law_things.bindsN fun _ _ _ _ _ _ us hl => match us, hl with | [_, _], _ => rfl
  have b__law_is_ahead : Binds K fd__law_is_ahead ["things", "values", "one", "other"] [] := D__law_is_ahead.bindsN fun _ _ _ _ _ _ us hl => match us, hl with | [_, _, _, _], _ => rfl
  have b__law_tuple_right : Binds K fd__law_tuple_right ["things", "values", "rows"] [] := D__law_tuple_right.bindsN fun _ _ _ _ _ _ us hl => match us, hl with | [_, _, _], _ => rfl
  have b__law_right : Binds K fd__law_right ["jug"] [] := D__law_right.bindsN fun _ _ _ _ _ _ us hl => match us, hl with | [_], _ => rfl
  have b_law := FunD.bindsA (ps := ["script"]) D_law fun _ _ _ _ _ _ us hl => match us, hl with | [_], _ => rfl
  refine ⟨fd_law, fun s v => b_law s [v] rfl, fun base _ _ => ?_⟩
  have F_is_integer : FnOk P w K mg base CX0 1 _ fd_is_integer ["value"] (spB fun _ => shortB) := ok_integer (Fun.ofD D_is_integer) m_isinstance m_int m_bool mI__BOUND
  have F_is_name : FnOk P w K mg base CX0 1 _ fd_is_name ["value"] (spB fun _ => nameB) := ok_name (Fun.ofD D_is_name) m_isinstance m_str m_len m_all mI_MAX_LETTERS
  have F_is_value : FnOk P w K mg base CX0 2 _ fd_is_value ["value"] (spB fun _ => bitB) := ok_value (Fun.ofD D_is_value) F_is_integer D_is_integer.kp b_is_integer g_is_integer
  have F_is_values : FnOk P w K mg base CX0 3 _ fd_is_values ["value"] (spB rowB) := ok_values (Fun.ofD D_is_values) F_is_value D_is_value.kp b_is_value g_is_value m_isinstance m_tuple m_all
  have F_has_values : FnOk P w K mg base CX0 4 _ fd_has_values ["value", "many"] (spHV) := ok_hasvalues (Fun.ofD D_has_values) F_is_values D_is_values.kp b_is_values g_is_values m_len
  have F_is_ascending : FnOk P w K mg base CX0 1 _ fd_is_ascending ["items"] (spAsc) := ok_asc (Fun.ofD D_is_ascending) m_zip m_all
  have F_is_ascendingR : FnOk P w K mg base CX0 1 _ fd_is_ascending ["items"] (spAscR) := ok_ascr (Fun.ofD D_is_ascending) m_zip m_all
  have F_is_set_of_names : FnOk P w K mg base CX0 2 _ fd_is_set_of_names ["value"] (spTexts namesB) := ok_setnames (Fun.ofD D_is_set_of_names) F_is_name D_is_name.kp b_is_name g_is_name F_is_ascending D_is_ascending.kp b_is_ascending g_is_ascending m_isinstance m_tuple m_all
  have F_is_issues : FnOk P w K mg base CX0 3 _ fd_is_issues ["value"] (spTexts issuesB) := ok_issues (Fun.ofD D_is_issues) F_is_set_of_names D_is_set_of_names.kp b_is_set_of_names g_is_set_of_names m_len mI_MAX_ISSUES
  have F__has_both : FnOk P w K mg base CX0 1 _ fd__has_both ["rows", "at"] (spBoth) := ok_hasboth (Fun.ofD D__has_both) m_len
  have F__are_rows : FnOk P w K mg base CX0 5 _ fd__are_rows ["value", "many"] (spAreR) := ok_arerows (Fun.ofD D__are_rows) F_has_values D_has_values.kp b_has_values g_has_values F_is_ascendingR D_is_ascending.kp b_is_ascending g_is_ascending F__has_both D__has_both.kp b__has_both g__has_both m_isinstance m_tuple m_all m_range
  have F_M__init__ : FnOk P w K mg base CX0 6 _ fd_M__init__ ["self", "issues", "rows"] (spInit (He.ga K "Agenda")) := ok_init RC (Fun.ofD D_M__init__) F_is_issues D_is_issues.kp b_is_issues g_is_issues F__are_rows D__are_rows.kp b__are_rows g__are_rows m_len
  have F_Sissues : FnOk P w K mg base CX0 1 _ fd_Sissues ["self"] (getSp (He.ga K "Agenda") "_issues") := ok_pissues RC (Fun.ofD D_Sissues)
  have RP_issues : AgP P w K mg base (He.ga K "Agenda") "issues" "_issues" _ _ fd_Sissues := ⟨pIs, F_Sissues, b_Sissues⟩
  have F_Srows : FnOk P w K mg base CX0 1 _ fd_Srows ["self"] (getSp (He.ga K "Agenda") "_rows") := ok_prows RC (Fun.ofD D_Srows)
  have RP_rows : AgP P w K mg base (He.ga K "Agenda") "rows" "_rows" _ _ fd_Srows := ⟨pRo, F_Srows, b_Srows⟩
  have F_M__len__ : FnOk P w K mg base CX0 1 _ fd_M__len__ ["self"] (spLen (He.ga K "Agenda")) := ok_len RC (Fun.ofD D_M__len__) m_len
  have F__need_things : FnOk P w K mg base CX0 3 _ fd__need_things ["things"] (spNeedT) := ok_needthings (Fun.ofD D__need_things) F_is_set_of_names D_is_set_of_names.kp b_is_set_of_names g_is_set_of_names m_len m_all
  have F__pairs : FnOk P w K mg base CX0 1 _ fd__pairs ["things"] (spPairs) := ok_pairs (Fun.ofD D__pairs)
  have F__issues_of : FnOk P w K mg base CX0 2 _ fd__issues_of ["things"] (spIssuesOf) := ok_issuesof (Fun.ofD D__issues_of) F__pairs D__pairs.kp b__pairs g__pairs m_tuple
  have F__all_orders : FnOk P w K mg base CX0 1 _ fd__all_orders ["things"] (spAllOrd) := ok_allorders (Fun.ofD D__all_orders)
  have F__row : FnOk P w K mg base CX0 2 _ fd__row ["things", "order"] (spRow K) := ok_row (Fun.ofD D__row) F__pairs D__pairs.kp b__pairs g__pairs m_enumerate m_tuple m_int
  have F_orders_agenda : FnOk P w K mg base CX0 8 _ fd_orders_agenda ["things"] (spOrdAg (He.ga K "Agenda")) := ok_ordag (Fun.ofD D_orders_agenda) F__need_things D__need_things.kp b__need_things g__need_things F__issues_of D__issues_of.kp b__issues_of g__issues_of F__all_orders D__all_orders.kp b__all_orders g__all_orders F__row D__row.kp b__row g__row mk F_M__init__ b_M__init__ g_Agenda m_tuple m_sorted
  have F_row_of : FnOk P w K mg base CX0 4 _ fd_row_of ["things", "order"] (spRowOf K) := ok_rowof (Fun.ofD D_row_of) F__need_things D__need_things.kp b__need_things g__need_things F__all_orders D__all_orders.kp b__all_orders g__all_orders F__row D__row.kp b__row g__row
  have F__need_values : FnOk P w K mg base CX0 5 _ fd__need_values ["things", "values"] (spNeedV) := ok_needvalues (Fun.ofD D__need_values) F_has_values D_has_values.kp b_has_values g_has_values F__pairs D__pairs.kp b__pairs g__pairs m_len
  have F_order_of : FnOk P w K mg base CX0 6 _ fd_order_of ["things", "values"] (spOrderOf) := ok_orderof (Fun.ofD D_order_of) F__need_things D__need_things.kp b__need_things g__need_things F__need_values D__need_values.kp b__need_values g__need_values F__all_orders D__all_orders.kp b__all_orders g__all_orders F__row D__row.kp b__row g__row
  have F_ring : FnOk P w K mg base CX0 6 _ fd_ring ["things", "values"] (spRing) := ok_ring (Fun.ofD D_ring) F__need_things D__need_things.kp b__need_things g__need_things F__need_values D__need_values.kp b__need_values g__need_values F__pairs D__pairs.kp b__pairs g__pairs m_zip
  have F__law_jug : FnOk P w K mg base CX0 1 _ fd__law_jug ["script", "at"] (spJug K) := ok_jug (Fun.ofD D__law_jug) m_int m_len m_abs m_max
  have F__law_dip : FnOk P w K mg base CX0 1 _ fd__law_dip ["jug", "total"] (spDip) := ok_dip (Fun.ofD D__law_dip) m_int
  have F__law_jumbled : FnOk P w K mg base CX0 2 _ fd__law_jumbled ["jug", "items"] (spJum) := ok_jumbled (Fun.ofD D__law_jumbled) F__law_dip D__law_dip.kp b__law_dip g__law_dip m_list m_len
  have F__law_all_rows : FnOk P w K mg base CX0 1 _ fd__law_all_rows ["size"] (spRowsL) := ok_allrows (Fun.ofD D__law_all_rows) m_range m_list
  have F__law_pairs_of : FnOk P w K mg base CX0 1 _ fd__law_pairs_of ["things"] (spLPr) := ok_lpairs (Fun.ofD D__law_pairs_of) m_enumerate
  have F__law_orders_of : FnOk P w K mg base CX0 1 _ fd__law_orders_of ["things"] (spAllOrd) := ok_lorders (Fun.ofD D__law_orders_of) m_range m_len m_list
  have F__law_row : FnOk P w K mg base CX0 2 _ fd__law_row ["things", "order"] (spLRow K) := ok_lrow (Fun.ofD D__law_row) F__law_pairs_of D__law_pairs_of.kp b__law_pairs_of g__law_pairs_of m_tuple m_int
  have F__law_things : FnOk P w K mg base CX0 3 _ fd__law_things ["jug", "least"] (spThings) := ok_things (Fun.ofD D__law_things) F__law_jumbled D__law_jumbled.kp b__law_jumbled g__law_jumbled F__law_dip D__law_dip.kp b__law_dip g__law_dip m_tuple m_sorted
  have F__law_is_ahead : FnOk P w K mg base CX0 2 _ fd__law_is_ahead ["things", "values", "one", "other"] (spAhead) := ok_isahead (Fun.ofD D__law_is_ahead) F__law_pairs_of D__law_pairs_of.kp b__law_pairs_of g__law_pairs_of
  have F__law_tuple_right : FnOk P w K mg base CX0 7 _ fd__law_tuple_right ["things", "values", "rows"] (spTR) := ok_tupleright (Fun.ofD D__law_tuple_right) F_ring D_ring.kp b_ring g_ring F_order_of D_order_of.kp b_order_of g_order_of F__law_row D__law_row.kp b__law_row g__law_row F__law_is_ahead D__law_is_ahead.kp b__law_is_ahead g__law_is_ahead m_sorted m_list m_isinstance m_tuple m_len m_set
  have F__law_right : FnG P w K mg base 9 _ fd__law_right ["jug"] (spRight) := ok_right RC RP_issues RP_rows (Fun.ofD D__law_right) F__law_things D__law_things.kp b__law_things g__law_things F__law_pairs_of D__law_pairs_of.kp b__law_pairs_of g__law_pairs_of F__law_orders_of D__law_orders_of.kp b__law_orders_of g__law_orders_of F__law_row D__law_row.kp b__law_row g__law_row F_orders_agenda D_orders_agenda.kp b_orders_agenda g_orders_agenda F_row_of D_row_of.kp b_row_of g_row_of F_order_of D_order_of.kp b_order_of g_order_of F__law_all_rows D__law_all_rows.kp b__law_all_rows g__law_all_rows F__law_jumbled D__law_jumbled.kp b__law_jumbled g__law_jumbled F__law_tuple_right D__law_tuple_right.kp b__law_tuple_right g__law_tuple_right m_sorted m_repr m_tuple m_len
  exact ok_law (Fun.ofD D_law) F__law_right D__law_right.kp b__law_right g__law_right F__law_jug D__law_jug.kp b__law_jug g__law_jug F_row_of D_row_of.kp b_row_of g_row_of F_order_of D_order_of.kp b_order_of g_order_of F_orders_agenda D_orders_agenda.kp b_orders_agenda g_orders_agenda mt___len__ F_M__len__ b_M__len__ m_range m_len m_max m_min
end Ow

set_option Elab.async false
set_option linter.all false
set_option maxRecDepth 100000
set_option maxHeartbeats 0
namespace Ow
open PySem PySem.Spec PyProof.Rows L2
abbrev RR : PySem.W.OpenRow := PySem.W.OpenLaw.row PySem.Challenge.rw_oneswill_k50_whole_orders_and_rows
abbrev hk : PySem.W.Hook := hookE 6
def ob (s : PySem.W.SharedT) : AlE := obsE 6 (HandSHeadRun.getT s)
theorem ob_eq (s : PySem.W.SharedT) : ob s = hk.obs s.abs := obsE_eq (HandSHeadRun.getT_eq s)
def loose0 : List Str := ["_wall", "_own", "WillError", "InvalidAgenda", "InvalidOperation", "UnknownName", "MAX_LETTERS", "_BOUND", "is_integer", "is_name"]
def loose1 : List Str := ["is_value", "is_values", "has_values", "is_ascending", "is_set_of_names", "MAX_ISSUES", "is_issues", "_has_both", "_are_rows", "_agenda_of_columns"]
def loose2 : List Str := ["Agenda", "_need_things", "_pairs", "_issues_of", "_all_orders", "_row", "orders_agenda", "row_of", "_need_values", "order_of"]
def loose3 : List Str := ["ring", "_law_jug", "_law_dip", "_law_choice", "_law_jumbled", "_law_all_rows", "_law_pairs_of", "_law_orders_of", "_law_row", "_law_things"]
def loose4 : List Str := ["_law_is_ahead", "_law_tuple_right", "_law_right"]
def loose : List Str := loose0 ++ loose1 ++ loose2 ++ loose3 ++ loose4
theorem run (w : World) : HandSHeadRun.RunEq RR (PySem.W.view RR.prog [48]) hk ob 6000 loose w := by
  intro os
  kernel_rfl
end Ow
open PySem PySem.W PySem.Calls PyProof.Rows
theorem PySem.Challenge.cw_oneswill_k50_whole_orders_and_rows_holds : PySem.Challenge.rw_oneswill_k50_whole_orders_and_rows.Holds := by
  w_on; o_law
  refine HandSHeadRun.head_any (r := OpenLaw.row PySem.Challenge.rw_oneswill_k50_whole_orders_and_rows) (q := view (OpenLaw.row PySem.Challenge.rw_oneswill_k50_whole_orders_and_rows).prog [48]) (H := Ow.hk) (ob := Ow.ob) (M := 6000) (loose := Ow.loose) (d := HandSHeadRun.topDef (OpenLaw.row PySem.Challenge.rw_oneswill_k50_whole_orders_and_rows).prog 48) (kwd := []) Ow.ob_eq
    (by kernel_rfl) (fun s => by kernel_rfl) Ow.run (by kernel_rfl) (by kernel_rfl) (by kernel_rfl) (by rfl) (by first | assumption | decide +kernel) (by decide +kernel) ⟨rfl, rfl, rfl, rfl, rfl, by decide +kernel⟩ ?hw ?hc
  case hw => w_witness2
  case hc =>
    refine Att.attach_call (n := 63) rfl (by kernel_rfl) fun w s₀ s₁ mg mb fa o pm cd doc a vs ns G Y ho hd hcd hmg0 hobj hints hlen hg => ?_
    obtain ⟨K, KX, c, xt, sn⟩ := Y
    have hmg : mg ("law" : PySem.Str) = some (.ref fa) := by
      have e : (HandSHeadRun.topDef (OpenLaw.row PySem.Challenge.rw_oneswill_k50_whole_orders_and_rows).prog 48).name = ("law" : PySem.Str) := by kernel_rfl
      rw [← e]
      exact hmg0
    obtain ⟨fd, hb, hF⟩ := Ow.facts (P := PySem.Challenge.rw_oneswill_k50_whole_orders_and_rows.prog) (w := w) KX G.T.g hmg c xt sn
    exact Ow.endG (k := 10) KX G.T.g G.T.b G.T.builtins G.T.nolimit hg hobj hints (Nat.le_trans hlen (by decide)) ⟨rfl, by decide, by decide⟩ hF hb fun H hO hS => ⟨a, ns, rfl, hS, hlen, fun _ => rfl⟩
