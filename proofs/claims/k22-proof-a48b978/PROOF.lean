import PyProof.Rows.All
import Wide.All
import OpenK.AllK
import Wide.FinOn
import PySem.Challenge.RW_oneswill_k22_voters_followed_and_heard
import HandS.ForMost
import HandS.IsInst
import HandS.Wide
import HandS.TupAny
import HandS.TupMul
import HandS.Style
import HandS.Conv
import PyProof.ReprRoads
import HandS.Dict
import HandS.DictComp
import HandS.Zip
import HandS.Deep
import HandS.More
import HandS.Star
import HandS.WideBits
import HandS.ClsMeth
import HandS.Walk
import KE.GoesMore
import KE.GoesZip
import KE.KItemsList
import HandS.Text
import HandS.Defaults
import HandS.HeadHook1
import HandS.HeadHook2
import Lean
import HandS.Ends
import HandS.Words
import HandS.WordsExc
import HandS.Head0
import HandS.Head1
import HandS.Head2
import HandS.HeadEnd
set_option Elab.async false
set_option linter.all false
set_option maxRecDepth 100000
set_option maxHeartbeats 4000000
namespace Ow
open PySem PySem.Spec PyProof.Rows L2

/-! a def's promise where no repr runs around the call -/
structure FnG (P : Program) (w : World) (K : PySem.W.Frag) (mg : Str → Option Value)
    (base : Heap) (k : Nat) (f : Addr) (fd : FuncData) (ps : List Str) (sp : Sp) : Prop where
  ln : ∀ vs H Q E, sp vs H Q E → vs.length = ps.length
  go : ∀ (B : Around) (up : List Env) (s : Shared) (H : Hp) (ar : Args) (ws : List Value) (vs : List V)
    (Q : VK) (E : XK), B.guards = some [] → Room k B → Env0 P w K mg base B up s H →
    BindsTo s fd ar (ps.zip ws) → Vals vs ws → sp vs H Q E →
    codeAny (model P w) B (.call (.ref f) ar) (CR CX0 up P w H s Q E) s
theorem FnG.of {P : Program} {w : World} {K : PySem.W.Frag} {mg : Str → Option Value} {base : Heap}
    {k : Nat} {f : Addr} {fd : FuncData} {ps : List Str} {sp : Sp}
    (F : FnOk P w K mg base CX0 k f fd ps sp) : FnG P w K mg base k f fd ps sp :=
  ⟨F.len, fun B up s H ar ws vs Q E _ => F.run B up s H ar ws vs Q E⟩

section
variable {P : Program} {w : World} {K : PySem.W.Frag} {mg : Str → Option Value} {base : Heap}
theorem guardsDeep {B : Around} {env : Env} : (B.deeper env).guards = B.guards := rfl
/-- a def of the text, by its body, with nothing guarded -/
theorem okG {x qual : Str} {st : Stmt} {f : Addr} {fd : FuncData} {N ps : List Str} {k : Nat} {sp : Sp}
    (F : Fun K x qual st f fd) (S : FnScope N ps (defScope st))
    (ln : ∀ vs H Q E, sp vs H Q E → vs.length = ps.length)
    (body : ∀ (cd : Value) (B : Around) (up : List Env) (s : Shared) (H : Hp) (vs : List V) (Q : VK) (E : XK),
      B.guards = some [] → Room k (B.deeper (envOfC qual (defScope st) s.heap.objs.size f cd)) → sp vs H Q E →
      ∃ t, PSs (cxOf CX0 P w K mg base N qual (defScope st) f cd B up s H E).nox (defBody st) t ∧
        t { nx := fun _ H' => Q .non H', rt := Q } (start N vs) H) :
    FnG P w K mg base (k + 1) f fd ps sp := by
  obtain ⟨oc, od, kV, doc, pm, an, cd, ct, osl, rfl, lk, hcd⟩ := F.ex
  refine ⟨ln, fun B up s H ar ws vs Q E gB hr e0 hb r hsp => ?_⟩
  have nvs := ln _ _ _ _ hsp
  have inK : K.In s.heap := e0.mod.kin.keeps fun b o e => (e0.bs b o e).1
  have noL : s.heap.NoLimit := e0.mod.nolimit.keeps fun b o e => (e0.bs b o e).1
  have kinds : ∀ y ∈ ps.zip ws, (defScope st).names.lookup y.1 = some .local ∨
      ((defScope st).names.lookup y.1 = some .cell ∧
        ((cellsFrom (s.heap.objs.size + 1) (defScope st).names []).lookup y.1).isSome = true) := by
    intro ⟨n, v⟩ hy
    rcases S.par n (List.of_mem_zip hy).1 with q | q
    · exact .inl q
    · exact .inr ⟨q, PySem.W.cellsFrom_some _ _ _ (.inl q)⟩
  refine codeAny_call_function hr.depth (inK _ _ lk) rfl S.co S.gen rfl
    (PySem.W.codeRec_of inK hcd) (hb _ _ _ _ ?_)
  refine wpAny_newFunctionEnv_cells S.kind kinds fun env he s1 z => ?_
  subst he
  refine ⟨noL.keeps z.toInCall.keep, codeAny_func ?_⟩
  obtain ⟨t, ht, hq⟩ := body cd B up s H vs Q E gB (hr.deeper _) hsp
  have J0 : Inv (cxOf CX0 P w K mg base N qual (defScope st) f cd B up s H E) [] (start N vs) H s1 :=
    inv_start S hr.hd e0 nvs r z
  refine wpAny_mono (ht.nox.run [] s1 (start N vs) H _ J0 hq) (fun fl s' hs => ?_) fun e s' hs => hs
  cases fl with
  | ret u =>
    obtain ⟨v, σ', H', J, rv, q⟩ := hs
    exact ⟨v, H', J.os, J.bare, J.base, J.hok, rv, q⟩
  | next =>
    obtain ⟨σ', H', J, q⟩ := hs
    exact ⟨V.non, H', J.os, J.bare, J.base, J.hok, rfl, q⟩
  | brk =>
    obtain ⟨_, _, _, q⟩ := hs
    exact False.elim q
  | cont =>
    obtain ⟨_, _, _, q⟩ := hs
    exact False.elim q
end
section
variable {X : Cx} {k : Nat} {f : Addr} {fd : FuncData} {ps : List Str} {sp : Sp}
  {x : Str} {p pos : Pos} {e : Expr} {es : List Expr} {t : TA}
/-- f(..) of such a def, in a body around which nothing is guarded -/
theorem pe_callG (F : FnG X.prog X.w X.K X.mg X.base k f fd ps sp) (gX : X.A.guards = some [])
    (hr : Room k X.A) (hg : Gl X x) (hm : X.mg x = some (.ref f)) (hk : PySem.W.keepIn X.K (.ref f) = true)
    (hb : Binds X.K fd ps []) (ha : PA X (e :: es) t)
    (hdb : (x == ("__debug__" : Str)) = false := by decide)
    (he : starEach (e :: es) X.env = (false, eval e X.env) :: starEach es X.env := by rfl)
    (hpl : (backTo pos (starEach es X.env)).any (·.1) = false := by rfl) :
    PE X (.Call (.Name x p) (e :: es) [] pos) (tCall sp [] E0 t) := by
  refine ⟨fun pins s σ H Q I h => ?_⟩
  refine wpAny_Call_Name_kw (ld_glob I hg hm ?_ hdb)
  refine PySem.W.callWith_K (h₀ := X.base) I.ok.mod.kin hk
    (thn (ha.run pos pins s σ H _ I h) fun us s1 hs1 => ?_) he hpl
  obtain ⟨vs, H1, I1, r, q⟩ := hs1
  refine ⟨I1.kIn, ?_⟩
  have q' : sp (vs ++ []) H1 Q E0 := q
  rw [List.append_nil] at q'
  have hl : (us ++ []).length = ps.length := by
    rw [List.append_nil, ← r.length]
    exact F.ln _ _ _ _ q'
  have bt := hb s1 us I1.kIn hl
  rw [List.append_nil] at bt
  refine wpAny_call (codeAny_mono (F.go X.A X.stack s1 H1 ⟨us, []⟩ us vs Q E0 gX hr I1.env0 bt r q') ?_)
  intro r' s' hq
  cases r' with
  | error er => exact False.elim hq
  | ok fl =>
    cases fl with
    | ret u => exact I1.after hq
    | next => exact False.elim hq
    | brk => exact False.elim hq
    | cont => exact False.elim hq
end

/-! repr of data -/
section
variable {X : Cx}
/-- repr(x): x data whose text is known to fit -/
def rRepr (K : PySem.W.Frag) : List V → Hp → VK → Prop := fun xs H Q => ∃ (x : V) (d : PyData), xs = [x] ∧
  Dp K H x d ∧ d.showable = true ∧ d.hasDict = false ∧ d.depth ≤ 40 ∧ d.shown.length ≤ sizeLine ∧
  (∀ i : Int, d = .int i → i.natAbs.log2 < 1920) ∧ Q (.str d.shown) H
theorem call_repr (gX : X.A.guards = some []) (hu : X.A.units + 64 < cLine) :
    CallR X (.builtin "repr") (rRepr X.K) := by
  intro pins s σ H xs us Q I r h
  obtain ⟨x, d, rfl, hd, hsh, hno, hde, hsz, hint, q⟩ := h
  obtain ⟨u, rfl, ru⟩ := vals1 r
  cases hd with
  | non =>
    cases ru
    exact PySem.P.repr_of_none ⟨.str _, H, I.tok _, ⟨_, rfl⟩, q⟩
  | bl b =>
    cases ru
    refine PySem.P.repr_of_bool ⟨.str _, H, I.tok _, ⟨_, rfl⟩, ?_⟩
    cases b <;> exact q
  | int i =>
    obtain ⟨t, rfl⟩ := ru
    exact PySem.P.repr_of_int (hint i rfl) ⟨.str _, H, I.tok _, ⟨_, rfl⟩, q⟩
  | str z =>
    obtain ⟨t, rfl⟩ := ru
    exact PySem.P.repr_of_str ⟨.str _, H, I.tok _, ⟨_, rfl⟩, q⟩ hsz
  | @lst a ys ds hs ha =>
    obtain ⟨as, rd⟩ := Dp.reads I (.list ds) (.ref a) u (.lst hs ha) ru
    cases ru
    refine repr_of_reads' rd hsh (fun z => absurd (hno.symm.trans z) Bool.false_ne_true) gX (by omega)
      (fun _ _ e => e) (fun h' t' tk hk => ?_) hsz
    exact ⟨.str _, H, I.kept (t' := tk) hk, ⟨_, rfl⟩, q⟩
  | @tup a ys ds hs ha =>
    obtain ⟨as, rd⟩ := Dp.reads I (.tuple ds) (.ref a) u (.tup hs ha) ru
    cases ru
    refine repr_of_reads' rd hsh (fun z => absurd (hno.symm.trans z) Bool.false_ne_true) gX (by omega)
      (fun _ _ e => e) (fun h' t' tk hk => ?_) hsz
    exact ⟨.str _, H, I.kept (t' := tk) hk, ⟨_, rfl⟩, q⟩
end
end Ow

set_option Elab.async false
set_option linter.all false
set_option maxRecDepth 100000
set_option maxHeartbeats 4000000
namespace Ow
open PySem PySem.Spec PyProof.Rows L2

/-- what the law's end asks of the call -/
abbrev EndOf (s₁ : Shared) : Result → Shared → Prop := fun r s' =>
  r = .ok (.ret (.bool true)) ∧ OldK s₁.heap s'.heap ∧ s'.os = s₁.os ∧ AllBare s'.gens
section
variable {P : Program} {w : World} {K : PySem.W.Frag} {mg mb : Str → Option Value} {k : Nat} {fa a : Addr}
  {fd : FuncData} {x : Str} {sp : Sp} {s₁ : Shared} {vs : List Value} {ns : List Int}
/-- .. where at most the script, known to its object, is tracked -/
theorem endG1 {H : Hp} (ob : Obj) (hob : s₁.heap.get? a = some ob) (hda : ∀ es ep, ob.data ≠ .dict es ep)
    (inK : K.In s₁.heap) (nsM : s₁.heap.Ns mainGlobals mg) (nsB : s₁.heap.Ns builtinsNs mb)
    (boot : ∀ y : Str, y ≠ "__name__" → mb y = bootBuiltins y) (noL : s₁.heap.NoLimit)
    (g0 : s₁.gens = #[]) (hr : Room k callerA)
    (F : ∀ base : Heap, K.In base → base.Ns mainGlobals mg → FnG P w K mg base k fa fd [x] sp)
    (bind : ∀ (s : Shared) (u : Value), BindsTo s fd ⟨[u], []⟩ [(x, u)])
    (hs : sp [.ref a] H (fun v _ => v = .bl true) fun _ _ _ => False) (only : Only H)
    (hok : HOk P w H s₁.heap) (hA : ∀ b, H b ≠ none → b = a) (hK : H a ≠ none → K.lookup a = none) :
    codeAny (model P w) callerA (.call (.ref fa) ⟨[.ref a], []⟩) (EndOf s₁) s₁ := by
  have free : ∀ {b : Addr}, b ≠ a → H b = none := fun {b} n => by
    cases e : H b with
    | none => rfl
    | some u => exact absurd (hA b (by rw [e]; exact fun z => nomatch z)) n
  have hid : ∀ {b : Addr} {o : Obj}, s₁.heap.get? b = some o → H b = none → (hidT s₁.heap H).get? b = some o :=
    fun e n => hidT_get e n
  have dictFree : ∀ {b : Addr} {o : Obj} {es : Array DictEntry} {ep : Nat},
      s₁.heap.get? b = some o → o.data = .dict es ep → H b = none := fun {b o es ep} e d => by
    refine free fun z => ?_
    rw [z, hob] at e
    exact hda es ep (by rw [Option.some.inj e]; exact d)
  have nsOf : ∀ {b : Addr} {m : Str → Option Value}, s₁.heap.Ns b m → (hidT s₁.heap H).Ns b m := by
    intro b m q
    obtain ⟨o, es, ep, e, d, r⟩ := q
    exact ⟨o, es, ep, hid e (dictFree e d), d, r⟩
  have inB : K.In (hidT s₁.heap H) := fun b o e => hid (inK b o e) (by
    by_cases hb : b = a
    · cases q : H b with
      | none => rfl
      | some u =>
        rw [hb] at e q
        rw [hK (by rw [q]; exact fun z => nomatch z)] at e
        cases e
    · exact free hb)
  have hM : Mod K mg (hidT s₁.heap H) := by
    obtain ⟨mc, h1, h2⟩ := noL
    exact ⟨inB, nsOf nsM, ⟨mb, nsOf nsB, boot⟩, mc, nsOf h1, h2⟩
  have e0 : Env0 P w K mg (hidT s₁.heap H) callerA [] s₁ H :=
    { frames := rfl, mod := hM, bs := fun b o e => of_hidT e, bsz := Nat.le_of_eq (hidT_size _ _)
      funs := trivial, frf := fun b hb => (nomatch (show b ∈ ([] : List Addr) from hb)), hok := hok, bare := .of_eq g0 }
  have run := (F _ inB (nsOf nsM)).go callerA [] s₁ H ⟨[.ref a], []⟩ [.ref a] [.ref a] _ _ rfl hr e0
    (bind s₁ (.ref a)) (.cons rfl .nil) hs
  refine codeAny_mono run fun r s' h => ?_
  cases r with
  | error e => exact False.elim h
  | ok fl =>
    cases fl with
    | next => exact False.elim h
    | brk => exact False.elim h
    | cont => exact False.elim h
    | ret u =>
      obtain ⟨v, H', os, bare, un, hok', rv, q⟩ := h
      have q' : v = .bl true := q
      subst q'
      have eu : u = Value.bool true := rv
      subst eu
      refine ⟨rfl, OldK.of_keep fun b o e => ?_, os, bare⟩
      rcases only b with z | ⟨ob, xs, z⟩
      · exact un.keep b o e z (fun m => nomatch (show b ∈ ([] : List Addr) from m)) (fun m => nomatch m)
      · obtain ⟨e1, _⟩ := hok b _ z
        obtain ⟨e2, _⟩ := hok' b _ (un.frzs b ob _ z)
        rw [e] at e1
        rw [Option.some.inj e1]
        exact e2
theorem endG (inK : K.In s₁.heap) (nsM : s₁.heap.Ns mainGlobals mg) (nsB : s₁.heap.Ns builtinsNs mb)
    (boot : ∀ y : Str, y ≠ "__name__" → mb y = bootBuiltins y) (noL : s₁.heap.NoLimit)
    (g0 : s₁.gens = #[]) (hob : s₁.heap.get? a = some { cls := .type "list", data := .seq vs.toArray })
    (hi : IntsAre vs ns) (hl : ns.length ≤ sizeLine) (hr : Room k callerA)
    (F : ∀ base : Heap, K.In base → base.Ns mainGlobals mg → FnG P w K mg base k fa fd [x] sp)
    (bind : ∀ (s : Shared) (u : Value), BindsTo s fd ⟨[u], []⟩ [(x, u)])
    (hs : ∀ H : Hp, Only H → SqL K H a (ns.map V.int) → sp [.ref a] H (fun v _ => v = .bl true) fun _ _ _ => False) :
    codeAny (model P w) callerA (.call (.ref fa) ⟨[.ref a], []⟩) (EndOf s₁) s₁ := by
  have rv := vals_ints hi
  have nd : ∀ es ep, (Obj.data { cls := .type "list", data := .seq vs.toArray }) ≠ .dict es ep := fun es ep z => by cases z
  cases hk : K.lookup a with
  | some o =>
    have e := inK a o hk
    rw [hob] at e
    cases e
    have O : Only (fun _ => none) := fun _ => .inl rfl
    refine endG1 (H := fun _ => none) _ hob nd inK nsM nsB boot noL g0 hr F bind (hs _ O (.inr ?_)) O
      (fun b u z => nomatch z) (fun b z => absurd rfl z) (fun z => absurd rfl z)
    exact ⟨_, vs.toArray, _, hk, rfl, rfl, rfl, by rw [List.size_toArray, hi.length]; exact hl, rv⟩
  | none =>
    have at_ : ∀ b u, (fun b => if b = a then some (HO.frz { cls := .type "list", data := .seq vs.toArray }
        (.lst (ns.map V.int))) else none) b = some u → b = a ∧ u = HO.frz { cls := .type "list", data := .seq vs.toArray } (.lst (ns.map V.int)) := by
      intro b u z
      by_cases hb : b = a
      · exact ⟨hb, (Option.some.inj ((if_pos hb).symm.trans z)).symm⟩
      · exact nomatch (if_neg hb).symm.trans z
    have O : Only (fun b => if b = a then some (HO.frz { cls := .type "list", data := .seq vs.toArray }
        (.lst (ns.map V.int))) else none) := by
      intro b
      by_cases hb : b = a
      · exact .inr ⟨_, _, if_pos hb⟩
      · exact .inl (if_neg hb)
    refine endG1 _ hob nd inK nsM nsB boot noL g0 hr F bind (hs _ O (.inl (.inr ⟨_, if_pos rfl⟩))) O ?_ ?_ (fun _ => hk)
    · intro b u z
      obtain ⟨rfl, rfl⟩ := at_ b u z
      exact ⟨hob, by rw [List.length_map]; exact hl, vs, _, rv, hob⟩
    · intro b z
      cases q : (fun b => if b = a then some (HO.frz { cls := .type "list", data := .seq vs.toArray }
        (.lst (ns.map V.int))) else none) b with
      | none => exact absurd q z
      | some u => exact (at_ b u q).1
end
/-- the head's goal, from the law's promise with nothing guarded -/
theorem walkG {l : PySem.W.OpenLaw} {n k : Nat} {q : Program} {loose : List Str} {XP : (Str → Option Value) → Heap → Prop}
    {YP : World → Heap → Prop} {d : DefRec} {K : Params → PySem.W.Frag} {sp : PySem.W.Frag → Sp} {x : Str}
    (hn : l.most = some n) (hn2 : n ≤ sizeLine) (hdf : d.params.defaults = []) (hr : Room k callerA)
    (hY : ∀ (w : World) (h : Heap), YP w h → (K w.params).In h)
    (F : ∀ (w : World) (mg : Str → Option Value) (fa : Addr) (h : Heap), (K w.params).In h → h.Ns mainGlobals mg →
      mg d.name = some (.ref fa) → ∃ fd : FuncData, (∀ (s : Shared) (u : Value), BindsTo s fd ⟨[u], []⟩ [(x, u)]) ∧
        ∀ base : Heap, (K w.params).In base → base.Ns mainGlobals mg →
          FnG l.prog w (K w.params) mg base k fa fd [x] (sp (K w.params)))
    (hs : ∀ (K : PySem.W.Frag) (H : Hp) (a : Addr) (ns : List Int), ns.length ≤ n → Only H →
      SqL K H a (ns.map V.int) → sp K [.ref a] H (fun v _ => v = .bl true) fun _ _ _ => False) :
    PySem.W.WalkO q loose XP YP l.row.toRowW d [] (fun f vs => PySem.call f vs) := by
  refine Att.attach_call hn hdf fun w s₀ s₁ mg mb fa o pm cd doc a vs ns G Y ho hd hcd hmg hobj hints hlen hg => ?_
  have inK := hY w _ Y
  obtain ⟨fd, hb, hF⟩ := F w mg fa _ inK G.T.g hmg
  exact endG inK G.T.g G.T.b G.T.builtins G.T.nolimit hg hobj hints (Nat.le_trans hlen hn2) hr hF hb
    fun H hO hS => hs _ H a ns hlen hO hS
end Ow

set_option Elab.async false
set_option linter.all false
set_option maxRecDepth 100000
set_option maxHeartbeats 4000000
namespace Ow
open PySem PySem.Spec PyProof.Rows L2

/-! powers of greater numbers -/
def CPowB (i j : Int) : Prop := 0 ≤ j ∧ (Builtin.Int.intBits i : Int) * j ≤ 2 ^ 27
section
variable {X : Cx}
theorem op_powB : OpR X (binaryOp .Pow) (rI CPowB fun i j => .int (i ^ j.toNat)) :=
  opI fun _ _ _ _ _ _ _ hc q => pow_int hc.1 hc.2 q
end

/-! a tuple backwards: some of its items -/
theorem vals_pick {xs : List V} {its : List Value} (r : Vals xs its) (f : Nat → Nat) : ∀ l : List Nat,
    Vals (l.filterMap fun m => xs[f m]?) (l.filterMap fun m => its[f m]?)
  | [] => .nil
  | m :: l => by
    have ih := vals_pick r f l
    cases e : xs[f m]? with
    | none =>
      simp only [List.filterMap_cons, e, r.none_of e]
      exact ih
    | some x =>
      obtain ⟨u, hu, rv⟩ := r.get e
      simp only [List.filterMap_cons, e, hu]
      exact .cons rv ih
theorem back_places (n : Nat) : Builtin.Slice.slicePlaces ((n : Int) - 1) (-1) (-1) = n := by
  unfold Builtin.Slice.slicePlaces
  rw [if_neg (by decide)]
  by_cases h : (n : Int) - 1 > -1
  · rw [if_pos h]
    simp only [Int.neg_neg, Int.ediv_one]
    omega
  · rw [if_neg h]
    omega
theorem back_adjust (n : Nat) : Builtin.Slice.sliceAdjust none none (-1) (n : Int) = ((n : Int) - 1, -1) := by
  unfold Builtin.Slice.sliceAdjust
  simp
section
variable {prog : Program} {w : World} {A : Around} {E : Value → Shared → Prop} {s : Shared}
theorem back_applied {sl : Addr} {vs : Value} {n : Nat} {Q : Int × Int × Nat → Shared → Prop}
    (hs : s.heap.IsSliceOf sl .none .none vs) (p : IsPart vs (some (-1))) (h : Q ((n : Int) - 1, -1, n) s) :
    wpAny (model prog w) A (Builtin.Slice.sliceApplied (.ref sl) (pure (n : Int))) Q E s := by
  obtain ⟨os, hos, hcs, hds⟩ := id hs
  unfold Builtin.Slice.sliceApplied Builtin.Slice.sliceFields
  refine wpAny_bind (wpAny_bind (wpAny_field hos hds (x := .none) rfl ?_))
  refine wpAny_bind (wpAny_field hos hds (x := .none) rfl ?_)
  refine wpAny_bind (wpAny_field hos hds (x := vs) rfl (wpAny_pure ?_))
  refine wpAny_bind (HT.slicePart_ p ?_)
  show wpAny _ _ (if ((-1 : Int) == 0) = true then _ else _) _ _ s
  rw [if_neg (by decide)]
  refine wpAny_bind (slicePart_none (wpAny_bind (slicePart_none (wpAny_bind (wpAny_pure ?_)))))
  show wpAny _ _ (match Builtin.Slice.sliceAdjust none none (-1) (n : Int) with
    | (lo, hi) => pure (lo, (-1 : Int), Builtin.Slice.slicePlaces lo hi (-1))) _ _ s
  rw [back_adjust]
  show wpAny _ _ (pure ((n : Int) - 1, (-1 : Int), Builtin.Slice.slicePlaces ((n : Int) - 1) (-1) (-1))) _ _ s
  rw [back_places]
  exact wpAny_pure h
theorem back_item {t sl : Addr} {items : Array Value} {vs : Value} {Q : Value → Shared → Prop}
    (ht : IsTup s.heap t items) (hs : s.heap.IsSliceOf sl .none .none vs) (p : IsPart vs (some (-1)))
    (hsz : items.size ≤ sizeLine)
    (h : Q (.ref s.heap.objs.size) { s with heap := s.heap.push { cls := .type "tuple", data := .seq ((List.range items.size).filterMap fun (k : Nat) => items[((items.size : Int) - 1 + (k : Int) * -1).toNat]?).toArray } }) :
    wpAny (model prog w) A (getItem (.ref t) (.ref sl)) Q E s := by
  have hz : sizeOk (.seq ((List.range items.size).filterMap fun (k : Nat) =>
      items[((items.size : Int) - 1 + (k : Int) * -1).toNat]?).toArray) := by
    show Array.size _ ≤ sizeLine
    rw [List.size_toArray]
    refine Nat.le_trans (List.length_filterMap_le _ _) ?_
    rw [List.length_range]
    exact hsz
  obtain ⟨os, hos, hcs, hds⟩ := id hs
  have isS : s.TypeIs (.ref sl) "slice" := ⟨os, hos, hcs⟩
  unfold getItem
  try with_reducible refine wpAny_holding ?_
  first | refine wpAny_bind (wpAny_pure ?_) | skip
  refine wpAny_bind (wpAny_sequenceKey ht.typeIs (by decide) ?_)
  refine wpAny_bind (wpAny_callSpecial?_slot (name := Str.ofString "__getitem__") ht.typeIs
    PyProof.Rows.slot_tuple_getitem (wpAny_call_entry PyProof.Rows.slot_tuple_getitem ht.typeIs
      entry_tuple_getitem ?_ (args_tuple_getitem _ _)))
  show wpAny _ _ (Builtin.Tuple.tupleItemsOf (.ref t) >>= _) _ _ s
  refine wpAny_bind (tupleItemsOf_ ht ?_)
  refine wpAny_bind (wpAny_typeOf isS ?_)
  rw [if_pos (by decide)]
  refine wpAny_bind (back_applied hs p ?_)
  have no : ¬ ((((items.size : Int) - 1) == 0 && (-1 : Int) == 1 && items.size == items.size) = true) := by
    intro q
    rw [Bool.and_eq_true, Bool.and_eq_true] at q
    exact absurd q.1.2 (by decide)
  show wpAny _ _ (if (((items.size : Int) - 1) == 0 && (-1 : Int) == 1 && items.size == items.size) = true then _ else _) _ _ s
  rw [if_neg no]
  first
    | exact wpAny_bind (m := Builtin.Tuple.tupleExact _) (wpAny_newObj_type (wpAny_pure ⟨_, rfl, wpAny_pure h⟩) hz)
    | exact wpAny_bind (m := Builtin.Tuple.tupleExact _)
        (wpAny_newObj_type (wpAny_bind (wpAny_pure (wpAny_pure ⟨_, rfl, wpAny_pure h⟩))) hz)
    | exact wpAny_bind (wpAny_bind (m := Builtin.Tuple.tupleExact _)
        (wpAny_newObj_type (wpAny_pure (wpAny_pure ⟨_, rfl, wpAny_pure h⟩)) hz))
    | exact wpAny_bind (wpAny_bind (m := Builtin.Tuple.tupleExact _)
        (wpAny_newObj_type (wpAny_pure ⟨_, rfl, wpAny_pure h⟩) hz))
end
def tBack (K : PySem.W.Frag) (te : TE) : TE := fun σ H Q => te σ H fun x H1 => ∃ a xs, x = .ref a ∧ SqT K H1 a xs ∧
  ∀ p zs, H1 p = none → (∀ z ∈ zs, z ∈ xs) → zs.length ≤ xs.length → Q (.ref p) (upd H1 p (.tup zs))
section
variable {X : Cx}
theorem pe_back {e : Expr} {te : TE} {k : Nat} {p1 p2 p3 pos : Pos} (he : PE X e te) :
    PE X (.Subscript e (.Slice none none (some (.UnaryOp .USub (.Constant (.int 1) k p1) p2)) p3) pos) (tBack X.K te) := by
  refine ⟨fun pins s σ H Q I h => ?_⟩
  refine Subscript_ (thn (he.run pins s σ H _ I h) fun v s1 hv => ?_)
  obtain ⟨x, H1, I1, r1, a, xs, ex, hx, q⟩ := hv
  subst ex
  cases r1
  have hst : PO X (some (.UnaryOp .USub (.Constant (.int 1) k p1) p2)) (tPart (tUn (rU fun i => .int (-i)) (tC (.int 1)))) :=
    po_some (pe_un un_neg pe_int)
  refine wpAny_Slice (thn (po_none.run pins s1 σ H1 (fun o H2 => o = none ∧ H2 = H1) I1 ⟨rfl, rfl⟩) fun vl s2 hl => ?_)
  obtain ⟨l, H2, I2, pl, el, e2⟩ := hl
  subst el e2
  refine thn (po_none.run pins s2 σ H2 (fun o H3 => o = none ∧ H3 = H2) I2 ⟨rfl, rfl⟩) fun vu s3 hl => ?_
  obtain ⟨u, H3, I3, pu, eu, e3⟩ := hl
  subst eu e3
  refine thn (hst.run pins s3 σ H3 (fun o H4 => o = some (-1) ∧ H4 = H3) I3 ⟨1, rfl, -1, rfl, rfl, rfl⟩) fun vs s4 hl => ?_
  obtain ⟨o, H4, I4, ps, eo, e4⟩ := hl
  subst eo e4
  cases pl
  cases pu
  have I5 : Inv X pins σ H4 { s4 with heap := s4.heap.push { cls := .type "slice", data := .fields #[.none, .none, vs] } } :=
    I4.kept (t' := s4.toks) fun b ob q => Heap.get?_push_of_some _ q
  obtain ⟨its, r, ht, hz⟩ := I5.tuple hx
  have hlen := r.length
  refine tail_any (ops := [.ref a, .ref s4.heap.objs.size]) ht.typeIs (PyProof.Rows.slot_tuple_getitem.lookup) ?_ (by with_unfolding_all rfl)
  refine back_item ht (Heap.IsSliceOf.new _ .none .none vs) ps (by rw [List.size_toArray]; omega) ?_
  have hsz : its.toArray.size = xs.length := by rw [List.size_toArray]; exact hlen.symm
  rw [hsz]
  let f : Nat → Nat := fun k => ((xs.length : Int) - 1 + (k : Int) * -1).toNat
  have hv := vals_pick r f (List.range xs.length)
  have le : ((List.range xs.length).filterMap fun m => xs[f m]?).length ≤ xs.length :=
    Nat.le_trans (List.length_filterMap_le _ _) (by rw [List.length_range]; exact Nat.le_refl _)
  refine ⟨.ref _, _, I5.laid (t' := s4.toks) (o := .tup ((List.range xs.length).filterMap fun m => xs[f m]?))
    (fun b ob q => Heap.get?_push_of_some _ q) (Nat.le_refl _) ?_, rfl,
    q _ _ (I5.hok.fresh (Nat.le_refl _)) (fun z hz => ?_) le⟩
  · refine ⟨Nat.le_trans le hz, (List.range xs.length).filterMap fun m => its[f m]?, hv, ?_⟩
    have e : (List.filterMap (fun (k : Nat) => its.toArray[((xs.length : Int) - 1 + (k : Int) * -1).toNat]?) (List.range xs.length)) =
        ((List.range xs.length).filterMap fun m => its[f m]?) := by
      congr 1
      funext m
      simp [f]
    rw [e]
    exact IsTup.new _ _
  · obtain ⟨m, _, hm⟩ := List.mem_filterMap.mp hz
    exact List.mem_of_getElem? hm
end

/-! a comprehension over a text's signs -/
theorem lc_signs {z : Str} {g : TG} {tt : TT} {te : TE} {vs : List Nat} {σ : L2.St} {H1 : Hp} {D : Addr} {Qd : Hp → Prop}
    (I : Nat → Hp → Prop) (h0 : I 0 (upd H1 D (.lst [])))
    (hs : ∀ i c H, z.cps[i]? = some c → I i H → g (.str ⟨#[c]⟩) (wipe σ vs) H fun σ2 H2 => wipe σ2 vs = wipe σ vs ∧
      tt σ2 H2 fun b H3 => if b = true then te σ2 H3 fun y H4 => ∃ acc, H4 D = some (.lst acc) ∧
        acc.length < sizeLine ∧ I (i + 1) (upd H4 D (.lst (acc ++ [y]))) else I (i + 1) H3)
    (hd : ∀ H, I z.cps.size H → Qd H) :
    ∃ W : Nat → Nat → Hp → Prop, (∃ m, W 0 m (upd H1 D (.lst []))) ∧ ∀ i m H, W i m H →
      ((Its z).stop i H ∧ Qd H) ∨ ((Its z).go i H ∧ ∃ Nx : Hp → Prop, (∀ H', Nx H' → ∃ m', m' < m ∧ W (i + 1) m' H') ∧
        ∀ x H', (Its z).yld i H x H' → g x (wipe σ vs) H' fun σ2 H2 => wipe σ2 vs = wipe σ vs ∧ tt σ2 H2 fun b H3 =>
          if b = true then te σ2 H3 fun y H4 => ∃ acc, H4 D = some (.lst acc) ∧ acc.length < sizeLine ∧
            Nx (upd H4 D (.lst (acc ++ [y]))) else Nx H3) := by
  refine ⟨fun i m H => m + i = z.cps.size ∧ I i H, ⟨z.cps.size, by omega, h0⟩, fun i m H hW => ?_⟩
  obtain ⟨hm, hI⟩ := hW
  by_cases hi : i < z.cps.size
  · refine .inr ⟨hi, I (i + 1), fun H' h' => ⟨m - 1, by omega, by omega, h'⟩, fun x H' hy => ?_⟩
    obtain ⟨rfl, c, hc, rfl⟩ := hy
    exact hs i c _ hc hI
  · have e : i = z.cps.size := by omega
    subst e
    exact .inl ⟨Nat.le_refl _, hd H hI⟩
end Ow

set_option Elab.async false
set_option linter.all false
set_option maxRecDepth 100000
set_option maxHeartbeats 4000000
namespace Ow
open PySem PySem.Spec PyProof.Rows L2

/-! ### the text -/
def topS (i : Nat) : Stmt := PySem.Challenge.pw_oneswill_k22_voters_followed_and_heard.main.body.getD i (.Pass ⟨0, 0, 0, 0⟩)
def inS (i j : Nat) : Stmt := match topS i with
  | .ClassDef _ _ _ b _ _ _ _ _ _ _ => b.getD j (.Pass ⟨0, 0, 0, 0⟩)
  | _ => .Pass ⟨0, 0, 0, 0⟩
abbrev dInteger : Stmt := topS 11
abbrev dName : Stmt := topS 12
abbrev dValue : Stmt := topS 13
abbrev dValues : Stmt := topS 14
abbrev dHasValues : Stmt := topS 15
abbrev dAllValues : Stmt := topS 16
abbrev dAscending : Stmt := topS 17
abbrev dSetNames : Stmt := topS 18
abbrev dIssues : Stmt := topS 21
abbrev dKeys : Stmt := topS 22
abbrev dNeedVoters : Stmt := topS 25
abbrev dIsTable : Stmt := topS 26
abbrev dAreTables : Stmt := topS 27
abbrev dFollow : Stmt := topS 28
abbrev dHangs : Stmt := topS 30
abbrev dJug : Stmt := topS 33
abbrev dDip : Stmt := topS 34
abbrev dChoice : Stmt := topS 35
abbrev dAllRows : Stmt := topS 36
abbrev dVoterTables : Stmt := topS 37
abbrev dAnyTable : Stmt := topS 38
abbrev dAnyTables : Stmt := topS 39
abbrev dMadeRule : Stmt := topS 40
abbrev dLHeard : Stmt := topS 41
abbrev dTried : Stmt := topS 42
abbrev dCell : Stmt := topS 43
abbrev dLaw : Stmt := topS 44
abbrev dInit : Stmt := inS 31 0
abbrev dGetitem : Stmt := inS 31 4
abbrev dFollowed : Stmt := inS 31 12
abbrev dHeard : Stmt := inS 31 13

/-! ### heaps that grow, but for the jug at J -/
def Sb (J : Addr) (H H' : Hp) : Prop := ∀ b o, b ≠ J → H b = some o → H' b = some o
theorem Sb.refl (J : Addr) (H : Hp) : Sb J H H := fun _ _ _ e => e
theorem Sb.trans {J : Addr} {H H1 H2 : Hp} (a : Sb J H H1) (b : Sb J H1 H2) : Sb J H H2 :=
  fun c o n e => b c o n (a c o n e)
theorem Sb.same {J : Addr} {H H' : Hp} (a : Same H H') : Sb J H H' := fun c o _ e => a c o e
theorem same_new {H : Hp} {p : Addr} {o : HO} (h : H p = none) : Same H (upd H p o) := fun b x e => by
  rw [upd_ne (ne_of_none e h)]
  exact e
theorem Sb.new {J : Addr} {H : Hp} {p : Addr} {o : HO} (h : H p = none) : Sb J H (upd H p o) := .same (same_new h)
theorem Sb.at {J : Addr} {H : Hp} {o : HO} : Sb J H (upd H J o) := fun b x n e => by
  rw [upd_ne n]
  exact e

/-! ### the values that the law asks about -/
/-- no reference; small enough to be told as a text -/
def scOk : V → Prop
  | .non => True
  | .bl _ => True
  | .int i => i.natAbs < 2 ^ 400
  | .str z => z.length ≤ 4000 ∧ ∀ c ∈ z.cps.toList, c < 128
  | _ => False
/-- (), (0,), [] -/
def Gr (H : Hp) (a : Addr) : Prop := H a = some (.tup []) ∨ H a = some (.tup [.int 0]) ∨ H a = some (.lst [])
def Im (J : Addr) (H : Hp) (v : V) : Prop := scOk v ∨ ∃ a, v = .ref a ∧ a ≠ J ∧ Gr H a
def Vl (J : Addr) (H : Hp) (v : V) : Prop := scOk v ∨ ∃ a, v = .ref a ∧ a ≠ J ∧
  ((∃ xs, H a = some (.tup xs) ∧ xs.length ≤ 60 ∧ ∀ x ∈ xs, Im J H x) ∨ (∃ xs, H a = some (.lst xs)) ∨ ∃ kvs, H a = some (.dK kvs))
theorem Gr.mono {J : Addr} {H H' : Hp} {a : Addr} (s : Sb J H H') (n : a ≠ J) (h : Gr H a) : Gr H' a := by
  rcases h with h | h | h
  · exact .inl (s _ _ n h)
  · exact .inr (.inl (s _ _ n h))
  · exact .inr (.inr (s _ _ n h))
theorem Im.mono {J : Addr} {H H' : Hp} {v : V} (s : Sb J H H') (h : Im J H v) : Im J H' v := by
  rcases h with h | ⟨a, e, n, g⟩
  · exact .inl h
  · exact .inr ⟨a, e, n, g.mono s n⟩
theorem Vl.mono {J : Addr} {H H' : Hp} {v : V} (s : Sb J H H') (h : Vl J H v) : Vl J H' v := by
  rcases h with h | ⟨a, e, n, g⟩
  · exact .inl h
  · refine .inr ⟨a, e, n, ?_⟩
    rcases g with ⟨xs, h, l, q⟩ | ⟨xs, h⟩ | ⟨kvs, h⟩
    · exact .inl ⟨xs, s _ _ n h, l, fun x hx => (q x hx).mono s⟩
    · exact .inr (.inl ⟨xs, s _ _ n h⟩)
    · exact .inr (.inr ⟨kvs, s _ _ n h⟩)
theorem Im.vl {J : Addr} {H : Hp} {v : V} (h : Im J H v) : Vl J H v := by
  rcases h with h | ⟨a, e, n, g⟩
  · exact .inl h
  · refine .inr ⟨a, e, n, ?_⟩
    rcases g with h | h | h
    · exact .inl ⟨_, h, Nat.zero_le _, fun x hx => nomatch hx⟩
    · refine .inl ⟨_, h, by decide, fun x hx => ?_⟩
      rw [List.mem_singleton] at hx
      rw [hx]
      exact .inl (by show Int.natAbs 0 < 2 ^ 400; decide)
    · exact .inr (.inl ⟨_, h⟩)
/-- what is told of a value -/
def bitB (v : V) : Bool := decide (v = .int 0) || decide (v = .int 1)
def shortB : V → Bool
  | .int i => decide (-(10 ^ 60) < i) && decide (i < 10 ^ 60)
  | _ => false
def signB (c : Nat) : Bool := decide (97 ≤ c) && decide (c ≤ 122)
def nameB : V → Bool
  | .str z => (decide (1 ≤ z.length) && decide (z.length ≤ 8)) && z.cps.toList.all signB
  | _ => false
def rowB (H : Hp) : V → Bool
  | .ref a => match H a with
    | some (.tup xs) => xs.all bitB
    | _ => false
  | _ => false
/-- a def that tells a truth of a value, and changes nothing -/
def spB (g : Hp → V → Bool) : Sp := fun vs H Q _ => ∃ v J, vs = [v] ∧ Vl J H v ∧ ∀ H', Same H H' → Q (.bl (g H v)) H'
theorem spB_len {g : Hp → V → Bool} : ∀ vs H Q E, spB g vs H Q E → vs.length = 1 := by
  intro vs H Q E h
  obtain ⟨v, J, rfl, _⟩ := h
  rfl
/-- the classes of such values -/
theorem Vl.ty {K : PySem.W.Frag} {J : Addr} {H : Hp} {v : V} (h : Vl J H v) : ∃ T : String, TyX K H v (.type T) ∧
    ((∃ i, v = .int i) ∧ T = "int" ∨ (∃ b, v = .bl b) ∧ T = "bool" ∨ (v = .non) ∧ T = "NoneType" ∨ (∃ z, v = .str z ∧ z.length ≤ 4000 ∧ ∀ c ∈ z.cps.toList, c < 128) ∧ T = "str" ∨
      (∃ a xs, v = .ref a ∧ H a = some (.tup xs) ∧ xs.length ≤ 60 ∧ ∀ x ∈ xs, Im J H x) ∧ T = "tuple" ∨
      (∃ a xs, v = .ref a ∧ H a = some (.lst xs)) ∧ T = "list" ∨ (∃ a kvs, v = .ref a ∧ H a = some (.dK kvs)) ∧ T = "dict") := by
  rcases h with h | ⟨a, rfl, n, h⟩
  · cases v with
    | non => exact ⟨"NoneType", .base .non, .inr (.inr (.inl ⟨rfl, rfl⟩))⟩
    | bl b => exact ⟨"bool", .base (.bl b), .inr (.inl ⟨⟨b, rfl⟩, rfl⟩)⟩
    | int i => exact ⟨"int", .base (.int i), .inl ⟨⟨i, rfl⟩, rfl⟩⟩
    | str z => exact ⟨"str", .base (.str z), .inr (.inr (.inr (.inl ⟨⟨z, rfl, h⟩, rfl⟩)))⟩
    | byt _ => exact False.elim h
    | flt _ => exact False.elim h
    | ref _ => exact False.elim h
    | ty _ => exact False.elim h
  · rcases h with ⟨xs, h, l, q⟩ | ⟨xs, h⟩ | ⟨kvs, h⟩
    · exact ⟨"tuple", .base (.tup h), .inr (.inr (.inr (.inr (.inl ⟨⟨a, xs, rfl, h, l, q⟩, rfl⟩))))⟩
    · exact ⟨"list", .base (.lst h), .inr (.inr (.inr (.inr (.inr (.inl ⟨⟨a, xs, rfl, h⟩, rfl⟩)))))⟩
    · exact ⟨"dict", .base (.dK h), .inr (.inr (.inr (.inr (.inr (.inr ⟨⟨a, kvs, rfl, h⟩, rfl⟩)))))⟩
end Ow

set_option Elab.async false
set_option linter.all false
set_option maxRecDepth 100000
set_option maxHeartbeats 4000000
set_option exponentiation.threshold 3000
namespace Ow
open PySem PySem.Spec PyProof.Rows L2
theorem scInteger : FnScope ["value"] ["value"] (defScope dInteger) := ⟨rfl, rfl, rfl, by decide +kernel, rfl, by decide +kernel, by decide +kernel⟩
theorem scValue : FnScope ["value"] ["value"] (defScope dValue) := ⟨rfl, rfl, rfl, by decide +kernel, rfl, by decide +kernel, by decide +kernel⟩
theorem boot_isi : bootBuiltins "isinstance" = some (.builtin "isinstance") := by decide +kernel
section
variable {P : Program} {w : World} {K : PySem.W.Frag} {mg : Str → Option Value} {base : Heap}
/-- isinstance(x, T), T a built-in class -/
theorem pe_isi {X : Cx} {e : Expr} {te : TE} {T : String} {n : Str} {p p2 pos : Pos} (g : Gl X "isinstance") (m : X.mg "isinstance" = none)
    (he : PE X e te) (g2 : Gl X n) (m2 : X.mg n = none) (hv : bootBuiltins n = some (.type T)) (nn : n ≠ "__name__" := by decide) (nd : (n == ("__debug__" : Str)) = false := by decide)
    (h1 : starEach [e, .Name n p2] X.env = (false, eval e X.env) :: starEach [.Name n p2] X.env := by rfl) (h2 : (backTo pos (starEach [.Name n p2] X.env)).any (·.1) = false := by rfl) :
    PE X (.Call (.Name "isinstance" p) [e, .Name n p2] [] pos) (tCB (rIsi X.K) (tCons te (tCons (tC (.ty T)) tNil))) :=
  pe_callB call_isi g m boot_isi (pa_cons he (pa_cons (pe_bltn g2 m2 hv rfl nn nd) pa_nil (by rfl)) h1) (by decide) (by decide) h1 h2
def isT (T U : String) : Bool := (kitB T U).getD false
theorem isi_at {K : PySem.W.Frag} {H : Hp} {v : V} {T : String} {b : Bool} {Q : VK} {i : Nat} {σ : L2.St} (U : String) (hi : σ[i]? = some (some v)) (ty : TyX K H v (.type T)) (k : kitB T U = some b) (q : Q (.bl b) H) :
    tCB (rIsi K) (tCons (tVar i) (tCons (tC (.ty U)) tNil)) σ H Q := ⟨v, hi, v, .ty U, .type T, .type U, b, rfl, .ty U, ty, kit_ty k, q⟩
theorem ok_integer {f : Addr} {fd : FuncData} {t : Tok} (F : Fun K "is_integer" "is_integer" dInteger f fd) (mi : mg "isinstance" = none) (mn : mg "int" = none) (mb : mg "bool" = none)
    (mB : mg "_BOUND" = some (.int (10 ^ 60) t)) : FnOk P w K mg base CX0 1 f fd ["value"] (spB fun _ => shortB) := by
  refine F.ok scInteger spB_len (fun cdv A outer s H vs Q E hr h => ?_)
  obtain ⟨v, J, rfl, hv, q⟩ := h
  refine ⟨_, pss_one (ps_ret (pe_and (pe_isi (by rfl) mi (pv 0) (by rfl) mn boot_int)
    (pe_and (pe_not (pe_isi (T := "bool") (by rfl) mi (pv 0) (by rfl) mb (by decide +kernel)))
      (pe_one (pe_chain op_lt op_lt (pe_un un_neg (pe_glob (v := .int (10 ^ 60)) (by rfl) mB ⟨_, rfl⟩)) (pv 0) (pe_glob (v := .int (10 ^ 60)) (by rfl) mB ⟨_, rfl⟩)))))), ?_⟩
  obtain ⟨T, ty, c⟩ := hv.ty (K := K)
  have fin : ∀ b, b = shortB v → Q (.bl b) H := fun b e => by
    rw [e]
    exact q H (Same.refl H)
  rcases c with ⟨⟨i, rfl⟩, rfl⟩ | ⟨⟨b, rfl⟩, rfl⟩ | ⟨rfl, rfl⟩ | ⟨⟨z, rfl, _⟩, rfl⟩ | ⟨⟨a, xs, rfl, _⟩, rfl⟩ | ⟨⟨a, xs, rfl, _⟩, rfl⟩ | ⟨⟨a, xs, rfl, _⟩, rfl⟩
  · refine isi_at "int" rfl ty (b := true) (by decide +kernel) ⟨true, rfl, iteT (isi_at "bool" rfl ty (b := false) (by decide +kernel) ⟨false, rfl, true, rfl, iteT ?_⟩)⟩
    refine ⟨10 ^ 60, rfl, .int i, rfl, _, _, rfl, rfl, _, rfl, ?_⟩
    by_cases h : -(10 ^ 60) < i
    · rw [decide_eq_true h]
      refine iteT ⟨_, _, rfl, rfl, fin _ ?_⟩
      show _ = (decide (-(10 ^ 60) < i) && _)
      rw [decide_eq_true h]
      rfl
    · rw [decide_eq_false h]
      refine iteF (fin _ ?_)
      show _ = (decide (-(10 ^ 60) < i) && _)
      rw [decide_eq_false h]
      rfl
  · exact isi_at "int" rfl ty (b := true) (by decide +kernel) ⟨true, rfl, iteT (isi_at "bool" rfl ty (b := true) (by decide +kernel) ⟨true, rfl, false, rfl, iteF (fin _ rfl)⟩)⟩
  · exact isi_at "int" rfl ty (b := false) (by decide +kernel) ⟨false, rfl, iteF (fin _ rfl)⟩
  · exact isi_at "int" rfl ty (b := false) (by decide +kernel) ⟨false, rfl, iteF (fin _ rfl)⟩
  · exact isi_at "int" rfl ty (b := false) (by decide +kernel) ⟨false, rfl, iteF (fin _ rfl)⟩
  · exact isi_at "int" rfl ty (b := false) (by decide +kernel) ⟨false, rfl, iteF (fin _ rfl)⟩
  · exact isi_at "int" rfl ty (b := false) (by decide +kernel) ⟨false, rfl, iteF (fin _ rfl)⟩
/-- is_value: an integer, 0 or 1 -/
theorem ok_value {f fI : Addr} {fd fdI : FuncData} (F : Fun K "is_value" "is_value" dValue f fd) (FI : FnOk P w K mg base CX0 1 fI fdI ["value"] (spB fun _ => shortB))
    (kI : PySem.W.keepIn K (.ref fI) = true) (bI : Binds K fdI ["value"] []) (gI : mg "is_integer" = some (.ref fI)) : FnOk P w K mg base CX0 2 f fd ["value"] (spB fun _ => bitB) := by
  refine F.ok scValue spB_len (fun cdv A outer s H vs Q E hr h => ?_)
  obtain ⟨v, J, rfl, hv, q⟩ := h
  refine ⟨_, pss_one (ps_ret (pe_and (pe_call FI hr (by rfl) gI kI bI .nil pass0 (pa_cons (pv 0) pa_nil))
    (pe_one (pe_chain op_le op_le pe_int (pv 0) pe_int)))), ?_⟩
  refine ⟨v, rfl, v, J, rfl, hv, fun H1 sm => ⟨_, rfl, ?_⟩⟩
  have fin : ∀ b, b = bitB v → Q (.bl b) H1 := fun b e => by
    rw [e]
    exact q H1 sm
  by_cases hs : shortB v = true
  · show if shortB v = true then _ else _
    rw [hs]
    refine iteT ?_
    cases v with
    | int i =>
      refine ⟨.int i, rfl, 0, i, rfl, rfl, _, rfl, ?_⟩
      have e : bitB (.int i) = (decide (0 ≤ i) && decide (i ≤ 1)) := by
        unfold bitB
        rw [Bool.eq_iff_iff]
        simp only [Bool.or_eq_true, Bool.and_eq_true, decide_eq_true_eq, V.int.injEq]
        omega
      by_cases h : 0 ≤ i
      · rw [decide_eq_true h]
        refine iteT ⟨_, _, rfl, rfl, fin _ ?_⟩
        rw [e, decide_eq_true h]
        rfl
      · rw [decide_eq_false h]
        refine iteF (fin _ ?_)
        rw [e, decide_eq_false h]
        rfl
    | _ => exact absurd (show false = true from hs) Bool.false_ne_true
  · have e : shortB v = false := Bool.eq_false_iff.mpr hs
    show if shortB v = true then _ else _
    rw [e]
    refine iteF (fin _ ?_)
    cases v with
    | int i =>
      symm
      have e2 : (decide (-(10 ^ 60) < i) && decide (i < 10 ^ 60)) = false := e
      unfold bitB
      rw [Bool.or_eq_false_iff]
      constructor
      · refine decide_eq_false fun z => ?_
        have z : i = 0 := V.int.inj z
        subst z
        exact absurd e2 (by decide)
      · refine decide_eq_false fun z => ?_
        have z : i = 1 := V.int.inj z
        subst z
        exact absurd e2 (by decide)
    | _ =>
      symm
      unfold bitB
      rw [Bool.or_eq_false_iff]
      exact ⟨decide_eq_false (fun z => (nomatch z)), decide_eq_false (fun z => (nomatch z))⟩
end
end Ow

set_option Elab.async false
set_option linter.all false
set_option maxRecDepth 100000
set_option maxHeartbeats 4000000
set_option exponentiation.threshold 3000
namespace Ow
open PySem PySem.Spec PyProof.Rows L2
theorem scName : FnScope ["value", "sign"] ["value"] (defScope dName) := ⟨rfl, rfl, rfl, by decide +kernel, rfl, by decide +kernel, by decide +kernel⟩
theorem scValues : FnScope ["value", "item"] ["value"] (defScope dValues) := ⟨rfl, rfl, rfl, by decide +kernel, rfl, by decide +kernel, by decide +kernel⟩
theorem boot_all : bootBuiltins "all" = some (.builtin "all") := by decide +kernel
theorem lt1 (c d : Nat) : decide (([c] : List Nat) < [d]) = decide (c < d) := by
  rw [Bool.eq_iff_iff]
  simp only [decide_eq_true_eq, List.cons_lt_cons_iff]
  constructor
  · intro h
    rcases h with h | ⟨_, h⟩
    · exact h
    · exact absurd h (List.not_lt_nil _)
  · exact .inl
theorem small60 {n : Nat} (h : n ≤ 5000) : n < sizeLine := Nat.lt_of_le_of_lt h (by decide)
section
variable {P : Program} {w : World} {K : PySem.W.Frag} {mg : Str → Option Value} {base : Heap}
theorem ok_name {f : Addr} {fd : FuncData} {t : Tok} (F : Fun K "is_name" "is_name" dName f fd) (mi : mg "isinstance" = none) (ms : mg "str" = none) (ml : mg "len" = none) (ma : mg "all" = none)
    (mM : mg "MAX_LETTERS" = some (.int 8 t)) : FnOk P w K mg base CX0 1 f fd ["value"] (spB fun _ => nameB) := by
  refine F.ok scName spB_len (fun cdv A outer s H vs Q E hr h => ?_)
  obtain ⟨v, J, rfl, hv, q⟩ := h
  refine ⟨_, pss_cons (ps_if (PW.pt (pw_or (pt_not (pt_val (pe_isi (T := "str") (by rfl) mi (pv 0) (by rfl) ms (by decide +kernel))))
      (pw_or1 (pt_not (pt_chain op_le op_le pe_int (pe_callB call_len_str (by rfl) ml PySem.boot_len (pa_cons (pv 0) pa_nil)) (pe_glob (v := .int 8) (by rfl) mM ⟨_, rfl⟩))))))
      (pss_one (ps_ret pe_bl)) pss_nil)
    (pss_one (ps_ret (pe_callB (cr_all rfl) (by rfl) ma boot_all (pa_cons
      (pe_lc (own := [("sign", 1)]) (g := gName 1) (tt := tYes) rfl scName.nd (pi_str (pv 0)) (blkOk_by (N := ["value", "sign"]) (sc := defScope dName) (by decide +kernel))
        (fun _ _ _ _ _ => pg_name (i := 1) scName.nd rfl (Or.inl rfl)) (fun _ _ _ _ _ => pts_nil)
        (fun _ _ _ _ _ => pe_chain op_le_str op_le_str pe_str (pv 1) pe_str)) pa_nil)))), ?_⟩
  obtain ⟨T, ty, c⟩ := hv.ty (K := K)
  have fin : ∀ b H', Same H H' → b = nameB v → Q (.bl b) H' := fun b H' sm e => by
    rw [e]
    exact q H' sm
  rcases c with ⟨⟨i, rfl⟩, rfl⟩ | ⟨⟨b, rfl⟩, rfl⟩ | ⟨rfl, rfl⟩ | ⟨⟨z, rfl, hz, hc⟩, rfl⟩ | ⟨⟨a, xs, rfl, _⟩, rfl⟩ | ⟨⟨a, xs, rfl, _⟩, rfl⟩ | ⟨⟨a, xs, rfl, _⟩, rfl⟩
  · exact isi_at "str" rfl ty (b := false) (by decide +kernel) ⟨false, rfl, iteT (iteT (fin _ _ (Same.refl H) rfl))⟩
  · exact isi_at "str" rfl ty (b := false) (by decide +kernel) ⟨false, rfl, iteT (iteT (fin _ _ (Same.refl H) rfl))⟩
  · exact isi_at "str" rfl ty (b := false) (by decide +kernel) ⟨false, rfl, iteT (iteT (fin _ _ (Same.refl H) rfl))⟩
  · refine isi_at "str" rfl ty (b := true) (by decide +kernel) ⟨true, rfl, iteF ?_⟩
    refine ⟨.str z, rfl, z, rfl, Nat.le_of_lt (small60 (by omega)), 1, _, rfl, rfl, _, rfl, ?_⟩
    by_cases h1 : (1 : Int) ≤ (z.length : Int)
    · rw [decide_eq_true h1]
      refine iteT ⟨_, _, rfl, rfl, _, rfl, ?_⟩
      by_cases h8 : (z.length : Int) ≤ 8
      · rw [decide_eq_true h8]
        refine iteF ?_
        have hsz : z.length = z.cps.toList.length := by rw [Array.length_toList]; rfl
        refine ⟨.str z, rfl, z, rfl, fun D nD => ?_⟩
        refine lc_signs (fun i Hx => Same H Hx ∧ Hx D = some (.lst (((z.cps.toList.take i).map signB).map V.bl))) ⟨same_new nD, upd_same⟩ (fun i c Hx hi hI => ?_) (fun Hx hI => ?_)
        · obtain ⟨sm, eD⟩ := hI
          have hi' : z.cps.toList[i]? = some c := by rw [Array.getElem?_toList]; exact hi
          refine ⟨rfl, ?_⟩
          have next : ∀ b, b = signB c → ∃ acc, Hx D = some (.lst acc) ∧ acc.length < sizeLine ∧
              (Same H (upd Hx D (.lst (acc ++ [V.bl b]))) ∧ (upd Hx D (.lst (acc ++ [V.bl b]))) D = some (.lst (((z.cps.toList.take (i + 1)).map signB).map V.bl))) := by
            intro b e
            refine ⟨_, eD, ?_, fun b o e => ?_, ?_⟩
            · rw [List.length_map, List.length_map]
              refine small60 (Nat.le_trans (List.length_take_le _ _) ?_)
              have hi2 := (List.getElem?_eq_some_iff.mp hi').1
              omega
            · rw [upd_ne (ne_of_none e nD)]
              exact sm _ _ e
            · rw [upd_same, List.take_add_one, hi', List.map_append, List.map_append, e]
              rfl
          refine ⟨.str ⟨#[c]⟩, rfl, _, _, rfl, rfl, _, rfl, ?_⟩
          show if (!decide (([c] : List Nat) < [97])) = true then _ else _
          rw [lt1]
          by_cases hl : c < 97
          · rw [decide_eq_true hl]
            refine iteF (next _ ?_)
            unfold signB
            rw [decide_eq_false (show ¬ 97 ≤ c by omega)]
            rfl
          · rw [decide_eq_false hl]
            refine iteT ⟨_, _, rfl, rfl, next _ ?_⟩
            show (!decide (([122] : List Nat) < [c])) = signB c
            rw [lt1]
            unfold signB
            rw [decide_eq_true (show 97 ≤ c by omega)]
            by_cases hh : 122 < c
            · rw [decide_eq_true hh, decide_eq_false (show ¬ c ≤ 122 by omega)]
              rfl
            · rw [decide_eq_false hh, decide_eq_true (show c ≤ 122 by omega)]
              rfl
        · obtain ⟨sm, eD⟩ := hI
          rw [List.take_of_length_le (by rw [Array.length_toList]; exact Nat.le_refl _)] at eD
          refine ⟨D, _, rfl, .of eD, fin _ _ sm ?_⟩
          show _ = ((decide (1 ≤ z.length) && decide (z.length ≤ 8)) && z.cps.toList.all signB)
          rw [decide_eq_true (show 1 ≤ z.length by omega), decide_eq_true (show z.length ≤ 8 by omega), List.all_map]
          rfl
      · rw [decide_eq_false h8]
        refine iteT (fin _ _ (Same.refl H) ?_)
        show _ = ((_ && decide (z.length ≤ 8)) && _)
        rw [decide_eq_false (show ¬ z.length ≤ 8 by omega), Bool.and_false, Bool.false_and]
    · rw [decide_eq_false h1]
      refine iteF ⟨_, rfl, iteT (fin _ _ (Same.refl H) ?_)⟩
      show _ = ((decide (1 ≤ z.length) && _) && _)
      rw [decide_eq_false (show ¬ 1 ≤ z.length by omega), Bool.false_and, Bool.false_and]
  · exact isi_at "str" rfl ty (b := false) (by decide +kernel) ⟨false, rfl, iteT (iteT (fin _ _ (Same.refl H) rfl))⟩
  · exact isi_at "str" rfl ty (b := false) (by decide +kernel) ⟨false, rfl, iteT (iteT (fin _ _ (Same.refl H) rfl))⟩
  · exact isi_at "str" rfl ty (b := false) (by decide +kernel) ⟨false, rfl, iteT (iteT (fin _ _ (Same.refl H) rfl))⟩
end
end Ow

set_option Elab.async false
set_option linter.all false
set_option maxRecDepth 100000
set_option maxHeartbeats 4000000
set_option exponentiation.threshold 3000
namespace Ow
open PySem PySem.Spec PyProof.Rows L2
section
variable {P : Program} {w : World} {K : PySem.W.Frag} {mg : Str → Option Value} {base : Heap}
theorem boot_tup : bootBuiltins "tuple" = some (.type "tuple") := by decide +kernel
theorem ok_values {f fV : Addr} {fd fdV : FuncData} (F : Fun K "is_values" "is_values" dValues f fd) (FV : FnOk P w K mg base CX0 2 fV fdV ["value"] (spB fun _ => bitB))
    (kV : PySem.W.keepIn K (.ref fV) = true) (bV : Binds K fdV ["value"] []) (gV : mg "is_value" = some (.ref fV))
    (mi : mg "isinstance" = none) (mt : mg "tuple" = none) (ma : mg "all" = none) : FnOk P w K mg base CX0 3 f fd ["value"] (spB rowB) := by
  refine F.ok scValues spB_len (fun cdv A outer s H vs Q E hr h => ?_)
  obtain ⟨v, J, rfl, hv, q⟩ := h
  refine ⟨_, pss_one (ps_ret (pe_and (pe_isi (T := "tuple") (by rfl) mi (pv 0) (by rfl) mt boot_tup)
    (pe_one (pe_callB (cr_all rfl) (by rfl) ma boot_all (pa_cons
      (pe_lc (own := [("item", 1)]) (g := gName 1) (tt := tYes) rfl scValues.nd (pi_tup (pv 0)) (blkOk_by (N := ["value", "item"]) (sc := defScope dValues) (by decide +kernel))
        (fun _ _ _ _ _ => pg_name (i := 1) scValues.nd rfl (Or.inl rfl)) (fun _ _ _ _ _ => pts_nil)
        (fun _ _ _ _ _ => pe_call FV hr (by rfl) gV kV bV .nil pass0 (pa_cons (pv 1) pa_nil))) pa_nil))))), ?_⟩
  obtain ⟨T, ty, c⟩ := hv.ty (K := K)
  have fin : ∀ b H', Same H H' → b = rowB H v → Q (.bl b) H' := fun b H' sm e => by
    rw [e]
    exact q H' sm
  rcases c with ⟨⟨i, rfl⟩, rfl⟩ | ⟨⟨b, rfl⟩, rfl⟩ | ⟨rfl, rfl⟩ | ⟨⟨z, rfl, hz, hc⟩, rfl⟩ | ⟨⟨a, xs, rfl, ha, hl, hi⟩, rfl⟩ | ⟨⟨a, xs, rfl, ha⟩, rfl⟩ | ⟨⟨a, xs, rfl, ha⟩, rfl⟩
  · exact isi_at "tuple" rfl ty (b := false) (by decide +kernel) ⟨false, rfl, iteF (fin _ _ (Same.refl H) rfl)⟩
  · exact isi_at "tuple" rfl ty (b := false) (by decide +kernel) ⟨false, rfl, iteF (fin _ _ (Same.refl H) rfl)⟩
  · exact isi_at "tuple" rfl ty (b := false) (by decide +kernel) ⟨false, rfl, iteF (fin _ _ (Same.refl H) rfl)⟩
  · exact isi_at "tuple" rfl ty (b := false) (by decide +kernel) ⟨false, rfl, iteF (fin _ _ (Same.refl H) rfl)⟩
  · refine isi_at "tuple" rfl ty (b := true) (by decide +kernel) ⟨true, rfl, iteT ?_⟩
    refine ⟨.ref a, rfl, a, rfl, ⟨xs, .of ha⟩, fun D nD => ?_⟩
    refine lc_tup (K := K) (a := a) (xs := xs) (fun i Hx => Same H Hx ∧ Hx D = some (.lst (((xs.take i).map bitB).map V.bl))) ⟨same_new nD, upd_same⟩
      (fun i Hx _ hI => .of (hI.1 _ _ ha)) (fun i x Hx hx hI => ?_) (fun Hx hI => ?_)
    · obtain ⟨sm, eD⟩ := hI
      refine ⟨rfl, ?_⟩
      have iv : Vl J Hx x := (hi x (List.mem_of_getElem? hx)).vl.mono (.same sm)
      refine ⟨x, rfl, x, J, rfl, iv, fun H2 sm2 => ⟨_, sm2 _ _ eD, ?_, fun b o e => ?_, ?_⟩⟩
      · rw [List.length_map, List.length_map]
        exact small60 (Nat.le_trans (List.length_take_le _ _) (by have hi2 := (List.getElem?_eq_some_iff.mp hx).1; omega))
      · rw [upd_ne (ne_of_none e nD)]
        exact sm2 _ _ (sm _ _ e)
      · rw [upd_same, List.take_add_one, hx, List.map_append, List.map_append]
        rfl
    · obtain ⟨sm, eD⟩ := hI
      rw [List.take_of_length_le (Nat.le_refl _)] at eD
      refine ⟨D, _, rfl, .of eD, fin _ _ sm ?_⟩
      unfold rowB
      simp only [ha]
      rw [List.all_map]
      rfl
  · exact isi_at "tuple" rfl ty (b := false) (by decide +kernel) ⟨false, rfl, iteF (fin _ _ (Same.refl H) (by unfold rowB; simp only [ha]))⟩
  · exact isi_at "tuple" rfl ty (b := false) (by decide +kernel) ⟨false, rfl, iteF (fin _ _ (Same.refl H) (by unfold rowB; simp only [ha]))⟩
end
end Ow

set_option Elab.async false
set_option linter.all false
set_option maxRecDepth 100000
set_option maxHeartbeats 4000000
set_option exponentiation.threshold 3000
namespace Ow
open PySem PySem.Spec PyProof.Rows L2
/-- a weaker reading of an expression -/
theorem PE.of {X : Cx} {e : Expr} {t t' : TE} (h : PE X e t) (k : ∀ σ H Q, t' σ H Q → t σ H Q) : PE X e t' :=
  ⟨fun pins s σ H Q I q => h.run pins s σ H Q I (k σ H Q q)⟩
/-- the jug: a list of three ints -/
def Jug (H : Hp) (J : Addr) : Prop := ∃ a b c : Int, H J = some (.lst [.int a, .int b, .int c])
theorem scJug : FnScope ["script", "at", "cell", "great", "mixed"] ["script", "at"] (defScope dJug) := ⟨rfl, rfl, rfl, by decide +kernel, rfl, by decide +kernel, by decide +kernel⟩
theorem scDip : FnScope ["jug", "total", "found", "one", "two"] ["jug", "total"] (defScope dDip) := ⟨rfl, rfl, rfl, by decide +kernel, rfl, by decide +kernel, by decide +kernel⟩
theorem scChoice : FnScope ["jug", "items"] ["jug", "items"] (defScope dChoice) := ⟨rfl, rfl, rfl, by decide +kernel, rfl, by decide +kernel, by decide +kernel⟩
theorem mulB {a m j : Int} (h0 : 0 < m) (h1 : m < 2 ^ 64) : CMul (a % m) j := by
  have l := Int.emod_nonneg a (show m ≠ 0 by omega)
  have u := Int.emod_lt_of_pos a h0
  exact .inl ⟨by omega, by omega⟩
section
variable {P : Program} {w : World} {K : PySem.W.Frag} {mg : Str → Option Value} {base : Heap}
def spDip : Sp := fun vs H Q _ => ∃ (J : Addr) (n : Int), vs = [.ref J, .int n] ∧ 0 < n ∧ n.natAbs < 2 ^ 200 ∧ Jug H J ∧
  ∀ H' k, Sb J H H' → Jug H' J → 0 ≤ k → k < n → Q (.int k) H'
theorem ok_dip {f : Addr} {fd : FuncData} (F : Fun K "_law_dip" "_law_dip" dDip f fd) (mi : mg "int" = none) : FnOk P w K mg base CX0 1 f fd ["jug", "total"] spDip := by
  refine F.ok scDip (fun vs H Q E h => ?_) (fun cdv A outer s H vs Q E hr h => ?_)
  · obtain ⟨J, n, rfl, _⟩ := h
    rfl
  obtain ⟨J, n, rfl, n0, nz, ⟨x, y, z, hJ⟩, q⟩ := h
  refine ⟨_, pss_cons (ps_if (pt_cmpR op_gt (pe_ix ix_list (pv 0) pe_int (fun _ _ => rfl)) pe_int (nomark _))
      (pss_cons (ps_set (i := 2) scDip.nd rfl (.inl rfl) (pe_op op_mod (pe_callTy call_int1 (by rfl) mi boot_int (pa_cons (pe_ix ix_list (pv 0) pe_int (fun _ _ => rfl)) pa_nil)) (pv 1)))
      (pss_cons (ps_asg (pe_op op_fdivW (pe_ix ix_list (pv 0) pe_int (fun _ _ => rfl)) (pv 1)) (pg_sub (pv 0) pe_int set_list))
      (pss_one (ps_ret (pv 2))))) pss_nil)
    (pss_cons (ps_asg (pe_op op_add (pe_ix ix_list (pv 0) pe_int (fun _ _ => rfl)) pe_int) (pg_sub (pv 0) pe_int set_list))
    (pss_cons (ps_set (i := 3) scDip.nd rfl (.inl rfl) (pe_op op_mod (pe_callTy call_int1 (by rfl) mi boot_int (pa_cons
        (pe_op op_add (pe_ix ix_list (pv 0) pe_int (fun _ _ => rfl)) (pe_op op_mul pe_int (pe_ix ix_list (pv 0) pe_int (fun _ _ => rfl)))) pa_nil)) pe_int))
    (pss_cons (ps_set (i := 4) scDip.nd rfl (.inl rfl) (pe_op op_add (pe_op op_mul (pe_op op_mod (pe_callTy call_int1 (by rfl) mi boot_int (pa_cons (pe_op op_mul (pv 3) (pv 3)) pa_nil)) pe_int) (pv 3))
        (pe_op op_mul pe_int (pe_ix ix_list (pv 0) pe_int (fun _ _ => rfl)))))
    (pss_one (ps_ret (pe_op op_mod (pe_callTy call_int1 (by rfl) mi boot_int (pa_cons (pe_op op_fdiv (pe_op op_mod (pe_callTy call_int1 (by rfl) mi boot_int (pa_cons (pv 4) pa_nil)) pe_int) pe_int) pa_nil)) (pv 1))))))), ?_⟩
  have hd : CDivW x n := wide_div (b := 200) n0 nz (by decide) (by decide)
  refine ⟨.ref J, rfl, J, _, 0, .int x, rfl, rfl, .of hJ, atI_nat (j := 0) rfl, x, 0, rfl, rfl, _, rfl, ite2 (fun _ => ?_) (fun _ => ?_)⟩
  · refine ⟨.ref J, rfl, J, _, 0, .int x, rfl, rfl, .of hJ, atI_nat (j := 0) rfl, .inl ⟨x, rfl, .int n, rfl, x, n, rfl, rfl, n0, ?_⟩⟩
    refine ⟨.ref J, rfl, J, _, 0, .int x, rfl, rfl, .of hJ, atI_nat (j := 0) rfl, .int n, rfl, x, n, rfl, rfl, hd, ?_⟩
    refine ⟨.ref J, rfl, J, _, 0, 0, rfl, rfl, hJ, rfl, ?_⟩
    exact ⟨_, rfl, q _ _ Sb.at ⟨_, _, _, upd_same⟩ (Int.emod_nonneg _ (by omega)) (Int.emod_lt_of_pos _ n0)⟩
  · refine ⟨.ref J, rfl, J, _, 2, .int z, rfl, rfl, .of hJ, atI_nat (j := 2) rfl, z, 1, rfl, rfl, ?_⟩
    refine ⟨.ref J, rfl, J, _, 2, 2, rfl, rfl, hJ, rfl, ?_⟩
    have h2 : upd H J (.lst ([V.int x, .int y, .int z].set 2 (.int (z + 1)))) J = some (.lst [.int x, .int y, .int (z + 1)]) := upd_same
    refine ⟨.ref J, rfl, J, _, 1, .int y, rfl, rfl, .of h2, atI_nat (j := 1) rfl, .ref J, rfl, J, _, 2, .int (z + 1), rfl, rfl, .of h2, atI_nat (j := 2) rfl, ?_⟩
    refine ⟨1000429, z + 1, rfl, rfl, .inl ⟨by decide, by decide⟩, y, _, rfl, rfl, .inl ⟨_, rfl, _, _, rfl, rfl, (by show (0 : Int) < _; decide), ?_⟩⟩
    refine ⟨_, rfl, _, rfl, _, _, rfl, rfl, mulB (by decide) (by decide), .inl ⟨_, rfl, _, _, rfl, rfl, (by show (0 : Int) < _; decide), ?_⟩⟩
    refine ⟨_, rfl, _, _, rfl, rfl, mulB (by decide) (by decide), .ref J, rfl, J, _, 2, .int (z + 1), rfl, rfl, .of h2, atI_nat (j := 2) rfl, ?_⟩
    refine ⟨9109, z + 1, rfl, rfl, .inl ⟨by decide, by decide⟩, _, _, rfl, rfl, ?_⟩
    refine ⟨_, rfl, .inl ⟨_, rfl, _, _, rfl, rfl, (by show (0 : Int) < _; decide), _, 16384, rfl, rfl, ⟨by decide, by decide⟩, .inl ⟨_, rfl, .int n, rfl, _, n, rfl, rfl, n0, ?_⟩⟩⟩
    exact q _ _ Sb.at ⟨_, _, _, h2⟩ (Int.emod_nonneg _ (by omega)) (Int.emod_lt_of_pos _ n0)
/-- a jug: three ints, new -/
def spJug (K : PySem.W.Frag) : Sp := fun vs H Q _ => ∃ (a : Addr) (ns : List Int) (i : Nat), vs = [.ref a, .int i] ∧ SqL K H a (ns.map V.int) ∧
  ∀ H' p, Same H H' → H p = none → Jug H' p → Q (.ref p) H'
def tCellAt (K : PySem.W.Frag) : TE := fun σ H Q => ∃ (a : Addr) (ns : List Int) (i : Nat), σ[0]? = some (some (.ref a)) ∧ σ[1]? = some (some (.int i)) ∧
  SqL K H a (ns.map V.int) ∧ ∀ c : Int, Q (.int c) H
def tSomeOf (j : Nat) : TE := fun σ H Q => ∃ c : Int, σ[j]? = some (some (.int c)) ∧ ∀ g : Int, Q (.int g) H
theorem ok_jug {f : Addr} {fd : FuncData} (F : Fun K "_law_jug" "_law_jug" dJug f fd) (mi : mg "int" = none) (ml : mg "len" = none) (ma : mg "abs" = none) (mm : mg "max" = none) :
    FnOk P w K mg base CX0 1 f fd ["script", "at"] (spJug K) := by
  refine F.ok scJug (fun vs H Q E h => ?_) (fun cdv A outer s H vs Q E hr h => ?_)
  · obtain ⟨a, ns, i, rfl, _⟩ := h
    rfl
  obtain ⟨a, ns, i, rfl, hS, q⟩ := h
  refine ⟨_, pss_cons (ps_set (i := 2) scJug.nd rfl (.inl rfl) (PE.of (t' := tCellAt K) (pe_ifExp (pt_cmpR op_lt (pv 1) (pe_callB call_len_seq (by rfl) ml PySem.boot_len (pa_cons (pv 0) pa_nil)) (nomark _))
        (pe_ix ix_list (pv 0) (pv 1) (fun _ _ => rfl)) (pe_op op_add (pe_op op_mul pe_int (pv 1)) pe_int)) ?c1))
    (pss_cons (ps_set (i := 3) scJug.nd rfl (.inl rfl) (PE.of (t' := tSomeOf 2) (pe_op op_mod (pe_callTy call_int1 (by rfl) mi boot_int (pa_cons (pe_callB call_abs (by rfl) ma boot_abs (pa_cons (pv 2) pa_nil)) pa_nil))
        (pe_op op_powB (pe_op op_powB pe_int pe_int) pe_int)) ?c2))
    (pss_cons (ps_set (i := 4) scJug.nd rfl (.inl rfl) (pe_op op_add (pe_op op_add (pe_op op_add (pe_op op_mul (pe_op op_mod (pe_callTy call_int1 (by rfl) mi boot_int (pa_cons (pv 3) pa_nil)) pe_int) pe_int)
        (pe_op op_mul pe_int (pv 1))) (pe_op op_mul pe_int (pe_callTy call_int1 (by rfl) mi boot_int (pa_cons (pe_cmpR op_lt (pv 2) pe_int (nomark _)) pa_nil)))) pe_int))
    (pss_one (ps_ret (pe_lst (pa_cons (pe_callB (call_max2 rfl) (by rfl) mm boot_max (pa_cons pe_int (pa_cons (pe_op op_sub (pv 3) (pe_op op_powB pe_int pe_int)) pa_nil)))
      (pa_cons (pe_op op_mod (pe_callTy call_int1 (by rfl) mi boot_int (pa_cons (pv 4) pa_nil)) pe_int) (pa_cons pe_int pa_nil)))))))), ?r⟩
  case c1 =>
    intro σ H Q h
    obtain ⟨a, ns, i, h0, h1, hS, q⟩ := h
    refine ⟨.int i, h1, .ref a, h0, a, _, rfl, .inl hS, _, _, rfl, rfl, _, rfl, ite2 (fun e => ?_) (fun _ => ?_)⟩
    · have e1 : (i : Int) < ((ns.map V.int).length : Nat) := of_decide_eq_true e
      rw [List.length_map] at e1
      have hi : i < ns.length := by omega
      refine ⟨.ref a, h0, .int i, h1, a, _, i, .int ns[i], rfl, rfl, hS, atI_nat (j := i) ?_, q _⟩
      rw [List.getElem?_map, List.getElem?_eq_getElem hi]
      rfl
    · exact ⟨.int i, h1, 71, i, rfl, rfl, .inl ⟨by decide, by decide⟩, _, 41, rfl, rfl, q _⟩
  case c2 =>
    intro σ H Q h
    obtain ⟨c, h2, q⟩ := h
    refine ⟨.int c, h2, c, rfl, .inl ⟨_, rfl, 10, 43, rfl, rfl, ⟨by decide, by decide +kernel⟩, _, 14, rfl, rfl, ⟨by decide, by decide +kernel⟩, _, _, rfl, rfl, (by show (0 : Int) < _; decide +kernel), q _⟩⟩
  refine ⟨a, ns, i, rfl, rfl, hS, fun c => ⟨c, rfl, fun g => ?_⟩⟩
  refine ⟨.int g, rfl, .inl ⟨_, rfl, g, 2147483179, rfl, rfl, (by show (0 : Int) < _; decide), _, 97303, rfl, rfl, .inr ⟨by decide, by decide⟩, .int i, rfl, 8147, i, rfl, rfl, .inl ⟨by decide, by decide⟩, _, _, rfl, rfl, ?_⟩⟩
  refine ⟨.int c, rfl, c, 0, rfl, rfl, .inr ⟨_, rfl, 53, _, rfl, rfl, .inl ⟨by decide, by decide⟩, _, _, rfl, rfl, _, 79, rfl, rfl, ?_⟩⟩
  refine ⟨.int g, rfl, 10, 18, rfl, rfl, ⟨by decide, by decide +kernel⟩, g, _, rfl, rfl, 0, _, rfl, ?_⟩
  refine ⟨_, rfl, .inl ⟨_, rfl, _, 2305843009213693907, rfl, rfl, (by show (0 : Int) < _; decide), (by show 3 ≤ sizeLine; decide), fun p np => ?_⟩⟩
  exact q _ p (same_new np) np ⟨_, _, _, upd_same⟩
/-- one of some items -/
def spChoice : Sp := fun vs H Q _ => ∃ (J L : Addr) (xs : List V), vs = [.ref J, .ref L] ∧ L ≠ J ∧ H L = some (.lst xs) ∧ xs ≠ [] ∧ xs.length ≤ 1000 ∧ Jug H J ∧
  ∀ H' x, Sb J H H' → Jug H' J → x ∈ xs → Q x H'
theorem ok_choice {f fD : Addr} {fd fdD : FuncData} (F : Fun K "_law_choice" "_law_choice" dChoice f fd) (FD : FnOk P w K mg base CX0 1 fD fdD ["jug", "total"] spDip)
    (kD : PySem.W.keepIn K (.ref fD) = true) (bD : Binds K fdD ["jug", "total"] []) (gD : mg "_law_dip" = some (.ref fD)) (ml : mg "len" = none) : FnOk P w K mg base CX0 2 f fd ["jug", "items"] spChoice := by
  refine F.ok scChoice (fun vs H Q E h => ?_) (fun cdv A outer s H vs Q E hr h => ?_)
  · obtain ⟨J, L, xs, rfl, _⟩ := h
    rfl
  obtain ⟨J, L, xs, rfl, nJ, hL, ne, le, hJ, q⟩ := h
  refine ⟨_, pss_one (ps_ret (pe_ix ix_list (pv 1) (pe_call FD hr (by rfl) gD kD bD .nil pass0 (pa_cons (pv 0) (pa_cons (pe_callB call_len_seq (by rfl) ml PySem.boot_len (pa_cons (pv 1) pa_nil)) pa_nil))) (fun _ _ => rfl))), ?_⟩
  have pos : 0 < xs.length := List.length_pos_iff.mpr ne
  refine ⟨.ref L, rfl, .ref J, rfl, .ref L, rfl, L, xs, rfl, .inl (.of hL), J, xs.length, rfl, by omega, by omega, hJ, fun H' k sb hJ' k0 kn => ?_⟩
  have hk : k.toNat < xs.length := by omega
  refine ⟨L, xs, k, xs[k.toNat], rfl, rfl, .of (sb _ _ nJ hL), ?_, q _ _ sb hJ' (List.getElem_mem hk)⟩
  exact at_of (show k = (k.toNat : Int) by omega) (List.getElem?_eq_getElem hk)
end
end Ow

set_option Elab.async false
set_option linter.all false
set_option maxRecDepth 100000
set_option maxHeartbeats 4000000
set_option exponentiation.threshold 3000
namespace Ow
open PySem PySem.Spec PyProof.Rows L2
/-! ### heaps that grow, but for the places M, where jugs stand -/
def Gw (M : Addr → Prop) (H H' : Hp) : Prop := ∀ b o, ¬ M b → H b = some o → H' b = some o
def Jg (M : Addr → Prop) (H : Hp) : Prop := ∀ b, M b → Jug H b
def No : Addr → Prop := fun _ => False
def At (J : Addr) : Addr → Prop := fun b => b = J
section
variable {M : Addr → Prop} {H H' H'' : Hp} {J p a : Addr} {o : HO} {xs : List V}
theorem Gw.refl (H : Hp) : Gw M H H := fun _ _ _ e => e
theorem Gw.trans (a : Gw M H H') (b : Gw M H' H'') : Gw M H H'' := fun c o n e => b c o n (a c o n e)
theorem Gw.same (s : Same H H') : Gw M H H' := fun c o _ e => s c o e
theorem Gw.toSame (s : Gw No H H') : Same H H' := fun c o e => s c o (fun z => z) e
theorem Gw.sb (s : Gw (At J) H H') : Sb J H H' := fun c o n e => s c o n e
theorem Sb.gw (s : Sb J H H') : Gw (At J) H H' := fun c o n e => s c o n e
theorem Gw.new (h : H p = none) : Gw M H (upd H p o) := .same (same_new h)
theorem Gw.newer (g : Gw M H H') (n : H p = none) : Gw M H (upd H' p o) := fun b x m e => by
  rw [upd_ne (ne_of_none e n)]
  exact g b x m e
theorem jug_same (s : Same H H') (j : Jug H J) : Jug H' J := by
  obtain ⟨a, b, c, e⟩ := j
  exact ⟨a, b, c, s _ _ e⟩
theorem jug_keep (j : Jug H J) (n : p ≠ J) : Jug (upd H p o) J := by
  obtain ⟨a, b, c, e⟩ := j
  exact ⟨a, b, c, by rw [upd_ne n.symm]; exact e⟩
theorem jug_none (j : Jug H J) (n : H p = none) : p ≠ J := fun z => by
  obtain ⟨a, b, c, e⟩ := j
  rw [z, e] at n
  cases n
theorem jug_tup (j : Jug H J) (n : H p = some (.tup xs)) : p ≠ J := fun z => by
  obtain ⟨a, b, c, e⟩ := j
  rw [z, e] at n
  cases n
theorem Jg.no : Jg No H := fun _ z => z.elim
theorem Jg.at_ (j : Jug H J) : Jg (At J) H := fun b z => by
  have z : b = J := z
  rw [z]
  exact j
theorem Jg.jug (j : Jg (At J) H) : Jug H J := j J rfl
theorem Jg.same (j : Jg M H) (s : Same H H') : Jg M H' := fun b m => jug_same s (j b m)
theorem Jg.keep (j : Jg M H) (n : ¬ M p) : Jg M (upd H p o) := fun b m => jug_keep (j b m) fun z => n (by rw [z]; exact m)
theorem Jg.free (j : Jg M H) (n : H p = none) : ¬ M p := fun m => jug_none (j p m) n rfl
theorem Jg.new (j : Jg M H) (n : H p = none) : Jg M (upd H p o) := j.keep (j.free n)
theorem Jg.tup (j : Jg M H) (n : H p = some (.tup xs)) : ¬ M p := fun m => jug_tup (j p m) n rfl
theorem Gw.tup (g : Gw M H H') (j : Jg M H) (h : H a = some (.tup xs)) : H' a = some (.tup xs) := g a _ (j.tup h) h
end
/-! all but lists stay -/
def Tk (H H' : Hp) : Prop := ∀ b o, (∀ xs, o ≠ .lst xs) → H b = some o → H' b = some o
theorem Tk.refl (H : Hp) : Tk H H := fun _ _ _ e => e
theorem Tk.trans {H H' H'' : Hp} (a : Tk H H') (b : Tk H' H'') : Tk H H'' := fun c o n e => b c o n (a c o n e)
theorem Gw.tk {M : Addr → Prop} {H H' : Hp} (g : Gw M H H') (j : Jg M H) : Tk H H' := fun b o n e => g b o (fun m => by
  obtain ⟨x, y, z, q⟩ := j b m
  rw [e] at q
  exact n _ (Option.some.inj q)) e
theorem Tk.same {H H' : Hp} (s : Same H H') : Tk H H' := fun b o _ e => s b o e
theorem Tk.lst {H : Hp} {a : Addr} {xs ys : List V} (h : H a = some (.lst xs)) : Tk H (upd H a (.lst ys)) := fun b o n e => by
  rw [upd_ne (fun z => by rw [z, h] at e; exact n _ (Option.some.inj e).symm)]
  exact e
theorem Tk.new {H : Hp} {p : Addr} {o : HO} (h : H p = none) : Tk H (upd H p o) := .same (same_new h)
theorem Tk.tup {H H' : Hp} {a : Addr} {xs : List V} (t : Tk H H') (h : H a = some (.tup xs)) : H' a = some (.tup xs) := t a _ (fun _ z => nomatch z) h
/-! ### two lists, item by item -/
inductive All2 {α β : Type} (R : α → β → Prop) : List α → List β → Prop
  | nil : All2 R [] []
  | cons {x : α} {y : β} {xs : List α} {ys : List β} : R x y → All2 R xs ys → All2 R (x :: xs) (y :: ys)
section
variable {α β : Type} {R S : α → β → Prop} {xs : List α} {ys : List β}
theorem All2.len (h : All2 R xs ys) : xs.length = ys.length := by
  induction h with
  | nil => rfl
  | cons _ _ ih => rw [List.length_cons, List.length_cons, ih]
theorem All2.imp (k : ∀ x y, R x y → S x y) (h : All2 R xs ys) : All2 S xs ys := by
  induction h with
  | nil => exact .nil
  | cons r _ ih => exact .cons (k _ _ r) ih
theorem All2.get (h : All2 R xs ys) : ∀ {i : Nat} {x : α}, xs[i]? = some x → ∃ y, ys[i]? = some y ∧ R x y := by
  induction h with
  | nil => intro i x e; simp at e
  | cons r _ ih =>
    intro i x e
    cases i with
    | zero => simp at e; subst e; exact ⟨_, rfl, r⟩
    | succ i => exact ih (by simpa using e)
theorem All2.get' (h : All2 R xs ys) : ∀ {i : Nat} {y : β}, ys[i]? = some y → ∃ x, xs[i]? = some x ∧ R x y := by
  induction h with
  | nil => intro i x e; simp at e
  | cons r _ ih =>
    intro i x e
    cases i with
    | zero => simp at e; subst e; exact ⟨_, rfl, r⟩
    | succ i => exact ih (by simpa using e)
theorem All2.app {xs' : List α} {ys' : List β} (h : All2 R xs ys) (g : All2 R xs' ys') : All2 R (xs ++ xs') (ys ++ ys') := by
  induction h with
  | nil => exact g
  | cons r _ ih => exact .cons r ih
theorem All2.mem (h : All2 R xs ys) {x : α} (m : x ∈ xs) : ∃ y, y ∈ ys ∧ R x y := by
  obtain ⟨i, hi⟩ := List.mem_iff_getElem?.mp m
  obtain ⟨y, hy, r⟩ := h.get hi
  exact ⟨y, List.mem_of_getElem? hy, r⟩
theorem All2.of_get : ∀ {xs : List α} {ys : List β}, xs.length = ys.length → (∀ (i : Nat) x y, xs[i]? = some x → ys[i]? = some y → R x y) → All2 R xs ys
  | [], [], _, _ => .nil
  | x :: xs, y :: ys, e, h => .cons (h 0 x y rfl rfl) (All2.of_get (by simpa using e) fun i x y hx hy => h (i + 1) x y (by simpa using hx) (by simpa using hy))
  | [], _ :: _, e, _ => nomatch e
  | _ :: _, [], e, _ => nomatch e
theorem All2.map {γ : Type} (f : γ → β) {zs : List γ} (h : ∀ (i : Nat) x z, xs[i]? = some x → zs[i]? = some z → R x (f z)) (e : xs.length = zs.length) : All2 R xs (zs.map f) := by
  refine .of_get (by rw [List.length_map]; exact e) fun i x y hx hy => ?_
  rw [List.getElem?_map] at hy
  cases hz : zs[i]? with
  | none => rw [hz] at hy; cases hy
  | some z =>
    rw [hz] at hy
    cases hy
    exact h i x z hx hz
end
/-! ### tuples of ints, and lists and tuples of them -/
def IsRow (H : Hp) (v : V) (ns : List Int) : Prop := ∃ a, v = .ref a ∧ H a = some (.tup (ns.map V.int))
def IsRows (H : Hp) (v : V) (rs : List (List Int)) : Prop := ∃ a xs, v = .ref a ∧ H a = some (.tup xs) ∧ All2 (IsRow H) xs rs
section
variable {H H' : Hp} {v : V} {ns : List Int} {rs : List (List Int)} {xs : List V}
theorem IsRow.tk (t : Tk H H') (h : IsRow H v ns) : IsRow H' v ns := by
  obtain ⟨a, e, q⟩ := h
  exact ⟨a, e, t.tup q⟩
theorem all_tk (t : Tk H H') (h : All2 (IsRow H) xs rs) : All2 (IsRow H') xs rs := h.imp fun _ _ q => q.tk t
theorem IsRows.tk (t : Tk H H') (h : IsRows H v rs) : IsRows H' v rs := by
  obtain ⟨a, xs, e, q, r⟩ := h
  exact ⟨a, xs, e, t.tup q, all_tk t r⟩
theorem IsRow.new {p : Addr} : IsRow (upd H p (.tup (ns.map V.int))) (.ref p) ns := ⟨p, rfl, upd_same⟩
end
/-! ### comprehensions -/
section
variable {J : It} {n : Nat} {G : Hp → Prop} {Y : Nat → Hp → V → Hp → Prop}
/-- every element by itself: what is known of it stays whatever lists do -/
theorem lc_map {M : Addr → Prop} (w : Walk J n G Y) (hn : n ≤ 5000) {g : TG} {te : TE} {vs : List Nat} {σ : L2.St} {H1 : Hp} {D : Addr} {Qd : Hp → Prop} (hJ : Jg M H1) (nD : H1 D = none) (P : Nat → Hp → V → Prop)
    (hP : ∀ i H H' v, Tk H H' → P i H v → P i H' v) (hG : ∀ H, Gw M H1 H → Jg M H → G H)
    (hs : ∀ i x H H' (K : VK), i < n → Gw M H1 H → Jg M H → Y i H x H' → (∀ y H4, Gw M H H4 → Jg M H4 → P i H4 y → K y H4) →
      g x (wipe σ vs) H' fun σ2 H2 => wipe σ2 vs = wipe σ vs ∧ te σ2 H2 K)
    (hd : ∀ H ys, Gw M H1 H → Jg M H → H D = some (.lst ys) → ys.length = n → (∀ i y, ys[i]? = some y → P i H y) → Qd H) :
    ∃ W : Nat → Nat → Hp → Prop, (∃ m, W 0 m (upd H1 D (.lst []))) ∧ ∀ i m H, W i m H →
      (J.stop i H ∧ Qd H) ∨ (J.go i H ∧ ∃ Nx : Hp → Prop, (∀ H', Nx H' → ∃ m', m' < m ∧ W (i + 1) m' H') ∧ ∀ x H', J.yld i H x H' → g x (wipe σ vs) H' fun σ2 H2 => wipe σ2 vs = wipe σ vs ∧ tYes σ2 H2 fun b H3 =>
        if b = true then te σ2 H3 fun y H4 => ∃ acc, H4 D = some (.lst acc) ∧ acc.length < sizeLine ∧ Nx (upd H4 D (.lst (acc ++ [y]))) else Nx H3) := by
  have nM : ¬ M D := hJ.free nD
  refine lc_it w (fun i H => Gw M H1 H ∧ Jg M H ∧ ∃ ys, H D = some (.lst ys) ∧ ys.length = i ∧ ∀ j y, ys[j]? = some y → P j H y)
    ⟨Gw.new nD, hJ.new nD, [], upd_same, rfl, fun j y e => by simp at e⟩ (fun i H _ h => hG H h.1 h.2.1) (fun i x H H' hi h y => ?_) (fun H h => ?_)
  · obtain ⟨g1, j1, ys, eD, hl, hp⟩ := h
    refine hs i x H H' (fun y H4 => ∃ acc, H4 D = some (.lst acc) ∧ acc.length < sizeLine ∧ (fun H => Gw M H1 H ∧ Jg M H ∧ ∃ ys, H D = some (.lst ys) ∧ ys.length = i + 1 ∧ ∀ j y, ys[j]? = some y → P j H y) (upd H4 D (.lst (acc ++ [y])))) hi g1 j1 y fun y2 H4 g4 j4 p4 => ?_
    have e4 : H4 D = some (.lst ys) := g4 D _ nM eD
    have t4 : Tk H H4 := g4.tk j1
    refine ⟨ys, e4, small60 (by omega), ?_, ?_, ys ++ [y2], upd_same, by rw [List.length_append, hl]; rfl, fun k z hz => ?_⟩
    · exact (g1.trans g4).newer nD
    · exact j4.keep nM
    · by_cases hk : k < ys.length
      · rw [List.getElem?_append_left hk] at hz
        exact hP _ _ _ _ (t4.trans (Tk.lst e4)) (hp k z hz)
      · rw [List.getElem?_append_right (by omega)] at hz
        have e0 : k - ys.length = 0 := by
          cases hq : k - ys.length with
          | zero => rfl
          | succ m => rw [hq] at hz; simp at hz
        rw [e0] at hz
        have ek : k = i := by omega
        have ez : z = y2 := by simpa using hz.symm
        rw [ek, ez]
        exact hP _ _ _ _ (Tk.lst e4) p4
  · obtain ⟨g1, j1, ys, eD, hl, hp⟩ := h
    exact hd H ys g1 j1 eD hl hp
end
end Ow

set_option Elab.async false
set_option linter.all false
set_option maxRecDepth 100000
set_option maxHeartbeats 4000000
namespace PySem
open Sem (wp)
open AutoSeq1 (wpAny_loadPart')
/-! enumerate of a tuple, made -/
theorem ow_enum_newT (l : Addr) (items : Array Value) (n : Nat) (dct : Option Addr) (sl : Array (Option Value)) :
    Meets (Builtin.«enumerate.__new__» ⟨[.type "enumerate", .ref l], []⟩) (fun _ R s => s.heap.get? l = some { cls := .type "tuple", dict := dct, data := .seq items n, slots := sl } ∧
      R (.ok (.ret (.ref (s.heap.push { cls := .type "tuple_iterator", data := .fields #[.ref l, .int 0 0] }).objs.size)))
        { s with heap := (s.heap.push { cls := .type "tuple_iterator", data := .fields #[.ref l, .int 0 0] }).push { cls := .type "enumerate", data := .fields #[.none, .bool false, .ref s.heap.objs.size, rawInt 0, .none, .none] } }) :=
  .of_wp fun prog w A R s h => by
    obtain ⟨hp, g, d, tk, os⟩ := s
    obtain ⟨hl, h⟩ := h
    have hsub := sub_enumerate
    have hT : Heap.IsTuple (Shared.heap ⟨hp, g, d, tk, os⟩) l items := ⟨_, hl, rfl, n, rfl⟩
    wp_walk using wpAny_loadPart' hl
    refine wpAny_stack_any fun st => wpAny_pure ?_
    split
    · rename_i c _ _ _ _ _
      cases (c == Value.type "enumerate")
      · wp_walk using wpAny_loadPart' hl, wpAny_pyIter_tuple hT
        exact ⟨_, rfl, h⟩
      · wp_walk using wpAny_loadPart' hl, wpAny_pyIter_tuple hT
        exact ⟨_, rfl, h⟩
    · wp_walk using wpAny_loadPart' hl, wpAny_pyIter_tuple hT
      exact ⟨_, rfl, h⟩
section
variable {prog : Program} {w : World} {A : Around} {E : Value → Shared → Prop} {s : Shared}
theorem ow_call_enumT {l : Addr} {items : Array Value} {Q : Value → Shared → Prop} (hL : s.heap.IsTuple l items)
    (h : ∀ h', IsEnum h' (s.heap.objs.size + 1) s.heap.objs.size 0 .none → h'.IsTupleIter s.heap.objs.size l 0 → (∀ b o, s.heap.get? b = some o → h'.get? b = some o) → Q (.ref (s.heap.objs.size + 1)) { s with heap := h' }) :
    wpAny (model prog w) A (call (.type "enumerate") [.ref l]) Q E s := by
  obtain ⟨⟨c, dct, dt, sl⟩, hl, hc, n, hd⟩ := hL
  have hc1 : c = .type "tuple" := hc
  have hd1 : dt = .seq items n := hd
  subst hc1 hd1
  refine callType_new F.called_enumerate (by decide) (F.typeCall_enumerate_1 _) (F.newCall_enumerate_1 _) (fun obj => F.args_object_init_2 obj _) F.entry_enumerate_new (ow_enum_newT l items n dct sl) ⟨hl, ?_⟩
  have hz : (s.heap.push { cls := .type "tuple_iterator", data := .fields #[.ref l, .int 0 0] }).objs.size = s.heap.objs.size + 1 := Heap.size_push ..
  show _ ∧ _
  rw [hz]
  have he : IsEnum ((s.heap.push { cls := .type "tuple_iterator", data := .fields #[.ref l, .int 0 0] }).push { cls := .type "enumerate", data := .fields #[.none, .bool false, .ref s.heap.objs.size, rawInt 0, .none, .none] }) (s.heap.objs.size + 1) s.heap.objs.size 0 .none := by
    have e := Heap.get?_push_size (s.heap.push { cls := .type "tuple_iterator", data := .fields #[.ref l, .int 0 0] }) (o := { cls := .type "enumerate", data := .fields #[.none, .bool false, .ref s.heap.objs.size, rawInt 0, .none, .none] }) rfl
    rw [hz] at e
    exact e
  exact ⟨⟨_, he, rfl⟩, h _ he ⟨_, Heap.get?_push_of_some _ (Heap.get?_push_size _ rfl), rfl, rfl⟩ fun b o x => Heap.get?_push_of_some _ (Heap.get?_push_of_some _ x)⟩
end
end PySem
namespace Ow
open PySem PySem.Spec PyProof.Rows L2
/-! a walk over enumerate(tuple) -/
def IteT (K : PySem.W.Frag) (a : Addr) : It :=
  ⟨fun i H => ∃ (xs : List V) (x : V), SqT K H a xs ∧ xs[i]? = some x, fun i H v H' => ∃ T x, v = .ref T ∧ H T = none ∧ H' = upd H T (.tup [.int (i : Nat), x]) ∧ ∀ xs, SqT K H a xs → xs[i]? = some x, fun i H => ∃ xs : List V, SqT K H a xs ∧ xs.length ≤ i⟩
theorem isTuple_of {h : Heap} {a : Addr} {its : Array Value} (t : IsTup h a its) : h.IsTuple a its := t
theorem turn_enumT {P : Program} {w : World} {K : PySem.W.Frag} {elts : List Expr} {kk : Nat} {tpos : Pos} (a e it : Addr) :
    Turn P w K (.Tuple elts kk tpos) (IteT K a) [e, it] e (fun i h => (∃ old, IsEnum h e it ((i : Nat) : Int) old) ∧ h.IsTupleIter it a i ∧ e ≠ it) where
  mem := by simp
  obj := fun i h st b hb => by
    obtain ⟨⟨old, he⟩, ⟨o, ho, hc, hd⟩, _⟩ := st
    rcases (show b = e ∨ b = it by simpa using hb) with z | z
    · rw [z]
      exact ⟨_, he, fun v q => (nomatch q)⟩
    · rw [z]
      exact ⟨o, ho, fun v q => by rw [hd] at q; cases q⟩
  keep := fun i h h' st k => let ⟨⟨old, he⟩, hi, hne⟩ := st; ⟨⟨old, k e (by simp) _ he⟩, hi.at fun o q => k it (by simp) o q, hne⟩
  item := by
    intro X hP hw hK hc i pins s σ H E I hf st hg
    subst hP hw hK
    obtain ⟨⟨old, he⟩, hit, hne⟩ := st
    obtain ⟨xs, x, hq, hx⟩ := hg
    obtain ⟨its, rv, p, hz⟩ := I.tuple hq
    obtain ⟨u, hu, ru⟩ := rv.get hx
    have hel : e < s.heap.objs.size := Heap.lt_size he
    have hil : it < s.heap.objs.size := by obtain ⟨_, q, _⟩ := hit; exact Heap.lt_size q
    have hai : a ≠ it := fun z => by
      obtain ⟨o1, h1, c1, _⟩ := p
      obtain ⟨o2, h2, c2, _⟩ := hit
      rw [z, h2] at h1
      cases h1
      rw [c1] at c2
      exact absurd c2 (by decide)
    have hae : e ≠ a := fun z => by
      obtain ⟨o1, h1, c1, _⟩ := p
      rw [← z, he] at h1
      cases h1
      have c3 : Value.type "enumerate" = Value.type "tuple" := c1
      exact absurd c3 (by decide)
    have hif : i < its.toArray.size := by
      have h1 := (List.getElem?_eq_some_iff.mp hu).1
      rw [List.size_toArray]
      exact h1
    refine wpAny_pyNext_enum_itemD (Draws.tuple (A := X.A.in1) (show X.A.in1.handled = none from I.ok.hd hc) it a hai its.toArray) he ⟨hit, p⟩ hif hne (by simp [hne, hae]) fun y h' tk hy ho hst hT hsz hk => ?_
    have ey : y = u := by
      have : its.toArray[i]? = some u := by simpa using hu
      rw [this] at hy
      exact (Option.some.inj hy).symm
    subst ey
    refine ⟨_, rfl, wpAny_letOwnedTupleGo_enum (s := { s with heap := h', toks := tk + 1 }) ho fun h'' he' sb => ?_⟩
    have hT2 : h''.get? s.heap.objs.size = some { cls := .type "tuple", data := .seq #[.int i tk, y] } := (sb.2 _ (Nat.ne_of_gt hel)).trans hT
    have new : ObjOk X.prog X.w (upd H s.heap.objs.size (.tup [.int (i : Nat), x])) h'' s.heap.objs.size (.tup [.int (i : Nat), x]) :=
      ⟨by show 2 ≤ sizeLine; decide, [.int i tk, y], .cons ⟨_, rfl⟩ (.cons ru .nil), ⟨_, hT2, rfl, _, rfl⟩⟩
    have I1 : Inv X pins σ (upd H s.heap.objs.size (.tup [.int (i : Nat), x])) { s with heap := h'', toks := tk + 1 } :=
      I.turnedNew (ch := [e, it]) (fun b ob hb q => (sb.2 b (fun z => hb (by simp [z]))).trans (hk b ob (fun z => hb (by simp [z])) (fun z => hb (by simp [z])) q)) hf (Nat.le_refl _) new
    refine ⟨.ref s.heap.objs.size, _, I1, rfl, ⟨_, x, rfl, I.hok.fresh (Nat.le_refl _), rfl, fun ys hy => by rw [I.tuple_inj hy hq]; exact hx⟩, ⟨⟨y, ?_⟩, hst.1.at fun o q => (sb.2 it (Ne.symm hne)).trans q, hne⟩, fun b hb => ?_⟩
    · rw [show ((i + 1 : Nat) : Int) = (i : Int) + 1 by omega]
      exact he'
    · have hb' : b < s.heap.objs.size := by
        rcases (show b = e ∨ b = it by simpa using hb) with z | z
        · rw [z]; exact hel
        · rw [z]; exact hil
      rw [upd_ne (Nat.ne_of_lt hb')]
      exact (hf b hb).1
  done := by
    intro X hP hw hK hc i pins s σ H E I hf st hg
    subst hP hw hK
    obtain ⟨⟨old, he⟩, hit, hne⟩ := st
    obtain ⟨xs, hq, hx⟩ := hg
    obtain ⟨its, rv, p, hz⟩ := I.tuple hq
    have hai : a ≠ it := fun z => by
      obtain ⟨o1, h1, c1, _⟩ := p
      obtain ⟨o2, h2, c2, _⟩ := hit
      rw [z, h2] at h1
      cases h1
      rw [c1] at c2
      exact absurd c2 (by decide)
    obtain ⟨f0, f1, f2, f3, f4, f5⟩ := hf it (by simp)
    have hl := rv.length
    have D2 : Draws X.prog X.w X.A.in1 it [it, a] i (fun j v => its.toArray[j]? = some v) (fun j h => j = i ∧ h.IsTupleIter it a i ∧ h.IsTuple a its.toArray) :=
      ⟨fun _ _ st => let ⟨o, ho, _⟩ := st.2.1; ⟨o, ho⟩, fun _ _ _ st hk => ⟨st.1, st.2.1.at fun o e => hk it (by simp) o e, st.2.2.at fun o e => hk a (by simp) o e⟩,
        fun j s Q E hj st hQ => absurd st.1 (by omega), fun s Q E st hE => by
        refine wpAny_nextOf_tuple_end (A := X.A.in1) (show X.A.in1.handled = none from I.ok.hd hc) st.2.1 st.2.2 ?_ hE
        rw [List.getElem?_toArray]
        exact List.getElem?_eq_none (by omega)⟩
    exact wpAny_pyNext_enum_endD D2 he ⟨rfl, hit, p⟩ fun h' eb => ⟨rfl, I.turned (t' := s.toks) (fun b o hb q => eb b o hb q) f0 f1 f3 f4 f5⟩
  self := fun A i s Q E st h => let ⟨⟨_, he⟩, _⟩ := st; wpAny_pyIter_enum he h
def iEnumT (K : PySem.W.Frag) (ta : TA) : TI := fun σ H R => ta σ H fun vs H1 => ∃ a xs, vs = [.ref a] ∧ SqT K H1 a xs ∧ R (IteT K a) H1
/-- for i, x in enumerate(t), t a tuple -/
theorem pi_enumT {X : Cx} {e : Expr} {ta : TA} {p pos tpos : Pos} {elts : List Expr} {kk : Nat} (hg : Gl X "enumerate") (hm : X.mg "enumerate" = none) (ha : PA X [e] ta) (hs : starEach [e] X.env = [(false, eval e X.env)] := by rfl) :
    PI X (.Tuple elts kk tpos) (.Call (.Name "enumerate" p) [e] [] pos) (iEnumT X.K ta) := by
  refine ⟨fun pins s σ H R I h => ?_⟩
  refine Call_ (ld_blt I hg hm boot_enumerate (PyProof.Rows.callWith_type1 (thn (ha.run pos pins s σ H _ I h) fun us s1 ⟨vs, H1, I1, r1, q1⟩ => ?_) hs rfl))
  obtain ⟨a, xs, ex, hq, q⟩ := q1
  subst ex
  cases r1 with
  | cons r rr =>
    cases rr
    cases r
    obtain ⟨its, rv, p', hz⟩ := I1.tuple hq
    refine ow_call_enumT (isTuple_of p') fun h' he hit hk => wpAny_pyIter_enum he ?_
    have I2 : Inv X pins σ H1 { s1 with heap := h' } := I1.kept (t' := s1.toks) hk
    refine ⟨s1.heap.objs.size + 1, [s1.heap.objs.size + 1, s1.heap.objs.size], _, _, H1, rfl, I2, turn_enumT a (s1.heap.objs.size + 1) s1.heap.objs.size, ⟨⟨.none, he⟩, hit, Nat.succ_ne_self _⟩, fun b hb => ?_, q⟩
    have hle : s1.heap.objs.size ≤ b := by
      rcases (show b = s1.heap.objs.size + 1 ∨ b = s1.heap.objs.size by simpa using hb) with z | z
      · rw [z]
        exact Nat.le_add_right _ _
      · rw [z]
        exact Nat.le_refl _
    exact I1.fpOk hle (I1.hok.fresh hle)
theorem walk_enumT {K : PySem.W.Frag} {a : Addr} {xs : List V} : Walk (IteT K a) xs.length (fun H => SqT K H a xs) (YPair (fun i => some (.int (i : Nat))) (fun i => xs[i]?)) where
  goes := fun i H hi h => ⟨xs, xs[i], h, List.getElem?_eq_getElem hi⟩
  stops := fun H h => ⟨xs, h, Nat.le_refl _⟩
  yields := fun i H x H' hi h y => by
    obtain ⟨T, z, rfl, n, rfl, q⟩ := y
    exact ⟨T, _, z, rfl, n, rfl, rfl, q xs h⟩
end Ow

set_option Elab.async false
set_option linter.all false
set_option maxRecDepth 100000
set_option maxHeartbeats 4000000
namespace Ow
open PySem PySem.Spec PyProof.Rows L2
section
variable {X : Cx} {CX : CXT} {k : Nat} {f C : Addr} {fd : FuncData} {ps : List Str} {sp : Sp} {E : XK}
/-- a def called from around A, whose frames are those of the body -/
theorem run_at {A : Around} (hfr : A.frames = X.A.frames) {pins : List (Addr × Obj)} {σ : L2.St} {H : Hp} {s : Shared} {Q : VK} {us : List Value} {vs : List V} (F : FnOk X.prog X.w X.K X.mg X.base CX k f fd ps sp) (hr : Room k A) (hb : Binds X.K fd ps []) (hx : Passes CX X E)
    (I : Inv X pins σ H s) (r : Vals vs us) (h : sp vs H Q E) : wpAny (model X.prog X.w) A (call (.ref f) us) (EP X pins σ Q) X.xe s := by
  have hl : us.length = ps.length := by rw [← r.length]; exact F.len _ _ _ _ h
  have b := hb s us I.kIn (by rw [List.append_nil]; exact hl)
  rw [List.append_nil] at b
  have e0 : Env0 X.prog X.w X.K X.mg X.base A X.stack s H := by
    have e := I.env0
    exact ⟨hfr.trans e.frames, e.mod, e.bs, e.bsz, e.funs, e.frf, e.hok, e.bare⟩
  refine wpAny_call (codeAny_mono (F.run A X.stack s H ⟨us, []⟩ us vs Q E hr e0 b r h) fun o s' hq => ?_)
  cases o with
  | error e => exact hx pins σ H s e s' I hq
  | ok fl =>
    cases fl with
    | ret u => exact I.after hq
    | next => exact False.elim hq
    | brk => exact False.elim hq
    | cont => exact False.elim hq
/-- o[i], o of an own class with its own [] -/
def tIxO (C : Addr) (sp : Sp) (E : XK) (to ti : TE) : TE := fun σ H Q => to σ H fun x H1 => ti σ H1 fun y H2 => ∃ a dx fs, x = .ref a ∧ H2 a = some (.ins C dx fs) ∧ sp [.ref a, y] H2 Q E
theorem pe_ixO {o i : Expr} {pos : Pos} {to ti : TE} (ho : PE X o to) (hi : PE X i ti) (hn : PySem.W.noSeq X.K C = true) (hm : Meth X.K C "__getitem__" f) (hfn : PySem.W.fnIn X.K f = true) (F : FnOk X.prog X.w X.K X.mg X.base CX k f fd ps sp)
    (hr : Room (k + 1) X.A) (hb : Binds X.K fd ps []) (hx : Passes CX X E) (hs : ∀ a v, subscripted i true (.ref a) v = runValue (.builtin "lifetime.subscript" ⟨[.ref a, v], []⟩) := by intro _ _; with_unfolding_all rfl) :
    PE X (.Subscript o i pos) (tIxO C sp E to ti) := by
  refine ⟨fun pins s σ H Q I h => ?_⟩
  refine Subscript_ (binT ho hi I h fun v u s2 x y H2 I2 rx ry q => ?_)
  obtain ⟨a, dx, fs, rfl, ha, q⟩ := q
  cases rx
  obtain ⟨mA, J, _⟩ := ins_get I2.hok ha
  obtain ⟨od, J, _⟩ := J.look
  obtain ⟨m, hF⟩ := I2.fr
  refine PySem.W.sub_K hF I2.ok.mod.kin J hm.at_ hfn hm.fn ?_ (hs a u)
  have rr : Vals [V.ref a, y] [Value.ref a, u] := .cons rfl (.cons ry .nil)
  exact run_at (A := X.A.in1) rfl F hr.in1 hb hx I2 rr q
end
/-! ### a tuple times one is itself -/
theorem tuple_mulO (l : Addr) (items : Array Value) (n : Nat) (dd : Option Addr) (sl : Array (Option Value)) (u : Tok) :
    Meets (Builtin.«tuple.__mul__» ⟨[.ref l, .int 1 u], []⟩) (fun _ R s => s.heap.get? l = some { cls := .type "tuple", dict := dd, data := .seq items n, slots := sl } ∧ R (.ok (.ret (Value.ref l))) s) :=
  .of_wp fun prog w A R s h => by
    obtain ⟨hp, g, d, tk, os⟩ := s
    obtain ⟨hl, h⟩ := h
    have f1 := AutoSeq1.idx_int
    wp_walk using wpAny_loadPart' hl
    repeat (first
      | (refine wpAny_ite_true (decide_eq_true (by simp)) ?_; wp_walk using wpAny_loadPart' hl)
      | (refine wpAny_ite_false (decide_eq_false (by simp)) ?_; wp_walk using wpAny_loadPart' hl))
    all_goals exact ⟨_, rfl, h⟩

def rRepA (K : PySem.W.Frag) : R2 := fun x y H Q => ∃ l k xs, x = .ref l ∧ y = .int k ∧ SqT K H l xs ∧ xs ≠ [] ∧ 1 ≤ k ∧ k ≤ 1000 ∧ xs.length ≤ 1000 ∧ (k = 1 → Q (.ref l) H) ∧
  (2 ≤ k → ∀ p, H p = none → Q (.ref p) (upd H p (.tup (List.replicate k.toNat xs).flatten)))
section
variable {X : Cx}
theorem op_repA : OpR X (binaryOp .Mult) (rRepA X.K) := by
  intro pins s σ H x y v u Q I rx ry h
  obtain ⟨l, k, xs, rfl, rfl, hT, hne, h1, h2, hz, q1, q2⟩ := h
  by_cases hk : 2 ≤ k
  · exact op_repT pins s σ H _ _ v u Q I rx ry ⟨l, k, xs, rfl, rfl, hT, hne, hk, h2, hz, q2 hk⟩
  have ek : k = 1 := by omega
  subst ek
  cases rx
  obtain ⟨t, rfl⟩ := ry
  obtain ⟨its, r, ⟨⟨cls, dd, data, sl⟩, ho, hc, n, hd⟩, hs⟩ := I.tuple hT
  have hc1 : cls = .type "tuple" := hc
  have hd1 : data = .seq its.toArray n := hd
  subst hc1 hd1
  refine wpAny_binaryOp_repeat_ref (T := "tuple") (U := "int") (by decide) ⟨_, ho, rfl⟩ (fun s' => typeIs_int s' 1 t) noFill_tuple_mul F.fills_int_mul F.slot_int_rmul repeat_tuple F.slot_int_index.lookup
    (call_meets F.slot_int_rmul (typeIs_int s 1 t) F.entry_int_rmul (F.args_int_rmul_2 _ _) (int_rmul_tuple 1 t l its.toArray n dd sl)
      ⟨ho, rfl, ⟨_, ho, rfl⟩, call_meets F.slot_tuple_mul ⟨_, ho, rfl⟩ F.entry_tuple_mul (F.args_tuple_mul_2 _ _) (tuple_mulO l its.toArray n dd sl t) ⟨ho, ?_⟩⟩)
  exact ⟨.ref l, H, I, rfl, q1 rfl⟩
end
/-! ### every second item of a tuple -/
theorem step_adjust (n : Nat) : Builtin.Slice.sliceAdjust none none 2 (n : Int) = (0, (n : Int)) := by
  unfold Builtin.Slice.sliceAdjust
  simp
theorem step_places (n : Nat) : Builtin.Slice.slicePlaces 0 (n : Int) 2 = (n + 1) / 2 := by
  unfold Builtin.Slice.slicePlaces
  rw [if_pos (by decide)]
  by_cases h : (0 : Int) < (n : Int)
  · first | rw [if_pos h] | rw [if_pos (show (n : Int) > 0 from h)] | skip
    omega
  · first | rw [if_neg h] | skip
    omega
section
variable {prog : Program} {w : World} {A : Around} {E : Value → Shared → Prop} {s : Shared}
theorem step_applied {sl : Addr} {vs : Value} {n : Nat} {Q : Int × Int × Nat → Shared → Prop} (hs : s.heap.IsSliceOf sl .none .none vs) (p : IsPart vs (some 2)) (h : Q (0, 2, (n + 1) / 2) s) :
    wpAny (model prog w) A (Builtin.Slice.sliceApplied (.ref sl) (pure (n : Int))) Q E s := by
  obtain ⟨os, hos, hcs, hds⟩ := id hs
  unfold Builtin.Slice.sliceApplied Builtin.Slice.sliceFields
  refine wpAny_bind (wpAny_bind (wpAny_field hos hds (x := .none) rfl ?_))
  refine wpAny_bind (wpAny_field hos hds (x := .none) rfl ?_)
  refine wpAny_bind (wpAny_field hos hds (x := vs) rfl (wpAny_pure ?_))
  refine wpAny_bind (HT.slicePart_ p ?_)
  show wpAny _ _ (if ((2 : Int) == 0) = true then _ else _) _ _ s
  rw [if_neg (by decide)]
  refine wpAny_bind (slicePart_none (wpAny_bind (slicePart_none (wpAny_bind (wpAny_pure ?_)))))
  show wpAny _ _ (match Builtin.Slice.sliceAdjust none none 2 (n : Int) with
    | (lo, hi) => pure (lo, (2 : Int), Builtin.Slice.slicePlaces lo hi 2)) _ _ s
  rw [step_adjust]
  show wpAny _ _ (pure ((0 : Int), (2 : Int), Builtin.Slice.slicePlaces 0 (n : Int) 2)) _ _ s
  rw [step_places]
  exact wpAny_pure h
theorem step_item {t sl : Addr} {items : Array Value} {vs : Value} {Q : Value → Shared → Prop} (ht : IsTup s.heap t items) (hs : s.heap.IsSliceOf sl .none .none vs) (p : IsPart vs (some 2)) (hsz : items.size ≤ sizeLine)
    (h : Q (.ref s.heap.objs.size) { s with heap := s.heap.push { cls := .type "tuple", data := .seq ((List.range ((items.size + 1) / 2)).filterMap fun (k : Nat) => items[((0 : Int) + (k : Int) * 2).toNat]?).toArray } }) :
    wpAny (model prog w) A (getItem (.ref t) (.ref sl)) Q E s := by
  have hz : sizeOk (.seq ((List.range ((items.size + 1) / 2)).filterMap fun (k : Nat) => items[((0 : Int) + (k : Int) * 2).toNat]?).toArray) := by
    show Array.size _ ≤ sizeLine
    rw [List.size_toArray]
    refine Nat.le_trans (List.length_filterMap_le _ _) ?_
    rw [List.length_range]
    have : (items.size + 1) / 2 ≤ items.size := by omega
    omega
  obtain ⟨os, hos, hcs, hds⟩ := id hs
  have isS : s.TypeIs (.ref sl) "slice" := ⟨os, hos, hcs⟩
  unfold getItem
  try with_reducible refine wpAny_holding ?_
  first | refine wpAny_bind (wpAny_pure ?_) | skip
  refine wpAny_bind (wpAny_sequenceKey ht.typeIs (by decide) ?_)
  refine wpAny_bind (wpAny_callSpecial?_slot (name := Str.ofString "__getitem__") ht.typeIs PyProof.Rows.slot_tuple_getitem (wpAny_call_entry PyProof.Rows.slot_tuple_getitem ht.typeIs entry_tuple_getitem ?_ (args_tuple_getitem _ _)))
  show wpAny _ _ (Builtin.Tuple.tupleItemsOf (.ref t) >>= _) _ _ s
  refine wpAny_bind (tupleItemsOf_ ht ?_)
  refine wpAny_bind (wpAny_typeOf isS ?_)
  rw [if_pos (by decide)]
  refine wpAny_bind (step_applied hs p ?_)
  have no : ¬ (((0 : Int) == 0 && (2 : Int) == 1 && (items.size + 1) / 2 == items.size) = true) := by
    intro q
    rw [Bool.and_eq_true, Bool.and_eq_true] at q
    exact absurd q.1.2 (by decide)
  show wpAny _ _ (if ((0 : Int) == 0 && (2 : Int) == 1 && (items.size + 1) / 2 == items.size) = true then _ else _) _ _ s
  rw [if_neg no]
  first
    | exact wpAny_bind (m := Builtin.Tuple.tupleExact _) (wpAny_newObj_type (wpAny_pure ⟨_, rfl, wpAny_pure h⟩) hz)
    | exact wpAny_bind (m := Builtin.Tuple.tupleExact _) (wpAny_newObj_type (wpAny_bind (wpAny_pure (wpAny_pure ⟨_, rfl, wpAny_pure h⟩))) hz)
    | exact wpAny_bind (wpAny_bind (m := Builtin.Tuple.tupleExact _) (wpAny_newObj_type (wpAny_pure (wpAny_pure ⟨_, rfl, wpAny_pure h⟩)) hz))
    | exact wpAny_bind (wpAny_bind (m := Builtin.Tuple.tupleExact _) (wpAny_newObj_type (wpAny_pure ⟨_, rfl, wpAny_pure h⟩) hz))
end
def tStep2 (K : PySem.W.Frag) (te : TE) : TE := fun σ H Q => te σ H fun x H1 => ∃ a xs, x = .ref a ∧ SqT K H1 a xs ∧
  ∀ p zs, H1 p = none → (∀ z ∈ zs, z ∈ xs) → zs.length = (xs.length + 1) / 2 → Q (.ref p) (upd H1 p (.tup zs))
section
variable {X : Cx}
theorem pick_len {α : Type} (xs : List α) : ∀ l : List Nat, (∀ m ∈ l, m < xs.length) → (l.filterMap fun m => xs[m]?).length = l.length
  | [], _ => rfl
  | m :: l, h => by
    have hm := h m List.mem_cons_self
    rw [List.filterMap_cons, List.getElem?_eq_getElem hm]
    simp only [List.length_cons]
    rw [pick_len xs l fun k hk => h k (List.mem_cons_of_mem _ hk)]
theorem pe_step2 {e : Expr} {te : TE} {k : Nat} {p1 p3 pos : Pos} (he : PE X e te) : PE X (.Subscript e (.Slice none none (some (.Constant (.int 2) k p1)) p3) pos) (tStep2 X.K te) := by
  refine ⟨fun pins s σ H Q I h => ?_⟩
  refine Subscript_ (thn (he.run pins s σ H _ I h) fun v s1 hv => ?_)
  obtain ⟨x, H1, I1, r1, a, xs, ex, hx, q⟩ := hv
  subst ex
  cases r1
  have hst : PO X (some (.Constant (.int 2) k p1)) (tPart (tC (.int 2))) := po_some pe_int
  refine wpAny_Slice (thn (po_none.run pins s1 σ H1 (fun o H2 => o = none ∧ H2 = H1) I1 ⟨rfl, rfl⟩) fun vl s2 hl => ?_)
  obtain ⟨l, H2, I2, pl, el, e2⟩ := hl
  subst el e2
  refine thn (po_none.run pins s2 σ H2 (fun o H3 => o = none ∧ H3 = H2) I2 ⟨rfl, rfl⟩) fun vu s3 hl => ?_
  obtain ⟨u, H3, I3, pu, eu, e3⟩ := hl
  subst eu e3
  refine thn (hst.run pins s3 σ H3 (fun o H4 => o = some 2 ∧ H4 = H3) I3 ⟨2, rfl, rfl, rfl⟩) fun vs s4 hl => ?_
  obtain ⟨o, H4, I4, ps, eo, e4⟩ := hl
  subst eo e4
  cases pl
  cases pu
  have I5 : Inv X pins σ H4 { s4 with heap := s4.heap.push { cls := .type "slice", data := .fields #[.none, .none, vs] } } := I4.kept (t' := s4.toks) fun b ob q => Heap.get?_push_of_some _ q
  obtain ⟨its, r, ht, hz⟩ := I5.tuple hx
  have hlen := r.length
  refine tail_any (ops := [.ref a, .ref s4.heap.objs.size]) ht.typeIs (PyProof.Rows.slot_tuple_getitem.lookup) ?_ (by with_unfolding_all rfl)
  refine step_item ht (Heap.IsSliceOf.new _ .none .none vs) ps (by rw [List.size_toArray]; omega) ?_
  have hsz : its.toArray.size = xs.length := by rw [List.size_toArray]; exact hlen.symm
  rw [hsz]
  let f : Nat → Nat := fun k => ((0 : Int) + (k : Int) * 2).toNat
  have hv := vals_pick r f (List.range ((xs.length + 1) / 2))
  have le : ((List.range ((xs.length + 1) / 2)).filterMap fun m => xs[f m]?).length = (xs.length + 1) / 2 := by
    have e := pick_len xs ((List.range ((xs.length + 1) / 2)).map f) (fun m hm => by
      obtain ⟨j, hj, rfl⟩ := List.mem_map.mp hm
      have := List.mem_range.mp hj
      show ((0 : Int) + (j : Int) * 2).toNat < _
      omega)
    rw [List.filterMap_map, List.length_map, List.length_range] at e
    exact e
  refine ⟨.ref _, _, I5.laid (t' := s4.toks) (o := .tup ((List.range ((xs.length + 1) / 2)).filterMap fun m => xs[f m]?)) (fun b ob q => Heap.get?_push_of_some _ q) (Nat.le_refl _) ?_, rfl,
    q _ _ (I5.hok.fresh (Nat.le_refl _)) (fun z hz => ?_) le⟩
  · refine ⟨by rw [le]; omega, (List.range ((xs.length + 1) / 2)).filterMap fun m => its[f m]?, hv, ?_⟩
    have e : (List.filterMap (fun (k : Nat) => its.toArray[((0 : Int) + (k : Int) * 2).toNat]?) (List.range ((xs.length + 1) / 2))) = ((List.range ((xs.length + 1) / 2)).filterMap fun m => its[f m]?) := by
      congr 1
      funext m
      simp [f]
    rw [e]
    exact IsTup.new _ _
  · obtain ⟨m, _, hm⟩ := List.mem_filterMap.mp hz
    exact List.mem_of_getElem? hm
end
end Ow

set_option Elab.async false
set_option linter.all false
set_option maxRecDepth 100000
set_option maxHeartbeats 4000000
namespace Ow
open PySem PySem.Spec PyProof.Rows
open Sem (wp)
/-! ### a list or a tuple, walked -/
inductive SqK | lst | tup
def SqK.Is : SqK → Heap → Addr → Array Value → Prop
  | .lst, h, l, xs => h.IsList l xs
  | .tup, h, l, xs => h.IsTuple l xs
def SqK.It : SqK → Heap → Addr → Addr → Nat → Prop
  | .lst, h, it, l, i => h.IsListIter it l i
  | .tup, h, it, l, i => h.IsTupleIter it l i
def SqK.ob : SqK → Addr → Obj
  | .lst, l => { cls := .type "list_iterator", data := .fields #[.ref l, .int 0 0] }
  | .tup, l => { cls := .type "tuple_iterator", data := .fields #[.ref l, .int 0 0] }
section
variable {prog : Program} {w : World} {A : Around} {E : Value → Shared → Prop} {s : Shared} {k k1 k2 : SqK}
theorem SqK.Is.keep {h h' : Heap} {l : Addr} {xs : Array Value} (x : k.Is h l xs) (e : ∀ o, h.get? l = some o → h'.get? l = some o) : k.Is h' l xs := by
  cases k with
  | lst => exact Heap.IsList.at x e
  | tup => exact Heap.IsTuple.at x e
theorem SqK.It.keep {h h' : Heap} {it l : Addr} {i : Nat} (x : k.It h it l i) (e : ∀ o, h.get? it = some o → h'.get? it = some o) : k.It h' it l i := by
  cases k with
  | lst => exact Heap.IsListIter.at x e
  | tup => exact Heap.IsTupleIter.at x e
theorem SqK.Is.lt {h : Heap} {l : Addr} {xs : Array Value} (x : k.Is h l xs) : l < h.objs.size := by
  cases k with
  | lst => obtain ⟨o, e, _⟩ := x; exact Heap.lt_size e
  | tup => obtain ⟨o, e, _⟩ := x; exact Heap.lt_size e
theorem SqK.iter {l : Addr} {xs : Array Value} (x : k.Is s.heap l xs) {Q : Value → Shared → Prop} (h : Q (.ref s.heap.objs.size) { s with heap := s.heap.push (k.ob l) }) : wpAny (model prog w) A (pyIter (.ref l)) Q E s := by
  cases k with
  | lst => exact wpAny_pyIter_list x h
  | tup => exact wpAny_pyIter_tuple x h
theorem SqK.start {h : Heap} {l it : Addr} (e : h.get? it = some (k.ob l)) : k.It h it l 0 := by
  cases k with
  | lst => exact ⟨_, e, rfl, rfl⟩
  | tup => exact ⟨_, e, rfl, rfl⟩
theorem SqK.draws (hh : A.handled = none) (it l : Addr) (hne : l ≠ it) (items : Array Value) : Draws prog w A it [it, l] items.size (fun i v => items[i]? = some v) (fun i h => k.It h it l i ∧ k.Is h l items) := by
  cases k with
  | lst => exact Draws.list hh it l hne items
  | tup => exact Draws.tuple hh it l hne items
end
/-! ### zip, made -/
def zh1 (h : Heap) (k1 : SqK) (l1 : Addr) : Heap := h.push (k1.ob l1)
def zh2 (h : Heap) (k1 k2 : SqK) (l1 l2 : Addr) : Heap := (zh1 h k1 l1).push (k2.ob l2)
def zh3 (h : Heap) (k1 k2 : SqK) (l1 l2 : Addr) : Heap := (zh2 h k1 k2 l1 l2).push { cls := .type "tuple", data := .seq #[.ref h.objs.size, .ref (zh1 h k1 l1).objs.size] }
def zh4 (h : Heap) (k1 k2 : SqK) (l1 l2 : Addr) : Heap := (zh3 h k1 k2 l1 l2).push { cls := .type "tuple", data := .seq #[.none, .none] }
def zh5 (h : Heap) (k1 k2 : SqK) (l1 l2 : Addr) : Heap := (zh4 h k1 k2 l1 l2).push { cls := .type "zip", data := .fields #[.none, .bool false, .bool false, .ref (zh2 h k1 k2 l1 l2).objs.size, .ref (zh3 h k1 k2 l1 l2).objs.size] }
theorem meets_zip (k1 k2 : SqK) (l1 l2 : Addr) (xs ys : Array Value) :
    Meets (Builtin.«zip.__new__» ⟨[.type "zip", .ref l1, .ref l2], []⟩) (fun _ R s => k1.Is s.heap l1 xs ∧ k2.Is s.heap l2 ys ∧ R (.ok (.ret (.ref (zh4 s.heap k1 k2 l1 l2).objs.size))) { s with heap := zh5 s.heap k1 k2 l1 l2 }) :=
  .of_wp fun prog w A R s h => by
    obtain ⟨hp, g, d, tk, os⟩ := s
    obtain ⟨hl1, hl2, h⟩ := h
    have hsub := sub_zip
    have hL1 : k1.Is (Shared.heap ⟨hp, g, d, tk, os⟩) l1 xs := hl1
    have hL2 : k2.Is (Shared.heap ⟨hp.push (k1.ob l1), g, d, tk, os⟩) l2 ys := SqK.Is.keep hl2 fun o e => Heap.get?_push_of_some _ e
    wp_walk using SqK.iter hL1, SqK.iter hL2
    exact ⟨_, rfl, h⟩
section
variable {prog : Program} {w : World} {A : Around} {E : Value → Shared → Prop} {s : Shared} {k1 k2 : SqK}
theorem call_zipK {l1 l2 : Addr} {xs ys : Array Value} {Q : Value → Shared → Prop} (hl1 : k1.Is s.heap l1 xs) (hl2 : k2.Is s.heap l2 ys)
    (h : ∀ h', IsZip h' (s.heap.objs.size + 4) (s.heap.objs.size + 2) (s.heap.objs.size + 3) .none → IsTupOf2 h' (s.heap.objs.size + 2) (.ref s.heap.objs.size) (.ref (s.heap.objs.size + 1)) →
      IsTupOf2 h' (s.heap.objs.size + 3) .none .none → k1.It h' s.heap.objs.size l1 0 → k2.It h' (s.heap.objs.size + 1) l2 0 → h'.objs.size = s.heap.objs.size + 5 →
      (∀ c o, s.heap.get? c = some o → h'.get? c = some o) → Q (.ref (s.heap.objs.size + 4)) { s with heap := h' }) :
    wpAny (model prog w) A (call (.type "zip") [.ref l1, .ref l2]) Q E s := by
  refine callType_new F.called_zip (by decide) (F.typeCall_zip_2 _ _) (F.newCall_zip_2 _ _) (fun obj => F.args_object_init_3 obj _ _) F.entry_zip_new (meets_zip k1 k2 l1 l2 xs ys) ⟨hl1, hl2, ?_⟩
  have z1 : (zh1 s.heap k1 l1).objs.size = s.heap.objs.size + 1 := Heap.size_push ..
  have z2 : (zh2 s.heap k1 k2 l1 l2).objs.size = s.heap.objs.size + 2 := by unfold zh2; rw [Heap.size_push, z1]
  have z3 : (zh3 s.heap k1 k2 l1 l2).objs.size = s.heap.objs.size + 3 := by unfold zh3; rw [Heap.size_push, z2]
  have z4 : (zh4 s.heap k1 k2 l1 l2).objs.size = s.heap.objs.size + 4 := by unfold zh4; rw [Heap.size_push, z3]
  have z5 : (zh5 s.heap k1 k2 l1 l2).objs.size = s.heap.objs.size + 5 := by unfold zh5; rw [Heap.size_push, z4]
  have g5 : (zh5 s.heap k1 k2 l1 l2).get? (zh4 s.heap k1 k2 l1 l2).objs.size = some _ := Heap.get?_push_size _ rfl
  have g4 : (zh5 s.heap k1 k2 l1 l2).get? (zh3 s.heap k1 k2 l1 l2).objs.size = some _ := Heap.get?_push_of_some _ (Heap.get?_push_size _ rfl)
  have g3 : (zh5 s.heap k1 k2 l1 l2).get? (zh2 s.heap k1 k2 l1 l2).objs.size = some _ := Heap.get?_push_of_some _ (Heap.get?_push_of_some _ (Heap.get?_push_size _ rfl))
  have fr : (k2.ob l2).isFreed = false := by cases k2 <;> rfl
  have fr1 : (k1.ob l1).isFreed = false := by cases k1 <;> rfl
  have g2 : (zh5 s.heap k1 k2 l1 l2).get? (zh1 s.heap k1 l1).objs.size = some (k2.ob l2) := Heap.get?_push_of_some _ (Heap.get?_push_of_some _ (Heap.get?_push_of_some _ (Heap.get?_push_size _ fr)))
  have g1 : (zh5 s.heap k1 k2 l1 l2).get? s.heap.objs.size = some (k1.ob l1) := Heap.get?_push_of_some _ (Heap.get?_push_of_some _ (Heap.get?_push_of_some _ (Heap.get?_push_of_some _ (Heap.get?_push_size _ fr1))))
  show _ ∧ _
  rw [z2, z3, z4] at g5
  rw [z1, z2] at g3
  rw [z3] at g4
  rw [z1] at g2
  rw [z4]
  exact ⟨⟨_, g5, rfl⟩, h _ g5 g3 g4 (SqK.start g1) (SqK.start g2) z5 fun c o x => Heap.get?_push_of_some _ (Heap.get?_push_of_some _ (Heap.get?_push_of_some _ (Heap.get?_push_of_some _ (Heap.get?_push_of_some _ x))))⟩
end
/-! ### zip's next, while the tuple that it handed out is still held -/
/-- the tuple T is out -/
def ZipO (h : Heap) (z TI TO T : Addr) : Prop := ∃ fl, h.get? z = some { cls := .type "zip", dict := none, data := .fields #[rawInt T, .bool fl, .bool false, .ref TI, .ref TO], slots := #[] }
section
variable {prog : Program} {w : World} {A : Around} {E : Value → Shared → Prop} {s : Shared} {z TI TO T i1 i2 : Addr} {fp1 fp2 : List Addr} {n1 n2 i : Nat} {P1 P2 : Nat → Value → Prop} {St1 St2 : Nat → Heap → Prop} {oT : Obj}
theorem zipO_free {Q : Bool → Shared → Prop} (hz : ZipO s.heap z TI TO T) (hT : s.heap.get? T = some oT) (h : ∀ h', ZipO h' z TI TO T → Heap.SameBut z s.heap h' → Q false { s with heap := h' }) :
    wpAny (model prog w) A (Builtin.SmallTypes.ownedTupleIsFree (.ref z)) Q E s := by
  obtain ⟨fl, hz⟩ := hz
  unfold Builtin.SmallTypes.ownedTupleIsFree
  refine wpAny_bind (wpAny_field hz rfl (x := rawInt T) rfl ?_)
  show wpAny _ _ (loadIfAlive ((T : Int).toNat) >>= _) _ _ _
  rw [Int.toNat_natCast]
  refine wpAny_bind (PySem.W.kdx_alive hT ?_)
  simp only [Option.isNone_some, Bool.false_eq_true, if_false]
  refine wpAny_bind (wpAny_field hz rfl (x := .bool fl) rfl ?_)
  cases fl with
  | true =>
    have e : (Value.bool true != Value.bool true) = false := by decide
    simp only [e, Bool.false_eq_true, if_false]
    exact wpAny_pure (h s.heap ⟨true, hz⟩ (Heap.SameBut.refl z s.heap))
  | false =>
    have e : (Value.bool false != Value.bool true) = true := by decide
    simp only [e, if_true]
    exact wpAny_bind (wpAny_setField_rec hz (by simp) fun h' hz' hs' => wpAny_pure (h h' ⟨true, hz'⟩ hs'))

theorem zipO_item {Q : Value → Shared → Prop} (S : ZipSep2 z TI TO i1 i2 fp1 fp2) (D1 : Draws prog w A i1 fp1 n1 P1 St1) (D2 : Draws prog w A i2 fp2 n2 P2 St2)
    (hz : ZipO s.heap z TI TO T) (hT : s.heap.get? T = some oT) (hTI : IsTupOf2 s.heap TI (.ref i1) (.ref i2)) (st1 : St1 i s.heap) (st2 : St2 i s.heap) (hlt1 : i < n1) (hlt2 : i < n2)
    (hQ : ∀ x1 x2 h' tk, P1 i x1 → P2 i x2 → ZipO h' z TI TO T → St1 (i + 1) h' → St2 (i + 1) h' → IsTupOf2 h' s.heap.objs.size x1 x2 → h'.objs.size = s.heap.objs.size + 1 →
      (∀ c o, c ≠ z → c ≠ i1 → c ≠ i2 → s.heap.get? c = some o → h'.get? c = some o) → Q (.ref s.heap.objs.size) { s with heap := h', toks := tk }) :
    wpAny (model prog w) A (Builtin.«zip.__next__» ⟨[.ref z], []⟩) (fun fin s' => ∃ v, fin = .done (.ret v) ∧ Q v s') E s := by
  obtain ⟨hp, g, d, tk0, os⟩ := s
  obtain ⟨fl, hz0⟩ := id hz
  show wpAny _ _ (field (.ref z) 2 >>= _) _ _ _
  refine wpAny_bind (wpAny_field hz0 rfl (x := .bool false) rfl ?_)
  show wpAny _ _ (field (.ref z) 3 >>= _) _ _ _
  refine wpAny_bind (wpAny_field hz0 rfl (x := .ref TI) rfl ?_)
  refine wpAny_bind (wpAny_seqItems hTI rfl ?_)
  show wpAny _ _ (Builtin.SmallTypes.ownedTupleIsFree (.ref z) >>= _) _ _ _
  refine wpAny_bind (zipO_free hz hT fun g0 hz1 hs0 => ?_)
  simp only [Bool.false_eq_true, if_false]
  have hs0' : Heap.SameBut z hp g0 := hs0
  rw [← Array.forIn_toList]
  simp only [List.forIn_cons, List.forIn_nil]
  refine wpAny_bind (wpAny_bind (wpAny_bind (wpAny_holding ?_)))
  show wpAny _ _ (Builtin.SmallTypes.nextOf (.ref i1) >>= _) _ _ ⟨g0, g, d, tk0, os⟩
  refine wpAny_bind (D1.item i _ _ _ hlt1 (D1.over st1 hs0' S.zf1) fun x1 p1 tk1 hx1 sn1 hp1 => wpAny_pure ?_)
  have hp1' : Heap.SameBut i1 g0 p1 := hp1
  refine wpAny_pure ?_
  refine wpAny_bind (wpAny_bind (wpAny_holding ?_))
  show wpAny _ _ (Builtin.SmallTypes.nextOf (.ref i2) >>= _) _ _ ⟨p1, g, d, tk1, os⟩
  refine wpAny_bind (D2.item i _ _ _ hlt2 (D2.over (D2.over st2 hs0' S.zf2) hp1' S.sep1_2) fun x2 p2 tk2 hx2 sn2 hp2 => wpAny_pure ?_)
  have hp2' : Heap.SameBut i2 p1 p2 := hp2
  refine wpAny_pure (wpAny_pure ?_)
  show wpAny _ _ (newTuple [x1, x2] >>= _) _ _ ⟨p2, g, d, tk2, os⟩
  refine wpAny_bind (wpAny_newTuple ?_)
  have hsz : p2.objs.size = hp.objs.size := by rw [hp2'.1, hp1'.1, hs0'.1]
  refine wpAny_pure ⟨_, rfl, ?_⟩
  obtain ⟨fl2, hz2⟩ := hz1
  have hzz : ZipO (p2.push { cls := .type "tuple", data := .seq #[x1, x2] }) z TI TO T := ⟨fl2, Heap.get?_push_of_some _ (hp2'.extBut _ _ S.zi2 (hp1'.extBut _ _ S.zi1 hz2))⟩
  have up : ∀ c o, p2.get? c = some o → (p2.push { cls := .type "tuple", data := .seq #[x1, x2] }).get? c = some o := fun c o e => Heap.get?_push_of_some _ e
  have hj1 : St1 (i + 1) p2 := D1.over sn1 hp2' S.sep2_1
  have res := hQ x1 x2 (p2.push { cls := .type "tuple", data := .seq #[x1, x2] }) tk2 hx1 hx2 hzz (D1.frame _ _ _ hj1 fun b _ o e => up b o e) (D2.frame _ _ _ sn2 fun b _ o e => up b o e)
  have e1 : IsTupOf2 (p2.push { cls := .type "tuple", data := .seq #[x1, x2] }) hp.objs.size x1 x2 := by
    rw [← hsz]
    exact Heap.get?_push_size _ rfl
  have res2 := res e1 (by rw [Heap.size_push, hsz]) (fun c o cz c1 c2 e => up c o (hp2'.extBut _ _ c2 (hp1'.extBut _ _ c1 (hs0'.extBut _ _ cz e))))
  show Q (.ref p2.objs.size) _
  rw [hsz]
  exact res2

theorem zipO_end {Q : Fin → Shared → Prop} (S : ZipSep2 z TI TO i1 i2 fp1 fp2) (D1 : Draws prog w A i1 fp1 n1 P1 St1) (D2 : Draws prog w A i2 fp2 n2 P2 St2)
    (hz : ZipO s.heap z TI TO T) (hT : s.heap.get? T = some oT) (hTI : IsTupOf2 s.heap TI (.ref i1) (.ref i2)) (st1 : St1 i s.heap) (st2 : St2 i s.heap) (hle1 : i ≤ n1) (hle2 : i ≤ n2) (hend : i = n1 ∨ i = n2)
    (hE : ∀ h' tk e, (∀ c o, c ≠ z → c ≠ i1 → c ≠ i2 → s.heap.get? c = some o → h'.get? c = some o) → (∃ o, h'.get? e = some o ∧ o.cls = .type "StopIteration") → E (.ref e) { s with heap := h', toks := tk }) :
    wpAny (model prog w) A (Builtin.«zip.__next__» ⟨[.ref z], []⟩) Q E s := by
  obtain ⟨hp, g, d, tk0, os⟩ := s
  obtain ⟨fl, hz0⟩ := id hz
  show wpAny _ _ (field (.ref z) 2 >>= _) _ _ _
  refine wpAny_bind (wpAny_field hz0 rfl (x := .bool false) rfl ?_)
  show wpAny _ _ (field (.ref z) 3 >>= _) _ _ _
  refine wpAny_bind (wpAny_field hz0 rfl (x := .ref TI) rfl ?_)
  refine wpAny_bind (wpAny_seqItems hTI rfl ?_)
  show wpAny _ _ (Builtin.SmallTypes.ownedTupleIsFree (.ref z) >>= _) _ _ _
  refine wpAny_bind (zipO_free hz hT fun g0 hz1 hs0 => ?_)
  simp only [Bool.false_eq_true, if_false]
  have hs0' : Heap.SameBut z hp g0 := hs0
  rw [← Array.forIn_toList]
  simp only [List.forIn_cons, List.forIn_nil]
  refine wpAny_bind (wpAny_bind (wpAny_bind (wpAny_holding ?_)))
  show wpAny _ _ (Builtin.SmallTypes.nextOf (.ref i1) >>= _) _ _ ⟨g0, g, d, tk0, os⟩
  by_cases hlt1 : i < n1
  · refine wpAny_bind (D1.item i _ _ _ hlt1 (D1.over st1 hs0' S.zf1) fun x1 p1 tk1 hx1 sn1 hp1 => wpAny_pure ?_)
    have hp1' : Heap.SameBut i1 g0 p1 := hp1
    have hi2 : i = n2 := by omega
    refine wpAny_pure ?_
    refine wpAny_bind (wpAny_bind (wpAny_holding ?_))
    show wpAny _ _ (Builtin.SmallTypes.nextOf (.ref i2) >>= _) _ _ ⟨p1, g, d, tk1, os⟩
    refine wpAny_bind (D2.done ⟨p1, g, d, tk1, os⟩ _ _ (by rw [← hi2]; exact D2.over (D2.over st2 hs0' S.zf2) hp1' S.sep1_2) fun q e hq he => ?_)
    exact hE q tk1 e (fun c o cz c1 c2 x => hq _ _ c2 (hp1'.extBut _ _ c1 (hs0'.extBut _ _ cz x))) he
  · have hi1 : i = n1 := by omega
    refine wpAny_bind (D1.done ⟨g0, g, d, tk0, os⟩ _ _ (by rw [← hi1]; exact D1.over st1 hs0' S.zf1) fun q e hq he => ?_)
    exact hE q tk0 e (fun c o cz c1 c2 x => hq _ _ c1 (hs0'.extBut _ _ cz x)) he
/-! ### next(zip), before and behind the first item -/
/-- nothing handed out yet, or the tuple T, which stands -/
def ZipS (h : Heap) (z TI TO : Addr) (lo : Addr) : Prop := (IsZip h z TI TO .none ∧ ∃ a b, IsTupOf2 h TO a b) ∨ ∃ T oT, ZipO h z TI TO T ∧ h.get? T = some oT ∧ lo < T
theorem zipS_item {lo : Addr} {Q : Option Value → Shared → Prop} (S : ZipSep2 z TI TO i1 i2 fp1 fp2) (D1 : Draws prog w A.in1 i1 fp1 n1 P1 St1) (D2 : Draws prog w A.in1 i2 fp2 n2 P2 St2)
    (hz : ZipS s.heap z TI TO lo) (hlo : lo < s.heap.objs.size) (hTI : IsTupOf2 s.heap TI (.ref i1) (.ref i2)) (st1 : St1 i s.heap) (st2 : St2 i s.heap) (hlt1 : i < n1) (hlt2 : i < n2) (lz : z ≤ lo) (l1 : i1 ≤ lo) (l2 : i2 ≤ lo)
    (hQ : ∀ x1 x2 h' tk, P1 i x1 → P2 i x2 → ZipS h' z TI TO lo → IsTupOf2 h' TI (.ref i1) (.ref i2) → St1 (i + 1) h' → St2 (i + 1) h' → IsTupOf2 h' s.heap.objs.size x1 x2 → h'.objs.size = s.heap.objs.size + 1 →
      (∀ c o, c ≠ z → c ≠ TO → c ≠ i1 → c ≠ i2 → s.heap.get? c = some o → h'.get? c = some o) → Q (some (.ref s.heap.objs.size)) { s with heap := h', toks := tk }) :
    wpAny (model prog w) A (pyNext (.ref z)) Q E s := by
  rcases hz with ⟨hz, a, b, hTO⟩ | ⟨T, oT, hz, hT, hl⟩
  · refine wpAny_pyNext_zipD2_item S D1 D2 hz hTI hTO st1 st2 hlt1 hlt2 fun x1 x2 h' tk p1 p2 hz' hTO' s1 s2 hn hsz hk => ?_
    refine hQ x1 x2 h' tk p1 p2 (.inr ⟨s.heap.objs.size, _, ⟨false, hz'⟩, hn, hlo⟩) (hk _ _ S.TIz S.TITO S.TIi1 S.TIi2 hTI) s1 s2 hn hsz hk
  · obtain ⟨fl, hz0⟩ := id hz
    have hTy : s.TypeIs (.ref z) "zip" := ⟨_, hz0, rfl⟩
    unfold pyNext
    refine wpAny_bind (wpAny_attempt (wpAny_callSpecial?_slot (name := Str.ofString "__next__") hTy F.slot_zip_next (wpAny_call_entry F.slot_zip_next hTy F.entry_zip_next
      (zipO_item S D1 D2 hz hT hTI st1 st2 hlt1 hlt2 fun x1 x2 h' tk p1 p2 hz' s1 s2 hn hsz hk => wpAny_pure ?_) (F.args_zip_next_1 _))))
    have nT : ∀ x, x ≤ lo → T ≠ x := fun x hx e => by rw [e] at hl; exact absurd (Nat.lt_of_lt_of_le hl hx) (Nat.lt_irrefl _)
    exact hQ x1 x2 h' tk p1 p2 (.inr ⟨T, oT, hz', hk T oT (nT z lz) (nT i1 l1) (nT i2 l2) hT, hl⟩) (hk _ _ S.TIz S.TIi1 S.TIi2 hTI) s1 s2 hn hsz fun c o cz _ c1 c2 e => hk c o cz c1 c2 e
theorem zipS_end {lo : Addr} {Q : Option Value → Shared → Prop} (S : ZipSep2 z TI TO i1 i2 fp1 fp2) (D1 : Draws prog w A.in1 i1 fp1 n1 P1 St1) (D2 : Draws prog w A.in1 i2 fp2 n2 P2 St2)
    (hz : ZipS s.heap z TI TO lo) (hTI : IsTupOf2 s.heap TI (.ref i1) (.ref i2)) (st1 : St1 i s.heap) (st2 : St2 i s.heap) (hle1 : i ≤ n1) (hle2 : i ≤ n2) (hend : i = n1 ∨ i = n2)
    (hQ : ∀ h' tk, (∀ c o, c ≠ z → c ≠ TO → c ≠ i1 → c ≠ i2 → s.heap.get? c = some o → h'.get? c = some o) → Q none { s with heap := h', toks := tk }) : wpAny (model prog w) A (pyNext (.ref z)) Q E s := by
  rcases hz with ⟨hz, a, b, hTO⟩ | ⟨T, oT, hz, hT, hl⟩
  · exact wpAny_pyNext_zipD2_end S D1 D2 hz hTI hTO st1 st2 hle1 hle2 hend hQ
  · obtain ⟨fl, hz0⟩ := id hz
    have hTy : s.TypeIs (.ref z) "zip" := ⟨_, hz0, rfl⟩
    unfold pyNext
    refine wpAny_bind (wpAny_attempt (wpAny_callSpecial?_slot (name := Str.ofString "__next__") hTy F.slot_zip_next (wpAny_call_entry F.slot_zip_next hTy F.entry_zip_next
      (zipO_end S D1 D2 hz hT hTI st1 st2 hle1 hle2 hend fun h' tk e hk he => ?_) (F.args_zip_next_1 _))))
    obtain ⟨o, ho, hc⟩ := he
    refine wpAny_bind (wpAny_isInstance (T := "StopIteration") (b := true) ⟨o, ho, hc⟩ isSubtype_stop ?_)
    exact wpAny_pure (hQ _ _ fun c o cz _ c1 c2 e => hk c o cz c1 c2 e)
end
end Ow

set_option Elab.async false
set_option linter.all false
set_option maxRecDepth 100000
set_option maxHeartbeats 4000000
namespace Ow
open PySem PySem.Spec PyProof.Rows
open Sem (wp)
theorem zip_nolen : typeLookup (.type "zip") "__len__" = pure none := by rw [typeLookup_type, builtinLookup_eq_fast]; kernel_rfl
theorem zip_nohint : typeLookup (.type "zip") "__length_hint__" = pure none := by rw [typeLookup_type, builtinLookup_eq_fast]; kernel_rfl
/-- the pairs made so far -/
structure ZG (xs ys : Array Value) (lo : Addr) (h : Heap) (as : List Addr) : Prop where
  rise : as.Pairwise (· < ·)
  above : ∀ a ∈ as, lo < a
  pairs : ∀ (j : Nat) (a : Addr), as[j]? = some a → ∃ x y, xs[j]? = some x ∧ ys[j]? = some y ∧ IsTupOf2 h a x y
theorem ZG.there {xs ys : Array Value} {lo : Addr} {h : Heap} {as : List Addr} (g : ZG xs ys lo h as) {a : Addr} (ha : a ∈ as) : a < h.objs.size := by
  obtain ⟨j, hj⟩ := List.mem_iff_getElem?.mp ha
  obtain ⟨_, _, _, _, e⟩ := g.pairs j a hj
  exact Heap.lt_size e
/-- where a zip over l1 and l2 stands, all below S -/
structure ZP (z TI TO i1 i2 l1 l2 S : Addr) : Prop where
  sep : ZipSep2 z TI TO i1 i2 [i1, l1] [i2, l2]
  n1 : l1 ≠ i1
  n2 : l2 ≠ i2
  bz : z < S
  bI : TI < S
  bO : TO < S
  b1 : i1 < S
  b2 : i2 < S
  c1 : l1 < S
  c2 : l2 < S
/-- the zip, its turn i being next -/
def ZSt (k1 k2 : SqK) (z TI TO i1 i2 l1 l2 S : Addr) (xs ys : Array Value) (i : Nat) (h : Heap) : Prop :=
  ZipS h z TI TO S ∧ IsTupOf2 h TI (.ref i1) (.ref i2) ∧ (k1.It h i1 l1 i ∧ k1.Is h l1 xs) ∧ k2.It h i2 l2 i ∧ k2.Is h l2 ys
theorem ZSt.keep {k1 k2 : SqK} {z TI TO i1 i2 l1 l2 S : Addr} {xs ys : Array Value} {i : Nat} {h h' : Heap} (p : ZP z TI TO i1 i2 l1 l2 S) (x : ZSt k1 k2 z TI TO i1 i2 l1 l2 S xs ys i h)
    (k : ∀ b o, b ≠ S → h.get? b = some o → h'.get? b = some o) : ZSt k1 k2 z TI TO i1 i2 l1 l2 S xs ys i h' := by
  obtain ⟨hz, hI, ⟨a1, a2⟩, a3, a4⟩ := x
  refine ⟨?_, k _ _ (Nat.ne_of_lt p.bI) hI, ⟨a1.keep fun o e => k _ o (Nat.ne_of_lt p.b1) e, a2.keep fun o e => k _ o (Nat.ne_of_lt p.c1) e⟩, a3.keep fun o e => k _ o (Nat.ne_of_lt p.b2) e, a4.keep fun o e => k _ o (Nat.ne_of_lt p.c2) e⟩
  rcases hz with ⟨hz, a, b, hTO⟩ | ⟨T, oT, ⟨fl, hz⟩, hT, hl⟩
  · exact .inl ⟨k _ _ (Nat.ne_of_lt p.bz) hz, a, b, k _ _ (Nat.ne_of_lt p.bO) hTO⟩
  · exact .inr ⟨T, oT, ⟨fl, k _ _ (Nat.ne_of_lt p.bz) hz⟩, k _ _ (Nat.ne_of_gt hl) hT, hl⟩
section
variable {prog : Program} {w : World} {A : Around} {s : Shared} {R : Result → Shared → Prop} {k1 k2 : SqK} {z TI TO i1 i2 l1 l2 S : Addr} {xs ys : Array Value}
theorem zip_loop (hh : A.handled = none) (p : ZP z TI TO i1 i2 l1 l2 S) (hn : min xs.size ys.size ≤ sizeLine) (res : Value) {h₁ : Heap}
    (hR : ∀ h' tk acc c as, (∀ b o, b ≠ S → b ≠ z → b ≠ TO → b ≠ i1 → b ≠ i2 → h₁.get? b = some o → h'.get? b = some o) → h'.get? S = some { cls := .type "list", dict := none, data := .seq acc c, slots := #[] } → as.length = min xs.size ys.size → ZG xs ys S h' as →
      acc.toList = as.map Value.ref → R (.ok (.ret res)) { s with heap := h', toks := tk }) :
    ∀ (k i : Nat) (h : Heap) (tk c : Nat) (acc : Array Value) (as : List Addr), min xs.size ys.size - i = k → i ≤ min xs.size ys.size → ZSt k1 k2 z TI TO i1 i2 l1 l2 S xs ys i h → (∀ b o, b ≠ S → b ≠ z → b ≠ TO → b ≠ i1 → b ≠ i2 → h₁.get? b = some o → h.get? b = some o) →
      h.get? S = some { cls := .type "list", dict := none, data := .seq acc c, slots := #[] } → acc.toList = as.map Value.ref → as.length = i → ZG xs ys S h as →
      codeAny (model prog w) A (.builtin "list.extend.loop" ⟨[.ref S, .ref z, res], []⟩) R { s with heap := h, toks := tk } := by
  have D1 : Draws prog w A.in1.in1 i1 [i1, l1] xs.size (fun i v => xs[i]? = some v) (fun i h => k1.It h i1 l1 i ∧ k1.Is h l1 xs) := SqK.draws (A := A.in1.in1) hh i1 l1 p.n1 xs
  have D2 : Draws prog w A.in1.in1 i2 [i2, l2] ys.size (fun i v => ys[i]? = some v) (fun i h => k2.It h i2 l2 i ∧ k2.Is h l2 ys) := SqK.draws (A := A.in1.in1) hh i2 l2 p.n2 ys
  intro k
  induction k with
  | zero =>
    intro i h tk c acc as hk hi hst hkeep hS hacc hal hG
    have hin : i = min xs.size ys.size := by omega
    refine codeAny_builtin PySem.F.entry_extend_loop ?_
    rw [Around.under_plainId PySem.F.plain_extend_loop _]
    show wpAny _ A.in1 (pyNext (.ref z) >>= _) _ _ _
    obtain ⟨hz, hI, a12, a34⟩ := hst
    refine wpAny_bind (zipS_end (s := { s with heap := h, toks := tk }) (A := A.in1) (i := i) p.sep D1 D2 hz hI a12 a34 (by omega) (by omega) (by omega) fun h' tk' he => ?_)
    refine wpAny_pure (hR h' tk' acc c as (fun b o n1 n2 n3 n4 n5 e => he b o n2 n3 n4 n5 (hkeep b o n1 n2 n3 n4 n5 e)) (he S _ (Nat.ne_of_gt p.bz) (Nat.ne_of_gt p.bO) (Nat.ne_of_gt p.b1) (Nat.ne_of_gt p.b2) hS) (by omega) ⟨hG.rise, hG.above, fun j a hj => ?_⟩ hacc)
    obtain ⟨x, y, e1, e2, e3⟩ := hG.pairs j a hj
    have ha := hG.above a (List.mem_of_getElem? hj)
    exact ⟨x, y, e1, e2, he a _ (Nat.ne_of_gt (Nat.lt_trans p.bz ha)) (Nat.ne_of_gt (Nat.lt_trans p.bO ha)) (Nat.ne_of_gt (Nat.lt_trans p.b1 ha)) (Nat.ne_of_gt (Nat.lt_trans p.b2 ha)) e3⟩
  | succ k ih =>
    intro i h tk c acc as hk hi hst hkeep hS hacc hal hG
    have hlt : i < min xs.size ys.size := by omega
    have hsz : acc.size = i := by rw [← Array.length_toList, hacc, List.length_map, hal]
    have hSl : S < h.objs.size := Heap.lt_size hS
    refine codeAny_builtin PySem.F.entry_extend_loop ?_
    rw [Around.under_plainId PySem.F.plain_extend_loop _]
    show wpAny _ A.in1 (pyNext (.ref z) >>= _) _ _ _
    obtain ⟨hz, hI, a12, a34⟩ := hst
    refine wpAny_bind (zipS_item (s := { s with heap := h, toks := tk }) (A := A.in1) (i := i) p.sep D1 D2 hz hSl hI a12 a34 (by omega) (by omega) (Nat.le_of_lt p.bz) (Nat.le_of_lt p.b1) (Nat.le_of_lt p.b2) fun x y h' tk' hx hy hz' hI' b12 b34 hT hsz' hkp => ?_)
    dsimp only at hT hsz' hkp ⊢
    have hS' := hkp S _ (Nat.ne_of_gt p.bz) (Nat.ne_of_gt p.bO) (Nat.ne_of_gt p.b1) (Nat.ne_of_gt p.b2) hS
    have up : ∀ b o, b ≠ S → h'.get? b = some o → (h'.update S (Obj.mapSeq (·.push (Value.ref h.objs.size)))).get? b = some o := fun b o hb e => (Heap.get?_update_other _ _ (Ne.symm hb)).trans e
    have st' : ZSt k1 k2 z TI TO i1 i2 l1 l2 S xs ys (i + 1) (h'.update S (Obj.mapSeq (·.push (Value.ref h.objs.size)))) := ZSt.keep p ⟨hz', hI', b12, b34⟩ up
    show wpAny _ A.in1 (updateSeq S (·.push (Value.ref h.objs.size)) >>= _) _ _ _
    refine wpAny_bind ?_
    refine wpAny_updateSeq hS' rfl (wpAny_pure ⟨plainId_quiet PySem.F.plain_extend_loop _, ih (i + 1) _ tk' _ (acc.push (Value.ref h.objs.size)) (as ++ [h.objs.size]) (by omega) hlt st'
      (fun b o n1 n2 n3 n4 n5 e => up b o n1 (hkp b o n2 n3 n4 n5 (hkeep b o n1 n2 n3 n4 n5 e))) (Heap.get?_update_self _ hS' rfl) (by rw [Array.toList_push, hacc, List.map_append]; rfl) (by rw [List.length_append, hal]; rfl) ⟨?_, ?_, ?_⟩⟩) (by rw [hsz]; omega) (by show (acc.push (Value.ref h.objs.size)).size ≤ sizeLine + 1; rw [Array.size_push, hsz]; omega)
    · refine List.pairwise_append.mpr ⟨hG.rise, List.pairwise_singleton _ _, fun a ha b hb => ?_⟩
      rw [List.mem_singleton.mp hb]
      exact hG.there ha
    · intro a ha
      rcases List.mem_append.mp ha with ha | ha
      · exact hG.above a ha
      · rw [List.mem_singleton.mp ha]; exact hSl
    · intro j b hj
      rcases Nat.lt_trichotomy j as.length with q | q | q
      · rw [List.getElem?_append_left q] at hj
        obtain ⟨x', y', e1, e2, e3⟩ := hG.pairs j b hj
        have hb := hG.above b (List.mem_of_getElem? hj)
        exact ⟨x', y', e1, e2, up b _ (Nat.ne_of_gt hb) (hkp b _ (Nat.ne_of_gt (Nat.lt_trans p.bz hb)) (Nat.ne_of_gt (Nat.lt_trans p.bO hb)) (Nat.ne_of_gt (Nat.lt_trans p.b1 hb)) (Nat.ne_of_gt (Nat.lt_trans p.b2 hb)) e3)⟩
      · subst q
        have hb : h.objs.size = b := by simpa using hj
        subst hb
        exact ⟨x, y, by rw [hal]; exact hx, by rw [hal]; exact hy, up _ _ (Nat.ne_of_gt hSl) hT⟩
      · have hnone : (as ++ [h.objs.size])[j]? = none := List.getElem?_eq_none (by rw [List.length_append, List.length_singleton]; omega)
        rw [hnone] at hj; cases hj
end
section
variable {prog : Program} {w : World} {A : Around} {E : Value → Shared → Prop} {s : Shared} {k1 k2 : SqK} {z TI TO i1 i2 l1 l2 : Addr} {xs ys : Array Value}
theorem zip_hint (hT : s.TypeIs (.ref z) "zip") {Q : Bool → Shared → Prop} (h : Q true s) : wpAny (model prog w) A (Builtin.List.listLengthHint (.ref z)) Q E s := by
  unfold Builtin.List.listLengthHint
  refine wpAny_bind (wpAny_specialOf hT zip_nolen ?_)
  first
    | exact wpAny_bind (wpAny_specialOf hT zip_nohint (wpAny_pure h))
    | (show wpAny _ _ (specialOf (Value.ref z) (Str.ofString "__length_hint__") >>= _) _ _ _
       exact wpAny_bind (wpAny_specialOf hT zip_nohint (wpAny_pure h)))

theorem zip_extend {R : Result → Shared → Prop} {S : Addr} (hh : A.handled = none) (p : ZP z TI TO i1 i2 l1 l2 S) (hn : min xs.size ys.size ≤ sizeLine) (hz : IsZip s.heap z TI TO .none) (hTO : IsTupOf2 s.heap TO .none .none)
    (st : IsTupOf2 s.heap TI (.ref i1) (.ref i2) ∧ (k1.It s.heap i1 l1 0 ∧ k1.Is s.heap l1 xs) ∧ k2.It s.heap i2 l2 0 ∧ k2.Is s.heap l2 ys) (res : Value) (c₀ : Nat) (hS : s.heap.get? S = some { cls := .type "list", data := .seq #[] c₀ })
    (hR : ∀ h' tk acc c as, (∀ b o, b ≠ S → b ≠ z → b ≠ TO → b ≠ i1 → b ≠ i2 → s.heap.get? b = some o → h'.get? b = some o) → h'.get? S = some { cls := .type "list", dict := none, data := .seq acc c, slots := #[] } → as.length = min xs.size ys.size → ZG xs ys S h' as →
      acc.toList = as.map Value.ref → R (.ok (.ret res)) { s with heap := h', toks := tk }) :
    wpAny (model prog w) A.in1 (Builtin.List.listExtendWith (.ref S) (.ref z) res)
      (fun fin s' => match fin with | .done f => R (.ok f) s' | .again c' => c'.quiet = true ∧ codeAny (model prog w) A c' R s') (fun e s' => R (.error e) s') s := by
  have hTy : s.TypeIs (.ref z) "zip" := ⟨_, hz, rfl⟩
  have key : ∀ (h : Heap) (c₁ tk : Nat), (∀ b o, b ≠ S → s.heap.get? b = some o → h.get? b = some o) → h.get? S = some { cls := .type "list", data := .seq #[] c₁ } →
      codeAny (model prog w) A (.builtin "list.extend.loop" ⟨[.ref S, .ref z, res], []⟩) R { s with heap := h, toks := tk } := by
    intro h c₁ tk hk hS₁
    have st0 : ZSt k1 k2 z TI TO i1 i2 l1 l2 S xs ys 0 s.heap := ⟨.inl ⟨hz, _, _, hTO⟩, st⟩
    exact zip_loop (s := s) (h₁ := s.heap) hh p hn res (fun h' tk' acc c as hk' hS' hl hG hacc => hR h' tk' acc c as hk' hS' hl hG hacc) (min xs.size ys.size) 0 h tk c₁ #[] [] (Nat.sub_zero _) (Nat.zero_le _) (st0.keep p hk)
      (fun b o n1 _ _ _ _ e => hk b o n1 e) hS₁ rfl rfl ⟨List.Pairwise.nil, (fun _ ha => nomatch ha), (fun j a hj => by simp at hj)⟩
  unfold Builtin.List.listExtendWith
  refine wpAny_bind (wpAny_typeOf (T := "zip") hTy ?_)
  have hSz : S ≠ z := Nat.ne_of_gt p.bz
  have h1 : Builtin.List.listSameRef (.ref S) (.ref z) = false := by simp [Builtin.List.listSameRef, hSz]
  have h2 : (Value.type "zip" == Value.type "list") = false := by decide
  have h3 : (Value.type "zip" == Value.type "tuple") = false := by decide
  simp only [h1, h2, h3, Bool.or_false, Bool.false_eq_true, if_false]
  refine wpAny_bind (wpAny_pyIter_zip hz ?_)
  refine wpAny_bind (wpAny_holding (zip_hint hTy ?_))
  refine wpAny_ite_split (fun _ => ?_) (fun _ => wpAny_pure ⟨plainId_quiet PySem.F.plain_extend_loop _, key _ c₀ _ (fun b o _ e => e) hS⟩)
  refine wpAny_bind (wpAny_rule ?_)
  refine wpAny_bind ?_
  show wpAny _ _ (updateSeq S (·.push .none) >>= fun _ => updateSeq S (·.pop)) _ _ _
  refine wpAny_bind (wpAny_updateSeq hS rfl ?_)
  have hS₂ := Heap.get?_update_self (Obj.mapSeq (·.push Value.none)) hS rfl
  refine wpAny_updateSeq (hz := by seq_fits) hS₂ rfl ?_
  have hS₃ := Heap.get?_update_self (Obj.mapSeq (·.pop)) hS₂ rfl
  refine wpAny_pure ⟨plainId_quiet PySem.F.plain_extend_loop _, key _ _ _ (fun b o hb e => ?_) hS₃⟩
  exact (Heap.get?_update_other _ _ (Ne.symm hb)).trans ((Heap.get?_update_other _ _ (Ne.symm hb)).trans e)
theorem zip_init {R : Result → Shared → Prop} {S : Addr} (hh : A.handled = none) (p : ZP z TI TO i1 i2 l1 l2 S) (hn : min xs.size ys.size ≤ sizeLine) (hz : IsZip s.heap z TI TO .none) (hTO : IsTupOf2 s.heap TO .none .none)
    (st : IsTupOf2 s.heap TI (.ref i1) (.ref i2) ∧ (k1.It s.heap i1 l1 0 ∧ k1.Is s.heap l1 xs) ∧ k2.It s.heap i2 l2 0 ∧ k2.Is s.heap l2 ys) (hS : s.heap.get? S = some { cls := .type "list", data := .seq #[] })
    (hR : ∀ h' tk acc c as, (∀ b o, b ≠ S → b ≠ z → b ≠ TO → b ≠ i1 → b ≠ i2 → s.heap.get? b = some o → h'.get? b = some o) → h'.get? S = some { cls := .type "list", dict := none, data := .seq acc c, slots := #[] } → as.length = min xs.size ys.size → ZG xs ys S h' as →
      acc.toList = as.map Value.ref → R (.ok (.ret .none)) { s with heap := h', toks := tk }) :
    wpAny (model prog w) A.in1 (Builtin.«list.__init__» ⟨[.ref S, .ref z], []⟩)
      (fun fin s' => match fin with | .done f => R (.ok f) s' | .again c' => c'.quiet = true ∧ codeAny (model prog w) A c' R s') (fun e s' => R (.error e) s') s := by
  show wpAny _ _ (do let old ← Builtin.List.listItems (.ref S); Builtin.List.listUpdate (.ref S) (fun _ => #[]); letGo old.toList.reverse; Builtin.List.listExtendWith (.ref S) (.ref z) .none) _ _ s
  refine wpAny_bind ?_
  unfold Builtin.List.listItems
  refine wpAny_bind (wpAny_seqItems hS rfl (wpAny_pure ?_))
  show wpAny _ _ (updateSeq S (fun _ => #[]) >>= fun _ => letGo (#[] : Array Value).toList.reverse >>= fun _ => Builtin.List.listExtendWith (.ref S) (.ref z) .none) _ _ s
  refine wpAny_bind (wpAny_updateSeq hS rfl ?_)
  have hS₂ := Heap.get?_update_self (Obj.mapSeq (fun _ => (#[] : Array Value))) hS rfl
  have oth : ∀ b o, b ≠ S → s.heap.get? b = some o → (s.heap.update S (Obj.mapSeq (fun _ => (#[] : Array Value)))).get? b = some o := fun b o hb e => (Heap.get?_update_other _ _ (Ne.symm hb)).trans e
  refine wpAny_bind (wpAny_letGo ?_)
  obtain ⟨hI, ⟨a1, a2⟩, a3, a4⟩ := st
  refine zip_extend hh p hn (oth _ _ (Nat.ne_of_lt p.bz) hz) (oth _ _ (Nat.ne_of_lt p.bO) hTO) ⟨oth _ _ (Nat.ne_of_lt p.bI) hI, ⟨a1.keep fun o e => oth _ o (Nat.ne_of_lt p.b1) e, a2.keep fun o e => oth _ o (Nat.ne_of_lt p.c1) e⟩, a3.keep fun o e => oth _ o (Nat.ne_of_lt p.b2) e, a4.keep fun o e => oth _ o (Nat.ne_of_lt p.c2) e⟩ .none _ hS₂ fun h' tk acc c as hk hS' hl hG hacc => ?_
  exact hR h' tk acc c as (fun b o n1 n2 n3 n4 n5 e => hk b o n1 n2 n3 n4 n5 (oth b o n1 e)) hS' hl hG hacc
theorem call_list_zip {Q : Value → Shared → Prop} (hh : A.handled = none) (p : ZP z TI TO i1 i2 l1 l2 s.heap.objs.size) (hn : min xs.size ys.size ≤ sizeLine) (hz : IsZip s.heap z TI TO .none) (hTO : IsTupOf2 s.heap TO .none .none)
    (st : IsTupOf2 s.heap TI (.ref i1) (.ref i2) ∧ (k1.It s.heap i1 l1 0 ∧ k1.Is s.heap l1 xs) ∧ k2.It s.heap i2 l2 0 ∧ k2.Is s.heap l2 ys)
    (hQ : ∀ h' tk acc c as, (∀ b o, b ≠ z → b ≠ TO → b ≠ i1 → b ≠ i2 → s.heap.get? b = some o → h'.get? b = some o) → h'.get? s.heap.objs.size = some { cls := .type "list", dict := none, data := .seq acc c, slots := #[] } → as.length = min xs.size ys.size → ZG xs ys s.heap.objs.size h' as →
      acc.toList = as.map Value.ref → Q (.ref s.heap.objs.size) { s with heap := h', toks := tk }) :
    wpAny (model prog w) A (call (.type "list") [.ref z]) Q E s := by
  refine callType_codes (Q₁ := fun obj s₁ => obj = .ref s.heap.objs.size ∧ s₁ = { s with heap := s.heap.push { cls := .type "list", data := .seq #[] } }) PySem.F.called_list (PySem.F.typeCall_list_1 _) PySem.F.entry_list_init (code_list_new _ ⟨rfl, rfl⟩) fun obj s₁ h₁ => ?_
  obtain ⟨rfl, rfl⟩ := h₁
  have hS : (s.heap.push { cls := .type "list", data := .seq #[] }).get? s.heap.objs.size = some { cls := .type "list", data := .seq #[] } := Heap.get?_push_size _ rfl
  obtain ⟨hI, ⟨a1, a2⟩, a3, a4⟩ := st
  have ps : ∀ b o, s.heap.get? b = some o → (s.heap.push { cls := .type "list", data := .seq #[] }).get? b = some o := fun b o e => Heap.get?_push_of_some _ e
  refine ⟨⟨_, hS, rfl⟩, PySem.F.args_list_init_2 _ _, zip_init (A := A.in1) hh p hn (ps _ _ hz) (ps _ _ hTO) ⟨ps _ _ hI, ⟨a1.keep fun o e => ps _ o e, a2.keep fun o e => ps _ o e⟩, a3.keep fun o e => ps _ o e, a4.keep fun o e => ps _ o e⟩ hS fun h' tk acc c as hk hS' hl hG hacc => ?_⟩
  exact ⟨rfl, hQ h' tk acc c as (fun b o n1 n2 n3 n4 e => hk b o (Nat.ne_of_lt (Heap.lt_size e)) n1 n2 n3 n4 (ps b o e)) hS' hl hG hacc⟩
end
end Ow

set_option Elab.async false
set_option linter.all false
set_option maxRecDepth 100000
set_option maxHeartbeats 4000000
namespace Ow
open PySem PySem.Spec PyProof.Rows L2
/-- pairs tracked at their addresses -/
def putP : Hp → List Addr → List (V × V) → Hp
  | H, a :: as, p :: ps => putP (upd H a (.tup [p.1, p.2])) as ps
  | H, _, _ => H
theorem putP_off {b : Addr} : ∀ (as : List Addr) (ps : List (V × V)) (H : Hp), b ∉ as → putP H as ps b = H b
  | [], _, _, _ => rfl
  | _ :: _, [], _, _ => rfl
  | a :: as, p :: ps, H, h => by
    show putP (upd H a (.tup [p.1, p.2])) as ps b = H b
    rw [putP_off as ps _ (fun z => h (List.mem_cons_of_mem _ z)), upd_ne (fun z => h (by rw [z]; exact List.mem_cons_self))]
theorem putP_at : ∀ (as : List Addr) (ps : List (V × V)) (H : Hp), as.length = ps.length → as.Nodup → ∀ (j : Nat) (t : Addr), as[j]? = some t → ∃ p, ps[j]? = some p ∧ putP H as ps t = some (.tup [p.1, p.2])
  | [], [], _, _, _, j, t, e => by simp at e
  | [], _ :: _, _, h, _, _, _, _ => by cases h
  | _ :: _, [], _, h, _, _, _, _ => by cases h
  | a :: as, p :: ps, H, h, hn, j, t, e => by
    have hn' := List.nodup_cons.mp hn
    cases j with
    | zero =>
      have e1 : a = t := by simpa using e
      subst e1
      refine ⟨p, rfl, ?_⟩
      show putP (upd H a (.tup [p.1, p.2])) as ps a = some (.tup [p.1, p.2])
      rw [putP_off as ps _ hn'.1, upd_same]
    | succ j => exact putP_at as ps (upd H a (.tup [p.1, p.2])) (Nat.succ.inj h) hn'.2 j t (by simpa using e)
theorem vals_addrs : ∀ as : List Addr, Vals (as.map V.ref) (as.map Value.ref)
  | [] => .nil
  | _ :: as => .cons rfl (vals_addrs as)
section
variable {X : Cx} {pins : List (Addr × Obj)} {σ : L2.St} {H : Hp} {s : Shared}
theorem zip_laid {h' : Heap} {tk c : Nat} {acc : Array Value} {as : List Addr} {xs ys : List V} {us ws : Array Value} {S : Addr} (I : Inv X pins σ H s) (hSs : s.heap.objs.size ≤ S) (hz : min us.size ws.size ≤ sizeLine) (rx : Vals xs us.toList) (ry : Vals ys ws.toList)
    (hk : ∀ b o, s.heap.get? b = some o → h'.get? b = some o) (hS : h'.get? S = some { cls := .type "list", dict := none, data := .seq acc c, slots := #[] }) (hl : as.length = min us.size ws.size) (hG : ZG us ws S h' as) (hacc : acc.toList = as.map Value.ref) :
    ∃ H' : Hp, Same H H' ∧ H S = none ∧ H' S = some (.lst (as.map V.ref)) ∧ (∀ (j : Nat) (t : Addr), as[j]? = some t → ∃ x y, xs[j]? = some x ∧ ys[j]? = some y ∧ H t = none ∧ H' t = some (.tup [x, y])) ∧ Inv X pins σ H' { s with heap := h', toks := tk } := by
  have hSn : S ∉ as := fun z => Nat.lt_irrefl _ (hG.above _ z)
  have nd : as.Nodup := List.Pairwise.imp (fun {a b} (h : a < b) => Nat.ne_of_lt h) hG.rise
  have above : ∀ t ∈ as, s.heap.objs.size ≤ t := fun t ht => Nat.le_of_lt (Nat.lt_of_le_of_lt hSs (hG.above t ht))
  have new : ∀ t ∈ as, H t = none := fun t ht => I.hok.fresh (above t ht)
  have newS : H S = none := I.hok.fresh hSs
  have lx : xs.length = us.size := by have := rx.length; rw [Array.length_toList] at this; exact this
  have ly : ys.length = ws.size := by have := ry.length; rw [Array.length_toList] at this; exact this
  have lz : (xs.zip ys).length = as.length := by rw [List.length_zip, lx, ly, hl]
  have atP := putP_at as (xs.zip ys) (upd H S (.lst (as.map V.ref))) lz.symm nd
  have off : ∀ b, b ∉ as → b ≠ S → putP (upd H S (.lst (as.map V.ref))) as (xs.zip ys) b = H b := fun b h1 h2 => by rw [putP_off as _ _ h1, upd_ne h2]
  have low : ∀ b o, s.heap.get? b = some o → b ∉ as ∧ b ≠ S := fun b o e => ⟨fun z => absurd (Heap.lt_size e) (Nat.not_lt.mpr (above b z)), fun z => absurd (Heap.lt_size e) (Nat.not_lt.mpr (by rw [z]; exact hSs))⟩
  have kp : ∀ b u, H b = some u → (putP (upd H S (.lst (as.map V.ref))) as (xs.zip ys)) b = some u := fun b u e => by
    rw [off b (fun z => by rw [new b z] at e; cases e) (fun z => by rw [z, newS] at e; cases e)]
    exact e
  have eS : putP (upd H S (.lst (as.map V.ref))) as (xs.zip ys) S = some (.lst (as.map V.ref)) := by rw [putP_off as _ _ hSn, upd_same]
  refine ⟨_, kp, newS, eS, fun j t e => ?_, ?_⟩
  · obtain ⟨p, e1, e2⟩ := atP j t e
    obtain ⟨e3, e4⟩ := List.getElem?_zip_eq_some.mp e1
    exact ⟨p.1, p.2, e3, e4, new t (List.mem_of_getElem? e), e2⟩
  refine I.call' (ch := []) rfl ⟨fun b o q _ _ _ => hk b o q, fun b o q _ _ _ => ⟨o.slots, hk b o q⟩, fun b o q n _ => ?_, fun b o q _ => ⟨o, hk b o q⟩, fun b xs q => kp b _ q, fun b o u q => kp b _ q, fun b ps q => ⟨#[], by rw [kp b _ q]; simp⟩⟩ (fun b u q => ?_) I.bare fun b z => by simp at z
  · obtain ⟨z1, z2⟩ := low b o q
    rw [off b z1 z2]
    exact n
  · by_cases hb : b ∈ as
    · obtain ⟨j, hj⟩ := List.mem_iff_getElem?.mp hb
      obtain ⟨p, e1, e2⟩ := atP j b hj
      rw [e2] at q
      cases q
      obtain ⟨e3, e4⟩ := List.getElem?_zip_eq_some.mp e1
      obtain ⟨x, y, f1, f2, f3⟩ := hG.pairs j b hj
      obtain ⟨x', g1, r1⟩ := rx.get e3
      obtain ⟨y', g2, r2⟩ := ry.get e4
      rw [Array.getElem?_toList, f1] at g1
      rw [Array.getElem?_toList, f2] at g2
      cases g1
      cases g2
      exact ⟨by show 2 ≤ sizeLine; decide, [x, y], .cons r1 (.cons r2 .nil), ⟨_, f3, rfl, _, rfl⟩⟩
    · by_cases hb2 : b = S
      · rw [hb2] at q ⊢
        rw [eS] at q
        cases q
        refine ⟨by rw [List.length_map]; omega, acc.toList, c, by rw [hacc]; exact vals_addrs as, ?_⟩
        rw [Array.toArray_toList]
        exact hS
      · rw [off b hb hb2] at q
        exact (I.hok b u q).stay (fun d v _ y => hk d v y) (fun d y => kp d _ y) fun d xs y => kp d _ y
/-- a list or a tuple of these, read -/
theorem sq_kind {a : Addr} {xs : List V} (I : Inv X pins σ H s) (h : SqL X.K H a xs ∨ SqT X.K H a xs) : ∃ (k : SqK) (its : List Value), k.Is s.heap a its.toArray ∧ Vals xs its ∧ xs.length ≤ sizeLine := by
  rcases h with h | h
  · obtain ⟨its, rv, pl, hz⟩ := I.list h
    exact ⟨.lst, its, pl.isList, rv, hz⟩
  · obtain ⟨its, rv, pl, hz⟩ := I.tuple h
    exact ⟨.tup, its, pl, rv, hz⟩
theorem zp_of (n a b : Nat) (la : a < n) (lb : b < n) : ZP (n + 4) (n + 2) (n + 3) n (n + 1) a b (n + 5) := by
  have m1 : ∀ x : Nat, x ≠ n → x ≠ a → x ∉ [n, a] := fun x h1 h2 => by simp [h1, h2]
  have m2 : ∀ x : Nat, x ≠ n + 1 → x ≠ b → x ∉ [n + 1, b] := fun x h1 h2 => by simp [h1, h2]
  exact ⟨⟨by show (n + 2 : Nat) ≠ n + 4; omega, by show (n + 3 : Nat) ≠ n + 4; omega, by show (n + 2 : Nat) ≠ n + 3; omega, by show (n + 2 : Nat) ≠ n; omega, by simp, m1 _ (by omega) (by omega), m1 _ (by omega) (by omega),
    by show (n + 2 : Nat) ≠ n + 1; omega, by simp, m2 _ (by omega) (by omega), m2 _ (by omega) (by omega), m2 _ (by omega) (by omega), m1 _ (by omega) (by omega)⟩,
    by show (a : Nat) ≠ n; omega, by show (b : Nat) ≠ n + 1; omega, by show (n + 4 : Nat) < n + 5; omega, by show (n + 2 : Nat) < n + 5; omega, by show (n + 3 : Nat) < n + 5; omega, by show (n : Nat) < n + 5; omega, by show (n + 1 : Nat) < n + 5; omega, by show (a : Nat) < n + 5; omega, by show (b : Nat) < n + 5; omega⟩
/-- list(zip(a, b)) -/
def tLZip (K : PySem.W.Frag) (t : TA) : TE := fun σ H Q => t σ H fun vs H1 => ∃ a b xs ys, vs = [.ref a, .ref b] ∧ (SqL K H1 a xs ∨ SqT K H1 a xs) ∧ (SqL K H1 b ys ∨ SqT K H1 b ys) ∧
  ∀ (H' : Hp) (p : Addr) (ts : List Addr), Same H1 H' → H1 p = none → H' p = some (.lst (ts.map V.ref)) → ts.length = min xs.length ys.length →
    (∀ (j : Nat) (t : Addr), ts[j]? = some t → ∃ x y, xs[j]? = some x ∧ ys[j]? = some y ∧ H1 t = none ∧ H' t = some (.tup [x, y])) → Q (.ref p) H'
theorem pe_lzip {e e2 : Expr} {t : TA} {p p2 pos pos2 : Pos} (hc : X.calm = true) (hg : Gl X "list") (hm : X.mg "list" = none) (hg2 : Gl X "zip") (hm2 : X.mg "zip" = none) (hv : bootBuiltins "list" = some (.type "list")) (ha : PA X [e, e2] t)
    (hs : starEach [.Call (.Name "zip" p2) [e, e2] [] pos2] X.env = (false, eval (.Call (.Name "zip" p2) [e, e2] [] pos2) X.env) :: starEach [] X.env := by rfl)
    (hs2 : starEach [e, e2] X.env = (false, eval e X.env) :: starEach [e2] X.env := by rfl) (hpl : (backTo pos2 (starEach [e2] X.env)).any (·.1) = false := by rfl) :
    PE X (.Call (.Name "list" p) [.Call (.Name "zip" p2) [e, e2] [] pos2] [] pos) (tLZip X.K t) := by
  refine ⟨fun pins s σ H Q I hq => ?_⟩
  refine wpAny_Call_Name_kw (ld_blt I hg hm hv ?_)
  refine PyProof.Rows.callWith_type1 ?_ hs rfl
  rw [hs]
  show wpAny _ _ (spliced ((false, eval (.Call (.Name "zip" p2) [e, e2] [] pos2) X.env) :: backTo pos (starEach [] X.env))) _ _ s
  refine Calls.spliced_cons ?_
  refine wpAny_Call_Name_kw (ld_blt I hg2 hm2 PyProof.Rows.boot_zip (PyProof.Rows.callWith_type1 (thn (ha.run pos2 pins s σ H _ I hq) fun us s1 ⟨vs, H1, I1, r1, q1⟩ => ?_) hs2 hpl))
  obtain ⟨a, b, xs, ys, ex, hxs, hys, q⟩ := q1
  subst ex
  cases r1 with
  | cons r rr =>
    cases rr with
    | cons r' rr =>
      cases rr
      cases r
      cases r'
      obtain ⟨k1, us, u1, ru, zu⟩ := sq_kind I1 hxs
      obtain ⟨k2, ws, w1, rw', zw⟩ := sq_kind I1 hys
      refine call_zipK u1 w1 fun h' hz hI hO st1 st2 hsz hk => ?_
      have I2 : Inv X pins σ H1 { s1 with heap := h' } := I1.kept (t' := s1.toks) hk
      have la := u1.lt
      have lb := w1.lt
      have p0 : ZP (s1.heap.objs.size + 4) (s1.heap.objs.size + 2) (s1.heap.objs.size + 3) s1.heap.objs.size (s1.heap.objs.size + 1) a b h'.objs.size := by
        rw [hsz]
        exact zp_of _ _ _ la lb
      refine Calls.spliced_nil ?_
      have lu := ru.length
      have lw := rw'.length
      refine call_list_zip (s := { s1 with heap := h' }) (k1 := k1) (k2 := k2) (xs := us.toArray) (ys := ws.toArray) (I1.ok.hd hc) p0 (by rw [List.size_toArray, List.size_toArray]; omega) hz hO ⟨hI, ⟨st1, u1.keep fun o e => hk _ o e⟩, st2, w1.keep fun o e => hk _ o e⟩ fun h2 tk acc c as hk2 hS hl hG hacc => ?_
      have hk3 : ∀ b o, s1.heap.get? b = some o → h2.get? b = some o := fun b o e => by
        have hb : (b : Nat) < s1.heap.objs.size := Heap.lt_size e
        exact hk2 b o (Nat.ne_of_lt (Nat.lt_of_lt_of_le hb (Nat.le_add_right _ _))) (Nat.ne_of_lt (Nat.lt_of_lt_of_le hb (Nat.le_add_right _ _))) (Nat.ne_of_lt hb) (Nat.ne_of_lt (Nat.lt_of_lt_of_le hb (Nat.le_add_right _ _))) (hk b o e)
      have hSs : s1.heap.objs.size ≤ h'.objs.size := by rw [hsz]; exact Nat.le_add_right _ _
      obtain ⟨H', k1', k2', k3', k4', J⟩ := zip_laid (tk := tk) (S := h'.objs.size) (us := us.toArray) (ws := ws.toArray) I1 hSs (by rw [List.size_toArray, List.size_toArray]; omega) (by simpa using ru) (by simpa using rw') hk3 hS hl hG hacc
      refine ⟨.ref _, H', J, rfl, q H' _ as k1' k2' k3' (by rw [hl, List.size_toArray, List.size_toArray, lu, lw]) k4'⟩
end
end Ow

set_option Elab.async false
set_option linter.all false
set_option maxRecDepth 100000
set_option maxHeartbeats 4000000
namespace Ow
open PySem PySem.Spec PyProof.Rows L2
/-! ### tuples: what comes is one that stands, new or not -/
theorem cutV_whole {xs : List V} {lo hi : Option Int} (h1 : HT.sIx xs.length 0 lo = 0) (h2 : HT.sIx xs.length xs.length hi = xs.length) : cutV xs lo hi = xs := by
  unfold cutV
  simp only [h1, h2]
  simp
def rTSl : V → Option Int → Option Int → Hp → VK → Prop := fun x lo hi H Q => ∃ a xs, x = .ref a ∧ H a = some (.tup xs) ∧ ∀ H' p, Same H H' → H' p = some (.tup (cutV xs lo hi)) → Q (.ref p) H'
def rTCat : R2 := fun x y H Q => ∃ a b xs ys, x = .ref a ∧ y = .ref b ∧ H a = some (.tup xs) ∧ H b = some (.tup ys) ∧ xs.length + ys.length ≤ 5000 ∧ ∀ H' p, Same H H' → H' p = some (.tup (xs ++ ys)) → Q (.ref p) H'
def rTRep : R2 := fun x y H Q => ∃ a k xs, x = .ref a ∧ y = .int k ∧ H a = some (.tup xs) ∧ xs ≠ [] ∧ 1 ≤ k ∧ k ≤ 1000 ∧ xs.length ≤ 1000 ∧ ∀ H' p, Same H H' → H' p = some (.tup (List.replicate k.toNat xs).flatten) → Q (.ref p) H'
section
variable {X : Cx}
theorem sl_tup : SlR X rTSl := by
  intro pins s σ H x v vl vu lo hi sl Q I rx hs pl pu h
  obtain ⟨a, xs, rfl, hx, q⟩ := h
  refine sl_tupA pins s σ H _ v vl vu lo hi sl Q I rx hs pl pu ⟨a, xs, rfl, .of hx, fun w => ?_, fun _ p np => q _ _ (same_new np) upd_same⟩
  refine q H a (Same.refl H) ?_
  rw [cutV_whole w.1 w.2]
  exact hx
theorem op_tcat : OpR X (binaryOp .Add) rTCat := by
  intro pins s σ H x y v u Q I rx ry h
  obtain ⟨a, b, xs, ys, rfl, rfl, ha, hb, hl, q⟩ := h
  refine op_catA pins s σ H _ _ v u Q I rx ry ⟨a, b, xs, ys, rfl, rfl, .of ha, .of hb, Nat.le_trans hl (by decide), fun e => ?_, fun _ e => ?_, fun _ _ p np => q _ _ (same_new np) upd_same⟩
  · refine q H b (Same.refl H) ?_
    rw [e, List.nil_append]
    exact hb
  · refine q H a (Same.refl H) ?_
    rw [e, List.append_nil]
    exact ha
theorem op_trep : OpR X (binaryOp .Mult) rTRep := by
  intro pins s σ H x y v u Q I rx ry h
  obtain ⟨a, k, xs, rfl, rfl, ha, hne, h1, h2, hz, q⟩ := h
  refine op_repA pins s σ H _ _ v u Q I rx ry ⟨a, k, xs, rfl, rfl, .of ha, hne, h1, h2, hz, fun e => ?_, fun _ p np => q _ _ (same_new np) upd_same⟩
  refine q H a (Same.refl H) ?_
  rw [e]
  show H a = some (HO.tup (List.replicate 1 xs).flatten)
  simpa using ha
end
/-! ### zip of tuples, walked -/
theorem walk_zipT {K : PySem.W.Frag} {a b : Addr} {xs ys : List V} {n : Nat} (hn : n = min xs.length ys.length) : Walk (RZ.ItzT K a b) n (fun H => SqT K H a xs ∧ SqT K H b ys) (YPair (fun i => xs[i]?) (fun i => ys[i]?)) := by
  subst hn
  refine ⟨fun i _ hi q => ?_, fun _ q => ⟨xs, ys, q.1, q.2, by omega⟩, fun i H v H' _ q y => ?_⟩
  · exact ⟨xs, ys, xs[i], ys[i], q.1, q.2, List.getElem?_eq_getElem (by omega), List.getElem?_eq_getElem (by omega)⟩
  · obtain ⟨T, x, z, h1, h2, h3, h4, h5⟩ := y
    exact ⟨T, x, z, h1, h2, h3, h4 xs q.1, h5 ys q.2⟩
/-! ### a statement, an expression that is never met -/
theorem ps_never {X : Cx} {st : Stmt} : PS X st (fun _ _ _ => False) := ⟨fun _ _ _ _ _ _ h => h.elim⟩
theorem pe_never {X : Cx} {e : Expr} : PE X e (fun _ _ _ => False) := ⟨fun _ _ _ _ _ _ h => h.elim⟩
/-! ### locks -/
theorem gw_lock {M : Addr → Prop} {H H' : Hp} {d : Addr} {u : HO} {od : Obj} (hd : H d = some u) (g : Gw M (upd H d (.frz od u)) H') : Gw M H (upd H' d u) := fun b o n e => by
  by_cases hb : b = d
  · rw [hb] at e ⊢
    rw [upd_same, ← hd]
    exact e
  · rw [upd_ne hb]
    exact g b o n (by rw [upd_ne hb]; exact e)
theorem same_lock {H H' : Hp} {d : Addr} {u : HO} {od : Obj} (hd : H d = some u) (g : Same (upd H d (.frz od u)) H') : Same H (upd H' d u) := Gw.toSame (gw_lock (M := No) hd (Gw.same g))
end Ow

set_option Elab.async false
set_option linter.all false
set_option maxRecDepth 100000
set_option maxHeartbeats 4000000
namespace Ow
open PySem PySem.Spec PyProof.Rows L2
/-- the inner walk of a comprehension of two clauses -/
def Inner (te : TE) (g1 : TG) (vs1 : List Nat) (D : Addr) (After : Hp → Prop) (σ2 : L2.St) (J1 : It) (H4 : Hp) : Prop :=
  ∃ (n1 : Nat) (G1 : Hp → Prop) (Y1 : Nat → Hp → V → Hp → Prop) (Pv1 : Nat → Hp → Prop), Walk J1 n1 G1 Y1 ∧ Pv1 0 H4 ∧ (∀ j H, j ≤ n1 → Pv1 j H → G1 H) ∧ (∀ H, Pv1 n1 H → After H) ∧
    ∀ j x H H', j < n1 → Pv1 j H → Y1 j H x H' → g1 x (wipe σ2 vs1) H' fun σ3 H5 => wipe σ3 vs1 = wipe σ2 vs1 ∧ te σ3 H5 fun y H7 => ∃ acc, H7 D = some (.lst acc) ∧ acc.length < sizeLine ∧ Pv1 (j + 1) (upd H7 D (.lst (acc ++ [y])))
theorem lc2_it {J : It} {n : Nat} {G : Hp → Prop} {Y : Nat → Hp → V → Hp → Prop} (w : Walk J n G Y) {g g1 : TG} {wi1 : TI} {te : TE} {vs vs1 : List Nat} {σ : L2.St} {H1 : Hp} {D : Addr} {Qd : Hp → Prop} (Pv : Nat → Hp → Prop)
    (h0 : Pv 0 (upd H1 D (.lst []))) (hG : ∀ i H, i ≤ n → Pv i H → G H)
    (hs : ∀ i x H H' (Kg : L2.St → Hp → Prop), i < n → Pv i H → Y i H x H' → (∀ σ2 H2, wipe σ2 vs = wipe σ vs → (∀ Ki : It → Hp → Prop, (∀ J1 H4, Inner te g1 vs1 D (Pv (i + 1)) σ2 J1 H4 → Ki J1 H4) → wi1 σ2 H2 Ki) → Kg σ2 H2) → g x (wipe σ vs) H' Kg)
    (hd : ∀ H, Pv n H → Qd H) :
    ∃ W : Nat → Nat → Hp → Prop, (∃ m, W 0 m (upd H1 D (.lst []))) ∧ ∀ i m H, W i m H →
      (J.stop i H ∧ Qd H) ∨ (J.go i H ∧ ∃ Nx : Hp → Prop, (∀ H', Nx H' → ∃ m', m' < m ∧ W (i + 1) m' H') ∧ ∀ x H', J.yld i H x H' → g x (wipe σ vs) H' fun σ2 H2 => wipe σ2 vs = wipe σ vs ∧ tYes σ2 H2 fun b H3 =>
        if b = true then wi1 σ2 H3 fun J1 H4 => ∃ W1 : Nat → Nat → Hp → Prop, (∃ m, W1 0 m H4) ∧ ∀ j k H, W1 j k H →
          (J1.stop j H ∧ Nx H) ∨ (J1.go j H ∧ ∃ Nx1 : Hp → Prop, (∀ H', Nx1 H' → ∃ k', k' < k ∧ W1 (j + 1) k' H') ∧ ∀ x H', J1.yld j H x H' → g1 x (wipe σ2 vs1) H' fun σ3 H5 => wipe σ3 vs1 = wipe σ2 vs1 ∧ tYes σ3 H5 fun b H6 =>
            if b = true then te σ3 H6 fun y H7 => ∃ acc, H7 D = some (.lst acc) ∧ acc.length < sizeLine ∧ Nx1 (upd H7 D (.lst (acc ++ [y]))) else Nx1 H6)
        else Nx H3) := by
  refine ⟨fun i m H => m = n - i ∧ i ≤ n ∧ Pv i H, ⟨n, by simp, Nat.zero_le _, h0⟩, ?_⟩
  rintro i m H ⟨rfl, hi, p⟩
  have q := hG i H hi p
  by_cases hlt : i < n
  · refine .inr ⟨w.goes i H hlt q, Pv (i + 1), fun H' p' => ⟨n - (i + 1), by omega, rfl, hlt, p'⟩, fun x H' y => hs i x H H' _ hlt p (w.yields i H x H' hlt q y) fun σ2 H2 hw hwi => ⟨hw, ?_⟩⟩
    refine hwi _ fun J1 H4 hin => ?_
    obtain ⟨n1, G1, Y1, Pv1, w1, s1, g1', a1, t1⟩ := hin
    refine ⟨fun j k H => k = n1 - j ∧ j ≤ n1 ∧ Pv1 j H, ⟨n1, by simp, Nat.zero_le _, s1⟩, ?_⟩
    rintro j k H ⟨rfl, hj, p1⟩
    have q1 := g1' j H hj p1
    by_cases hl1 : j < n1
    · exact .inr ⟨w1.goes j H hl1 q1, Pv1 (j + 1), fun H' p' => ⟨n1 - (j + 1), by omega, rfl, hl1, p'⟩, fun x H' y => t1 j x H H' hl1 p1 (w1.yields j H x H' hl1 q1 y)⟩
    · have e : j = n1 := by omega
      subst e
      exact .inl ⟨w1.stops H q1, a1 H p1⟩
  · have e : i = n := by omega
    subst e
    exact .inl ⟨w.stops H q, hd H p⟩
/-! ### rows of bits -/
def rowsN : Nat → List (List Int)
  | 0 => [[]]
  | n + 1 => (rowsN n).flatMap fun r => [r ++ [0], r ++ [1]]
theorem rowsN_len : ∀ n, (rowsN n).length = 2 ^ n
  | 0 => rfl
  | n + 1 => by
    have h : ∀ l : List (List Int), (l.flatMap fun r => [r ++ [0], r ++ [1]]).length = 2 * l.length := fun l => by
      induction l with
      | nil => rfl
      | cons a l ih => simp only [List.flatMap_cons, List.length_append, ih, List.length_cons, List.length_nil]; omega
    show ((rowsN n).flatMap _).length = _
    rw [h, rowsN_len n, Nat.pow_succ]
    omega
/-- the rows made of the first i ones -/
def grown (rs : List (List Int)) (i : Nat) : List (List Int) := (rs.take i).flatMap fun r => [r ++ [0], r ++ [1]]
theorem grown_next {rs : List (List Int)} {i : Nat} {r : List Int} (h : rs[i]? = some r) : grown rs (i + 1) = grown rs i ++ [r ++ [0], r ++ [1]] := by
  unfold grown
  rw [List.take_add_one, h, List.flatMap_append]
  show _ ++ (([r].flatMap _)) = _
  simp
theorem grown_all {rs : List (List Int)} {n : Nat} (h : n = rs.length) : grown rs n = rs.flatMap fun r => [r ++ [0], r ++ [1]] := by
  unfold grown
  rw [h, List.take_length]
theorem grown_len (rs : List (List Int)) (i : Nat) : (grown rs i).length ≤ 2 * rs.length := by
  unfold grown
  have h : ∀ l : List (List Int), (l.flatMap fun r => [r ++ [0], r ++ [1]]).length = 2 * l.length := fun l => by
    induction l with
    | nil => rfl
    | cons a l ih => simp only [List.flatMap_cons, List.length_append, ih, List.length_cons, List.length_nil]; omega
  rw [h, List.length_take]
  omega
end Ow

set_option Elab.async false
set_option linter.all false
set_option maxRecDepth 100000
set_option maxHeartbeats 4000000
set_option exponentiation.threshold 3000
namespace Ow
open PySem PySem.Spec PyProof.Rows L2
theorem scHasValues : FnScope ["value", "many"] ["value", "many"] (defScope dHasValues) := ⟨rfl, rfl, rfl, by decide +kernel, rfl, by decide +kernel, by decide +kernel⟩
theorem scAllValues : FnScope ["many", "found", "_", "values", "value"] ["many"] (defScope dAllValues) := ⟨rfl, rfl, rfl, by decide +kernel, rfl, by decide +kernel, by decide +kernel⟩
theorem scAllRows : FnScope ["size", "found", "turn", "longer", "row"] ["size"] (defScope dAllRows) := ⟨rfl, rfl, rfl, by decide +kernel, rfl, by decide +kernel, by decide +kernel⟩
def bitsB (ns : List Int) : Bool := ns.all fun n => decide (n = 0) || decide (n = 1)
theorem bits_row {H : Hp} {a : Addr} {ns : List Int} (h : H a = some (.tup (ns.map V.int))) : rowB H (.ref a) = bitsB ns := by
  unfold rowB bitsB
  simp only [h, List.all_map]
  congr 1
  funext n
  show (decide (V.int n = V.int 0) || decide (V.int n = V.int 1)) = _
  simp
theorem vl_ints {H : Hp} {a : Addr} {ns : List Int} (h : H a = some (.tup (ns.map V.int))) (hl : ns.length ≤ 60) (hs : ∀ n ∈ ns, n.natAbs < 2 ^ 400) : Vl (a + 1) H (.ref a) :=
  .inr ⟨a, rfl, Nat.ne_of_lt (Nat.lt_succ_self a), .inl ⟨_, h, by rw [List.length_map]; exact hl, fun x hx => by
    obtain ⟨n, hn, rfl⟩ := List.mem_map.mp hx
    exact .inl (hs n hn)⟩⟩
section
variable {P : Program} {w : World} {K : PySem.W.Frag} {mg : Str → Option Value} {base : Heap}
def spHV : Sp := fun vs H Q _ => ∃ (a : Addr) (ns : List Int) (m : Int), vs = [.ref a, .int m] ∧ H a = some (.tup (ns.map V.int)) ∧ ns.length ≤ 60 ∧ (∀ n ∈ ns, n.natAbs < 2 ^ 400) ∧
  ∀ H', Same H H' → Q (.bl (bitsB ns && decide ((ns.length : Int) = m))) H'
theorem ok_hasvalues {f fV : Addr} {fd fdV : FuncData} (F : Fun K "has_values" "has_values" dHasValues f fd) (FV : FnOk P w K mg base CX0 3 fV fdV ["value"] (spB rowB))
    (kV : PySem.W.keepIn K (.ref fV) = true) (bV : Binds K fdV ["value"] []) (gV : mg "is_values" = some (.ref fV)) (ml : mg "len" = none) : FnOk P w K mg base CX0 4 f fd ["value", "many"] spHV := by
  refine F.ok scHasValues (fun vs H Q E h => ?_) (fun cdv A outer s H vs Q E hr h => ?_)
  · obtain ⟨a, ns, m, rfl, _⟩ := h
    rfl
  obtain ⟨a, ns, m, rfl, ha, hl, hs, q⟩ := h
  refine ⟨_, pss_one (ps_ret (pe_and (pe_call FV hr (by rfl) gV kV bV .nil pass0 (pa_cons (pv 0) pa_nil)) (pe_one (pe_cmpR op_eq (pe_callB call_len_seq (by rfl) ml PySem.boot_len (pa_cons (pv 0) pa_nil)) (pv 1) (nomark _))))), ?_⟩
  refine ⟨.ref a, rfl, .ref a, a + 1, rfl, vl_ints ha hl hs, fun H1 sm => ⟨_, rfl, ?_⟩⟩
  rw [bits_row ha]
  cases hb : bitsB ns with
  | true =>
    refine iteT ⟨.ref a, rfl, a, _, rfl, .inr (.of (sm _ _ ha)), .int m, rfl, rfl, ?_⟩
    have := q H1 sm
    rw [hb, Bool.true_and] at this
    rw [List.length_map]
    have e : decide (V.int (ns.length : Int) = V.int m) = decide ((ns.length : Int) = m) := by simp
    rw [e]
    exact this
  | false =>
    refine iteF ?_
    have := q H1 sm
    rw [hb, Bool.false_and] at this
    exact this
/-- all rows of so many bits, a new list of them -/
def spRowsL : Sp := fun vs H Q _ => ∃ n : Nat, vs = [.int n] ∧ n ≤ 6 ∧ ∀ H' p xs, Same H H' → H p = none → H' p = some (.lst xs) → All2 (IsRow H') xs (rowsN n) → Q (.ref p) H'
theorem pow6 {n : Nat} (h : n ≤ 6) : 2 ^ n ≤ 64 := Nat.pow_le_pow_right (by decide) h
theorem ok_allrows {f : Addr} {fd : FuncData} (F : Fun K "_law_all_rows" "_law_all_rows" dAllRows f fd) (mr : mg "range" = none) (mls : mg "list" = none) : FnOk P w K mg base CX0 1 f fd ["size"] spRowsL := by
  refine F.ok scAllRows (fun vs H Q E h => ?_) (fun cdv A outer s H vs Q E hr h => ?_)
  · obtain ⟨n, rfl, _⟩ := h
    rfl
  obtain ⟨n, rfl, hn, q⟩ := h
  refine ⟨_, pss_cons (ps_set (i := 1) scAllRows.nd rfl (.inl rfl) (pe_lst (pa_cons (pe_tup pa_nil) pa_nil)))
    (pss_cons (ps_for PassesOwn.never rfl (pi_range1 (by rfl) mr (pa_cons (pv 0) pa_nil)) (pg_name (i := 2) scAllRows.nd rfl (.inl rfl))
      (pss_cons (ps_set (i := 3) scAllRows.nd rfl (.inl rfl) (pe_lst pa_nil))
      (pss_cons (ps_for PassesOwn.never rfl (pi_list (pe_callTy call_list_of (by rfl) mls (by decide +kernel) (pa_cons (pv 1) pa_nil))) (pg_name (i := 4) scAllRows.nd rfl (.inl rfl))
        (pss_one (ps_expr (pe_bm PySem.F.plainAttrs_list PySem.F.slot_list_extend PySem.F.type_list_extend mt_extend (pv 3) (pa_cons
          (pe_lst (pa_cons (pe_op op_tcat (pv 4) (pe_tup (pa_cons pe_int pa_nil))) (pa_cons (pe_op op_tcat (pv 4) (pe_tup (pa_cons pe_int pa_nil))) pa_nil))) pa_nil)))))
      (pss_one (ps_set (i := 1) scAllRows.nd rfl (.inl rfl) (pv 3))))))
    (pss_one (ps_ret (pv 1)))), ?_⟩
  refine ⟨Nat.zero_le _, fun p1 n1 => ⟨(by show 1 ≤ sizeLine; decide), fun p2 n2 => ⟨.int n, rfl, n, rfl, by omega, by omega, ?_⟩⟩⟩
  have e2 : upd (upd H p1 (.tup [])) p2 (.lst [.ref p1]) p1 = some (.tup []) := by
    rw [upd_ne (ne_of_none upd_same n2)]
    exact upd_same
  have s2 : Same H (upd (upd H p1 (.tup [])) p2 (.lst [.ref p1])) := (same_new n1).trans (same_new n2)
  have n2' : H p2 = none := by
    by_cases h : p2 = p1
    · rw [h]; exact n1
    · rw [upd_ne h] at n2; exact n2
  refine for_range (lo := 0) (n := n) (fun i σ Hx => ∃ L xs y2 y3 y4, σ = [some (.int n), some (.ref L), y2, y3, y4] ∧ Same H Hx ∧ H L = none ∧ Hx L = some (.lst xs) ∧ All2 (IsRow Hx) xs (rowsN i))
    ⟨p2, [.ref p1], none, none, none, rfl, s2, n2', upd_same, .cons ⟨p1, rfl, e2⟩ .nil⟩ (fun i σ Hx hi hP => ?_) (fun σ Hx hP => ?_)
  · obtain ⟨L, xs, y2, y3, y4, rfl, sx, nL, eL, ax⟩ := hP
    have lx := ax.len
    rw [rowsN_len] at lx
    have p6 := pow6 (show i ≤ 6 by omega)
    refine ⟨Nat.zero_le _, fun p3 n3 => ⟨.ref L, rfl, L, xs, rfl, .inl (.of ?_), fun M nM => ?_⟩⟩
    · rw [upd_ne (ne_of_none eL n3)]
      exact eL
    have eM : upd (upd Hx p3 (.lst [])) M (.lst xs) M = some (.lst xs) := upd_same
    have n3M : p3 ≠ M := ne_of_none upd_same nM
    have sM : Same Hx (upd (upd Hx p3 (.lst [])) M (.lst xs)) := (same_new n3).trans (same_new nM)
    refine ⟨M, rfl, ⟨xs, .of eM⟩, ?_⟩
    refine for_list (K := K) (xs := xs) (fun j σ Hy => ∃ zs y4, σ = [some (.int n), some (.ref L), some (.int (0 + (i : Int))), some (.ref p3), y4] ∧ Same Hx Hy ∧ Hy M = some (.lst xs) ∧ Hy p3 = some (.lst zs) ∧ All2 (IsRow Hy) zs (grown (rowsN i) j))
      ⟨[], y4, rfl, sM, eM, ?_, .nil⟩ (fun j σ Hy _ hQ => ?_) (fun j x σ Hy hx hQ => ?_) (fun σ Hy hQ => ?_)
    · rw [upd_ne n3M]
      exact upd_same
    · obtain ⟨zs, y4, rfl, sy, em, e3, az⟩ := hQ
      exact .of em
    · obtain ⟨zs, y4, rfl, sy, em, e3, az⟩ := hQ
      obtain ⟨r, hr, ⟨a, rfl, ha⟩⟩ := ax.get hx
      have ha' : Hy a = some (.tup (r.map V.int)) := sy _ _ ha
      have lr : r.length ≤ 6 := by
        have : ∀ m, ∀ r ∈ rowsN m, r.length = m := fun m => by
          induction m with
          | zero => intro r hr; rw [List.mem_singleton.mp hr]; rfl
          | succ m ih =>
            intro r hr
            obtain ⟨q, hq, hr⟩ := List.mem_flatMap.mp hr
            have := ih q hq
            simp only [List.mem_cons, List.not_mem_nil, or_false] at hr
            rcases hr with rfl | rfl <;> rw [List.length_append, this] <;> rfl
        have := this i r (List.mem_of_getElem? hr)
        omega
      have lz := az.len
      have gl := grown_len (rowsN i) j
      rw [rowsN_len] at gl
      refine ⟨.ref p3, rfl, .inl ⟨rfl, _, .of e3⟩, .ref a, rfl, (by show 1 ≤ sizeLine; decide), fun t1 m1 => ?_⟩
      refine ⟨a, t1, r.map V.int, _, rfl, rfl, ?_, upd_same, ?_, fun H2 q1 s2 h1 => ?_⟩
      · rw [upd_ne (ne_of_none ha' m1)]
        exact ha'
      · rw [List.length_map]
        show r.length + 1 ≤ 5000
        omega
      have sa2 : Same Hy H2 := (same_new m1).trans s2
      refine ⟨.ref a, rfl, (by show 1 ≤ sizeLine; decide), fun t2 m2 => ?_⟩
      refine ⟨a, t2, r.map V.int, _, rfl, rfl, ?_, upd_same, ?_, fun H3 q2 s3 h2 => ?_⟩
      · rw [upd_ne (ne_of_none (sa2 _ _ ha') m2)]
        exact sa2 _ _ ha'
      · rw [List.length_map]
        show r.length + 1 ≤ 5000
        omega
      have sa3 : Same H2 H3 := (same_new m2).trans s3
      refine ⟨(by show 2 ≤ sizeLine; decide), fun b nb => ?_⟩
      have sb : Same H3 (upd H3 b (.lst [.ref q1, .ref q2])) := same_new nb
      have s4 : Same Hy (upd H3 b (.lst [.ref q1, .ref q2])) := (sa2.trans sa3).trans sb
      have e34 := s4 _ _ e3
      have nb3 : p3 ≠ b := ne_of_none (sa3 _ _ (sa2 _ _ e3)) nb
      refine ⟨p3, b, zs, [.ref q1, .ref q2], rfl, rfl, e34, upd_same, ?_, ?_⟩
      · show zs.length + 2 ≤ sizeLine
        exact Nat.le_of_lt (small60 (by omega))
      have t5 : Tk Hy (upd (upd H3 b (.lst [.ref q1, .ref q2])) p3 (.lst (zs ++ [.ref q1, .ref q2]))) := (Tk.same s4).trans (Tk.lst e34)
      have n3x : p3 ≠ M := n3M
      refine ⟨zs ++ [.ref q1, .ref q2], some (.ref a), rfl, fun c o ec => ?_, ?_, upd_same, ?_⟩
      · rw [upd_ne (ne_of_none ec n3)]
        exact s4 _ _ (sy _ _ ec)
      · rw [upd_ne n3M.symm]
        exact s4 _ _ em
      · rw [grown_next hr]
        refine (all_tk t5 az).app (.cons ?_ (.cons ?_ .nil))
        · refine ⟨q1, rfl, ?_⟩
          rw [upd_ne (ne_of e34 ((sa3.trans sb) _ _ h1) (by intro z; cases z)).symm]
          have := (sa3.trans sb) _ _ h1
          rw [List.map_append]
          exact this
        · refine ⟨q2, rfl, ?_⟩
          rw [upd_ne (ne_of e34 (sb _ _ h2) (by intro z; cases z)).symm]
          have := sb _ _ h2
          rw [List.map_append]
          exact this
    · obtain ⟨zs, y4, rfl, sy, em, e3, az⟩ := hQ
      refine ⟨.ref p3, rfl, ?_⟩
      refine ⟨p3, zs, _, _, y4, rfl, sx.trans sy, ?_, e3, ?_⟩
      · cases h : H p3 with
        | none => rfl
        | some o => rw [sx _ _ h] at n3; cases n3
      · rw [grown_all (by rw [lx, rowsN_len])] at az
        exact az
  · obtain ⟨L, xs, y2, y3, y4, rfl, sx, nL, eL, ax⟩ := hP
    exact ⟨.ref L, rfl, q Hx L xs sx nL eL ax⟩
end
end Ow

set_option Elab.async false
set_option linter.all false
set_option maxRecDepth 100000
set_option maxHeartbeats 4000000
namespace Ow
open PySem PySem.Spec PyProof.Rows L2
theorem rowsN_size : ∀ n, ∀ r ∈ rowsN n, r.length = n
  | 0, r, hr => by rw [List.mem_singleton.mp hr]; rfl
  | n + 1, r, hr => by
    obtain ⟨q, hq, hr⟩ := List.mem_flatMap.mp hr
    have := rowsN_size n q hq
    simp only [List.mem_cons, List.not_mem_nil, or_false] at hr
    rcases hr with rfl | rfl <;> rw [List.length_append, this] <;> rfl
theorem same_none {H H' : Hp} {p : Addr} (s : Same H H') (n : H' p = none) : H p = none := by
  cases h : H p with
  | none => rfl
  | some o => rw [s _ _ h] at n; cases n
theorem same_newer {H H' : Hp} {p : Addr} {o : HO} (s : Same H H') (n : H p = none) : Same H (upd H' p o) := fun b x e => by
  rw [upd_ne (ne_of_none e n)]
  exact s b x e
section
variable {P : Program} {w : World} {K : PySem.W.Frag} {mg : Str → Option Value} {base : Heap}
/-- all rows of so many bits, a tuple of them -/
def spRowsT : Sp := fun vs H Q _ => ∃ n : Nat, vs = [.int n] ∧ n ≤ 6 ∧ ∀ H' p xs, Same H H' → H' p = some (.tup xs) → All2 (IsRow H') xs (rowsN n) → Q (.ref p) H'
theorem ok_allvalues {f : Addr} {fd : FuncData} (F : Fun K "all_values" "all_values" dAllValues f fd) (mr : mg "range" = none) (mt : mg "tuple" = none) : FnOk P w K mg base CX0 1 f fd ["many"] spRowsT := by
  refine F.ok scAllValues (fun vs H Q E h => ?_) (fun cdv A outer s H vs Q E hr h => ?_)
  · obtain ⟨n, rfl, _⟩ := h
    rfl
  obtain ⟨n, rfl, hn, q⟩ := h
  refine ⟨_, pss_cons (ps_set (i := 1) scAllValues.nd rfl (.inl rfl) (pe_lst (pa_cons (pe_tup pa_nil) pa_nil)))
    (pss_cons (ps_for PassesOwn.never rfl (pi_range1 (by rfl) mr (pa_cons (pv 0) pa_nil)) (pg_name (i := 2) scAllValues.nd rfl (.inl rfl))
      (pss_one (ps_setLc2 (i := 1) (own := [("values", 3), ("value", 4)]) (vs1 := [4]) (g := gName 3) (g1 := gName 4) (tt := tYes) (tt1 := tYes) (wi1 := iTup K (tTup (tCons (tC (.int 0)) (tCons (tC (.int 1)) tNil))))
        (te := tTup (StX.tStar K (tVar 3) (tCons (tVar 4) tNil))) rfl scAllValues.nd rfl rfl (sw_true rfl rfl rfl (by decide +kernel)) (pi_list (pv 1)) (blkOk_by (N := ["many", "found", "_", "values", "value"]) (sc := defScope dAllValues) (by decide +kernel)) (by decide)
        (fun _ _ _ _ _ => pg_name (i := 3) scAllValues.nd rfl (Or.inl rfl)) (fun _ _ _ _ _ => pts_nil) (fun _ _ _ _ _ => pi_tup (pe_tup (pa_cons pe_int (pa_cons pe_int pa_nil)))) (fun _ _ _ _ _ => pg_name (i := 4) scAllValues.nd rfl (Or.inl rfl)) (fun _ _ _ _ _ => pts_nil)
        (fun _ _ _ _ _ => pe_tup (StX.pa_star (pv 3) (pa_cons (pv 4) pa_nil))))))
    (pss_one (ps_ret (pe_callTy call_tuple_of (by rfl) mt boot_tup (pa_cons (pv 1) pa_nil))))), ?_⟩
  refine ⟨Nat.zero_le _, fun p1 n1 => ⟨(by show 1 ≤ sizeLine; decide), fun p2 n2 => ⟨.int n, rfl, n, rfl, by omega, by omega, ?_⟩⟩⟩
  have e2 : upd (upd H p1 (.tup [])) p2 (.lst [.ref p1]) p1 = some (.tup []) := by
    rw [upd_ne (ne_of_none upd_same n2)]
    exact upd_same
  have s2 : Same H (upd (upd H p1 (.tup [])) p2 (.lst [.ref p1])) := (same_new n1).trans (same_new n2)
  refine for_range (lo := 0) (n := n) (fun i σ Hx => ∃ L xs y2 y3 y4, σ = [some (.int n), some (.ref L), y2, y3, y4] ∧ Same H Hx ∧ Hx L = some (.lst xs) ∧ All2 (IsRow Hx) xs (rowsN i))
    ⟨p2, [.ref p1], none, none, none, rfl, s2, upd_same, .cons ⟨p1, rfl, e2⟩ .nil⟩ (fun i σ Hx hi hP => ?_) (fun σ Hx hP => ?_)
  · obtain ⟨L, xs, y2, y3, y4, rfl, sx, eL, ax⟩ := hP
    have lx := ax.len
    rw [rowsN_len] at lx
    have p6 := pow6 (show i ≤ 6 by omega)
    refine ⟨.ref L, rfl, L, rfl, ⟨xs, .of eL⟩, fun D nD => ?_⟩
    refine lc2_it (walk_list (K := K) (a := L) (xs := xs)) (fun j Hy => Same Hx Hy ∧ ∃ zs, Hy D = some (.lst zs) ∧ All2 (IsRow Hy) zs (grown (rowsN i) j)) ⟨same_new nD, [], upd_same, .nil⟩ (fun j Hy _ hQ => .of (hQ.1 _ _ eL))
      (fun j x Hy Hy' Kg hj hQ hY hK => ?_) (fun Hy hQ => ?_)
    · obtain ⟨rfl, hx⟩ := hY
      obtain ⟨sy, zs, eD, az⟩ := hQ
      obtain ⟨r, hr, a, rfl, ha⟩ := ax.get hx
      have lr : r.length = i := rowsN_size i r (List.mem_of_getElem? hr)
      have lz := az.len
      have gl := grown_len (rowsN i) j
      rw [rowsN_len] at gl
      refine hK _ _ (by show ((((wipe _ [3, 4]).set 3 _).set 4 none).set 3 none) = _; rfl) fun Ki hKi => ?_
      refine ⟨(by show 2 ≤ sizeLine; decide), fun T nT => ⟨T, rfl, ⟨_, .of upd_same⟩, hKi _ _ ?_⟩⟩
      refine ⟨2, _, _, fun k Hz => Same Hx Hz ∧ Hz T = some (.tup [.int 0, .int 1]) ∧ ∃ zs, Hz D = some (.lst zs) ∧ All2 (IsRow Hz) zs (grown (rowsN i) j ++ [r ++ [0], r ++ [1]].take k), walk_tup (K := K) (a := T) (xs := [.int 0, .int 1]),
        ⟨sy.trans (same_new nT), upd_same, zs, ?_, ?_⟩, (fun k Hw _ h => .of h.2.1), (fun Hz h => ?_), fun k y Hz Hz' hk h hY2 => ?_⟩
      · rw [upd_ne (ne_of_none eD nT)]
        exact eD
      · rw [List.take_zero, List.append_nil]
        exact all_tk (Tk.new nT) az
      · obtain ⟨sz, eT, zs, eD', az'⟩ := h
        exact ⟨sz, zs, eD', by rw [grown_next hr]; exact az'⟩
      · obtain ⟨eHz, hy⟩ := hY2
        have eHz' := eHz.symm
        subst eHz'
        obtain ⟨sz, eT, zs', eD', az'⟩ := h
        obtain ⟨b, rfl, hb⟩ : ∃ b : Int, y = .int b ∧ [r ++ [0], r ++ [1]][k]? = some (r ++ [b]) := by
          match k, hk with
          | 0, _ => exact ⟨0, by simpa using hy.symm, rfl⟩
          | 1, _ => exact ⟨1, by simpa using hy.symm, rfl⟩
        have ha' : Hz a = some (.tup (r.map V.int)) := sz _ _ ha
        have lz' := az'.len
        rw [List.length_append, List.length_take] at lz'
        have l2 : ([r ++ [0], r ++ [1]] : List (List Int)).length = 2 := rfl
        refine ⟨rfl, .ref a, rfl, a, _, rfl, .inl (.of ha'), .int b, rfl, ?_, fun p np => ?_⟩
        · rw [List.length_append, List.length_map]
          exact Nat.le_of_lt (small60 (by show r.length + 1 ≤ 5000; omega))
        · have eD2 : upd Hz p (.tup (r.map V.int ++ [.int b])) D = some (.lst zs') := by
            rw [upd_ne (ne_of_none eD' np)]
            exact eD'
          refine ⟨zs', eD2, small60 (by omega), fun c o ec => ?_, ?_, zs' ++ [.ref p], upd_same, ?_⟩
          · rw [upd_ne (ne_of_none ec nD)]
            exact (sz.trans (same_new np)) _ _ ec
          · rw [upd_ne (ne_of eT eD' (by intro z; cases z)), upd_ne (ne_of_none eT np)]
            exact eT
          · have tk : Tk Hz (upd (upd Hz p (.tup (r.map V.int ++ [.int b]))) D (.lst (zs' ++ [.ref p]))) := (Tk.new np).trans (Tk.lst eD2)
            rw [List.take_add_one, hb, ← List.append_assoc]
            refine (all_tk tk az').app (.cons ⟨p, rfl, ?_⟩ .nil)
            rw [upd_ne (ne_of eD2 upd_same (by intro z; cases z)).symm, upd_same, List.map_append]
            rfl
    · obtain ⟨sy, zs, eD, az⟩ := hQ
      rw [grown_all (by rw [lx, rowsN_len])] at az
      exact ⟨D, zs, _, _, _, rfl, sx.trans sy, eD, az⟩
  · obtain ⟨L, xs, y2, y3, y4, rfl, sx, eL, ax⟩ := hP
    refine ⟨.ref L, rfl, L, xs, rfl, .inl ⟨.of eL, fun p np => q _ p xs (sx.trans (same_new np)) upd_same (all_tk (Tk.new np) ax)⟩⟩
end
end Ow

set_option Elab.async false
set_option linter.all false
set_option maxRecDepth 100000
set_option maxHeartbeats 4000000
namespace Ow
open PySem PySem.Spec PyProof.Rows L2
theorem scAsc : FnScope ["items", "one", "other"] ["items"] (defScope dAscending) := ⟨rfl, rfl, rfl, by decide +kernel, rfl, by decide +kernel, by decide +kernel⟩
theorem scSetNames : FnScope ["value", "item"] ["value"] (defScope dSetNames) := ⟨rfl, rfl, rfl, by decide +kernel, rfl, by decide +kernel, by decide +kernel⟩
theorem scIssues : FnScope ["value"] ["value"] (defScope dIssues) := ⟨rfl, rfl, rfl, by decide +kernel, rfl, by decide +kernel, by decide +kernel⟩
theorem scKeys : FnScope ["value", "key"] ["value"] (defScope dKeys) := ⟨rfl, rfl, rfl, by decide +kernel, rfl, by decide +kernel, by decide +kernel⟩
def ltS (a b : Str) : Bool := decide (a.cps.toList < b.cps.toList)
def ascB (zs : List Str) : Bool := ((zs.zip zs.tail).map fun p => ltS p.1 p.2).all id
theorem cut_tail (xs : List V) : cutV xs (some 1) none = xs.tail := by
  unfold cutV
  have e : HT.sIx xs.length 0 (some 1) = min 1 xs.length := by
    exact HT.sIx_nat xs.length 0 1
  rw [e]
  show (xs.drop (min 1 xs.length)).take (xs.length - min 1 xs.length) = xs.tail
  cases xs with
  | nil => rfl
  | cons x xs =>
    have : min 1 (x :: xs).length = 1 := by rw [List.length_cons]; omega
    rw [this, List.drop_one, List.tail_cons, List.take_of_length_le (by rw [List.length_cons]; omega)]
/-- the elements of a comprehension, known one by one, as a list -/
theorem list_eq {α : Type} {f : α → V} {ys : List V} {n : Nat} {zs : List α} (hl : ys.length = n) (hz : zs.length = n) (h : ∀ (i : Nat) y, ys[i]? = some y → ∃ z, zs[i]? = some z ∧ y = f z) : ys = zs.map f := by
  refine List.ext_getElem? fun i => ?_
  rw [List.getElem?_map]
  cases e : ys[i]? with
  | none =>
    have : zs[i]? = none := List.getElem?_eq_none (by have := List.getElem?_eq_none_iff.mp e; omega)
    rw [this]
    rfl
  | some y =>
    obtain ⟨z, hz, rfl⟩ := h i y e
    rw [hz]
    rfl
section
variable {P : Program} {w : World} {K : PySem.W.Frag} {mg : Str → Option Value} {base : Heap}
def spAsc : Sp := fun vs H Q _ => ∃ (a : Addr) (zs : List Str), vs = [.ref a] ∧ H a = some (.tup (zs.map V.str)) ∧ zs.length ≤ 100 ∧ ∀ H', Same H H' → Q (.bl (ascB zs)) H'
theorem ok_asc {f : Addr} {fd : FuncData} (F : Fun K "is_ascending" "is_ascending" dAscending f fd) (mz : mg "zip" = none) (ma : mg "all" = none) : FnOk P w K mg base CX0 1 f fd ["items"] spAsc := by
  refine F.ok scAsc (fun vs H Q E h => ?_) (fun cdv A outer s H vs Q E hr h => ?_)
  · obtain ⟨a, zs, rfl, _⟩ := h
    rfl
  obtain ⟨a, zs, rfl, ha, hl, q⟩ := h
  refine ⟨_, pss_one (ps_ret (pe_callB (cr_all rfl) (by rfl) ma boot_all (pa_cons
    (pe_lc (own := [("one", 1), ("other", 2)]) (g := gTup K 2 (gCons (gName 1) (gCons (gName 2) gNil))) (tt := tYes) rfl scAsc.nd
      (RZ.pi_zipA (by rfl) mz (pa_cons (pv 0) (pa_cons (pe_slice sl_tup (pv 0) (po_some pe_int) po_none) pa_nil)))
      (blkOk_by (N := ["items", "one", "other"]) (sc := defScope dAscending) (by decide +kernel))
      (fun _ _ _ _ _ => pg_tup rfl (pgs_cons (pg_name (i := 1) scAsc.nd rfl (Or.inl rfl)) (pgs_cons (pg_name (i := 2) scAsc.nd rfl (Or.inl rfl)) pgs_nil)))
      (fun _ _ _ _ _ => pts_nil) (fun _ _ _ _ _ => pe_cmpR op_lt_str (pv 1) (pv 2) (nomark _))) pa_nil))), ?_⟩
  refine ⟨.ref a, rfl, .ref a, rfl, 1, rfl, a, zs.map V.str, rfl, ha, fun H1 b s1 hb => ?_⟩
  rw [cut_tail, ← List.map_tail] at hb
  refine ⟨a, b, zs.map V.str, zs.tail.map V.str, rfl, .inr ⟨.of (s1 _ _ ha), .of hb, fun D nD => ?_⟩⟩
  refine lc_map (M := No) (walk_zipT (K := K) (a := a) (b := b) (xs := zs.map V.str) (ys := zs.tail.map V.str) rfl) (by rw [List.length_map, List.length_map, List.length_tail]; omega) Jg.no nD
    (fun i _ y => ∃ p, (zs.zip zs.tail)[i]? = some p ∧ y = .bl (ltS p.1 p.2)) (fun _ _ _ _ _ h => h) (fun Hx g _ => ⟨.of (g.toSame _ _ (s1 _ _ ha)), .of (g.toSame _ _ hb)⟩)
    (fun i x Hx Hx' Kk hi g _ hY hK => ?_) (fun Hx ys g _ eD hlen hp => ?_)
  · obtain ⟨T, x, y, rfl, nT, rfl, hx, hy⟩ := hY
    have hx : (zs.map V.str)[i]? = some x := hx
    have hy : (zs.tail.map V.str)[i]? = some y := hy
    rw [List.getElem?_map] at hx hy
    cases h1 : zs[i]? with
    | none => rw [h1] at hx; cases hx
    | some c =>
      cases h2 : zs.tail[i]? with
      | none => rw [h2] at hy; cases hy
      | some d =>
        rw [h1] at hx
        rw [h2] at hy
        cases hx
        cases hy
        refine ⟨T, [.str c, .str d], rfl, .of upd_same, rfl, _, _, rfl, _, _, rfl, rfl, rfl, .str c, rfl, .str d, rfl, c, d, rfl, rfl, hK _ _ (Gw.new nT) Jg.no ⟨(c, d), List.getElem?_zip_eq_some.mpr ⟨h1, h2⟩, rfl⟩⟩
  · have e : ys = ((zs.zip zs.tail).map fun p => ltS p.1 p.2).map V.bl := by
      rw [List.map_map]
      exact list_eq (f := V.bl ∘ fun p : Str × Str => ltS p.1 p.2) hlen (by rw [List.length_zip, List.length_map, List.length_map]) hp
    rw [e] at eD
    refine ⟨D, _, rfl, .of eD, q _ ?_⟩
    exact s1.trans g.toSame
end
end Ow

set_option Elab.async false
set_option linter.all false
set_option maxRecDepth 100000
set_option maxHeartbeats 4000000
namespace Ow
open PySem PySem.Spec PyProof.Rows L2
def namesB (zs : List Str) : Bool := (zs.all fun z => nameB (.str z)) && ascB zs
def issuesB (zs : List Str) : Bool := namesB zs && (decide (1 ≤ zs.length) && decide (zs.length ≤ 6))
/-- texts of plain signs -/
def Plain (zs : List Str) : Prop := ∀ z ∈ zs, z.length ≤ 4000 ∧ ∀ c ∈ z.cps.toList, c < 128
section
variable {P : Program} {w : World} {K : PySem.W.Frag} {mg : Str → Option Value} {base : Heap}
def spTexts (g : List Str → Bool) : Sp := fun vs H Q _ => ∃ (a : Addr) (zs : List Str), vs = [.ref a] ∧ H a = some (.tup (zs.map V.str)) ∧ zs.length ≤ 60 ∧ Plain zs ∧ ∀ H', Same H H' → Q (.bl (g zs)) H'
theorem ok_setnames {f fN fA : Addr} {fd fdN fdA : FuncData} (F : Fun K "is_set_of_names" "is_set_of_names" dSetNames f fd) (FN : FnOk P w K mg base CX0 1 fN fdN ["value"] (spB fun _ => nameB)) (kN : PySem.W.keepIn K (.ref fN) = true) (bN : Binds K fdN ["value"] []) (gN : mg "is_name" = some (.ref fN))
    (FA : FnOk P w K mg base CX0 1 fA fdA ["items"] spAsc) (kA : PySem.W.keepIn K (.ref fA) = true) (bA : Binds K fdA ["items"] []) (gA : mg "is_ascending" = some (.ref fA)) (mi : mg "isinstance" = none) (mt : mg "tuple" = none) (ma : mg "all" = none) :
    FnOk P w K mg base CX0 2 f fd ["value"] (spTexts namesB) := by
  refine F.ok scSetNames (fun vs H Q E h => ?_) (fun cdv A outer s H vs Q E hr h => ?_)
  · obtain ⟨a, zs, rfl, _⟩ := h
    rfl
  obtain ⟨a, zs, rfl, ha, hl, hp, q⟩ := h
  refine ⟨_, pss_one (ps_ret (pe_and (pe_isi (T := "tuple") (by rfl) mi (pv 0) (by rfl) mt boot_tup)
    (pe_and (pe_callB (cr_all rfl) (by rfl) ma boot_all (pa_cons
      (pe_lc (own := [("item", 1)]) (g := gName 1) (tt := tYes) rfl scSetNames.nd (pi_tup (pv 0)) (blkOk_by (N := ["value", "item"]) (sc := defScope dSetNames) (by decide +kernel))
        (fun _ _ _ _ _ => pg_name (i := 1) scSetNames.nd rfl (Or.inl rfl)) (fun _ _ _ _ _ => pts_nil)
        (fun _ _ _ _ _ => pe_call FN hr (by rfl) gN kN bN .nil pass0 (pa_cons (pv 1) pa_nil))) pa_nil))
      (pe_one (pe_call FA hr (by rfl) gA kA bA .nil pass0 (pa_cons (pv 0) pa_nil)))))), ?_⟩
  refine isi_at "tuple" rfl (.base (.tup ha)) (b := true) (by decide +kernel) ⟨true, rfl, iteT ?_⟩
  refine ⟨.ref a, rfl, a, rfl, ⟨_, .of ha⟩, fun D nD => ?_⟩
  refine lc_map (M := No) (walk_tup (K := K) (a := a) (xs := zs.map V.str)) (by rw [List.length_map]; omega) Jg.no nD (fun i _ y => ∃ z, zs[i]? = some z ∧ y = .bl (nameB (.str z))) (fun _ _ _ _ _ h => h) (fun Hx g _ => .of (g.toSame _ _ ha))
    (fun i x Hx Hx' Kk hi g _ hY hK => ?_) (fun Hx ys g _ eD hlen hq => ?_)
  · obtain ⟨rfl, hx⟩ := hY
    rw [List.getElem?_map] at hx
    cases h1 : zs[i]? with
    | none => rw [h1] at hx; cases hx
    | some c =>
      rw [h1] at hx
      cases hx
      have hc := hp c (List.mem_of_getElem? h1)
      refine ⟨rfl, .str c, rfl, .str c, 0, rfl, .inl hc, fun H2 s2 => hK _ _ (Gw.same s2) Jg.no ⟨c, h1, rfl⟩⟩
  · have e : ys = (zs.map fun z => nameB (.str z)).map V.bl := by
      rw [List.map_map]
      exact list_eq (f := V.bl ∘ fun z : Str => nameB (.str z)) hlen (by rw [List.length_map]) hq
    rw [e] at eD
    refine ⟨D, _, rfl, .of eD, _, rfl, ?_⟩
    have e2 : (zs.map fun z => nameB (.str z)).all id = zs.all fun z => nameB (.str z) := by rw [List.all_map]; rfl
    rw [e2]
    cases hb : zs.all fun z => nameB (.str z) with
    | true =>
      refine iteT ⟨.ref a, rfl, a, zs, rfl, g.toSame _ _ ha, by omega, fun H2 s2 => ?_⟩
      have := q H2 (g.toSame.trans s2)
      unfold namesB at this
      rw [hb, Bool.true_and] at this
      exact this
    | false =>
      refine iteF ?_
      have := q Hx g.toSame
      unfold namesB at this
      rw [hb, Bool.false_and] at this
      exact this
theorem ok_issues {f fS : Addr} {fd fdS : FuncData} {t : Tok} (F : Fun K "is_issues" "is_issues" dIssues f fd) (FS : FnOk P w K mg base CX0 2 fS fdS ["value"] (spTexts namesB)) (kS : PySem.W.keepIn K (.ref fS) = true) (bS : Binds K fdS ["value"] []) (gS : mg "is_set_of_names" = some (.ref fS))
    (ml : mg "len" = none) (mM : mg "MAX_ISSUES" = some (.int 6 t)) : FnOk P w K mg base CX0 3 f fd ["value"] (spTexts issuesB) := by
  refine F.ok scIssues (fun vs H Q E h => ?_) (fun cdv A outer s H vs Q E hr h => ?_)
  · obtain ⟨a, zs, rfl, _⟩ := h
    rfl
  obtain ⟨a, zs, rfl, ha, hl, hp, q⟩ := h
  refine ⟨_, pss_one (ps_ret (pe_and (pe_call FS hr (by rfl) gS kS bS .nil pass0 (pa_cons (pv 0) pa_nil))
    (pe_one (pe_chain op_le op_le pe_int (pe_callB call_len_seq (by rfl) ml PySem.boot_len (pa_cons (pv 0) pa_nil)) (pe_glob (v := .int 6) (by rfl) mM ⟨_, rfl⟩))))), ?_⟩
  refine ⟨.ref a, rfl, a, zs, rfl, ha, hl, hp, fun H1 s1 => ⟨_, rfl, ?_⟩⟩
  have fin : ∀ b, b = issuesB zs → Q (.bl b) H1 := fun b e => by rw [e]; exact q H1 s1
  cases hb : namesB zs with
  | true =>
    refine iteT ⟨.ref a, rfl, a, _, rfl, .inr (.of (s1 _ _ ha)), 1, _, rfl, rfl, _, rfl, ?_⟩
    rw [List.length_map]
    by_cases h1 : (1 : Int) ≤ (zs.length : Int)
    · rw [decide_eq_true h1]
      refine iteT ⟨_, _, rfl, rfl, fin _ ?_⟩
      unfold issuesB
      rw [hb, decide_eq_true (show 1 ≤ zs.length by omega), Bool.true_and, Bool.true_and]
      by_cases h6 : zs.length ≤ 6
      · rw [decide_eq_true h6, decide_eq_true (show (zs.length : Int) ≤ 6 by omega)]
      · rw [decide_eq_false h6, decide_eq_false (show ¬ (zs.length : Int) ≤ 6 by omega)]
    · rw [decide_eq_false h1]
      refine iteF (fin _ ?_)
      unfold issuesB
      rw [decide_eq_false (show ¬ 1 ≤ zs.length by omega), Bool.false_and, Bool.and_false]
  | false =>
    refine iteF (fin _ ?_)
    unfold issuesB
    rw [hb, Bool.false_and]
/-- a dict whose keys are texts -/
def TxtD (H : Hp) (d : Addr) (ks : List Str) : Prop := ∃ kvs : List (Key × V), H d = some (.dK kvs) ∧ kvs.map (·.1) = ks.map Sum.inr
def spKeys : Sp := fun vs H Q _ => ∃ (d : Addr) (ks : List Str), vs = [.ref d] ∧ TxtD H d ks ∧ ks.length < 60 ∧ Plain ks ∧ ∀ H' ys, Same H H' → ys.Perm ks → sortedS ys = true → Q (.bl (issuesB ys)) H'
theorem ok_keys {f fI : Addr} {fd fdI : FuncData} (F : Fun K "has_issues_as_keys" "has_issues_as_keys" dKeys f fd) (FI : FnOk P w K mg base CX0 3 fI fdI ["value"] (spTexts issuesB)) (kI : PySem.W.keepIn K (.ref fI) = true) (bI : Binds K fdI ["value"] []) (gI : mg "is_issues" = some (.ref fI))
    (mi : mg "isinstance" = none) (md : mg "dict" = none) (ms : mg "str" = none) (ma : mg "all" = none) (mt : mg "tuple" = none) (mo : mg "sorted" = none) : FnOk P w K mg base CX0 4 f fd ["value"] spKeys := by
  refine F.ok scKeys (fun vs H Q E h => ?_) (fun cdv A outer s H vs Q E hr h => ?_)
  · obtain ⟨d, ks, rfl, _⟩ := h
    rfl
  obtain ⟨d, ks, rfl, ⟨kvs, hd, hk⟩, hl, hp, q⟩ := h
  refine ⟨_, pss_cons (ps_if (PW.pt (pw_or (pt_not (pt_val (pe_isi (T := "dict") (by rfl) mi (pv 0) (by rfl) md (by decide +kernel))))
      (pw_or1 (pt_not (pt_val (pe_callB (cr_all rfl) (by rfl) ma boot_all (pa_cons (pe_lock
        (pe_lc (te := tCB (rIsi K) (tCons (tVar 1) (tCons (tC (.ty "str")) tNil))) (own := [("key", 1)]) (g := gName 1) (tt := tYes) rfl scKeys.nd (pi_keys (pv 0)) (blkOk_by (N := ["value", "key"]) (sc := defScope dKeys) (by decide +kernel))
          (fun _ _ _ _ _ => pg_name (i := 1) scKeys.nd rfl (Or.inl rfl)) (fun _ _ _ _ _ => pts_nil)
          (fun _ _ _ _ _ => pe_isi (T := "str") (by rfl) mi (pv 1) (by rfl) ms (by decide +kernel)))) pa_nil))))))) (pss_one (ps_ret pe_bl)) pss_nil)
    (pss_one (ps_ret (pe_call FI hr (by rfl) gI kI bI .nil pass0 (pa_cons (pe_callTy call_tuple_of (by rfl) mt boot_tup (pa_cons (pe_callB (call_sortedD rfl) (by rfl) mo (by decide +kernel) (pa_cons (pv 0) pa_nil)) pa_nil)) pa_nil)))), ?_⟩
  have lk : kvs.length = ks.length := by have := congrArg List.length hk; rw [List.length_map, List.length_map] at this; exact this
  refine isi_at "dict" rfl (.base (.dK hd)) (b := true) (by decide +kernel) ⟨true, rfl, iteF ?_⟩
  refine ⟨d, _, hd, ?_, fun od => ?_⟩
  · trivial
  have hf : upd H d (.frz od (.dK kvs)) d = some (.frz od (.dK kvs)) := upd_same
  refine ⟨.ref d, rfl, d, od, rfl, .inl ⟨kvs, hf, fun D nD => ?_⟩⟩
  refine lc_map (M := No) (walk_keys (d := d) (o := od) (kvs := kvs)) (by omega) Jg.no nD (fun i _ y => y = .bl true) (fun _ _ _ _ _ h => h) (fun Hx g _ => g.toSame _ _ hf)
    (fun i x Hx Hx' Kk hi g _ hY hK => ?_) (fun Hx ys g _ eD hlen hq => ?_)
  · obtain ⟨rfl, k, v, hx, rfl⟩ := hY
    have hkx : (kvs.map (·.1))[i]? = some k := by rw [List.getElem?_map, hx]; rfl
    rw [hk, List.getElem?_map] at hkx
    cases h1 : ks[i]? with
    | none => rw [h1] at hkx; cases hkx
    | some c =>
      rw [h1] at hkx
      cases hkx
      exact ⟨rfl, isi_at "str" rfl (.base (.str c)) (b := true) (by decide +kernel) (hK _ _ (Gw.refl _) Jg.no rfl)⟩
  · have e : ys = (List.replicate kvs.length true).map V.bl := list_eq (f := V.bl) hlen (by rw [List.length_replicate]) fun i y hy => by
      have hi : i < kvs.length := by have := (List.getElem?_eq_some_iff.mp hy).1; omega
      exact ⟨true, by rw [List.getElem?_replicate, if_pos hi], hq i y hy⟩
    rw [e] at eD
    have hdD : D ≠ d := (ne_of_none hf nD).symm
    refine ⟨g.toSame _ _ hf, D, _, rfl, .of (by rw [upd_ne hdD]; exact eD), true, ?_, iteF ?_⟩
    · have : (List.replicate kvs.length true).all id = true := by
        rw [List.all_eq_true]
        intro x hx
        exact (List.mem_replicate.mp hx).2
      rw [this]
    have s1 : Same H (upd Hx d (.dK kvs)) := same_lock hd g.toSame
    refine ⟨.ref d, rfl, d, kvs, ks, rfl, .inl upd_same, hk, by omega, fun zs p pm so np => ?_⟩
    refine ⟨p, _, rfl, .inl ⟨.of upd_same, fun l nl => ?_⟩⟩
    have lz : zs.length = ks.length := pm.length_eq
    refine ⟨l, zs, rfl, upd_same, by omega, fun z hz => hp z (pm.mem_iff.mp hz), fun H2 s2 => q H2 zs (s1.trans ((same_new np).trans ((same_new nl).trans s2))) pm so⟩
end
end Ow

set_option Elab.async false
set_option linter.all false
set_option maxRecDepth 100000
set_option maxHeartbeats 4000000
set_option exponentiation.threshold 3000
namespace Ow
open PySem PySem.Spec PyProof.Rows L2
theorem scNeedVoters : FnScope ["voters"] ["voters"] (defScope dNeedVoters) := ⟨rfl, rfl, rfl, by decide +kernel, rfl, by decide +kernel, by decide +kernel⟩
theorem scIsTable : FnScope ["value", "voters"] ["value", "voters"] (defScope dIsTable) := ⟨rfl, rfl, rfl, by decide +kernel, rfl, by decide +kernel, by decide +kernel⟩
theorem scAreTables : FnScope ["value", "voters", "table"] ["value", "voters"] (defScope dAreTables) := ⟨rfl, rfl, rfl, by decide +kernel, rfl, by decide +kernel, by decide +kernel⟩
theorem scFollow : FnScope ["voters", "voter", "values"] ["voters", "voter"] (defScope dFollow) := ⟨rfl, rfl, rfl, by decide +kernel, rfl, by decide +kernel, by decide +kernel⟩
theorem scHangs : FnScope ["table", "step", "at", "value"] ["table", "step"] (defScope dHangs) := ⟨rfl, rfl, rfl, by decide +kernel, rfl, by decide +kernel, by decide +kernel⟩
theorem boot_any : bootBuiltins "any" = some (.builtin "any") := by decide +kernel
/-- a table for so many voters -/
structure GoodT (v : Nat) (ns : List Int) : Prop where
  len : ns.length = 2 ^ v
  bit : ∀ n ∈ ns, n = 0 ∨ n = 1
  fst : ns[0]? = some 0
  lst : ns[2 ^ v - 1]? = some 1
theorem GoodT.bits {v : Nat} {ns : List Int} (g : GoodT v ns) : bitsB ns = true := by
  unfold bitsB
  rw [List.all_eq_true]
  intro n hn
  rcases g.bit n hn with h | h <;> rw [h] <;> rfl
theorem GoodT.small {v : Nat} {ns : List Int} (g : GoodT v ns) : ∀ n ∈ ns, n.natAbs < 2 ^ 400 := fun n hn => by
  rcases g.bit n hn with h | h <;> rw [h] <;> decide
theorem pow4 {v : Nat} (h : v ≤ 4) : 2 ^ v ≤ 16 := Nat.pow_le_pow_right (by decide) h
theorem GoodT.le {v : Nat} {ns : List Int} (g : GoodT v ns) (h : v ≤ 4) : ns.length ≤ 16 := by rw [g.len]; exact pow4 h
theorem atI_neg1 {α : Type} {xs : List α} {v : α} (h : xs[xs.length - 1]? = some v) : atI xs (-1) = some v := by
  have hl := (List.getElem?_eq_some_iff.mp h).1
  unfold atI ixN
  rw [if_neg (by decide), if_pos (by omega)]
  show xs[((-1 : Int) + (xs.length : Int)).toNat]? = some v
  rw [show ((-1 : Int) + (xs.length : Int)).toNat = xs.length - 1 by omega]
  exact h
theorem shortB_small {n : Int} (h1 : 0 ≤ n) (h2 : n ≤ 100000) : shortB (.int n) = true := by
  have p : (100000 : Int) < 10 ^ 60 := by decide +kernel
  generalize hz : (10 : Int) ^ 60 = z at p
  show (decide (-((10 : Int) ^ 60) < n) && decide (n < (10 : Int) ^ 60)) = true
  rw [hz, decide_eq_true (show -z < n by omega), decide_eq_true (show n < z by omega)]
  rfl
/-- what one voter says -/
def followN (v i : Nat) : List Int := (rowsN v).map fun r => r.getD i 0
def hangsB (ns : List Int) (st : Nat) : Bool := (List.range ns.length).any fun i => !decide (ns.getD i 0 = ns.getD (i ^^^ st) 0)
theorem xor_lt {v k i : Nat} (hv : v ≤ 4) (hk : k < v) (hi : i < 2 ^ v) : i ^^^ 2 ^ k < 2 ^ v := Nat.xor_lt_two_pow hi (Nat.pow_lt_pow_right (by decide) hk)
section
variable {P : Program} {w : World} {K : PySem.W.Frag} {mg : Str → Option Value} {base : Heap}
def spNV : Sp := fun vs H Q _ => ∃ n : Nat, vs = [.int n] ∧ 1 ≤ n ∧ n ≤ 4 ∧ ∀ H', Same H H' → Q .non H'
theorem ok_needvoters {f fI : Addr} {fd fdI : FuncData} {t : Tok} (F : Fun K "need_voters" "need_voters" dNeedVoters f fd) (FI : FnOk P w K mg base CX0 1 fI fdI ["value"] (spB fun _ => shortB))
    (kI : PySem.W.keepIn K (.ref fI) = true) (bI : Binds K fdI ["value"] []) (gI : mg "is_integer" = some (.ref fI)) (mM : mg "MAX_VOTERS" = some (.int 4 t)) : FnOk P w K mg base CX0 2 f fd ["voters"] spNV := by
  refine F.ok scNeedVoters (fun vs H Q E h => ?_) (fun cdv A outer s H vs Q E hr h => ?_)
  · obtain ⟨n, rfl, _⟩ := h
    rfl
  obtain ⟨n, rfl, h1, h4, q⟩ := h
  refine ⟨_, pss_one (ps_if (PW.pt (pw_or (pt_not (pt_val (pe_call FI hr (by rfl) gI kI bI .nil pass0 (pa_cons (pv 0) pa_nil))))
      (pw_or1 (pt_not (pt_chain op_le op_le pe_int (pv 0) (pe_glob (v := .int 4) (by rfl) mM ⟨_, rfl⟩)))))) (pss_one ps_never) pss_nil), ?_⟩
  refine ⟨.int n, rfl, .int n, 0, rfl, .inl (by show (n : Int).natAbs < 2 ^ 400; exact Nat.lt_of_lt_of_le (by omega : (n : Int).natAbs < 2 ^ 3) (Nat.pow_le_pow_right (by decide) (by decide))), fun H1 s1 => ⟨true, ?_, iteF ?_⟩⟩
  · exact congrArg V.bl (shortB_small (Int.natCast_nonneg n) (by omega))
  refine ⟨.int n, rfl, 1, n, rfl, rfl, _, rfl, ?_⟩
  rw [decide_eq_true (show (1 : Int) ≤ (n : Int) by omega)]
  refine iteT ⟨_, _, rfl, rfl, _, rfl, ?_⟩
  rw [decide_eq_true (show (n : Int) ≤ 4 by omega)]
  exact iteF (q H1 s1)
def spIsT : Sp := fun vs H Q _ => ∃ (a : Addr) (v : Nat) (ns : List Int), vs = [.ref a, .int v] ∧ v ≤ 4 ∧ H a = some (.tup (ns.map V.int)) ∧ GoodT v ns ∧ ∀ H', Same H H' → Q (.bl true) H'
theorem ok_istable {f fH : Addr} {fd fdH : FuncData} (F : Fun K "_is_table" "_is_table" dIsTable f fd) (FH : FnOk P w K mg base CX0 4 fH fdH ["value", "many"] spHV)
    (kH : PySem.W.keepIn K (.ref fH) = true) (bH : Binds K fdH ["value", "many"] []) (gH : mg "has_values" = some (.ref fH)) : FnOk P w K mg base CX0 5 f fd ["value", "voters"] spIsT := by
  refine F.ok scIsTable (fun vs H Q E h => ?_) (fun cdv A outer s H vs Q E hr h => ?_)
  · obtain ⟨a, v, ns, rfl, _⟩ := h
    rfl
  obtain ⟨a, v, ns, rfl, hv, ha, g, q⟩ := h
  refine ⟨_, pss_one (ps_ret (pe_and (pe_call FH hr (by rfl) gH kH bH .nil pass0 (pa_cons (pv 0) (pa_cons (pe_op op_shlN pe_int (pv 1)) pa_nil)))
    (pe_and (pe_cmpR op_eq (pe_ix ix_tup (pv 0) pe_int (fun _ _ => rfl)) pe_int (nomark _))
      (pe_one (pe_cmpR op_eq (pe_ix ix_tup (pv 0) (pe_un un_neg pe_int) (fun _ _ => rfl)) pe_int (nomark _)))))), ?_⟩
  have hl := g.le hv
  have p16 := pow4 hv
  have pos : 0 < 2 ^ v := Nat.pow_pos (by decide)
  refine ⟨.ref a, rfl, .int v, rfl, 1, v, rfl, rfl, shl_ok (n := 1) (by decide) (by omega), a, ns, _, rfl, ha, by omega, g.small, fun H1 s1 => ⟨true, ?_, iteT ?_⟩⟩
  · rw [g.bits, Bool.true_and]
    have e : ((ns.length : Int) = 1 * 2 ^ v) := by
      rw [g.len, Int.one_mul]
      exact (Int.natCast_pow 2 v)
    rw [decide_eq_true e]
  have ha1 := s1 _ _ ha
  refine ⟨.ref a, rfl, a, _, 0, .int 0, rfl, rfl, .of ha1, atI_nat (j := 0) (by rw [List.getElem?_map, g.fst]; rfl), rfl, true, rfl, iteT ?_⟩
  refine ⟨.ref a, rfl, 1, rfl, a, _, -1, .int 1, rfl, rfl, .of ha1, atI_neg1 ?_, rfl, q H1 s1⟩
  rw [List.length_map, g.len, List.getElem?_map, g.lst]
  rfl
def spFollow : Sp := fun vs H Q _ => ∃ v i : Nat, vs = [.int v, .int i] ∧ v ≤ 4 ∧ i < v ∧ ∀ H' p, Same H H' → H' p = some (.tup ((followN v i).map V.int)) → Q (.ref p) H'
theorem ok_follow {f fA : Addr} {fd fdA : FuncData} (F : Fun K "_follow_table" "_follow_table" dFollow f fd) (FA : FnOk P w K mg base CX0 1 fA fdA ["many"] spRowsT)
    (kA : PySem.W.keepIn K (.ref fA) = true) (bA : Binds K fdA ["many"] []) (gA : mg "all_values" = some (.ref fA)) (mt : mg "tuple" = none) : FnOk P w K mg base CX0 2 f fd ["voters", "voter"] spFollow := by
  refine F.ok scFollow (fun vs H Q E h => ?_) (fun cdv A outer s H vs Q E hr h => ?_)
  · obtain ⟨v, i, rfl, _⟩ := h
    rfl
  obtain ⟨v, i, rfl, hv, hi, q⟩ := h
  refine ⟨_, pss_one (ps_ret (pe_callTy call_tuple_of (by rfl) mt boot_tup (pa_cons
      (pe_lc (te := tOp (rIxT K) (tVar 2) (tVar 1)) (own := [("values", 2)]) (g := gName 2) (tt := tYes) rfl scFollow.nd (pi_tup (pe_call FA hr (by rfl) gA kA bA .nil pass0 (pa_cons (pv 0) pa_nil))) (blkOk_by (N := ["voters", "voter", "values"]) (sc := defScope dFollow) (by decide +kernel))
        (fun _ _ _ _ _ => pg_name (i := 2) scFollow.nd rfl (Or.inl rfl)) (fun _ _ _ _ _ => pts_nil)
        (fun _ _ _ _ _ => pe_ix ix_tup (pv 2) (pv 1) (fun _ _ => rfl))) pa_nil))), ?_⟩
  refine ⟨.int v, rfl, v, rfl, by omega, fun H1 p xs s1 hp ax => ⟨p, rfl, ⟨xs, .of hp⟩, fun D nD => ?_⟩⟩
  have lx := ax.len
  rw [rowsN_len] at lx
  have p16 := pow4 hv
  refine lc_map (M := No) (walk_tup (K := K) (a := p) (xs := xs)) (by omega) Jg.no nD (fun j _ y => ∃ r, (rowsN v)[j]? = some r ∧ y = .int (r.getD i 0)) (fun _ _ _ _ _ h => h) (fun Hx g _ => .of (g.toSame _ _ hp))
    (fun j x Hx Hx' Kk hj g _ hY hK => ?_) (fun Hx ys g _ eD hlen hq => ?_)
  · obtain ⟨rfl, hx⟩ := hY
    obtain ⟨r, hr, a, rfl, ha⟩ := ax.get hx
    have lr := rowsN_size v r (List.mem_of_getElem? hr)
    refine ⟨rfl, .ref a, rfl, .int i, rfl, a, _, i, .int (r.getD i 0), rfl, rfl, .of (g.toSame _ _ ha), atI_nat (j := i) ?_, hK _ _ (Gw.refl _) Jg.no ⟨r, hr, rfl⟩⟩
    rw [List.getElem?_map, List.getD_eq_getElem?_getD, List.getElem?_eq_getElem (by omega)]
    rfl
  · have e : ys = (followN v i).map V.int := by
      unfold followN
      rw [List.map_map]
      exact list_eq (f := V.int ∘ fun r : List Int => r.getD i 0) hlen (by rw [rowsN_len, lx]) hq
    rw [e] at eD
    refine ⟨D, _, rfl, .inl ⟨.of eD, fun q1 nq => q _ q1 (s1.trans (g.toSame.trans (same_new nq))) upd_same⟩⟩
def spHangs : Sp := fun vs H Q _ => ∃ (a : Addr) (v k : Nat) (ns : List Int), vs = [.ref a, .int (2 ^ k : Nat)] ∧ H a = some (.tup (ns.map V.int)) ∧ v ≤ 4 ∧ k < v ∧ ns.length = 2 ^ v ∧ ∀ H', Same H H' → Q (.bl (hangsB ns (2 ^ k))) H'
theorem ok_hangs {f : Addr} {fd : FuncData} (F : Fun K "_hangs_on" "_hangs_on" dHangs f fd) (me : mg "enumerate" = none) (ma : mg "any" = none) : FnOk P w K mg base CX0 1 f fd ["table", "step"] spHangs := by
  refine F.ok scHangs (fun vs H Q E h => ?_) (fun cdv A outer s H vs Q E hr h => ?_)
  · obtain ⟨a, v, k, ns, rfl, _⟩ := h
    rfl
  obtain ⟨a, v, k, ns, rfl, ha, hv, hk, hl, q⟩ := h
  have p16 := pow4 hv
  refine ⟨_, pss_one (ps_ret (pe_callB (cr_any rfl) (by rfl) ma boot_any (pa_cons
      (pe_lc (te := tOp rNe (tVar 3) (tOp (rIxT K) (tVar 0) (tOp (rI0 fun i j => .int (Builtin.bitXor i j)) (tVar 2) (tVar 1)))) (own := [("at", 2), ("value", 3)]) (g := gTup K 2 (gCons (gName 2) (gCons (gName 3) gNil))) (tt := tYes) rfl scHangs.nd
        (pi_enumT (by rfl) me (pa_cons (pv 0) pa_nil)) (blkOk_by (N := ["table", "step", "at", "value"]) (sc := defScope dHangs) (by decide +kernel))
        (fun _ _ _ _ _ => pg_tup rfl (pgs_cons (pg_name (i := 2) scHangs.nd rfl (Or.inl rfl)) (pgs_cons (pg_name (i := 3) scHangs.nd rfl (Or.inl rfl)) pgs_nil))) (fun _ _ _ _ _ => pts_nil)
        (fun _ _ _ _ _ => pe_cmpR op_ne (pv 3) (pe_ix ix_tup (pv 0) (pe_op op_xor (pv 2) (pv 1)) (fun _ _ => rfl)) (nomark _))) pa_nil))), ?_⟩
  refine ⟨.ref a, rfl, a, _, rfl, .of ha, fun D nD => ?_⟩
  refine lc_map (M := No) (walk_enumT (K := K) (a := a) (xs := ns.map V.int)) (by rw [List.length_map]; omega) Jg.no nD (fun i _ y => y = .bl (!decide (ns.getD i 0 = ns.getD (i ^^^ 2 ^ k) 0))) (fun _ _ _ _ _ h => h) (fun Hx g _ => .of (g.toSame _ _ ha))
    (fun i x Hx Hx' Kk hi g _ hY hK => ?_) (fun Hx ys g _ eD hlen hq => ?_)
  · obtain ⟨T, x, y, rfl, nT, rfl, hx, hy⟩ := hY
    cases hx
    have hy : (ns.map V.int)[i]? = some y := hy
    rw [List.length_map] at hi
    rw [List.getElem?_map, List.getElem?_eq_getElem hi] at hy
    cases hy
    have h2 : i ^^^ 2 ^ k < ns.length := by rw [hl]; exact xor_lt hv hk (by omega)
    have ex : Builtin.bitXor (i : Int) ((2 ^ k : Nat) : Int) = ((i ^^^ 2 ^ k : Nat) : Int) := by rw [Bits.bitXor_pp (Int.natCast_nonneg _) (Int.natCast_nonneg _)]; rfl
    have ha' := g.toSame _ _ ha
    refine ⟨T, [.int i, .int ns[i]], rfl, .of upd_same, rfl, _, _, rfl, _, _, rfl, rfl, rfl, .int ns[i], rfl, .ref a, rfl, .int i, rfl, .int _, rfl, i, _, rfl, rfl, a, _, _, .int (ns.getD (i ^^^ 2 ^ k) 0), rfl, rfl, .of (same_new nT _ _ ha'), ?_, rfl, ?_⟩
    · rw [ex]
      refine atI_nat ?_
      rw [List.getElem?_map, List.getD_eq_getElem?_getD, List.getElem?_eq_getElem h2]
      rfl
    · refine hK _ _ (Gw.new nT) Jg.no ?_
      have e1 : ns.getD i 0 = ns[i] := by rw [List.getD_eq_getElem?_getD, List.getElem?_eq_getElem hi]; rfl
      rw [e1]
      congr 2
      simp
  · have e : ys = ((List.range ns.length).map fun i => !decide (ns.getD i 0 = ns.getD (i ^^^ 2 ^ k) 0)).map V.bl := by
      rw [List.map_map]
      refine list_eq (f := V.bl ∘ fun i : Nat => !decide (ns.getD i 0 = ns.getD (i ^^^ 2 ^ k) 0)) hlen (by rw [List.length_range, List.length_map]) fun i y hy => ?_
      have hi : i < ns.length := by have := (List.getElem?_eq_some_iff.mp hy).1; rw [hlen, List.length_map] at this; exact this
      exact ⟨i, List.getElem?_range hi, hq i y hy⟩
    rw [e] at eD
    refine ⟨D, _, rfl, .of eD, ?_⟩
    have := q Hx g.toSame
    unfold hangsB at this
    rw [List.any_map]
    exact this
end
end Ow

set_option Elab.async false
set_option linter.all false
set_option maxRecDepth 100000
set_option maxHeartbeats 4000000
set_option exponentiation.threshold 3000
namespace Ow
open PySem PySem.Spec PyProof.Rows L2
theorem scInit : FnScope ["self", "voters", "tables", "issue"] ["self", "voters", "tables"] (defScope dInit) := ⟨rfl, rfl, rfl, by decide +kernel, rfl, by decide +kernel, by decide +kernel⟩
theorem scGet : FnScope ["self", "issue"] ["self", "issue"] (defScope dGetitem) := ⟨rfl, rfl, rfl, by decide +kernel, rfl, by decide +kernel, by decide +kernel⟩
/-! ### tables by names -/
def TabR (H : Hp) (tab : Str → List Int) (p : Key × V) (z : Str) : Prop := p.1 = Sum.inr z ∧ IsRow H p.2 (tab z)
def TabD (H : Hp) (d : Addr) (ks : List Str) (tab : Str → List Int) : Prop := ∃ kvs : List (Key × V), H d = some (.dK kvs) ∧ All2 (TabR H tab) kvs ks
theorem TabR.tk {H H' : Hp} {tab : Str → List Int} {kvs : List (Key × V)} {ks : List Str} (t : Tk H H') (h : All2 (TabR H tab) kvs ks) : All2 (TabR H' tab) kvs ks := h.imp fun _ _ q => ⟨q.1, q.2.tk t⟩
theorem tab_keys {H : Hp} {tab : Str → List Int} {kvs : List (Key × V)} {ks : List Str} (h : All2 (TabR H tab) kvs ks) : kvs.map (·.1) = ks.map Sum.inr := by
  induction h with
  | nil => rfl
  | cons r _ ih => rw [List.map_cons, List.map_cons, ih, r.1]
theorem tab_get {H : Hp} {tab : Str → List Int} {kvs : List (Key × V)} {ks : List Str} (h : All2 (TabR H tab) kvs ks) {z : Str} (hz : z ∈ ks) : ∃ x, valV kvs (Sum.inr z) = some x ∧ IsRow H x (tab z) := by
  induction h with
  | nil => cases hz
  | @cons p y ps ys r _ ih =>
    by_cases e : p.1 = (Sum.inr z : Key)
    · have ey : y = z := by have := r.1.symm.trans e; exact Sum.inr.inj this
      exact ⟨p.2, valV_pos e, ey ▸ r.2⟩
    · rw [valV_neg e]
      rcases List.mem_cons.mp hz with rfl | hz
      · exact absurd r.1 e
      · exact ih hz
theorem tab_none {H : Hp} {tab : Str → List Int} {kvs : List (Key × V)} {ks : List Str} (h : All2 (TabR H tab) kvs ks) {z : Str} (hz : z ∉ ks) : valV kvs (Sum.inr z : Key) = none := by
  induction h with
  | nil => rfl
  | @cons p y ps ys r _ ih =>
    have e : ¬ p.1 = (Sum.inr z : Key) := fun e => hz (by have := Sum.inr.inj (r.1.symm.trans e); rw [this]; exact List.mem_cons_self)
    rw [valV_neg e]
    exact ih fun m => hz (List.mem_cons_of_mem _ m)
/-- a rule, made -/
def ruleF (v : Nat) (t d : Addr) : List (Str × V) := [("_voters", .int v), ("_issues", .ref t), ("_tables", .ref d)]
def RuleAt (C : Addr) (H : Hp) (a : Addr) (v : Nat) (ys : List Str) (tab : Str → List Int) : Prop :=
  ∃ dx t d, H a = some (.ins C dx (ruleF v t d)) ∧ H t = some (.tup (ys.map V.str)) ∧ TabD H d ys tab
theorem RuleAt.tk {C : Addr} {H H' : Hp} {a : Addr} {v : Nat} {ys : List Str} {tab : Str → List Int} (t : Tk H H') (h : RuleAt C H a v ys tab) : RuleAt C H' a v ys tab := by
  obtain ⟨dx, t0, d, h1, h2, kvs, h3, h4⟩ := h
  exact ⟨dx, t0, d, t _ _ (fun _ z => nomatch z) h1, t.tup h2, kvs, t _ _ (fun _ z => nomatch z) h3, TabR.tk t h4⟩
structure RuleC (K : PySem.W.Frag) (C : Addr) : Prop where
  cl : Cls K C
  nV : NoAttr K C "_voters"
  nI : NoAttr K C "_issues"
  nT : NoAttr K C "_tables"
theorem yes_of {σ : L2.St} {H : Hp} {A B : Hp → Prop} (h : A H) : tYes σ H (fun b H3 => if b = true then A H3 else B H3) := by
  show if true = true then A H else B H
  rw [if_pos rfl]
  exact h
theorem row_at {H : Hp} {x : V} {ns : List Int} {D : Addr} {k1 k2 : List (Key × V)} (r : IsRow H x ns) (h : H D = some (.dK k1)) : IsRow (upd H D (.dK k2)) x ns := by
  obtain ⟨b, e, hb⟩ := r
  exact ⟨b, e, by rw [upd_ne (ne_of hb h (by intro z; cases z))]; exact hb⟩
theorem row_ins {H : Hp} {x : V} {ns : List Int} {a C dx C' dx' : Addr} {f1 f2 : List (Str × V)} (r : IsRow H x ns) (h : H a = some (.ins C dx f1)) : IsRow (upd H a (.ins C' dx' f2)) x ns := by
  obtain ⟨b, e, hb⟩ := r
  exact ⟨b, e, by rw [upd_ne (ne_of hb h (by intro z; cases z))]; exact hb⟩
theorem nodup_take {ys : List Str} (h : ys.Nodup) {i : Nat} {z : Str} (e : ys[i]? = some z) : z ∉ ys.take i := by
  intro m
  obtain ⟨hi, e⟩ := List.getElem?_eq_some_iff.mp e
  obtain ⟨j, hj, ej⟩ := List.mem_take_iff_getElem.mp m
  exact List.pairwise_iff_getElem.mp h j i (by omega) hi (by omega) (ej.trans e.symm)
def AllOk (v : Nat) (ks : List Str) (tab : Str → List Int) : Prop := (∀ z ∈ ks, GoodT v (tab z)) ∧ ks.length < 60 ∧ ks.Nodup ∧ Plain ks ∧ ∀ ys, ys.Perm ks → sortedS ys = true → issuesB ys = true
section
variable {P : Program} {w : World} {K : PySem.W.Frag} {mg : Str → Option Value} {base : Heap} {C : Addr}
def spAre : Sp := fun vs H Q _ => ∃ (d : Addr) (v : Nat) (ks : List Str) (tab : Str → List Int), vs = [.ref d, .int v] ∧ v ≤ 4 ∧ TabD H d ks tab ∧ AllOk v ks tab ∧ ∀ H', Same H H' → Q (.bl true) H'
theorem ok_aretables {f fK fI : Addr} {fd fdK fdI : FuncData} (F : Fun K "_are_tables" "_are_tables" dAreTables f fd) (FK : FnOk P w K mg base CX0 4 fK fdK ["value"] spKeys)
    (kK : PySem.W.keepIn K (.ref fK) = true) (bK : Binds K fdK ["value"] []) (gK : mg "has_issues_as_keys" = some (.ref fK)) (FI : FnOk P w K mg base CX0 5 fI fdI ["value", "voters"] spIsT)
    (kI : PySem.W.keepIn K (.ref fI) = true) (bI : Binds K fdI ["value", "voters"] []) (gI : mg "_is_table" = some (.ref fI)) (ma : mg "all" = none) : FnOk P w K mg base CX0 6 f fd ["value", "voters"] spAre := by
  refine F.ok scAreTables (fun vs H Q E h => ?_) (fun cdv A outer s H vs Q E hr h => ?_)
  · obtain ⟨d, v, ks, tab, rfl, _⟩ := h
    rfl
  obtain ⟨d, v, ks, tab, rfl, hv, ⟨kvs, hd, hk⟩, ⟨g, hl, nd, hp, hi⟩, q⟩ := h
  refine ⟨_, pss_one (ps_ret (pe_and (pe_call FK (hr.mono (by decide)) (by rfl) gK kK bK .nil pass0 (pa_cons (pv 0) pa_nil))
    (pe_one (pe_callB (cr_all rfl) (by rfl) ma boot_all (pa_cons (pe_lock
      (pe_lc (te := tCall spIsT [] E0 (tCons (tVar 2) (tCons (tVar 1) tNil))) (own := [("table", 2)]) (g := gName 2) (tt := tYes) rfl scAreTables.nd (pi_values (pv 0)) (blkOk_by (N := ["value", "voters", "table"]) (sc := defScope dAreTables) (by decide +kernel))
        (fun _ _ _ _ _ => pg_name (i := 2) scAreTables.nd rfl (Or.inl rfl)) (fun _ _ _ _ _ => pts_nil)
        (fun _ _ _ _ _ => pe_call FI (hr.mono (by decide)) (by rfl) gI kI bI .nil pass0 (pa_cons (pv 2) (pa_cons (pv 1) pa_nil))))) pa_nil))))), ?_⟩
  have lk := hk.len
  refine ⟨.ref d, rfl, d, ks, rfl, ⟨kvs, hd, tab_keys hk⟩, hl, hp, fun H1 ys s1 pm so => ⟨true, congrArg V.bl (hi ys pm so), iteT ?_⟩⟩
  have hd1 := s1 _ _ hd
  refine ⟨d, _, hd1, trivial, fun od => ?_⟩
  have hf : upd H1 d (.frz od (.dK kvs)) d = some (.frz od (.dK kvs)) := upd_same
  refine ⟨.ref d, rfl, d, od, kvs, rfl, hf, fun D nD => ?_⟩
  refine lc_map (M := No) (walk_values (d := d) (o := od) (kvs := kvs)) (by omega) Jg.no nD (fun i _ y => y = .bl true) (fun _ _ _ _ _ h => h) (fun Hx g _ => g.toSame _ _ hf)
    (fun i x Hx Hx' Kk hi g1 _ hY hK => ?_) (fun Hx ys g _ eD hlen hq => ?_)
  · obtain ⟨rfl, k, hx⟩ := hY
    obtain ⟨z, hz, hz1, a, ea, ha⟩ := hk.get hx
    have ea' := ea.symm
    subst ea'
    have ha' : upd H1 d (.frz od (.dK kvs)) a = some (.tup ((tab z).map V.int)) := by
      rw [upd_ne (ne_of hd ha (by intro z; cases z)).symm]
      exact s1 _ _ ha
    exact ⟨rfl, .ref a, rfl, .int v, rfl, a, v, tab z, rfl, hv, g1.toSame _ _ ha', g z (List.mem_of_getElem? hz), fun H2 s2 => hK _ _ (Gw.same s2) Jg.no rfl⟩
  · have e : ys = (List.replicate kvs.length true).map V.bl := list_eq (f := V.bl) hlen (by rw [List.length_replicate]) fun i y hy => by
      have hi : i < kvs.length := by have := (List.getElem?_eq_some_iff.mp hy).1; omega
      exact ⟨true, by rw [List.getElem?_replicate, if_pos hi], hq i y hy⟩
    rw [e] at eD
    have hdD : D ≠ d := (ne_of_none hf nD).symm
    refine ⟨g.toSame _ _ hf, D, _, rfl, .of (by rw [upd_ne hdD]; exact eD), ?_⟩
    have e2 : (List.replicate kvs.length true).all id = true := by
      rw [List.all_eq_true]
      intro x hx
      exact (List.mem_replicate.mp hx).2
    rw [e2]
    exact q _ (s1.trans (same_lock hd1 g.toSame))
/-- Rule.__init__, for right tables -/
def spInit (C : Addr) : Sp := fun vs H Q _ => ∃ (a dx d : Addr) (v : Nat) (ks : List Str) (tab : Str → List Int), vs = [.ref a, .int v, .ref d] ∧ H a = some (.ins C dx []) ∧ 1 ≤ v ∧ v ≤ 4 ∧ TabD H d ks tab ∧ AllOk v ks tab ∧
  ∀ H' ys, Sb a H H' → ys.Perm ks → RuleAt C H' a v ys tab → Q .non H'
theorem ok_init {f fN fA : Addr} {fd fdN fdA : FuncData} (R : RuleC K C) (F : Fun K "__init__" "Rule.__init__" dInit f fd) (FN : FnOk P w K mg base CX0 2 fN fdN ["voters"] spNV)
    (kN : PySem.W.keepIn K (.ref fN) = true) (bN : Binds K fdN ["voters"] []) (gN : mg "need_voters" = some (.ref fN)) (FA : FnOk P w K mg base CX0 6 fA fdA ["value", "voters"] spAre)
    (kA : PySem.W.keepIn K (.ref fA) = true) (bA : Binds K fdA ["value", "voters"] []) (gA : mg "_are_tables" = some (.ref fA)) (mt : mg "tuple" = none) (mo : mg "sorted" = none) : FnOk P w K mg base CX0 7 f fd ["self", "voters", "tables"] (spInit C) := by
  refine F.ok scInit (fun vs H Q E h => ?_) (fun cdv A outer s H vs Q E hr h => ?_)
  · obtain ⟨a, dx, d, v, ks, tab, rfl, _⟩ := h
    rfl
  obtain ⟨a, dx, d, v, ks, tab, rfl, ha, h1, h4, ⟨kvs, hd, hk⟩, ok, q⟩ := h
  refine ⟨_, pss_cons (ps_expr (pe_call FN (hr.mono (by decide)) (by rfl) gN kN bN .nil pass0 (pa_cons (pv 1) pa_nil)))
    (pss_cons (ps_if (pt_not (pt_val (pe_call FA (hr.mono (by decide)) (by rfl) gA kA bA .nil pass0 (pa_cons (pv 2) (pa_cons (pv 1) pa_nil))))) (pss_one ps_never) pss_nil)
    (pss_cons (ps_fld (pv 0) (pv 1) rfl)
    (pss_cons (ps_fld (pv 0) (pe_callTy call_tuple_of (by rfl) mt boot_tup (pa_cons (pe_callB (call_sortedD rfl) (by rfl) mo (by decide +kernel) (pa_cons (pv 2) pa_nil)) pa_nil)) rfl)
    (pss_one (ps_fld (pv 0) (pe_dc (own := [("issue", 3)]) (g := gName 3) (tt := tYes) (tk := tVar 3) (tv := tDGet (tVar 2) (tVar 3)) rfl scInit.nd (pi_tup (pe_fld (pv 0) rfl)) (blkOk_by (N := ["self", "voters", "tables", "issue"]) (sc := defScope dInit) (by decide +kernel))
      (fun _ _ _ _ _ => pg_name (i := 3) scInit.nd rfl (Or.inl rfl)) (fun _ _ _ _ _ => pts_nil) (fun _ _ _ _ _ => pv 3) (fun _ _ _ _ _ => pe_dget (hu_of hr) (pv 2) (pv 3) (fun _ _ => rfl))) rfl))))), ?_⟩
  obtain ⟨g, hl, nd, hp, hi⟩ := ok
  refine ⟨.int v, rfl, v, rfl, h1, h4, fun H1 s1 => ?_⟩
  refine ⟨.ref d, rfl, .int v, rfl, d, v, ks, tab, rfl, h4, ⟨kvs, s1 _ _ hd, TabR.tk (Tk.same s1) hk⟩, ⟨g, hl, nd, hp, hi⟩, fun H2 s2 => ⟨true, rfl, iteF ?_⟩⟩
  have s12 := s1.trans s2
  refine ⟨.int v, rfl, .ref a, rfl, a, C, dx, [], rfl, s12 _ _ ha, R.cl, R.nV, (by decide), ?_⟩
  have hda : d ≠ a := ne_of hd ha (by intro z; cases z)
  have hd3 : upd H2 a (.ins C dx (putF "_voters" (.int v) [])) d = some (.dK kvs) := by
    rw [upd_ne hda]
    exact s12 _ _ hd
  refine ⟨.ref d, rfl, d, kvs, ks, rfl, .inl hd3, tab_keys hk, by omega, fun ys p pm so np => ?_⟩
  have np' : upd H2 a (.ins C dx (putF "_voters" (.int v) [])) p = none := np
  refine ⟨p, _, rfl, .inl ⟨.of upd_same, fun l nl => ?_⟩⟩
  have b2 : Sb a H2 (upd H2 a (.ins C dx (putF "_voters" (.int v) []))) := Sb.at
  have eA : upd (upd (upd H2 a (.ins C dx (putF "_voters" (.int v) []))) p (.lst (ys.map V.str))) l (.tup (ys.map V.str)) a = some (.ins C dx [("_voters", .int v)]) := by
    rw [upd_ne (ne_of_none (by rw [upd_ne (ne_of_none upd_same np')]; exact upd_same) nl), upd_ne (ne_of_none upd_same np')]
    exact upd_same
  refine ⟨.ref a, rfl, a, C, dx, [("_voters", .int v)], rfl, eA, R.cl, R.nI, (by show 1 < 1000; decide), ?_⟩
  have nA : ∀ {b : Addr} {o : HO}, H2 b = some o → b ≠ a → upd (upd (upd H2 a (.ins C dx (putF "_voters" (.int v) []))) p (.lst (ys.map V.str))) l (.tup (ys.map V.str)) b = some o := fun {b o} e n => by
    have e1 : upd H2 a (.ins C dx (putF "_voters" (.int v) [])) b = some o := by
      rw [upd_ne n]
      exact e
    have e2 : upd (upd H2 a (.ins C dx (putF "_voters" (.int v) []))) p (.lst (ys.map V.str)) b = some o := by
      rw [upd_ne (ne_of_none e1 np')]
      exact e1
    rw [upd_ne (ne_of_none e2 nl)]
    exact e2
  have eL : upd (upd (upd H2 a (.ins C dx (putF "_voters" (.int v) []))) p (.lst (ys.map V.str))) l (.tup (ys.map V.str)) l = some (.tup (ys.map V.str)) := upd_same
  generalize upd (upd (upd H2 a (.ins C dx (putF "_voters" (.int v) []))) p (.lst (ys.map V.str))) l (.tup (ys.map V.str)) = H4 at eA nA eL ⊢
  have la : l ≠ a := ne_of eL eA (by intro z; cases z)
  have pf : putF "_issues" (.ref l) [("_voters", V.int v)] = ([("_voters", .int v), ("_issues", .ref l)] : List (Str × V)) := by
    unfold putF
    rw [if_neg (by decide)]
    rfl
  rw [pf]
  have nB : ∀ {b : Addr} {o : HO}, H2 b = some o → b ≠ a → upd H4 a (.ins C dx [("_voters", .int v), ("_issues", .ref l)]) b = some o := fun {b o} e n => by
    rw [upd_ne n]
    exact nA e n
  have eB : upd H4 a (.ins C dx [("_voters", .int v), ("_issues", .ref l)]) a = some (.ins C dx [("_voters", .int v), ("_issues", .ref l)]) := upd_same
  have lB : upd H4 a (.ins C dx [("_voters", .int v), ("_issues", .ref l)]) l = some (.tup (ys.map V.str)) := by
    rw [upd_ne la]
    exact eL
  generalize upd H4 a (.ins C dx [("_voters", .int v), ("_issues", .ref l)]) = H5 at eB nB lB ⊢
  have hdB := nB (s12 _ _ hd) hda
  have hkB : All2 (TabR H5 tab) kvs ks := hk.imp fun x y r => ⟨r.1, by
    obtain ⟨b, e, hb⟩ := r.2
    exact ⟨b, e, nB (s12 _ _ hb) (ne_of hb ha (by intro z; cases z))⟩⟩
  have ly := pm.length_eq
  refine ⟨.ref a, rfl, a, C, dx, _, .ref l, rfl, eB, R.cl, R.nI, rfl, l, rfl, ⟨_, .of lB⟩, fun D nD => ?_⟩
  refine dc_tup (K := K) (a := l) (xs := ys.map V.str) (fun i Hx => Same H5 Hx ∧ ∃ kv2, Hx D = some (.dK kv2) ∧ All2 (TabR Hx tab) kv2 (ys.take i)) ⟨same_new nD, [], upd_same, .nil⟩ (fun i Hx _ h => .of (h.1 _ _ lB)) (fun i x Hx hx h => ?_) (fun Hx h => ?_)
  · obtain ⟨sx, kv2, eD, a2⟩ := h
    rw [List.getElem?_map] at hx
    cases hz : ys[i]? with
    | none => rw [hz] at hx; cases hx
    | some z =>
      rw [hz] at hx
      cases hx
      obtain ⟨x', g1, r1⟩ := tab_get hkB (pm.mem_iff.mp (List.mem_of_getElem? hz))
      have l2 := a2.len
      rw [List.length_take] at l2
      refine ⟨rfl, ?_⟩
      refine yes_of ?_
      refine ⟨.str z, rfl, .ref d, rfl, .str z, rfl, d, x', rfl, ?_, kv2, .inr z, rfl, eD, small60 (by omega), ?_⟩
      · rw [← g1]
        exact DGet.k (k := Sum.inr z) (sx _ _ hdB)
      · rw [putK_new x' (tab_none a2 (nodup_take (pm.nodup_iff.mpr nd) hz))]
        refine ⟨fun b o e => ?_, _, upd_same, ?_⟩
        · rw [upd_ne (ne_of_none e nD)]
          exact sx _ _ e
        · rw [List.take_add_one, hz]
          refine (a2.imp fun _ _ r => ⟨r.1, row_at r.2 eD⟩).app (.cons ⟨rfl, row_at (r1.tk (Tk.same sx)) eD⟩ .nil)
  · obtain ⟨sx, kv2, eD, a2⟩ := h
    rw [List.length_map, List.take_length] at a2
    have aX := sx _ _ eB
    have lX := sx _ _ lB
    have pg : putF "_tables" (.ref D) [("_voters", V.int v), ("_issues", .ref l)] = ruleF v l D := by
      unfold putF
      rw [if_neg (by decide)]
      unfold putF
      rw [if_neg (by decide)]
      rfl
    refine ⟨.ref a, rfl, a, C, dx, _, rfl, aX, R.cl, R.nT, (by show 2 < 1000; decide), ?_⟩
    rw [pg]
    refine q _ ys (fun b o n e => ?_) pm ⟨dx, l, D, upd_same, ?_, kv2, ?_, a2.imp fun _ _ r => ⟨r.1, row_ins r.2 aX⟩⟩
    · rw [upd_ne n]
      exact sx _ _ (nB (s12 _ _ e) n)
    · rw [upd_ne la]
      exact lX
    · rw [upd_ne (ne_of eD aX (by intro z; cases z))]
      exact eD
end
end Ow

set_option Elab.async false
set_option linter.all false
set_option maxRecDepth 100000
set_option maxHeartbeats 4000000
set_option exponentiation.threshold 3000
namespace Ow
open PySem PySem.Spec PyProof.Rows L2
theorem scFollowed : FnScope ["self", "voter", "table", "issue"] ["self"] (defScope dFollowed) := ⟨rfl, rfl, rfl, by decide +kernel, rfl, by decide +kernel, by decide +kernel⟩
theorem scHeard : FnScope ["self", "issue", "table", "steps", "voter", "step"] ["self", "issue"] (defScope dHeard) := ⟨rfl, rfl, rfl, by decide +kernel, rfl, by decide +kernel, by decide +kernel⟩
/-! ### rows as data -/
def rowD (ns : List Int) : PyData := .tuple (ns.map .int)
def rowsD (rs : List (List Int)) : PyData := .tuple (rs.map rowD)
theorem dp_ints {K : PySem.W.Frag} {H : Hp} : ∀ ns : List Int, DpAll K H (ns.map V.int) (ns.map .int)
  | [] => .nil
  | n :: ns => .cons (.int n) (dp_ints ns)
theorem dp_row {K : PySem.W.Frag} {H : Hp} {v : V} {ns : List Int} (h : IsRow H v ns) : Dp K H v (rowD ns) := by
  obtain ⟨a, rfl, h⟩ := h
  exact .tup (.of h) (dp_ints ns)
theorem dp_all {K : PySem.W.Frag} {H : Hp} {xs : List V} {rs : List (List Int)} (h : All2 (IsRow H) xs rs) : DpAll K H xs (rs.map rowD) := by
  induction h with
  | nil => exact .nil
  | cons r _ ih => exact .cons (dp_row r) ih
theorem dp_rows {K : PySem.W.Frag} {H : Hp} {v : V} {rs : List (List Int)} (h : IsRows H v rs) : Dp K H v (rowsD rs) := by
  obtain ⟨a, xs, rfl, h, g⟩ := h
  exact .tup (.of h) (dp_all g)
theorem eqv_ints : ∀ ns ms : List Int, PyData.eqvAll (ns.map .int) (ms.map .int) = decide (ns = ms)
  | [], [] => rfl
  | [], m :: ms => rfl
  | n :: ns, [] => rfl
  | n :: ns, m :: ms => by
    show ((n == m) && PyData.eqvAll (ns.map .int) (ms.map .int)) = _
    rw [eqv_ints ns ms]
    by_cases h : n = m
    · subst h
      by_cases g : ns = ms
      · subst g
        simp
      · simp [g]
    · simp [h]
theorem eqv_row (ns ms : List Int) : PyData.eqv (rowD ns) (rowD ms) = decide (ns = ms) := eqv_ints ns ms
theorem eqv_alls : ∀ rs ts : List (List Int), PyData.eqvAll (rs.map rowD) (ts.map rowD) = decide (rs = ts)
  | [], [] => rfl
  | [], m :: ms => rfl
  | n :: ns, [] => rfl
  | n :: ns, m :: ms => by
    show (PyData.eqv (rowD n) (rowD m) && PyData.eqvAll (ns.map rowD) (ms.map rowD)) = _
    rw [eqv_alls ns ms, eqv_row]
    by_cases h : n = m
    · subst h
      by_cases g : ns = ms
      · subst g
        simp
      · simp [g]
    · simp [h]
theorem eqv_rows (rs ts : List (List Int)) : PyData.eqv (rowsD rs) (rowsD ts) = decide (rs = ts) := eqv_alls rs ts
theorem lay_ints : ∀ ns : List Int, PyData.canLayAll0 (ns.map .int) = true
  | [] => rfl
  | n :: ns => by
    show (true && PyData.canLayAll0 (ns.map .int)) = true
    rw [lay_ints ns]
    rfl
theorem depth_ints : ∀ ns : List Int, PyData.depthAll (ns.map .int) = 0
  | [] => rfl
  | n :: ns => by
    show max 0 (PyData.depthAll (ns.map .int)) = 0
    rw [depth_ints ns]
    rfl
theorem lay_row (ns : List Int) : PyData.canLay0 (rowD ns) = true := lay_ints ns
theorem depth_row (ns : List Int) : PyData.depth (rowD ns) = 1 := by
  show PyData.depthAll (ns.map .int) + 1 = 1
  rw [depth_ints]
theorem shaped_row (ns : List Int) : SeqAt.shaped (rowD ns) = true := by
  unfold SeqAt.shaped
  rw [lay_row, depth_row]
  rfl
theorem lay_alls : ∀ rs : List (List Int), PyData.canLayAll0 (rs.map rowD) = true
  | [] => rfl
  | n :: ns => by
    show (PyData.canLay0 (rowD n) && PyData.canLayAll0 (ns.map rowD)) = true
    rw [lay_alls ns, lay_row]
    rfl
theorem depth_alls : ∀ rs : List (List Int), PyData.depthAll (rs.map rowD) ≤ 1
  | [] => Nat.zero_le _
  | n :: ns => by
    show max (PyData.depth (rowD n)) (PyData.depthAll (ns.map rowD)) ≤ 1
    have := depth_alls ns
    rw [depth_row]
    omega
theorem shaped_rows (rs : List (List Int)) : SeqAt.shaped (rowsD rs) = true := by
  unfold SeqAt.shaped
  have h : PyData.canLay0 (rowsD rs) = true := lay_alls rs
  have g : PyData.depth (rowsD rs) ≤ 64 := by
    show PyData.depthAll (rs.map rowD) + 1 ≤ 64
    have := depth_alls rs
    omega
  rw [h, decide_eq_true g]
  rfl
theorem hu64 {A : Around} {k : Nat} (hr : Room k A) : A.units + 64 < cLine := hr.units
section
variable {P : Program} {w : World} {K : PySem.W.Frag} {mg : Str → Option Value} {base : Heap} {C : Addr}
def spGet (C : Addr) : Sp := fun vs H Q _ => ∃ (a : Addr) (z : Str) (v : Nat) (ys : List Str) (tab : Str → List Int), vs = [.ref a, .str z] ∧ RuleAt C H a v ys tab ∧ z ∈ ys ∧ ∀ H' x, Same H H' → IsRow H' x (tab z) → Q x H'
theorem in_strs {z : Str} : ∀ {ys : List Str}, z ∈ ys → inV (.str z) (ys.map V.str) = true
  | y :: ys, h => by
    unfold inV
    rw [List.map_cons, List.any_cons]
    rcases List.mem_cons.mp h with rfl | h
    · have : eqV (.str z) (.str z) = true := by show (z == z) = true; simp
      rw [this]
      rfl
    · have := in_strs h
      unfold inV at this
      rw [this, Bool.or_true]
theorem flat_strs (ys : List Str) : (ys.map V.str).all flatV = true := by
  rw [List.all_eq_true]
  intro x hx
  obtain ⟨z, _, rfl⟩ := List.mem_map.mp hx
  rfl
theorem ok_get {f : Addr} {fd : FuncData} (R : RuleC K C) (F : Fun K "__getitem__" "Rule.__getitem__" dGetitem f fd) : FnOk P w K mg base CX0 1 f fd ["self", "issue"] (spGet C) := by
  refine F.ok scGet (fun vs H Q E h => ?_) (fun cdv A outer s H vs Q E hr h => ?_)
  · obtain ⟨a, z, v, ys, tab, rfl, _⟩ := h
    rfl
  obtain ⟨a, z, v, ys, tab, rfl, ⟨dx, t, d, ha, ht, kvs, hd, hk⟩, hz, q⟩ := h
  refine ⟨_, pss_cons (ps_if (pt_cmpR op_notIn_seq (pv 1) (pe_fld (pv 0) rfl) (by rfl)) (pss_one ps_never) pss_nil)
    (pss_one (ps_ret (pe_dget (hu_of hr) (pe_fld (pv 0) rfl) (pv 1) (fun _ _ => rfl)))), ?_⟩
  refine ⟨.str z, rfl, .ref a, rfl, a, C, dx, _, .ref t, rfl, ha, R.cl, R.nI, rfl, t, _, rfl, .inr (.of ht), rfl, flat_strs ys, _, rfl, ?_⟩
  rw [in_strs hz]
  refine iteF ?_
  obtain ⟨x, g1, r1⟩ := tab_get hk hz
  refine ⟨.ref a, rfl, a, C, dx, _, .ref d, rfl, ha, R.cl, R.nT, rfl, .str z, rfl, d, x, rfl, ?_, q H x (Same.refl H) r1⟩
  rw [← g1]
  exact DGet.k (k := Sum.inr z) hd
end
end Ow

set_option Elab.async false
set_option linter.all false
set_option maxRecDepth 100000
set_option maxHeartbeats 4000000
set_option exponentiation.threshold 3000
namespace Ow
open PySem PySem.Spec PyProof.Rows L2
/-- the class has its own [] -/
structure RuleG (P : Program) (w : World) (K : PySem.W.Frag) (mg : Str → Option Value) (base : Heap) (C g : Addr) (gd : FuncData) : Prop where
  hn : PySem.W.noSeq K C = true
  hm : Meth K C "__getitem__" g
  fn : PySem.W.fnIn K g = true
  F : FnOk P w K mg base CX0 1 g gd ["self", "issue"] (spGet C)
  b : Binds K gd ["self", "issue"] []
def followB (v : Nat) (ys : List Str) (tab : Str → List Int) (i : Nat) : Bool := ys.all fun z => decide (tab z = followN v i)
def followV (v : Nat) (ys : List Str) (tab : Str → List Int) : V := match (List.range v).find? (followB v ys tab) with
  | some i => .int (i : Nat)
  | none => .non
theorem follow_some {v i : Nat} {ys : List Str} {tab : Str → List Int} (hi : i < v) (h : followB v ys tab i = true) (l : ∀ j < i, followB v ys tab j = false) : followV v ys tab = .int (i : Nat) := by
  have : (List.range v).find? (followB v ys tab) = some i := List.find?_range_eq_some.mpr ⟨h, List.mem_range.mpr hi, fun j hj => by rw [l j hj]; rfl⟩
  unfold followV
  rw [this]
theorem follow_none {v : Nat} {ys : List Str} {tab : Str → List Int} (l : ∀ j < v, followB v ys tab j = false) : followV v ys tab = .non := by
  have : (List.range v).find? (followB v ys tab) = none := List.find?_eq_none.mpr fun j hj => by rw [l j (List.mem_range.mp hj)]; decide
  unfold followV
  rw [this]
def rShl : R2 := fun x y H Q => ∃ (i : Int) (k : Nat), x = .int i ∧ y = .int (k : Int) ∧ CShl i (k : Int) ∧ Q (.int (i * 2 ^ k)) H
def heardN (v : Nat) (ns : List Int) : List Nat := (List.range v).filter fun i => hangsB ns (2 ^ (v - 1 - i))
section
variable {P : Program} {w : World} {K : PySem.W.Frag} {mg : Str → Option Value} {base : Heap} {C : Addr}
def spFollowed (C : Addr) : Sp := fun vs H Q _ => ∃ (a : Addr) (v : Nat) (ys : List Str) (tab : Str → List Int), vs = [.ref a] ∧ v ≤ 4 ∧ ys.length < 60 ∧ RuleAt C H a v ys tab ∧ ∀ H', Same H H' → Q (followV v ys tab) H'
theorem ok_followed {f fT g : Addr} {fd fdT gd : FuncData} (R : RuleC K C) (G : RuleG P w K mg base C g gd) (F : Fun K "followed" "Rule.followed" dFollowed f fd) (FT : FnOk P w K mg base CX0 2 fT fdT ["voters", "voter"] spFollow)
    (kT : PySem.W.keepIn K (.ref fT) = true) (bT : Binds K fdT ["voters", "voter"] []) (gT : mg "_follow_table" = some (.ref fT)) (mr : mg "range" = none) (ma : mg "all" = none) : FnOk P w K mg base CX0 3 f fd ["self"] (spFollowed C) := by
  refine F.ok scFollowed (fun vs H Q E h => ?_) (fun cdv A outer s H vs Q E hr h => ?_)
  · obtain ⟨a, v, ys, tab, rfl, _⟩ := h
    rfl
  obtain ⟨a, v, ys, tab, rfl, hv, hl, hR, q⟩ := h
  refine ⟨_, pss_cons (ps_for PassesOwn.never rfl (pi_range1 (by rfl) mr (pa_cons (pe_fld (pv 0) rfl) pa_nil)) (pg_name (i := 1) scFollowed.nd rfl (.inl rfl))
      (pss_cons (ps_set (i := 2) scFollowed.nd rfl (.inr rfl) (pe_call FT (hr.mono (by decide)) (by rfl) gT kT bT .nil pass0 (pa_cons (pe_fld (pv 0) rfl) (pa_cons (pv 1) pa_nil))))
      (pss_one (ps_if (pt_val (pe_callB (cr_all rfl) (by rfl) ma boot_all (pa_cons
        (pe_lc (te := tOp (rEqD K) (tIxO C (spGet C) E0 (tVar 0) (tVar 3)) (tVar 2)) (own := [("issue", 3)]) (g := gName 3) (tt := tYes) rfl scFollowed.nd (pi_tup (pe_fld (pv 0) rfl)) (blkOk_by (N := ["self", "voter", "table", "issue"]) (sc := defScope dFollowed) (by decide +kernel))
          (fun _ _ _ _ _ => pg_name (i := 3) scFollowed.nd rfl (Or.inl rfl)) (fun _ _ _ _ _ => pts_nil)
          (fun _ _ _ _ _ => pe_cmpR (op_eqD (hu64 hr)) (pe_ixO (pv 0) (pv 3) G.hn G.hm G.fn G.F (hr.mono (by decide)) G.b pass0) (pv 2) (nomark _))) pa_nil)))
        (pss_one (ps_ret (pv 1))) pss_nil))))
    (pss_one (ps_ret pe_non)), ?_⟩
  obtain ⟨dx, t, d, ha, ht, _⟩ := id hR
  refine ⟨.ref a, rfl, a, C, dx, _, .int v, rfl, ha, R.cl, R.nV, rfl, v, rfl, by omega, by omega, ?_⟩
  refine for_range (lo := 0) (n := v) (fun i σ Hx => ∃ y1 y2 y3, σ = [some (.ref a), y1, y2, y3] ∧ Same H Hx ∧ ∀ j < i, followB v ys tab j = false)
    ⟨none, none, none, rfl, Same.refl H, fun j hj => absurd hj (Nat.not_lt_zero _)⟩ (fun i σ Hx hi hP => ?_) (fun σ Hx hP => ?_)
  · obtain ⟨y1, y2, y3, rfl, sx, hj⟩ := hP
    have hax := sx _ _ ha
    refine ⟨.ref a, rfl, a, C, dx, _, .int v, rfl, hax, R.cl, R.nV, rfl, .int (0 + (i : Int)), rfl, v, i, by rw [Int.zero_add]; rfl, hv, hi, fun H1 p s1 hp => ?_⟩
    have sx1 := sx.trans s1
    refine ⟨.ref a, rfl, a, C, dx, _, .ref t, rfl, sx1 _ _ ha, R.cl, R.nI, rfl, t, rfl, ⟨_, .of (sx1 _ _ ht)⟩, fun D nD => ?_⟩
    refine lc_map (M := No) (walk_tup (K := K) (a := t) (xs := ys.map V.str)) (by rw [List.length_map]; omega) Jg.no nD (fun k _ y => ∃ z, ys[k]? = some z ∧ y = .bl (decide (tab z = followN v i))) (fun _ _ _ _ _ h => h) (fun Hy g _ => .of (g.toSame _ _ (sx1 _ _ ht)))
      (fun k x Hy Hy' Kk hk g _ hY hK => ?_) (fun Hy zs g _ eD hlen hq => ?_)
    · obtain ⟨rfl, hx⟩ := hY
      rw [List.getElem?_map] at hx
      cases hz : ys[k]? with
      | none => rw [hz] at hx; cases hx
      | some z =>
        rw [hz] at hx
        cases hx
        have sy := sx1.trans g.toSame
        refine ⟨rfl, .ref a, rfl, .str z, rfl, a, dx, _, rfl, sy _ _ ha, a, z, v, ys, tab, rfl, hR.tk (Tk.same sy), List.mem_of_getElem? hz, fun H2 x s2 hx => ?_⟩
        refine ⟨.ref p, rfl, _, _, dp_row hx, dp_row ⟨p, rfl, (g.toSame.trans s2) _ _ hp⟩, shaped_row _, shaped_row _, hK _ _ (Gw.same s2) Jg.no ⟨z, hz, congrArg V.bl (eqv_row _ _)⟩⟩
    · have e : zs = (ys.map fun z => decide (tab z = followN v i)).map V.bl := by
        rw [List.map_map]
        exact list_eq (f := V.bl ∘ fun z : Str => decide (tab z = followN v i)) hlen (by rw [List.length_map]) hq
      rw [e] at eD
      refine ⟨D, _, rfl, .of eD, _, rfl, ?_⟩
      have e2 : (ys.map fun z => decide (tab z = followN v i)).all id = followB v ys tab i := by rw [List.all_map]; rfl
      rw [e2]
      have sy := sx1.trans g.toSame
      cases hb : followB v ys tab i with
      | true =>
        refine iteT ⟨.int (0 + (i : Int)), rfl, ?_⟩
        have := q Hy sy
        rw [follow_some hi hb hj] at this
        rw [Int.zero_add]
        exact this
      | false =>
        refine iteF ⟨_, _, _, rfl, sy, fun j hj' => ?_⟩
        by_cases hji : j = i
        · rw [hji]
          exact hb
        · exact hj j (by omega)
  · obtain ⟨y1, y2, y3, rfl, sx, hj⟩ := hP
    have := q Hx sx
    rw [follow_none hj] at this
    exact this
def spHeard (C : Addr) : Sp := fun vs H Q _ => ∃ (a : Addr) (z : Str) (v : Nat) (ys : List Str) (tab : Str → List Int), vs = [.ref a, .str z] ∧ v ≤ 4 ∧ RuleAt C H a v ys tab ∧ z ∈ ys ∧ (tab z).length = 2 ^ v ∧
  ∀ H' p, Same H H' → H' p = some (.tup ((heardN v (tab z)).map fun i => V.int (i : Nat))) → Q (.ref p) H'
theorem ok_heard {f fT g : Addr} {fd fdT gd : FuncData} (R : RuleC K C) (G : RuleG P w K mg base C g gd) (F : Fun K "heard" "Rule.heard" dHeard f fd) (FT : FnOk P w K mg base CX0 1 fT fdT ["table", "step"] spHangs)
    (kT : PySem.W.keepIn K (.ref fT) = true) (bT : Binds K fdT ["table", "step"] []) (gT : mg "_hangs_on" = some (.ref fT)) (mr : mg "range" = none) (mt : mg "tuple" = none) (me : mg "enumerate" = none) : FnOk P w K mg base CX0 3 f fd ["self", "issue"] (spHeard C) := by
  refine F.ok scHeard (fun vs H Q E h => ?_) (fun cdv A outer s H vs Q E hr h => ?_)
  · obtain ⟨a, z, v, ys, tab, rfl, _⟩ := h
    rfl
  obtain ⟨a, z, v, ys, tab, rfl, hv, hR, hz, hlen, q⟩ := h
  refine ⟨_, pss_cons (ps_set (i := 2) scHeard.nd rfl (.inr rfl) (pe_ixO (pv 0) (pv 1) G.hn G.hm G.fn G.F (hr.mono (by decide)) G.b pass0))
    (pss_cons (ps_setLc (i := 3) (te := tOp rShl (tC (.int 1)) (tOp (rI0 fun i j => .int (i - j)) (tOp (rI0 fun i j => .int (i - j)) (tFld K (tVar 0) "_voters") (tC (.int 1))) (tVar 4))) (own := [("voter", 4)]) (g := gName 4) (tt := tYes) rfl scHeard.nd rfl rfl (sw_true rfl rfl rfl (by decide +kernel)) (pi_range1 (by rfl) mr (pa_cons (pe_fld (pv 0) rfl) pa_nil)) (blkOk_by (N := ["self", "issue", "table", "steps", "voter", "step"]) (sc := defScope dHeard) (by decide +kernel))
      (fun _ _ _ _ _ => pg_name (i := 4) scHeard.nd rfl (Or.inl rfl)) (fun _ _ _ _ _ => pts_nil)
      (fun _ _ _ _ _ => pe_op op_shlN pe_int (pe_op op_sub (pe_op op_sub (pe_fld (pv 0) rfl) pe_int) (pv 4))))
    (pss_one (ps_ret (pe_callTy call_tuple_of (by rfl) mt boot_tup (pa_cons
      (pe_lc (te := tVar 4) (own := [("voter", 4), ("step", 5)]) (g := gTup K 2 (gCons (gName 4) (gCons (gName 5) gNil))) rfl scHeard.nd (pi_enum (by rfl) me (pa_cons (pv 3) pa_nil)) (blkOk_by (N := ["self", "issue", "table", "steps", "voter", "step"]) (sc := defScope dHeard) (by decide +kernel))
        (fun _ _ _ _ _ => pg_tup rfl (pgs_cons (pg_name (i := 4) scHeard.nd rfl (Or.inl rfl)) (pgs_cons (pg_name (i := 5) scHeard.nd rfl (Or.inl rfl)) pgs_nil)))
        (fun _ _ _ _ _ => pts_one (pt_val (pe_call FT (hr.mono (by decide)) (by rfl) gT kT bT .nil pass0 (pa_cons (pv 2) (pa_cons (pv 5) pa_nil)))))
        (fun _ _ _ _ _ => pv 4)) pa_nil))))), ?_⟩
  obtain ⟨dx, t, d, ha, ht, _⟩ := id hR
  refine ⟨.ref a, rfl, .str z, rfl, a, dx, _, rfl, ha, a, z, v, ys, tab, rfl, hR, hz, fun H1 x s1 hx => ?_⟩
  obtain ⟨b, rfl, hb⟩ := hx
  refine ⟨.ref a, rfl, a, C, dx, _, .int v, rfl, s1 _ _ ha, R.cl, R.nV, rfl, v, rfl, by omega, by omega, fun D nD => ?_⟩
  refine lc_map (M := No) (walk_range (lo := 0) (n := v)) (by omega) Jg.no nD (fun i _ y => ∃ k, (List.range v)[i]? = some k ∧ y = .int ((2 ^ (v - 1 - k) : Nat) : Int)) (fun _ _ _ _ _ h => h) (fun Hx _ _ => trivial)
    (fun i x Hx Hx' Kk hi g _ hY hK => ?_) (fun Hx ws g _ eD hlen' hq => ?_)
  · obtain ⟨rfl, rfl⟩ := hY
    refine ⟨rfl, .ref a, rfl, a, C, dx, _, .int v, rfl, (s1.trans g.toSame) _ _ ha, R.cl, R.nV, rfl, _, _, rfl, rfl, _, rfl, _, _, rfl, rfl, 1, v - 1 - i, rfl, ?_, shl_ok (n := 1) (by decide) (by omega), hK _ _ (Gw.refl _) Jg.no ⟨i, List.getElem?_range hi, ?_⟩⟩
    · exact congrArg V.int (by omega)
    · refine congrArg V.int ?_
      rw [Int.one_mul]
      exact (Int.natCast_pow 2 _).symm
  · have e : ws = (List.range v).map fun k => V.int ((2 ^ (v - 1 - k) : Nat) : Int) := list_eq (f := fun k : Nat => V.int ((2 ^ (v - 1 - k) : Nat) : Int)) hlen' (by rw [List.length_range]) hq
    rw [e] at eD
    have sx := s1.trans g.toSame
    have hbx := g.toSame _ _ hb
    refine ⟨.ref D, rfl, D, _, rfl, .of eD, fun D2 nD2 => ?_⟩
    refine lc_it (walk_enum (K := K) (a := D) (xs := (List.range v).map fun k => V.int ((2 ^ (v - 1 - k) : Nat) : Int))) (fun i Hy => Same Hx Hy ∧ Hy D2 = some (.lst (((List.range i).filter fun i => hangsB (tab z) (2 ^ (v - 1 - i))).map fun i => V.int (i : Nat))))
      ⟨same_new nD2, upd_same⟩ (fun i Hy _ h => .of (h.1 _ _ eD)) (fun i x Hy Hy' hi h hY => ?_) (fun Hy h => ?_)
    · obtain ⟨sy, eD2⟩ := h
      obtain ⟨T, x, y, rfl, nT, rfl, hx, hy⟩ := hY
      cases hx
      have hi : i < v := by rw [List.length_map, List.length_range] at hi; exact hi
      have hy : ((List.range v).map fun k => V.int ((2 ^ (v - 1 - k) : Nat) : Int))[i]? = some y := hy
      rw [List.getElem?_map, List.getElem?_range hi] at hy
      cases hy
      refine ⟨T, [.int i, .int ((2 ^ (v - 1 - i) : Nat) : Int)], rfl, .of upd_same, rfl, _, _, rfl, _, _, rfl, rfl, rfl, ?_⟩
      refine ⟨.ref b, rfl, .int _, rfl, b, v, v - 1 - i, tab z, rfl, ?_, hv, by omega, hlen, fun H2 s2 => ⟨_, rfl, ?_⟩⟩
      · rw [upd_ne (ne_of_none (sy _ _ hbx) nT)]
        exact sy _ _ hbx
      have eD3 : H2 D2 = some (.lst (((List.range i).filter fun i => hangsB (tab z) (2 ^ (v - 1 - i))).map fun i => V.int (i : Nat))) := s2 _ _ (same_new nT _ _ eD2)
      have sy2 : Same Hx H2 := sy.trans ((same_new nT).trans s2)
      cases hb2 : hangsB (tab z) (2 ^ (v - 1 - i)) with
      | true =>
        refine iteT ⟨.int i, rfl, _, eD3, ?_, fun b o e => ?_, ?_⟩
        · rw [List.length_map]
          refine small60 (Nat.le_trans (List.length_filter_le _ _) ?_)
          rw [List.length_range]
          omega
        · rw [upd_ne (ne_of_none e nD2)]
          exact sy2 _ _ e
        · rw [upd_same, List.range_succ, List.filter_append, List.map_append]
          congr 3
          rw [List.filter_cons, hb2]
          rfl
      | false =>
        refine iteF ⟨sy2, ?_⟩
        rw [eD3, List.range_succ, List.filter_append]
        congr 3
        rw [List.filter_cons, hb2]
        simp
    · obtain ⟨sy, eD2⟩ := h
      rw [List.length_map, List.length_range] at eD2
      exact ⟨D2, _, rfl, .inl ⟨.of eD2, fun q1 nq => q _ q1 (sx.trans (sy.trans (same_new nq))) upd_same⟩⟩
end
end Ow

set_option Elab.async false
set_option linter.all false
set_option maxRecDepth 100000
set_option maxHeartbeats 4000000
set_option exponentiation.threshold 3000
namespace Ow
open PySem PySem.Spec PyProof.Rows L2
theorem scVoterTables : FnScope ["size", "voters", "voter", "table", "votes"] ["size", "voters", "voter"] (defScope dVoterTables) := ⟨rfl, rfl, rfl, by decide +kernel, rfl, by decide +kernel, by decide +kernel⟩
theorem scAnyTable : FnScope ["jug", "voters", "lot", "every", "votes", "some", "voter", "odd"] ["jug", "voters"] (defScope dAnyTable) := ⟨rfl, rfl, rfl, by decide +kernel, rfl, by decide +kernel, by decide +kernel⟩
theorem rowsN_bit : ∀ v, ∀ r ∈ rowsN v, ∀ b ∈ r, b = 0 ∨ b = 1
  | 0, r, hr, b, hb => by rw [List.mem_singleton.mp hr] at hb; cases hb
  | n + 1, r, hr, b, hb => by
    obtain ⟨q, hq, hr⟩ := List.mem_flatMap.mp hr
    have ih := rowsN_bit n q hq
    simp only [List.mem_cons, List.not_mem_nil, or_false] at hr
    rcases hr with rfl | rfl
    · rcases List.mem_append.mp hb with hb | hb
      · exact ih b hb
      · exact .inl (List.mem_singleton.mp hb)
    · rcases List.mem_append.mp hb with hb | hb
      · exact ih b hb
      · exact .inr (List.mem_singleton.mp hb)
theorem rows_first : ∀ v ≤ 4, (rowsN v)[0]? = some (List.replicate v 0) := by decide
theorem rows_last : ∀ v ≤ 4, (rowsN v)[2 ^ v - 1]? = some (List.replicate v 1) := by decide
/-- a table made row by row -/
theorem good_of {v : Nat} (h1 : 1 ≤ v) (h4 : v ≤ 4) {g : List Int → Int} (hb : ∀ r ∈ rowsN v, g r = 0 ∨ g r = 1) (h0 : g (List.replicate v 0) = 0) (hl : g (List.replicate v 1) = 1) : GoodT v ((rowsN v).map g) := by
  refine ⟨by rw [List.length_map, rowsN_len], fun n hn => ?_, ?_, ?_⟩
  · obtain ⟨r, hr, rfl⟩ := List.mem_map.mp hn
    exact hb r hr
  · rw [List.getElem?_map, rows_first v h4]
    show some _ = _
    rw [h0]
  · rw [List.getElem?_map, rows_last v h4]
    show some _ = _
    rw [hl]
theorem follow_good {v i : Nat} (h4 : v ≤ 4) (hi : i < v) : GoodT v (followN v i) := by
  refine good_of (by omega) h4 (fun r hr => ?_) ?_ ?_
  · have lr := rowsN_size v r hr
    rw [List.getD_eq_getElem?_getD, List.getElem?_eq_getElem (by omega)]
    exact rowsN_bit v r hr _ (List.getElem_mem _)
  · rw [List.getD_eq_getElem?_getD, List.getElem?_replicate, if_pos hi]
    rfl
  · rw [List.getD_eq_getElem?_getD, List.getElem?_replicate, if_pos hi]
    rfl
section
variable {P : Program} {w : World} {K : PySem.W.Frag} {mg : Str → Option Value} {base : Heap}
def spVT : Sp := fun vs H Q _ => ∃ n v i : Nat, vs = [.int n, .int v, .int i] ∧ 1 ≤ n ∧ n ≤ 60 ∧ v ≤ 4 ∧ i < v ∧ ∀ H' x, Same H H' → IsRows H' x (List.replicate n (followN v i)) → Q x H'
theorem all_rep {α β : Type} {R : α → β → Prop} {x : α} {y : β} (h : R x y) : ∀ n, All2 R (List.replicate n x) (List.replicate n y)
  | 0 => .nil
  | n + 1 => .cons h (all_rep h n)
theorem rep_flat {α : Type} (x : α) : ∀ n, (List.replicate n [x]).flatten = List.replicate n x
  | 0 => rfl
  | n + 1 => by rw [List.replicate_succ, List.flatten_cons, rep_flat x n]; rfl
theorem ok_votertables {f fA : Addr} {fd fdA : FuncData} (F : Fun K "_law_voter_tables" "_law_voter_tables" dVoterTables f fd) (FA : FnOk P w K mg base CX0 1 fA fdA ["size"] spRowsL)
    (kA : PySem.W.keepIn K (.ref fA) = true) (bA : Binds K fdA ["size"] []) (gA : mg "_law_all_rows" = some (.ref fA)) (mt : mg "tuple" = none) : FnOk P w K mg base CX0 2 f fd ["size", "voters", "voter"] spVT := by
  refine F.ok scVoterTables (fun vs H Q E h => ?_) (fun cdv A outer s H vs Q E hr h => ?_)
  · obtain ⟨n, v, i, rfl, _⟩ := h
    rfl
  obtain ⟨n, v, i, rfl, hn1, hn, hv, hi, q⟩ := h
  refine ⟨_, pss_cons (ps_set (i := 3) scVoterTables.nd rfl (.inl rfl) (pe_callTy call_tuple_of (by rfl) mt boot_tup (pa_cons
      (pe_lc (te := tOp (rIxT K) (tVar 4) (tVar 2)) (own := [("votes", 4)]) (g := gName 4) (tt := tYes) rfl scVoterTables.nd (pi_list (pe_call FA hr (by rfl) gA kA bA .nil pass0 (pa_cons (pv 1) pa_nil))) (blkOk_by (N := ["size", "voters", "voter", "table", "votes"]) (sc := defScope dVoterTables) (by decide +kernel))
        (fun _ _ _ _ _ => pg_name (i := 4) scVoterTables.nd rfl (Or.inl rfl)) (fun _ _ _ _ _ => pts_nil)
        (fun _ _ _ _ _ => pe_ix ix_tup (pv 4) (pv 2) (fun _ _ => rfl))) pa_nil)))
    (pss_one (ps_ret (pe_op op_trep (pe_tup (pa_cons (pv 3) pa_nil)) (pv 0)))), ?_⟩
  refine ⟨.int v, rfl, v, rfl, by omega, fun H1 p xs s1 np hp ax => ⟨p, rfl, ⟨xs, .of hp⟩, fun D nD => ?_⟩⟩
  have lx := ax.len
  rw [rowsN_len] at lx
  have p16 := pow4 hv
  refine lc_map (M := No) (walk_list (K := K) (a := p) (xs := xs)) (by omega) Jg.no nD (fun j _ y => ∃ r, (rowsN v)[j]? = some r ∧ y = .int (r.getD i 0)) (fun _ _ _ _ _ h => h) (fun Hx g _ => .of (g.toSame _ _ hp))
    (fun j x Hx Hx' Kk hj g _ hY hK => ?_) (fun Hx ys g _ eD hlen hq => ?_)
  · obtain ⟨rfl, hx⟩ := hY
    obtain ⟨r, hr, a, rfl, ha⟩ := ax.get hx
    have lr := rowsN_size v r (List.mem_of_getElem? hr)
    refine ⟨rfl, .ref a, rfl, .int i, rfl, a, _, i, .int (r.getD i 0), rfl, rfl, .of (g.toSame _ _ ha), atI_nat (j := i) ?_, hK _ _ (Gw.refl _) Jg.no ⟨r, hr, rfl⟩⟩
    rw [List.getElem?_map, List.getD_eq_getElem?_getD, List.getElem?_eq_getElem (by omega)]
    rfl
  · have e : ys = (followN v i).map V.int := by
      unfold followN
      rw [List.map_map]
      exact list_eq (f := V.int ∘ fun r : List Int => r.getD i 0) hlen (by rw [rowsN_len, lx]) hq
    rw [e] at eD
    refine ⟨D, _, rfl, .inl ⟨.of eD, fun t nt => ?_⟩⟩
    refine ⟨.ref t, rfl, (by show 1 ≤ sizeLine; decide), fun t1 n1 => ⟨.int n, rfl, t1, n, [.ref t], rfl, rfl, upd_same, by simp, by omega, by omega, by show 1 ≤ 1000; decide, fun H2 p2 s2 h2 => ?_⟩⟩
    have sx : Same H H2 := s1.trans (g.toSame.trans ((same_new nt).trans ((same_new n1).trans s2)))
    have ht : H2 t = some (.tup ((followN v i).map V.int)) := s2 _ _ (same_new n1 _ _ upd_same)
    refine q H2 _ sx ⟨p2, _, rfl, h2, ?_⟩
    rw [Int.toNat_natCast, rep_flat]
    exact all_rep ⟨t, rfl, ht⟩ n
end
end Ow

set_option Elab.async false
set_option linter.all false
set_option maxRecDepth 100000
set_option maxHeartbeats 4000000
set_option exponentiation.threshold 3000
namespace Ow
open PySem PySem.Spec PyProof.Rows L2
theorem boot_max' : bootBuiltins "max" = some (.builtin "max") := by decide +kernel
theorem boot_min' : bootBuiltins "min" = some (.builtin "min") := by decide +kernel
theorem boot_sum' : bootBuiltins "sum" = some (.builtin "sum") := by decide +kernel
def natsV (ss : List Nat) : List V := ss.map fun k => V.int (k : Nat)
def picks (r : List Int) (ss : List Nat) : List Int := ss.map fun k => r.getD k 0
theorem picks_rep {v : Nat} {c : Int} {ss : List Nat} (h : ∀ k ∈ ss, k < v) : picks (List.replicate v c) ss = List.replicate ss.length c := by
  unfold picks
  refine List.ext_getElem (by rw [List.length_map, List.length_replicate]) fun i h1 h2 => ?_
  rw [List.getElem_map, List.getElem_replicate, List.getD_eq_getElem?_getD, List.getElem?_replicate, if_pos (h _ (List.getElem_mem _))]
  rfl
theorem picks_bit {v : Nat} {r : List Int} {ss : List Nat} (hr : r ∈ rowsN v) (h : ∀ k ∈ ss, k < v) : ∀ b ∈ picks r ss, b = 0 ∨ b = 1 := by
  intro b hb
  obtain ⟨k, hk, rfl⟩ := List.mem_map.mp hb
  have lr := rowsN_size v r hr
  have := h k hk
  rw [List.getD_eq_getElem?_getD, List.getElem?_eq_getElem (by omega)]
  exact rowsN_bit v r hr _ (List.getElem_mem _)
def someMax (ss : List Nat) (r : List Int) : Int := if (1 : Int) ∈ picks r ss then 1 else 0
def someMin (ss : List Nat) (r : List Int) : Int := if (0 : Int) ∈ picks r ss then 0 else 1
def someSum (ss : List Nat) (r : List Int) : Int := (picks r ss).sum % 2
theorem sum_rep (c : Int) : ∀ n : Nat, (List.replicate n c).sum = n * c
  | 0 => by simp
  | n + 1 => by
    rw [List.replicate_succ, List.sum_cons, sum_rep c n, Int.natCast_succ, Int.add_mul]
    omega
theorem good_max {v : Nat} {ss : List Nat} (h1 : 1 ≤ v) (h4 : v ≤ 4) (ne : ss ≠ []) (hs : ∀ k ∈ ss, k < v) : GoodT v ((rowsN v).map (someMax ss)) := by
  have pos : ss.length ≠ 0 := fun h => ne (List.length_eq_zero_iff.mp h)
  refine good_of h1 h4 (fun r hr => ?_) ?_ ?_
  · unfold someMax
    by_cases h : (1 : Int) ∈ picks r ss
    · rw [if_pos h]; exact .inr rfl
    · rw [if_neg h]; exact .inl rfl
  · unfold someMax
    rw [picks_rep hs, if_neg]
    intro m
    exact absurd (List.mem_replicate.mp m).2 (by decide)
  · unfold someMax
    rw [picks_rep hs, if_pos]
    exact List.mem_replicate.mpr ⟨pos, rfl⟩
theorem good_min {v : Nat} {ss : List Nat} (h1 : 1 ≤ v) (h4 : v ≤ 4) (ne : ss ≠ []) (hs : ∀ k ∈ ss, k < v) : GoodT v ((rowsN v).map (someMin ss)) := by
  have pos : ss.length ≠ 0 := fun h => ne (List.length_eq_zero_iff.mp h)
  refine good_of h1 h4 (fun r hr => ?_) ?_ ?_
  · unfold someMin
    by_cases h : (0 : Int) ∈ picks r ss
    · rw [if_pos h]; exact .inl rfl
    · rw [if_neg h]; exact .inr rfl
  · unfold someMin
    rw [picks_rep hs, if_pos]
    exact List.mem_replicate.mpr ⟨pos, rfl⟩
  · unfold someMin
    rw [picks_rep hs, if_neg]
    intro m
    exact absurd (List.mem_replicate.mp m).2 (by decide)
theorem good_sum {v : Nat} {ss : List Nat} (h1 : 1 ≤ v) (h4 : v ≤ 4) (od : ss.length % 2 = 1) (hs : ∀ k ∈ ss, k < v) : GoodT v ((rowsN v).map (someSum ss)) := by
  refine good_of h1 h4 (fun r hr => ?_) ?_ ?_
  · unfold someSum
    have a := Int.emod_nonneg (picks r ss).sum (show (2 : Int) ≠ 0 by decide)
    have b := Int.emod_lt_of_pos (picks r ss).sum (show (0 : Int) < 2 by decide)
    omega
  · unfold someSum
    rw [picks_rep hs, sum_rep]
    simp
  · unfold someSum
    rw [picks_rep hs, sum_rep]
    omega
theorem good_cut {v : Nat} {ks : List Int} (h1 : 1 ≤ v) (hl : ks.length = 2 ^ v - 2) (hb : ∀ k ∈ ks, k = 0 ∨ k = 1) : GoodT v (0 :: ks ++ [1]) := by
  have p2 : 2 ≤ 2 ^ v := by
    have := Nat.pow_le_pow_right (show 0 < 2 by decide) h1
    simpa using this
  refine ⟨?_, fun n hn => ?_, rfl, ?_⟩
  · rw [List.length_append, List.length_cons, hl]
    simp
    omega
  · rcases List.mem_append.mp hn with hn | hn
    · rcases List.mem_cons.mp hn with rfl | hn
      · exact .inl rfl
      · exact hb n hn
    · exact .inr (List.mem_singleton.mp hn)
  · rw [List.getElem?_append_right (by rw [List.length_cons, hl]; omega), List.length_cons, hl]
    rw [show 2 ^ v - 1 - (2 ^ v - 2 + 1) = 0 by omega]
    rfl
section
variable {P : Program} {w : World} {K : PySem.W.Frag} {mg : Str → Option Value} {base : Heap}
theorem pick_read {x0 x1 x2 x3 x5 x6 x7 : Option V} {u : Nat} {a s : Addr} {r : List Int} {ss : List Nat} {H : Hp} {Q : VK} (hu : ([x0, x1, x2, x3, some (.ref a), x5, x6, x7] : L2.St)[u]? = some (some (.ref s)))
    (hs : H s = some (.tup (natsV ss))) (ha : H a = some (.tup (r.map V.int))) (hk : ∀ k ∈ ss, k < r.length) (hl : ss.length ≤ 60) (q : ∀ H' D, Same H H' → H' D = some (.lst ((picks r ss).map V.int)) → Q (.ref D) H') :
    tLc (iTup K (tVar u)) (gName 6) tYes (tOp (rIxT K) (tVar 4) (tVar 6)) ([(("voter" : Str), 6)].map (·.2)) [x0, x1, x2, x3, some (.ref a), x5, x6, x7] H Q := by
  refine ⟨.ref s, hu, s, rfl, ⟨_, .of hs⟩, fun D nD => ?_⟩
  refine lc_map (M := No) (walk_tup (K := K) (a := s) (xs := natsV ss)) (by unfold natsV; rw [List.length_map]; omega) Jg.no nD (fun j _ y => ∃ k, ss[j]? = some k ∧ y = .int (r.getD k 0)) (fun _ _ _ _ _ h => h) (fun Hx g _ => .of (g.toSame _ _ hs))
    (fun j x Hx Hx' Kk hj g _ hY hK => ?_) (fun Hx ys g _ eD hlen hq => ?_)
  · obtain ⟨rfl, hx⟩ := hY
    unfold natsV at hx
    rw [List.getElem?_map] at hx
    cases h1 : ss[j]? with
    | none => rw [h1] at hx; cases hx
    | some k =>
      rw [h1] at hx
      cases hx
      have kr := hk k (List.mem_of_getElem? h1)
      refine ⟨rfl, .ref a, rfl, .int k, rfl, a, _, k, .int (r.getD k 0), rfl, rfl, .of (g.toSame _ _ ha), atI_nat (j := k) ?_, hK _ _ (Gw.refl _) Jg.no ⟨k, h1, rfl⟩⟩
      rw [List.getElem?_map, List.getD_eq_getElem?_getD, List.getElem?_eq_getElem kr]
      rfl
  · have e : ys = (picks r ss).map V.int := by
      unfold picks
      rw [List.map_map]
      exact list_eq (f := V.int ∘ fun k : Nat => r.getD k 0) hlen (by unfold natsV; rw [List.length_map]) hq
    rw [e] at eD
    exact q Hx D g.toSame eD
end
end Ow

set_option Elab.async false
set_option linter.all false
set_option maxRecDepth 100000
set_option maxHeartbeats 4000000
set_option exponentiation.threshold 3000
namespace Ow
open PySem PySem.Spec PyProof.Rows L2
section
variable {P : Program} {w : World} {K : PySem.W.Frag} {mg : Str → Option Value} {base : Heap}
def IsSome (v : Nat) (H : Hp) (x : V) (ss : List Nat) : Prop := ∃ s, x = .ref s ∧ H s = some (.tup (natsV ss)) ∧ ss ≠ [] ∧ ss.length ≤ 4 ∧ ∀ k ∈ ss, k < v
theorem nats_of {v : Nat} : ∀ {zs : List V}, (∀ z ∈ zs, ∃ k < v, z = .int (k : Nat)) → ∃ ss : List Nat, zs = natsV ss ∧ ∀ k ∈ ss, k < v
  | [], _ => ⟨[], rfl, fun _ h => nomatch h⟩
  | z :: zs, h => by
    obtain ⟨k, hk, rfl⟩ := h z List.mem_cons_self
    obtain ⟨ss, rfl, hs⟩ := nats_of fun y hy => h y (List.mem_cons_of_mem _ hy)
    exact ⟨k :: ss, rfl, fun j hj => by
      rcases List.mem_cons.mp hj with rfl | hj
      · exact hk
      · exact hs j hj⟩
theorem rg_nats (v : Nat) : rgV 0 (v : Int) = natsV (List.range v) := by
  unfold rgV natsV
  rw [show ((v : Int) - 0).toNat = v by omega]
  refine List.map_congr_left fun i _ => ?_
  rw [Int.zero_add]
def spAnyT : Sp := fun vs H Q _ => ∃ (J : Addr) (v : Nat), vs = [.ref J, .int v] ∧ Jug H J ∧ 1 ≤ v ∧ v ≤ 4 ∧ ∀ H' x ns, Sb J H H' → Jug H' J → IsRow H' x ns → GoodT v ns → Q x H'
def rInt1 : List V → Hp → VK → Prop := fun xs H Q => (∃ i, xs = [.int i] ∧ Q (.int i) H) ∨ ∃ k, xs = [.bl k] ∧ Q (.int (if k then 1 else 0)) H
def sMax : Scope := { kind := .function, names := [(".0", .local), ("votes", .cell), ("max", .globalImplicit), ("some", .cell)], isGenerator := false, isCoroutine := false }
def sMin : Scope := { kind := .function, names := [(".0", .local), ("votes", .cell), ("min", .globalImplicit), ("some", .cell)], isGenerator := false, isCoroutine := false }
def sIn : Scope := { kind := .function, names := [(".0", .local), ("voter", .local), ("votes", .free)], isGenerator := false, isCoroutine := false }
def sSum : Scope := { kind := .function, names := [(".0", .local), ("votes", .cell), ("int", .globalImplicit), ("sum", .globalImplicit), ("odd", .cell)], isGenerator := false, isCoroutine := false }
abbrev anyN : List Str := ["jug", "voters", "lot", "every", "votes", "some", "voter", "odd"]
def tOdd (v : Nat) : TE := fun σ H Q => ∃ (s : Addr) (ss : List Nat), σ[5]? = some (some (.ref s)) ∧ H s = some (.tup (natsV ss)) ∧ ss ≠ [] ∧ ss.length ≤ 4 ∧ (∀ k ∈ ss, k < v) ∧
  ∀ H' s' ss', Same H H' → H' s' = some (.tup (natsV ss')) → ss'.length ≤ 4 → ss'.length % 2 = 1 → (∀ k ∈ ss', k < v) → Q (.ref s') H'
theorem ints_of : ∀ {ys : List V}, (∀ y ∈ ys, ∃ m : Int, y = .int m ∧ (m = 0 ∨ m = 1)) → ∃ ks : List Int, ys = ks.map V.int ∧ ∀ k ∈ ks, k = 0 ∨ k = 1
  | [], _ => ⟨[], rfl, fun _ h => nomatch h⟩
  | y :: ys, h => by
    obtain ⟨k, rfl, hk⟩ := h y List.mem_cons_self
    obtain ⟨ks, rfl, hs⟩ := ints_of fun z hz => h z (List.mem_cons_of_mem _ hz)
    exact ⟨k :: ks, rfl, fun j hj => by
      rcases List.mem_cons.mp hj with rfl | hj
      · exact hk
      · exact hs j hj⟩
theorem max_is {v : Nat} {r : List Int} {ss : List Nat} {m : Int} (hr : r ∈ rowsN v) (hs : ∀ k ∈ ss, k < v) (hm : m ∈ picks r ss) (hle : ∀ y, y ∈ picks r ss → y ≤ m) : m = someMax ss r := by
  have b := picks_bit hr hs m hm
  unfold someMax
  by_cases h : (1 : Int) ∈ picks r ss
  · have := hle 1 h
    rw [if_pos h]
    omega
  · rw [if_neg h]
    rcases b with b | b
    · exact b
    · rw [b] at hm
      exact absurd hm h
theorem min_is {v : Nat} {r : List Int} {ss : List Nat} {m : Int} (hr : r ∈ rowsN v) (hs : ∀ k ∈ ss, k < v) (hm : m ∈ picks r ss) (hle : ∀ y, y ∈ picks r ss → m ≤ y) : m = someMin ss r := by
  have b := picks_bit hr hs m hm
  unfold someMin
  by_cases h : (0 : Int) ∈ picks r ss
  · have := hle 0 h
    rw [if_pos h]
    omega
  · rw [if_neg h]
    rcases b with b | b
    · rw [b] at hm
      exact absurd hm h
    · exact b
theorem sum_read {K : PySem.W.Frag} {t : TE} {σ : L2.St} {H : Hp} {Kk : VK} (h : t σ H fun x H1 => rSum K [x] H1 fun y H2 => rInt1 [y] H2 fun z H3 => rI (fun _ j => 0 < j) (fun i j => .int (i % j)) z (.int 2) H3 Kk) :
    tOp (rI (fun _ j => 0 < j) fun i j => .int (i % j)) (tCB rInt1 (tCons (tCB (rSum K) (tCons t tNil)) tNil)) (tC (.int 2)) σ H Kk := h
theorem cut_mid {xs : List V} (h : 2 ≤ xs.length) : (cutV xs (some 1) (some (-1))).length = xs.length - 2 := by
  unfold cutV
  have e1 : HT.sIx xs.length 0 (some 1) = 1 := by
    have := HT.sIx_nat xs.length 0 1
    rw [show ((1 : Nat) : Int) = 1 from rfl] at this
    rw [this]
    omega
  have e2 : HT.sIx xs.length xs.length (some (-1)) = xs.length - 1 := by
    show (if (-1 : Int) < 0 then ((-1 : Int) + (xs.length : Int)).toNat else min (-1 : Int).toNat xs.length) = _
    rw [if_pos (by decide)]
    omega
  simp only [e1, e2]
  rw [List.length_take, List.length_drop]
  omega
theorem ok_anytable {f fD fA fC : Addr} {fd fdD fdA fdC : FuncData} (F : Fun K "_law_any_table" "_law_any_table" dAnyTable f fd)
    (FD : FnOk P w K mg base CX0 1 fD fdD ["jug", "total"] spDip) (kD : PySem.W.keepIn K (.ref fD) = true) (bD : Binds K fdD ["jug", "total"] []) (gD : mg "_law_dip" = some (.ref fD))
    (FA : FnOk P w K mg base CX0 1 fA fdA ["size"] spRowsL) (kA : PySem.W.keepIn K (.ref fA) = true) (bA : Binds K fdA ["size"] []) (gA : mg "_law_all_rows" = some (.ref fA))
    (FC : FnOk P w K mg base CX0 2 fC fdC ["jug", "items"] spChoice) (kC : PySem.W.keepIn K (.ref fC) = true) (bC : Binds K fdC ["jug", "items"] []) (gC : mg "_law_choice" = some (.ref fC))
    (mt : mg "tuple" = none) (mr : mg "range" = none) (mx : mg "max" = none) (mn : mg "min" = none) (mi : mg "int" = none) (ml : mg "len" = none) (msu : mg "sum" = none) : FnOk P w K mg base CX0 3 f fd ["jug", "voters"] spAnyT := by
  refine F.ok scAnyTable (fun vs H Q E h => ?_) (fun cdv A outer s H vs Q E hr h => ?_)
  · obtain ⟨J, v, rfl, _⟩ := h
    rfl
  obtain ⟨J, v, rfl, hJ, h1, h4, q⟩ := h
  refine ⟨_, pss_cons (ps_par (i := 2) (j := 3) (by rfl) scAnyTable.nd rfl rfl (by decide) rfl rfl (pa_cons (pe_call FD (hr.mono (by decide)) (by rfl) gD kD bD .nil pass0 (pa_cons (pv 0) (pa_cons pe_int pa_nil))) (pa_cons (pe_call FA (hr.mono (by decide)) (by rfl) gA kA bA .nil pass0 (pa_cons (pv 1) pa_nil)) pa_nil)) (by rfl))
    (pss_cons (ps_if (pt_cmpR op_lt (pv 2) pe_int (nomark _))
      (pss_one (ps_ret (pe_op op_tcat (pe_op op_tcat (pe_tup (pa_cons pe_int pa_nil)) (pe_callTy call_tuple_of (by rfl) mt boot_tup (pa_cons
        (pe_lc (te := tCall spDip [] E0 (tCons (tVar 0) (tCons (tC (.int 2)) tNil))) (own := [("votes", 4)]) (g := gName 4) (tt := tYes) rfl scAnyTable.nd (pi_list (pe_slice sl_list (pv 3) (po_some pe_int) (po_some (pe_un un_neg pe_int)))) (blkOk_by (N := anyN) (sc := defScope dAnyTable) (by decide +kernel))
          (fun _ _ _ _ _ => pg_name (i := 4) scAnyTable.nd rfl (Or.inl rfl)) (fun _ _ _ _ _ => pts_nil)
          (fun _ _ _ _ _ => pe_call FD (hr.mono (by decide)) (by rfl) gD kD bD .nil pass0 (pa_cons (pv 0) (pa_cons pe_int pa_nil)))) pa_nil))) (pe_tup (pa_cons pe_int pa_nil))))) pss_nil)
    (pss_cons (ps_set (i := 5) scAnyTable.nd rfl (.inr rfl) (pe_call FC (hr.mono (by decide)) (by rfl) gC kC bC .nil pass0 (pa_cons (pv 0) (pa_cons (pe_lst (pa_cons (pe_tup (pa_cons pe_int pa_nil))
        (pa_cons (pe_tupRg rfl (by rfl) mt (prg_1 (by rfl) mr (pv 1))) (pa_cons (pe_step2 (pe_tupRg rfl (by rfl) mt (prg_1 (by rfl) mr (pv 1)))) (pa_cons (pe_tup (pa_cons (pe_op op_sub (pv 1) pe_int) pa_nil)) pa_nil))))) pa_nil))))
    (pss_cons (ps_if (pt_cmpR op_eq (pv 2) pe_int (nomark _))
      (pss_one (ps_ret (pe_callTy call_tuple_of (by rfl) mt boot_tup (pa_cons
        (pe_lc (te := tCB (rMax K) (tCons (tLc (iTup K (tVar 5)) (gName 6) tYes (tOp (rIxT K) (tVar 4) (tVar 6)) ([(("voter" : Str), 6)].map (·.2))) tNil)) (own := [("votes", 4)]) (g := gName 4) (tt := tYes) rfl scAnyTable.nd (pi_list (pv 3)) (blkOk_by (N := anyN) (sc := defScope dAnyTable) (by decide +kernel))
          (fun _ _ _ _ _ => pg_name (i := 4) scAnyTable.nd rfl (Or.inr rfl)) (fun _ _ _ _ _ => pts_nil)
          (fun _ _ _ _ _ => pe_callB (cr_max rfl) (by rfl) mx boot_max' (pa_cons
            (pe_lc (own := [("voter", 6)]) (g := gName 6) (tt := tYes) rfl scAnyTable.nd (pi_tup (pv 5)) (blkOk_by (N := anyN) (sc := sMax) (scope := sIn) (own := [("voter", 6)]) (by decide +kernel))
              (fun _ _ _ _ _ => pg_name (i := 6) scAnyTable.nd rfl (Or.inl rfl)) (fun _ _ _ _ _ => pts_nil)
              (fun _ _ _ _ _ => pe_ix ix_tup (pv 4) (pv 6) (fun _ _ => rfl))) pa_nil))) pa_nil)))) pss_nil)
    (pss_cons (ps_if (pt_cmpR op_eq (pv 2) pe_int (nomark _))
      (pss_one (ps_ret (pe_callTy call_tuple_of (by rfl) mt boot_tup (pa_cons
        (pe_lc (te := tCB (rMin K) (tCons (tLc (iTup K (tVar 5)) (gName 6) tYes (tOp (rIxT K) (tVar 4) (tVar 6)) ([(("voter" : Str), 6)].map (·.2))) tNil)) (own := [("votes", 4)]) (g := gName 4) (tt := tYes) rfl scAnyTable.nd (pi_list (pv 3)) (blkOk_by (N := anyN) (sc := defScope dAnyTable) (by decide +kernel))
          (fun _ _ _ _ _ => pg_name (i := 4) scAnyTable.nd rfl (Or.inr rfl)) (fun _ _ _ _ _ => pts_nil)
          (fun _ _ _ _ _ => pe_callB (cr_min rfl) (by rfl) mn boot_min' (pa_cons
            (pe_lc (own := [("voter", 6)]) (g := gName 6) (tt := tYes) rfl scAnyTable.nd (pi_tup (pv 5)) (blkOk_by (N := anyN) (sc := sMin) (scope := sIn) (own := [("voter", 6)]) (by decide +kernel))
              (fun _ _ _ _ _ => pg_name (i := 6) scAnyTable.nd rfl (Or.inl rfl)) (fun _ _ _ _ _ => pts_nil)
              (fun _ _ _ _ _ => pe_ix ix_tup (pv 4) (pv 6) (fun _ _ => rfl))) pa_nil))) pa_nil)))) pss_nil)
    (pss_cons (ps_set (i := 7) scAnyTable.nd rfl (.inr rfl) (PE.of (t' := tOdd v) (pe_ifExp (pt_cmpR op_eq (pe_op op_mod (pe_callTy call_int1 (by rfl) mi boot_int (pa_cons (pe_callB call_len_seq (by rfl) ml PySem.boot_len (pa_cons (pv 5) pa_nil)) pa_nil)) pe_int) pe_int (nomark _))
        (pv 5) (pe_slice sl_tup (pv 5) (po_some pe_int) po_none)) ?odd))
    (pss_one (ps_ret (pe_callTy call_tuple_of (by rfl) mt boot_tup (pa_cons
        (pe_lc (te := tOp (rI (fun _ j => 0 < j) fun i j => .int (i % j)) (tCB rInt1 (tCons (tCB (rSum K) (tCons (tLc (iTup K (tVar 7)) (gName 6) tYes (tOp (rIxT K) (tVar 4) (tVar 6)) ([(("voter" : Str), 6)].map (·.2))) tNil)) tNil)) (tC (.int 2))) (own := [("votes", 4)]) (g := gName 4) (tt := tYes) rfl scAnyTable.nd (pi_list (pv 3)) (blkOk_by (N := anyN) (sc := defScope dAnyTable) (by decide +kernel))
          (fun _ _ _ _ _ => pg_name (i := 4) scAnyTable.nd rfl (Or.inr rfl)) (fun _ _ _ _ _ => pts_nil)
          (fun _ _ _ _ _ => pe_op op_mod (pe_callTy call_int1 (by rfl) mi boot_int (pa_cons (pe_callB (cr_sum rfl) (by rfl) msu boot_sum' (pa_cons
            (pe_lc (own := [("voter", 6)]) (g := gName 6) (tt := tYes) rfl scAnyTable.nd (pi_tup (pv 7)) (blkOk_by (N := anyN) (sc := sSum) (scope := sIn) (own := [("voter", 6)]) (by decide +kernel))
              (fun _ _ _ _ _ => pg_name (i := 6) scAnyTable.nd rfl (Or.inl rfl)) (fun _ _ _ _ _ => pts_nil)
              (fun _ _ _ _ _ => pe_ix ix_tup (pv 4) (pv 6) (fun _ _ => rfl))) pa_nil)) pa_nil)) pe_int)) pa_nil))))))))), ?red⟩
  case odd =>
    intro σ Hz Qz h
    obtain ⟨s', ss, h5, hs, ne, l4, lt, k⟩ := h
    refine ⟨.ref s', h5, s', _, rfl, .inr (.of hs), .inl ⟨_, rfl, _, _, rfl, rfl, (by show (0 : Int) < 2; decide), rfl, _, rfl, ite2 (fun e => ?_) (fun e => ?_)⟩⟩
    · refine ⟨.ref s', h5, k Hz s' ss (Same.refl Hz) hs l4 ?_ lt⟩
      have e1 := of_decide_eq_true e
      unfold natsV at e1
      rw [List.length_map] at e1
      have := V.int.inj e1
      omega
    · refine ⟨.ref s', h5, 1, rfl, s', natsV ss, rfl, hs, fun H4 b s4 hb => ?_⟩
      rw [cut_tail] at hb
      unfold natsV at hb
      rw [← List.map_tail] at hb
      have e1 : ¬ (V.int (((natsV ss).length : Int) % 2) = V.int 1) := fun z => e (decide_eq_true z)
      unfold natsV at e1
      rw [List.length_map] at e1
      have e2 : ¬ ((ss.length : Int) % 2 = 1) := fun z => e1 (by rw [z])
      have pos := List.length_pos_iff.mpr ne
      refine k H4 b ss.tail s4 hb ?_ ?_ fun j hj => lt j (List.mem_of_mem_tail hj)
      · rw [List.length_tail]; omega
      · rw [List.length_tail]; omega
  case red =>
  refine ⟨.ref J, rfl, J, 5, rfl, by decide, by decide, hJ, fun H1 k sb1 j1 k0 k5 => ⟨.int v, rfl, v, rfl, by omega, fun H2 p xs s2 np hp ax => ⟨_, _, rfl, ?_⟩⟩⟩
  have sb2 : Sb J H H2 := sb1.trans (.same s2)
  have j2 : Jug H2 J := jug_same s2 j1
  have pJ : p ≠ J := jug_none j1 np
  have lx := ax.len
  rw [rowsN_len] at lx
  have p16 := pow4 h4
  have p2 : 2 ≤ 2 ^ v := by
    have := Nat.pow_le_pow_right (show 0 < 2 by decide) h1
    simpa using this
  refine ⟨.int k, rfl, _, _, rfl, rfl, _, rfl, ite2 (fun e => ?_) (fun e => ?_)⟩
  · refine ⟨(by show 1 ≤ sizeLine; decide), fun t1 n1 => ⟨.ref p, rfl, 1, rfl, 1, rfl, -1, rfl, p, xs, rfl, .of (same_new n1 _ _ hp), fun c nc => ⟨c, rfl, ⟨_, .of upd_same⟩, fun D nD => ?_⟩⟩⟩
    have j3 := jug_same (same_new (o := .tup [.int 0]) n1) j2
    have cJ : c ≠ J := jug_none j3 nc
    have j4 := jug_same (same_new (o := .lst (cutV xs (some 1) (some (-1)))) nc) j3
    refine lc_map (M := At J) (walk_list (K := K) (a := c) (xs := cutV xs (some 1) (some (-1)))) (by rw [cut_mid (by omega)]; omega) (Jg.at_ j4) nD (fun i _ y => ∃ m : Int, y = .int m ∧ (m = 0 ∨ m = 1)) (fun _ _ _ _ _ h => h) (fun Hx g _ => .of (g c _ cJ upd_same))
      (fun i x Hx Hx' Kk hi g jx hY hK => ?_) (fun Hx ys g jx eD hlen hq => ?_)
    · obtain ⟨rfl, hx⟩ := hY
      exact ⟨rfl, .ref J, rfl, J, 2, rfl, by decide, by decide, jx.jug, fun H5 m sb5 j5 m0 m2 => hK _ _ sb5.gw (Jg.at_ j5) ⟨m, rfl, by omega⟩⟩
    · obtain ⟨ks, rfl, hb⟩ := ints_of (ys := ys) fun y hy => by
        obtain ⟨i, hi⟩ := List.mem_iff_getElem?.mp hy
        exact hq i y hi
      rw [List.length_map, cut_mid (by omega), lx] at hlen
      refine ⟨D, _, rfl, .inl ⟨.of eD, fun t nt => ?_⟩⟩
      have e1 : Hx t1 = some (.tup [.int 0]) := g.tup (Jg.at_ j4) (same_new nc _ _ upd_same)
      refine ⟨t1, t, [.int 0], _, rfl, rfl, same_new nt _ _ e1, upd_same, ?_, fun H6 u1 s6 hu1 => ?_⟩
      · rw [List.length_map]
        show 1 + ks.length ≤ 5000
        omega
      refine ⟨(by show 1 ≤ sizeLine; decide), fun t2 n2 => ⟨u1, t2, _, _, rfl, rfl, same_new n2 _ _ hu1, upd_same, ?_, fun H7 u2 s7 hu2 => ?_⟩⟩
      · simp
        omega
      have j7 := jug_same (((same_new (o := .tup (ks.map V.int)) nt).trans s6).trans ((same_new (o := .tup [.int 1]) n2).trans s7)) jx.jug
      refine q H7 (.ref u2) (0 :: ks ++ [1]) (sb2.trans ((Sb.same ((same_new n1).trans (same_new nc))).trans (g.sb.trans (Sb.same (((same_new nt).trans s6).trans ((same_new n2).trans s7)))))) j7 ⟨u2, rfl, ?_⟩ (good_cut h1 hlen hb)
      rw [hu2, List.map_append]
      rfl
  · refine ⟨.ref J, rfl, (by show 1 ≤ sizeLine; decide), fun t1 n1 => ⟨.int v, rfl, v, rfl, RgOk.of_le (by omega) (by omega) (by omega) (by omega), fun t2 n2 => ⟨.int v, rfl, v, rfl, RgOk.of_le (by omega) (by omega) (by omega) (by omega), fun t3 n3 => ⟨t3, _, rfl, .of upd_same, fun t4 zs n4 sub len =>
      ⟨.int v, rfl, _, _, rfl, rfl, (by show 1 ≤ sizeLine; decide), fun t5 n5 => ⟨(by show 4 ≤ sizeLine; decide), fun L nL => ?_⟩⟩⟩⟩⟩⟩
    rw [rg_nats] at sub len
    have lz : zs.length ≤ 4 := by
      rw [len]
      unfold natsV
      rw [List.length_map, List.length_range]
      omega
    obtain ⟨s4, rfl, hs4⟩ := nats_of (v := v) (zs := zs) fun z hz => by
      obtain ⟨i, hi, rfl⟩ := List.mem_map.mp (sub z hz)
      exact ⟨i, List.mem_range.mp hi, rfl⟩
    have ne4 : s4 ≠ [] := fun h => by
      rw [h] at len
      unfold natsV at len
      rw [List.length_map, List.length_map, List.length_range] at len
      simp at len
      omega
    have sA := same_new (o := .tup [.int 0]) n1
    have sB := same_new (o := .tup (rgV 0 (v : Int))) n2
    have sC := same_new (o := .tup (rgV 0 (v : Int))) n3
    have sD := same_new (o := .tup (natsV s4)) n4
    have sE := same_new (o := .tup [.int ((v : Int) - 1)]) n5
    have sF := same_new (o := .lst [.ref t1, .ref t2, .ref t4, .ref t5]) nL
    have sBF := sB.trans (sC.trans (sD.trans (sE.trans sF)))
    have jF := jug_same (sA.trans sBF) j2
    have jE := jug_same (sA.trans (sB.trans (sC.trans (sD.trans sE)))) j2
    have e1 := sBF _ _ (upd_same : upd H2 t1 (.tup [.int 0]) t1 = _)
    have e2 := (sC.trans (sD.trans (sE.trans sF))) _ _ (upd_same : upd (upd H2 t1 (.tup [.int 0])) t2 (.tup (rgV 0 (v : Int))) t2 = _)
    have e4 := (sE.trans sF) t4 (.tup (natsV s4)) upd_same
    have e5 := sF t5 (.tup [.int ((v : Int) - 1)]) upd_same
    have pF := (sA.trans sBF) _ _ hp
    have axF := all_tk (Tk.same (sA.trans sBF)) ax
    have sbF : Sb J H _ := sb2.trans (.same (sA.trans sBF))
    have LJ : L ≠ J := jug_none jE nL
    refine ⟨J, L, [.ref t1, .ref t2, .ref t4, .ref t5], rfl, LJ, upd_same, by simp, by show 4 ≤ 1000; decide, jF, fun H3 x sb3 j3 hx => ?_⟩
    have nJ : ∀ {a : Addr} {xs : List V}, upd (upd (upd (upd (upd (upd H2 t1 (.tup [.int 0])) t2 (.tup (rgV 0 (v : Int)))) t3 (.tup (rgV 0 (v : Int)))) t4 (.tup (natsV s4))) t5 (.tup [.int ((v : Int) - 1)])) L (.lst [.ref t1, .ref t2, .ref t4, .ref t5]) a = some (.tup xs) → H3 a = some (.tup xs) := fun {a xs} e => sb3 a _ (jug_tup jF e) e
    have hsome : ∃ s ss, x = .ref s ∧ H3 s = some (.tup (natsV ss)) ∧ ss ≠ [] ∧ ss.length ≤ 4 ∧ ∀ k ∈ ss, k < v := by
      simp only [List.mem_cons, List.not_mem_nil, or_false] at hx
      rcases hx with rfl | rfl | rfl | rfl
      · exact ⟨t1, [0], rfl, nJ e1, by simp, by decide, fun k hk => by rw [List.mem_singleton.mp hk]; omega⟩
      · refine ⟨t2, List.range v, rfl, ?_, fun h => ?_, by rw [List.length_range]; exact h4, fun k hk => List.mem_range.mp hk⟩
        · rw [← rg_nats]
          exact nJ e2
        · have := congrArg List.length h
          rw [List.length_range] at this
          simp at this
          omega
      · refine ⟨t4, s4, rfl, nJ e4, ne4, ?_, hs4⟩
        unfold natsV at lz
        rw [List.length_map] at lz
        exact lz
      · refine ⟨t5, [v - 1], rfl, ?_, by simp, by show 1 ≤ 4; decide, fun k hk => by rw [List.mem_singleton.mp hk]; omega⟩
        have := nJ e5
        rw [show ((v : Int) - 1) = ((v - 1 : Nat) : Int) by omega] at this
        exact this
    have p3 : H3 p = some (.lst xs) := sb3 p _ pJ pF
    have ax3 : All2 (IsRow H3) xs (rowsN v) := all_tk (sb3.gw.tk (Jg.at_ jF)) axF
    have sbH : Sb J H H3 := sbF.trans sb3
    clear nJ e1 e2 e4 e5 axF pF sBF sA sB sC sD sE sF jE sb3
    obtain ⟨so, ss, rfl, hso, ne, l4, hlt⟩ := hsome
    have pos := List.length_pos_iff.mpr ne
    have pl : ∀ r, (picks r ss).length = ss.length := fun r => by unfold picks; rw [List.length_map]
    have rowOk : ∀ {j : Nat} {r : List Int} {ss' : List Nat}, (∀ k ∈ ss', k < v) → (rowsN v)[j]? = some r → ∀ k ∈ ss', k < r.length := fun {j r ss'} h hr k hk => by
      rw [rowsN_size v r (List.mem_of_getElem? hr)]
      exact h k hk
    refine ⟨.int k, rfl, rfl, _, rfl, ite2 (fun e => ?_) (fun e => ?_)⟩
    · refine ⟨.ref p, rfl, p, rfl, ⟨xs, .of p3⟩, fun D nD => ?_⟩
      refine lc_map (M := No) (walk_list (K := K) (a := p) (xs := xs)) (by omega) Jg.no nD (fun j _ y => ∃ r, (rowsN v)[j]? = some r ∧ y = .int (someMax ss r)) (fun _ _ _ _ _ h => h) (fun Hx g _ => .of (g.toSame _ _ p3))
        (fun j x Hx Hx' Kk hj g _ hY hK => ?_) (fun Hx ys g _ eD hlen hq => ?_)
      · obtain ⟨rfl, hx⟩ := hY
        obtain ⟨r, hr, a, rfl, ha⟩ := ax3.get hx
        refine ⟨rfl, ?_⟩
        unfold tCB tCons
        refine pick_read (u := 5) rfl (g.toSame _ _ hso) (g.toSame _ _ ha) (rowOk hlt hr) (by omega) fun H4 D4 s4 e4 => ⟨D4, picks r ss, rfl, .of e4, by rw [pl]; exact pos, fun m hm hle => hK _ _ (Gw.same s4) Jg.no ⟨r, hr, congrArg V.int (max_is (List.mem_of_getElem? hr) hlt hm hle)⟩⟩
      · have ey : ys = ((rowsN v).map (someMax ss)).map V.int := by
          rw [List.map_map]
          exact list_eq (f := V.int ∘ someMax ss) hlen (by rw [rowsN_len, lx]) hq
        rw [ey] at eD
        exact ⟨D, _, rfl, .inl ⟨.of eD, fun t nt => q _ (.ref t) _ (sbH.trans (.same (g.toSame.trans (same_new nt)))) (jug_same (g.toSame.trans (same_new nt)) j3) ⟨t, rfl, upd_same⟩ (good_max h1 h4 ne hlt)⟩⟩
    refine ⟨.int k, rfl, rfl, _, rfl, ite2 (fun e => ?_) (fun e => ?_)⟩
    · refine ⟨.ref p, rfl, p, rfl, ⟨xs, .of p3⟩, fun D nD => ?_⟩
      refine lc_map (M := No) (walk_list (K := K) (a := p) (xs := xs)) (by omega) Jg.no nD (fun j _ y => ∃ r, (rowsN v)[j]? = some r ∧ y = .int (someMin ss r)) (fun _ _ _ _ _ h => h) (fun Hx g _ => .of (g.toSame _ _ p3))
        (fun j x Hx Hx' Kk hj g _ hY hK => ?_) (fun Hx ys g _ eD hlen hq => ?_)
      · obtain ⟨rfl, hx⟩ := hY
        obtain ⟨r, hr, a, rfl, ha⟩ := ax3.get hx
        refine ⟨rfl, ?_⟩
        unfold tCB tCons
        refine pick_read (u := 5) rfl (g.toSame _ _ hso) (g.toSame _ _ ha) (rowOk hlt hr) (by omega) fun H4 D4 s4 e4 => ⟨D4, picks r ss, rfl, .of e4, by rw [pl]; exact pos, fun m hm hle => hK _ _ (Gw.same s4) Jg.no ⟨r, hr, congrArg V.int (min_is (List.mem_of_getElem? hr) hlt hm hle)⟩⟩
      · have ey : ys = ((rowsN v).map (someMin ss)).map V.int := by
          rw [List.map_map]
          exact list_eq (f := V.int ∘ someMin ss) hlen (by rw [rowsN_len, lx]) hq
        rw [ey] at eD
        exact ⟨D, _, rfl, .inl ⟨.of eD, fun t nt => q _ (.ref t) _ (sbH.trans (.same (g.toSame.trans (same_new nt)))) (jug_same (g.toSame.trans (same_new nt)) j3) ⟨t, rfl, upd_same⟩ (good_min h1 h4 ne hlt)⟩⟩
    refine ⟨so, ss, rfl, hso, ne, l4, hlt, fun H4 s' ss' s4 hs' l4' od hlt' => ?_⟩
    have p4 := s4 _ _ p3
    have ax4 := all_tk (Tk.same s4) ax3
    refine ⟨.ref p, rfl, p, rfl, ⟨xs, .of p4⟩, fun D nD => ?_⟩
    refine lc_map (M := No) (walk_list (K := K) (a := p) (xs := xs)) (by omega) Jg.no nD (fun j _ y => ∃ r, (rowsN v)[j]? = some r ∧ y = .int (someSum ss' r)) (fun _ _ _ _ _ h => h) (fun Hx g _ => .of (g.toSame _ _ p4))
      (fun j x Hx Hx' Kk hj g _ hY hK => ?_) (fun Hx ys g _ eD hlen hq => ?_)
    · obtain ⟨rfl, hx⟩ := hY
      obtain ⟨r, hr, a, rfl, ha⟩ := ax4.get hx
      refine ⟨rfl, ?_⟩
      refine sum_read ?_
      refine pick_read (u := 7) rfl (g.toSame _ _ hs') (g.toSame _ _ ha) (rowOk hlt' hr) (by omega) fun H5 D5 s5 e5 => ⟨D5, picks r ss', rfl, .of e5, .inl ⟨_, rfl, _, _, rfl, rfl, (by show (0 : Int) < 2; decide), hK _ _ (Gw.same s5) Jg.no ⟨r, hr, rfl⟩⟩⟩
    · have ey : ys = ((rowsN v).map (someSum ss')).map V.int := by
        rw [List.map_map]
        exact list_eq (f := V.int ∘ someSum ss') hlen (by rw [rowsN_len, lx]) hq
      rw [ey] at eD
      exact ⟨D, _, rfl, .inl ⟨.of eD, fun t nt => q _ (.ref t) _ (sbH.trans (.same (s4.trans (g.toSame.trans (same_new nt))))) (jug_same (s4.trans (g.toSame.trans (same_new nt))) j3) ⟨t, rfl, upd_same⟩ (good_sum h1 h4 od hlt')⟩⟩
end
end Ow

set_option Elab.async false
set_option linter.all false
set_option maxRecDepth 100000
set_option maxHeartbeats 4000000
set_option exponentiation.threshold 3000
namespace Ow
open PySem PySem.Spec PyProof.Rows L2
theorem scAnyTables : FnScope ["jug", "size", "voters", "at"] ["jug", "size", "voters"] (defScope dAnyTables) := ⟨rfl, rfl, rfl, by decide +kernel, rfl, by decide +kernel, by decide +kernel⟩
theorem scMadeRule : FnScope ["voters", "names", "tables"] ["voters", "names", "tables"] (defScope dMadeRule) := ⟨rfl, rfl, rfl, by decide +kernel, rfl, by decide +kernel, by decide +kernel⟩
theorem rows_of {H : Hp} {v : Nat} : ∀ {xs : List V}, (∀ x ∈ xs, ∃ ns, IsRow H x ns ∧ GoodT v ns) → ∃ rs, All2 (IsRow H) xs rs ∧ ∀ r ∈ rs, GoodT v r
  | [], _ => ⟨[], .nil, fun _ h => nomatch h⟩
  | x :: xs, h => by
    obtain ⟨ns, h1, g1⟩ := h x List.mem_cons_self
    obtain ⟨rs, h2, g2⟩ := rows_of fun y hy => h y (List.mem_cons_of_mem _ hy)
    exact ⟨ns :: rs, .cons h1 h2, fun r hr => by
      rcases List.mem_cons.mp hr with rfl | hr
      · exact g1
      · exact g2 r hr⟩
section
variable {P : Program} {w : World} {K : PySem.W.Frag} {mg : Str → Option Value} {base : Heap}
def spAnyTs : Sp := fun vs H Q _ => ∃ (J : Addr) (n v : Nat), vs = [.ref J, .int n, .int v] ∧ Jug H J ∧ 1 ≤ n ∧ n ≤ 60 ∧ 1 ≤ v ∧ v ≤ 4 ∧ ∀ H' x rs, Sb J H H' → Jug H' J → IsRows H' x rs → rs.length = n → (∀ r ∈ rs, GoodT v r) → Q x H'
theorem ok_anytables {f fD fT : Addr} {fd fdD fdT : FuncData} (F : Fun K "_law_any_tables" "_law_any_tables" dAnyTables f fd)
    (FD : FnOk P w K mg base CX0 1 fD fdD ["jug", "total"] spDip) (kD : PySem.W.keepIn K (.ref fD) = true) (bD : Binds K fdD ["jug", "total"] []) (gD : mg "_law_dip" = some (.ref fD))
    (FT : FnOk P w K mg base CX0 3 fT fdT ["jug", "voters"] spAnyT) (kT : PySem.W.keepIn K (.ref fT) = true) (bT : Binds K fdT ["jug", "voters"] []) (gT : mg "_law_any_table" = some (.ref fT))
    (mt : mg "tuple" = none) (mr : mg "range" = none) : FnOk P w K mg base CX0 4 f fd ["jug", "size", "voters"] spAnyTs := by
  refine F.ok scAnyTables (fun vs H Q E h => ?_) (fun cdv A outer s H vs Q E hr h => ?_)
  · obtain ⟨J, n, v, rfl, _⟩ := h
    rfl
  obtain ⟨J, n, v, rfl, hJ, hn1, hn, h1, h4, q⟩ := h
  refine ⟨_, pss_cons (ps_if (pt_cmpR op_eq (pe_call FD (hr.mono (by decide)) (by rfl) gD kD bD .nil pass0 (pa_cons (pv 0) (pa_cons pe_int pa_nil))) pe_int (nomark _))
      (pss_one (ps_ret (pe_op op_trep (pe_tup (pa_cons (pe_call FT (hr.mono (by decide)) (by rfl) gT kT bT .nil pass0 (pa_cons (pv 0) (pa_cons (pv 2) pa_nil))) pa_nil)) (pv 1)))) pss_nil)
    (pss_one (ps_ret (pe_callTy call_tuple_of (by rfl) mt boot_tup (pa_cons
      (pe_lc (te := tCall spAnyT [] E0 (tCons (tVar 0) (tCons (tVar 2) tNil))) (own := [("at", 3)]) (g := gName 3) (tt := tYes) rfl scAnyTables.nd (pi_range1 (by rfl) mr (pa_cons (pv 1) pa_nil)) (blkOk_by (N := ["jug", "size", "voters", "at"]) (sc := defScope dAnyTables) (by decide +kernel))
        (fun _ _ _ _ _ => pg_name (i := 3) scAnyTables.nd rfl (Or.inl rfl)) (fun _ _ _ _ _ => pts_nil)
        (fun _ _ _ _ _ => pe_call FT (hr.mono (by decide)) (by rfl) gT kT bT .nil pass0 (pa_cons (pv 0) (pa_cons (pv 2) pa_nil)))) pa_nil)))), ?_⟩
  refine ⟨.ref J, rfl, J, 3, rfl, by decide, by decide, hJ, fun H1 k sb1 j1 k0 k3 => ⟨rfl, _, rfl, ite2 (fun e => ?_) (fun e => ?_)⟩⟩
  · refine ⟨.ref J, rfl, .int v, rfl, J, v, rfl, j1, h1, h4, fun H2 x ns sb2 j2 hx g => ⟨(by show 1 ≤ sizeLine; decide), fun t nt => ⟨.int n, rfl, t, n, [x], rfl, rfl, upd_same, by simp, by omega, by omega, by show 1 ≤ 1000; decide, fun H3 p s3 hp => ?_⟩⟩⟩
    rw [Int.toNat_natCast, rep_flat] at hp
    have s23 : Same H2 H3 := (same_new nt).trans s3
    refine q H3 (.ref p) (List.replicate n ns) (sb1.trans (sb2.trans (.same s23))) (jug_same s23 j2) ⟨p, _, rfl, hp, all_rep (hx.tk (Tk.same s23)) n⟩ (List.length_replicate ..) fun r hr => ?_
    rw [(List.mem_replicate.mp hr).2]
    exact g
  · refine ⟨.int n, rfl, n, rfl, by omega, by omega, fun D nD => ?_⟩
    refine lc_map (M := At J) (walk_range (lo := 0) (n := n)) (by omega) (Jg.at_ j1) nD (fun i Hy y => ∃ ns, IsRow Hy y ns ∧ GoodT v ns) (fun _ _ _ _ t h => by obtain ⟨ns, h, g⟩ := h; exact ⟨ns, h.tk t, g⟩) (fun Hx _ _ => trivial)
      (fun i x Hx Hx' Kk hi g jx hY hK => ?_) (fun Hx ws g jx eD hlen hq => ?_)
    · obtain ⟨rfl, rfl⟩ := hY
      exact ⟨rfl, .ref J, rfl, .int v, rfl, J, v, rfl, jx.jug, h1, h4, fun H2 x ns sb2 j2 hx g => hK _ _ sb2.gw (Jg.at_ j2) ⟨ns, hx, g⟩⟩
    · obtain ⟨rs, hr, hg⟩ := rows_of (v := v) (xs := ws) fun x hx => by
        obtain ⟨i, hi⟩ := List.mem_iff_getElem?.mp hx
        exact hq i x hi
      have lr := hr.len
      exact ⟨D, _, rfl, .inl ⟨.of eD, fun t nt => q _ (.ref t) rs (sb1.trans (g.sb.trans (.same (same_new nt)))) (jug_same (same_new nt) jx.jug) ⟨t, _, rfl, upd_same, all_tk (Tk.new nt) hr⟩ (by omega) hg⟩⟩
end
end Ow

set_option Elab.async false
set_option linter.all false
set_option maxRecDepth 100000
set_option maxHeartbeats 4000000
set_option exponentiation.threshold 3000
namespace Ow
open PySem PySem.Spec PyProof.Rows L2
/-- the tables by the names -/
def tabOf : List Str → List (List Int) → Str → List Int
  | z :: zs, r :: rs, y => if y = z then r else tabOf zs rs y
  | _, _, _ => []
theorem tab_all : ∀ {zs : List Str} {rs : List (List Int)}, zs.Nodup → zs.length = rs.length → zs.map (tabOf zs rs) = rs
  | [], [], _, _ => rfl
  | [], _ :: _, _, h => nomatch h
  | _ :: _, [], _, h => nomatch h
  | z :: zs, r :: rs, nd, h => by
    have nd' := List.nodup_cons.mp nd
    rw [List.map_cons]
    have e1 : tabOf (z :: zs) (r :: rs) z = r := if_pos rfl
    rw [e1]
    congr 1
    have e2 : zs.map (tabOf (z :: zs) (r :: rs)) = zs.map (tabOf zs rs) := List.map_congr_left fun y hy => if_neg fun e => nd'.1 (by rw [← e]; exact hy)
    rw [e2]
    exact tab_all nd'.2 (Nat.succ.inj h)
theorem tab_at {zs : List Str} {rs : List (List Int)} (nd : zs.Nodup) (h : zs.length = rs.length) {i : Nat} {z : Str} {r : List Int} (hz : zs[i]? = some z) (hr : rs[i]? = some r) : tabOf zs rs z = r := by
  have e := tab_all nd h
  have := congrArg (fun l => l[i]?) e
  simp only [List.getElem?_map, hz, hr] at this
  exact Option.some.inj this
theorem merge_new : ∀ (kvs acc : List (Key × V)), (∀ kv ∈ kvs, valV acc kv.1 = none) → (kvs.map (·.1)).Nodup → mergeK acc kvs = acc ++ kvs
  | [], acc, _, _ => by simp [mergeK]
  | kv :: kvs, acc, h, nd => by
    have nd' := List.nodup_cons.mp nd
    have e : mergeK acc (kv :: kvs) = mergeK (putK acc kv.1 kv.2) kvs := rfl
    rw [e, putK_new kv.2 (h kv List.mem_cons_self), merge_new kvs _ (fun p hp => ?_) nd'.2]
    · simp
    · rw [valV_snoc _ _ _ _ (h kv List.mem_cons_self), if_neg]
      · exact h p (List.mem_cons_of_mem _ hp)
      · intro e
        exact nd'.1 (List.mem_map.mpr ⟨p, hp, e⟩)
theorem paired_of {α β : Type} {F : α → β → Prop} : ∀ {xs : List α} {ys : List β}, All2 F xs ys → Paired F xs ys
  | _, _, .nil => .nil
  | _, _, .cons h t => .cons h (paired_of t)
theorem zip_tab {H : Hp} {tab : Str → List Int} : ∀ {zs : List Str} {xs : List V}, All2 (fun x z => IsRow H x (tab z)) xs zs → All2 (TabR H tab) (List.zipWith (fun z x => ((Sum.inr z : Key), x)) zs xs) zs
  | _, _, .nil => .nil
  | _, _, .cons h t => .cons ⟨rfl, h⟩ (zip_tab t)
section
variable {P : Program} {w : World} {K : PySem.W.Frag} {mg : Str → Option Value} {base : Heap} {C : Addr}
def spMade (C : Addr) : Sp := fun vs H Q _ => ∃ (v : Nat) (ln lt : Addr) (zs : List Str) (rs : List (List Int)), vs = [.int v, .ref ln, .ref lt] ∧ 1 ≤ v ∧ v ≤ 4 ∧ H ln = some (.lst (zs.map V.str)) ∧ IsRows H (.ref lt) rs ∧ zs.length = rs.length ∧ AllOk v zs (tabOf zs rs) ∧
  ∀ H' x ys, Same H H' → ys.Perm zs → RuleAt C H' x v ys (tabOf zs rs) → Q (.ref x) H'
theorem ok_maderule {f fI : Addr} {fd fdI : FuncData} (F : Fun K "_law_made_rule" "_law_made_rule" dMadeRule f fd) (M : Mk K C fI) (FI : FnOk P w K mg base CX0 7 fI fdI ["self", "voters", "tables"] (spInit C)) (bI : Binds K fdI ["self", "voters", "tables"] []) (gC : mg "Rule" = some (.ref C))
    (md : mg "dict" = none) (mls : mg "list" = none) (mz : mg "zip" = none) : FnOk P w K mg base CX0 9 f fd ["voters", "names", "tables"] (spMade C) := by
  refine F.ok scMadeRule (fun vs H Q E h => ?_) (fun cdv A outer s H vs Q E hr h => ?_)
  · obtain ⟨v, ln, lt, zs, rs, rfl, _⟩ := h
    rfl
  obtain ⟨v, ln, lt, zs, rs, rfl, h1, h4, hln, ⟨lt', xs, e0, hlt, hx⟩, hl, ok, q⟩ := h
  cases e0
  refine ⟨_, pss_one (ps_ret (pe_make M FI hr (by rfl) gC bI .nil pass0 (pa_cons (pv 0) (pa_cons (pe_callTy (call_dictP rfl) (by rfl) md (by decide +kernel) (pa_cons (pe_lzip rfl (by rfl) mls (by rfl) mz (by decide +kernel) (pa_cons (pv 1) (pa_cons (pv 2) pa_nil))) pa_nil)) pa_nil)))), ?_⟩
  have lx := hx.len
  refine ⟨.int v, rfl, .ref ln, rfl, .ref lt, rfl, ln, lt, zs.map V.str, xs, rfl, .inl (.of hln), .inr (.of hlt), fun H1 p ts s1 np hp htl hts => ?_⟩
  rw [List.length_map] at htl
  have nd := ok.2.2.1
  have hx2 : All2 (fun x z => IsRow H1 x (tabOf zs rs z)) xs zs := .of_get (by omega) fun i x z ex ez => by
    obtain ⟨r, er, hr⟩ := hx.get ex
    rw [tab_at nd hl ez er]
    exact hr.tk (Tk.same s1)
  have ht := zip_tab hx2
  have lk : (List.zipWith (fun z x => ((Sum.inr z : Key), x)) zs xs).length = zs.length := ht.len
  have hm : mergeK [] (List.zipWith (fun z x => ((Sum.inr z : Key), x)) zs xs) = List.zipWith (fun z x => ((Sum.inr z : Key), x)) zs xs := by
    rw [merge_new _ [] (fun _ _ => rfl) (by rw [tab_keys ht]; exact List.Pairwise.map _ (fun a b h e => h (Sum.inr.inj e)) nd)]
    rfl
  refine ⟨p, ts, List.zipWith (fun z x => ((Sum.inr z : Key), x)) zs xs, rfl, .of hp, paired_of (.of_get (by omega) fun i t kv et ekv => ?_), fun d nD => ?_⟩
  · obtain ⟨x, y, ex, ey, _, e3⟩ := hts i t et
    rw [List.getElem?_zipWith] at ekv
    rw [List.getElem?_map] at ex
    cases ez : zs[i]? with
    | none => rw [ez] at ex; cases ex
    | some z =>
      rw [ez] at ex
      cases ex
      rw [ez, ey] at ekv
      cases ekv
      exact .of e3
  · rw [hm]
    intro x dx nx ndx nex
    have sd : Same H1 (upd H1 d (.dK (List.zipWith (fun z x => ((Sum.inr z : Key), x)) zs xs))) := same_new nD
    have sx : Same (upd H1 d (.dK (List.zipWith (fun z x => ((Sum.inr z : Key), x)) zs xs))) (upd (upd (upd H1 d (.dK (List.zipWith (fun z x => ((Sum.inr z : Key), x)) zs xs))) dx (.own x)) x (.ins C dx [])) := (same_new ndx).trans (same_new (by rw [upd_ne (fun e => nex e.symm)]; exact nx))
    refine ⟨x, dx, d, v, zs, tabOf zs rs, rfl, upd_same, h1, h4, ⟨_, sx _ _ upd_same, TabR.tk (Tk.same (sd.trans sx)) ht⟩, ok, fun H2 ys sb pm hR => ⟨rfl, ?_⟩⟩
    refine q H2 x ys (fun b o e => ?_) pm hR
    have e1 := (s1.trans sd) _ _ e
    exact sb b o (fun z => by rw [z, nx] at e1; cases e1) (sx _ _ e1)
end
end Ow

set_option Elab.async false
set_option linter.all false
set_option maxRecDepth 100000
set_option maxHeartbeats 4000000
set_option exponentiation.threshold 3000
namespace Ow
open PySem PySem.Spec PyProof.Rows L2
abbrev lhN : List Str := ["voters", "table", "rows", "found", "voter", "pairs", "at", "votes", "other"]
theorem scLHeard : FnScope lhN ["voters", "table"] (defScope dLHeard) := ⟨rfl, rfl, rfl, by decide +kernel, rfl, by decide +kernel, by decide +kernel⟩
def flipN (r : List Int) (i : Nat) : List Int := (r.take i ++ [1 - r.getD i 0]) ++ r.drop (i + 1)
theorem flip_rows : ∀ v ≤ 4, ∀ i < v, ∀ j < 2 ^ v, (rowsN v)[j ^^^ 2 ^ (v - 1 - i)]? = ((rowsN v)[j]?).map fun r => flipN r i := by decide +kernel
theorem rows_nodup : ∀ v ≤ 4, (rowsN v).Nodup := by decide +kernel
theorem cut_take {r : List Int} {i : Nat} (h : i ≤ r.length) : cutV (r.map V.int) none (some (i : Int)) = (r.take i).map V.int := by
  unfold cutV
  have e1 : HT.sIx (r.map V.int).length 0 none = 0 := rfl
  have e2 : HT.sIx (r.map V.int).length (r.map V.int).length (some (i : Int)) = i := by
    rw [HT.sIx_nat, List.length_map]
    omega
  simp only [e1, e2]
  rw [List.drop_zero, List.map_take]
  rfl
theorem cut_drop {r : List Int} {i : Nat} (h : i ≤ r.length) : cutV (r.map V.int) (some (i : Int)) none = (r.drop i).map V.int := by
  unfold cutV
  have e1 : HT.sIx (r.map V.int).length 0 (some (i : Int)) = i := by
    rw [HT.sIx_nat, List.length_map]
    omega
  have e2 : HT.sIx (r.map V.int).length (r.map V.int).length none = r.length := by
    show (r.map V.int).length = _
    rw [List.length_map]
  simp only [e1, e2]
  rw [← List.map_drop, List.take_of_length_le]
  rw [List.length_map, List.length_drop]
  omega
theorem shaped_lst (rs : List (List Int)) : SeqAt.shaped (.list (rs.map rowD)) = true := by
  unfold SeqAt.shaped
  have h : PyData.canLay0 (.list (rs.map rowD)) = true := lay_alls rs
  have g : PyData.depth (.list (rs.map rowD)) ≤ 64 := by
    show PyData.depthAll (rs.map rowD) + 1 ≤ 64
    have := depth_alls rs
    omega
  rw [h, decide_eq_true g]
  rfl
theorem shaped_ints (ns : List Int) : SeqAt.shaped (.list (ns.map .int)) = true := by
  unfold SeqAt.shaped
  have h : PyData.canLay0 (.list (ns.map .int)) = true := lay_ints ns
  have g : PyData.depth (.list (ns.map .int)) ≤ 64 := by
    show PyData.depthAll (ns.map .int) + 1 ≤ 64
    rw [depth_ints]
    decide
  rw [h, decide_eq_true g]
  rfl
def chg (ns : List Int) (st j : Nat) : Bool := !decide (ns.getD j 0 = ns.getD (j ^^^ st) 0)
theorem chg_hangs (ns : List Int) (st : Nat) : decide ((((List.range ns.length).filter (chg ns st)).map fun j : Nat => (j : Int)) = []) = !hangsB ns st := by
  unfold hangsB
  cases h : (List.range ns.length).any fun i => !decide (ns.getD i 0 = ns.getD (i ^^^ st) 0) with
  | true =>
    obtain ⟨i, hi, hc⟩ := List.any_eq_true.mp h
    refine decide_eq_false fun e => ?_
    have : i ∈ (List.range ns.length).filter (chg ns st) := List.mem_filter.mpr ⟨hi, hc⟩
    rw [List.map_eq_nil_iff.mp e] at this
    cases this
  | false =>
    refine decide_eq_true ?_
    rw [List.map_eq_nil_iff, List.filter_eq_nil_iff]
    intro i hi hc
    have := List.any_eq_false.mp h i hi
    exact this hc
theorem range_next {p : Nat → Bool} {j : Nat} : (List.range (j + 1)).filter p = if p j = true then (List.range j).filter p ++ [j] else (List.range j).filter p := by
  rw [List.range_succ, List.filter_append, List.filter_cons]
  cases h : p j with
  | true => rfl
  | false => simp
theorem sb_tk {J : Addr} {H H' : Hp} {xs : List V} (s : Sb J H H') (h : H J = some (.lst xs)) : Tk H H' := fun b o n e => s b o (fun z => by
  rw [z, h] at e
  exact n _ (Option.some.inj e).symm) e
theorem getD_at {ns : List Int} {i : Nat} (h : i < ns.length) : ns[i]? = some (ns.getD i 0) := by
  rw [List.getD_eq_getElem?_getD, List.getElem?_eq_getElem h]
  rfl
theorem map_at {ns : List Int} {i : Nat} (h : i < ns.length) : (ns.map V.int)[i]? = some (.int (ns.getD i 0)) := by
  rw [List.getElem?_map, getD_at h]
  rfl
section
variable {P : Program} {w : World} {K : PySem.W.Frag} {mg : Str → Option Value} {base : Heap}
def spLH : Sp := fun vs H Q _ => ∃ (v : Nat) (tb : Addr) (ns : List Int), vs = [.int v, .ref tb] ∧ v ≤ 4 ∧ H tb = some (.tup (ns.map V.int)) ∧ ns.length = 2 ^ v ∧ ∀ H' q, Same H H' → H' q = some (.tup ((heardN v ns).map fun i => V.int (i : Nat))) → Q (.ref q) H'
theorem ok_lheard {f fA : Addr} {fd fdA : FuncData} (F : Fun K "_law_heard" "_law_heard" dLHeard f fd) (FA : FnOk P w K mg base CX0 1 fA fdA ["size"] spRowsL)
    (kA : PySem.W.keepIn K (.ref fA) = true) (bA : Binds K fdA ["size"] []) (gA : mg "_law_all_rows" = some (.ref fA)) (mr : mg "range" = none) (me : mg "enumerate" = none) (mt : mg "tuple" = none) : FnOk P w K mg base CX0 3 f fd ["voters", "table"] spLH := by
  refine F.ok scLHeard (fun vs H Q E h => ?_) (fun cdv A outer s H vs Q E hr h => ?_)
  · obtain ⟨v, tb, ns, rfl, _⟩ := h
    rfl
  obtain ⟨v, tb, ns, rfl, hv, htb, hlen, q⟩ := h
  have hu65 : (A.deeper (envOfC "_law_heard" (defScope dLHeard) s.heap.objs.size f cdv)).units + 65 < cLine := by
    have := hr.un
    omega
  refine ⟨_, pss_cons (ps_par (i := 2) (j := 3) (by rfl) scLHeard.nd rfl rfl (by decide) rfl rfl (pa_cons (pe_call FA (hr.mono (by decide)) (by rfl) gA kA bA .nil pass0 (pa_cons (pv 0) pa_nil)) (pa_cons (pe_lst pa_nil) pa_nil)) (by rfl))
    (pss_cons (ps_for PassesOwn.never rfl (pi_range1 (by rfl) mr (pa_cons (pv 0) pa_nil)) (pg_name (i := 4) scLHeard.nd rfl (.inl rfl))
      (pss_cons (ps_set (i := 5) scLHeard.nd rfl (.inl rfl) (pe_lst pa_nil))
      (pss_cons (ps_for PassesOwn.never rfl (pi_enum (by rfl) me (pa_cons (pv 2) pa_nil)) (pg_tup rfl (pgs_cons (pg_name (i := 6) scLHeard.nd rfl (.inl rfl)) (pgs_cons (pg_name (i := 7) scLHeard.nd rfl (.inl rfl)) pgs_nil)))
        (pss_cons (ps_set (i := 8) scLHeard.nd rfl (.inl rfl) (pe_op op_tcat (pe_op op_tcat (pe_slice sl_tup (pv 7) po_none (po_some (pv 4))) (pe_tup (pa_cons (pe_op op_sub pe_int (pe_ix ix_tup (pv 7) (pv 4) (fun _ _ => rfl))) pa_nil)))
            (pe_slice sl_tup (pv 7) (po_some (pe_op op_add (pv 4) pe_int)) po_none)))
        (pss_one (ps_if (pt_cmpR op_ne (pe_ix ix_tup (pv 1) (pe_bm PySem.F.plainAttrs_list PySem.F.slot_list_index PySem.F.type_list_index (mt_indexD hu65) (pv 2) (pa_cons (pv 8) pa_nil)) (fun _ _ => rfl)) (pe_ix ix_tup (pv 1) (pv 6) (fun _ _ => rfl)) (nomark _))
          (pss_one (ps_expr (pe_bm PySem.F.plainAttrs_list PySem.F.slot_list_append PySem.F.type_list_append mt_append (pv 5) (pa_cons (pv 6) pa_nil)))) pss_nil))))
      (pss_one (ps_if (pt_cmpR (op_neD (hu64 hr)) (pv 5) (pe_lst pa_nil) (nomark _))
        (pss_one (ps_expr (pe_bm PySem.F.plainAttrs_list PySem.F.slot_list_append PySem.F.type_list_append mt_append (pv 3) (pa_cons (pv 4) pa_nil)))) pss_nil)))))
    (pss_one (ps_ret (pe_callTy call_tuple_of (by rfl) mt boot_tup (pa_cons (pv 3) pa_nil))))), ?_⟩
  refine ⟨.int v, rfl, v, rfl, by omega, fun H1 p xs s1 np hp ax => ⟨Nat.zero_le _, fun fo nf => ⟨_, _, rfl, .int v, rfl, v, rfl, by omega, by omega, ?_⟩⟩⟩
  have s12 : Same H H1 := s1
  have sF : Same H1 (upd H1 fo (.lst [])) := same_new nf
  have eF : upd H1 fo (.lst []) fo = some (.lst []) := upd_same
  have pfo : p ≠ fo := ne_of_none hp nf
  have hp2 := sF _ _ hp
  have ax2 := all_tk (Tk.same sF) ax
  have ht2 := (s1.trans sF) _ _ htb
  have n2 : ∀ b o, H b = some o → b ≠ fo := fun b o e => ne_of_none (s1 _ _ e) nf
  have s2 : Same H (upd H1 fo (.lst [])) := s1.trans sF
  generalize upd H1 fo (.lst []) = H2 at eF hp2 ax2 ht2 s2 ⊢
  clear ax hp sF
  have lx := ax2.len
  rw [rowsN_len] at lx
  have p16 := pow4 hv
  refine for_range (lo := 0) (n := v) (fun i σ Hx => ∃ y4 y5 y6 y7 y8, σ = [some (.int v), some (.ref tb), some (.ref p), some (.ref fo), y4, y5, y6, y7, y8] ∧ Sb fo H2 Hx ∧ Hx fo = some (.lst (((List.range i).filter fun k => hangsB ns (2 ^ (v - 1 - k))).map fun k => V.int (k : Nat))))
    ⟨none, none, none, none, none, rfl, Sb.refl _ _, eF⟩ (fun i σ Hx hi hP => ?_) (fun σ Hx hP => ?_)
  · obtain ⟨y4, y5, y6, y7, y8, rfl, sx, ex⟩ := hP
    refine ⟨Nat.zero_le _, fun pr npr => ?_⟩
    have prfo : fo ≠ pr := ne_of_none ex npr
    have hpx := sx _ _ pfo hp2
    have ppr : p ≠ pr := ne_of_none hpx npr
    have tkx : Tk H2 Hx := sb_tk sx eF
    have s3 : Same Hx (upd Hx pr (.lst [])) := same_new npr
    have e3 : upd Hx pr (.lst []) pr = some (.lst []) := upd_same
    have hp3 := s3 _ _ hpx
    have ax3 := all_tk (tkx.trans (Tk.same s3)) ax2
    have ht3 := s3 _ _ (tkx.tup ht2)
    have ef3 := s3 _ _ ex
    generalize upd Hx pr (.lst []) = H3 at s3 e3 hp3 ax3 ht3 ef3 ⊢
    refine ⟨.ref p, rfl, p, xs, rfl, .of hp3, ?_⟩
    refine for_it (walk_enum (K := K) (a := p) (xs := xs)) (fun j σ Hy => ∃ y6 y7 y8, σ = [some (.int v), some (.ref tb), some (.ref p), some (.ref fo), some (.int (0 + (i : Int))), some (.ref pr), y6, y7, y8] ∧ Sb pr H3 Hy ∧ Hy pr = some (.lst (((List.range j).filter (chg ns (2 ^ (v - 1 - i)))).map fun k => V.int (k : Nat))))
      ⟨_, _, _, rfl, Sb.refl _ _, e3⟩ (fun j σ Hy _ h => ?_) (fun j x σ Hy Hy' hj hQ hY => ?_) (fun σ Hy hQ => ?_)
    · obtain ⟨_, _, _, _, sy, _⟩ := h
      exact .of (sy _ _ ppr hp3)
    · obtain ⟨y6, y7, y8, rfl, sy, ey⟩ := hQ
      obtain ⟨T, x, y, rfl, nT, rfl, hx, hy⟩ := hY
      cases hx
      have hj' : j < 2 ^ v := by omega
      have tky : Tk H3 Hy := sb_tk sy e3
      have sT : Same Hy (upd Hy T (.tup [.int j, y])) := same_new nT
      have axy := all_tk (tky.trans (Tk.same sT)) ax3
      have hty := sT _ _ (tky.tup ht3)
      have hpy := sT _ _ (sy _ _ ppr hp3)
      have eyT := sT _ _ ey
      obtain ⟨r, hr, a, rfl, ha⟩ := axy.get hy
      have lr : r.length = v := rowsN_size v r (List.mem_of_getElem? hr)
      refine ⟨T, [.int j, .ref a], rfl, .of upd_same, rfl, _, _, rfl, _, _, rfl, rfl, ?_⟩
      have syT : Sb pr H3 (upd Hy T (.tup [.int j, .ref a])) := sy.trans (.same sT)
      generalize upd Hy T (.tup [.int j, .ref a]) = Hz at sT axy hty hpy eyT ha syT ⊢
      refine ⟨.ref a, rfl, .int (0 + (i : Int)), rfl, _, rfl, a, _, rfl, ha, fun Ha b1 t1 hb1 => ⟨.ref a, rfl, .int (0 + (i : Int)), rfl, a, _, _, .int (r.getD i 0), rfl, rfl, .of (t1 _ _ ha), ?_, _, _, rfl, rfl, (by show 1 ≤ sizeLine; decide), fun c1 m1 => ?_⟩⟩
      · rw [Int.zero_add]
        exact atI_nat (map_at (by omega))
      rw [Int.zero_add, cut_take (by omega)] at hb1
      refine ⟨b1, c1, _, _, rfl, rfl, same_new m1 _ _ hb1, upd_same, ?_, fun Hb b2 t2 hb2 => ?_⟩
      · rw [List.length_map, List.length_take]
        show min i r.length + 1 ≤ 5000
        omega
      have t12 : Same Hz Hb := t1.trans ((same_new m1).trans t2)
      refine ⟨.ref a, rfl, .int (0 + (i : Int)), rfl, _, _, rfl, rfl, _, rfl, a, _, rfl, t12 _ _ ha, fun Hc b3 t3 hb3 => ?_⟩
      have ei : (0 + (i : Int) + 1) = ((i + 1 : Nat) : Int) := by omega
      rw [ei, cut_drop (by omega)] at hb3
      refine ⟨b2, b3, _, _, rfl, rfl, t3 _ _ hb2, hb3, ?_, fun Hd b4 t4 hb4 => ?_⟩
      · rw [List.length_append, List.length_map, List.length_map, List.length_take, List.length_drop]
        show min i r.length + 1 + (r.length - (i + 1)) ≤ 5000
        omega
      have t14 : Same Hz Hd := t12.trans (t3.trans t4)
      have hb5 : Hd b4 = some (.tup ((flipN r i).map V.int)) := by
        rw [hb4]
        unfold flipN
        rw [List.map_append, List.map_append]
        rfl
      have hx2 : j ^^^ 2 ^ (v - 1 - i) < 2 ^ v := xor_lt hv (by omega) hj'
      have hfl : (rowsN v)[j ^^^ 2 ^ (v - 1 - i)]? = some (flipN r i) := by rw [flip_rows v hv i hi j hj', hr]; rfl
      have axd := all_tk (Tk.same t14) axy
      refine ⟨.ref tb, rfl, .ref p, rfl, .inl ⟨rfl, _, .of (t14 _ _ hpy)⟩, .ref b4, rfl, p, .ref b4, rowD (flipN r i), (rowsN v).map rowD, j ^^^ 2 ^ (v - 1 - i), rowD (flipN r i), rfl, rfl, .lst (.of (t14 _ _ hpy)) (dp_all axd), dp_row ⟨b4, rfl, hb5⟩, shaped_lst _, shaped_row _, ?_, ?_, ?_, ?_⟩
      · rw [List.getElem?_map, hfl]
        rfl
      · rw [eqv_row]
        exact decide_eq_true rfl
      · intro m z hm hz
        rw [List.getElem?_map] at hz
        cases hm2 : (rowsN v)[m]? with
        | none => rw [hm2] at hz; cases hz
        | some r2 =>
          rw [hm2] at hz
          cases hz
          rw [eqv_row]
          refine decide_eq_false fun e => ?_
          obtain ⟨l1, g1⟩ := List.getElem?_eq_some_iff.mp hm2
          obtain ⟨l2, g2⟩ := List.getElem?_eq_some_iff.mp hfl
          exact List.pairwise_iff_getElem.mp (rows_nodup v hv) m _ l1 l2 hm (by rw [g1, g2]; exact e)
      refine ⟨tb, _, _, .int (ns.getD (j ^^^ 2 ^ (v - 1 - i)) 0), rfl, rfl, .of (t14 _ _ hty), atI_nat (map_at (by omega)), .ref tb, rfl, .int j, rfl, tb, _, _, .int (ns.getD j 0), rfl, rfl, .of (t14 _ _ hty), atI_nat (map_at (by omega)), rfl, _, rfl, ?_⟩
      have et : (!decide (V.int (ns.getD (j ^^^ 2 ^ (v - 1 - i)) 0) = V.int (ns.getD j 0))) = chg ns (2 ^ (v - 1 - i)) j := by
        unfold chg
        congr 1
        refine decide_eq_decide.mpr ⟨fun e => (V.int.inj e).symm, fun e => by rw [e]⟩
      rw [et]
      have eyd := t14 _ _ eyT
      have syd : Sb pr H3 Hd := syT.trans (.same t14)
      cases hc : chg ns (2 ^ (v - 1 - i)) j with
      | true =>
        refine iteT ⟨.ref pr, rfl, .inl ⟨rfl, _, .of eyd⟩, .int j, rfl, pr, _, _, rfl, rfl, eyd, ?_, ?_⟩
        · rw [List.length_map]
          refine small60 (Nat.le_trans (List.length_filter_le _ _) ?_)
          rw [List.length_range]
          omega
        · refine ⟨_, _, _, rfl, syd.trans Sb.at, ?_⟩
          rw [upd_same, range_next, if_pos hc, List.map_append]
          rfl
      | false =>
        refine iteF ⟨_, _, _, rfl, syd, ?_⟩
        rw [eyd, range_next, if_neg (by rw [hc]; decide)]
    · obtain ⟨y6, y7, y8, rfl, sy, ey⟩ := hQ
      refine ⟨.ref pr, rfl, Nat.zero_le _, fun e0 ne0 => ?_⟩
      have s0 : Same Hy (upd Hy e0 (.lst [])) := same_new ne0
      have ey0 := s0 _ _ ey
      have ef := s0 _ _ (sy _ _ prfo ef3)
      have lxs : xs.length = ns.length := by rw [hlen]; exact lx
      have em : ((List.range xs.length).filter (chg ns (2 ^ (v - 1 - i)))).map (fun k => V.int (k : Nat)) = (((List.range ns.length).filter (chg ns (2 ^ (v - 1 - i)))).map fun j : Nat => (j : Int)).map V.int := by
        rw [List.map_map, lxs]
        rfl
      rw [em] at ey0
      refine ⟨.list ((((List.range ns.length).filter (chg ns (2 ^ (v - 1 - i)))).map fun j : Nat => (j : Int)).map .int), .list [], .lst (.of ey0) (dp_ints _), .lst (.of upd_same) .nil, shaped_ints _, rfl, _, rfl, ?_⟩
      have eb : (!PyData.eqv (.list ((((List.range ns.length).filter (chg ns (2 ^ (v - 1 - i)))).map fun j : Nat => (j : Int)).map .int)) (.list [])) = hangsB ns (2 ^ (v - 1 - i)) := by
        have := eqv_ints (((List.range ns.length).filter (chg ns (2 ^ (v - 1 - i)))).map fun j : Nat => (j : Int)) []
        have e2 : PyData.eqv (.list ((((List.range ns.length).filter (chg ns (2 ^ (v - 1 - i)))).map fun j : Nat => (j : Int)).map .int)) (.list []) = decide ((((List.range ns.length).filter (chg ns (2 ^ (v - 1 - i)))).map fun j : Nat => (j : Int)) = []) := this
        rw [e2, chg_hangs, Bool.not_not]
      rw [eb]
      have sbx : Sb fo H2 (upd Hy e0 (.lst [])) := fun b o n e => by
        have e1 := s3 _ _ (sx _ _ n e)
        exact s0 _ _ (sy _ _ (ne_of_none (sx _ _ n e) npr) e1)
      cases hc : hangsB ns (2 ^ (v - 1 - i)) with
      | true =>
        refine iteT ⟨.ref fo, rfl, .inl ⟨rfl, _, .of ef⟩, .int (0 + (i : Int)), rfl, fo, _, _, rfl, rfl, ef, ?_, ?_⟩
        · rw [List.length_map]
          refine small60 (Nat.le_trans (List.length_filter_le _ _) ?_)
          rw [List.length_range]
          omega
        · refine ⟨_, _, _, _, _, rfl, sbx.trans Sb.at, ?_⟩
          rw [upd_same, range_next, if_pos hc, List.map_append, Int.zero_add]
          rfl
      | false =>
        refine iteF ⟨_, _, _, _, _, rfl, sbx, ?_⟩
        rw [ef, range_next, if_neg (by rw [hc]; decide)]
  · obtain ⟨y4, y5, y6, y7, y8, rfl, sx, ex⟩ := hP
    refine ⟨.ref fo, rfl, fo, _, rfl, .inl ⟨.of ex, fun q1 nq => q _ q1 (fun b o e => ?_) upd_same⟩⟩
    exact same_new nq _ _ (sx _ _ (n2 b o e) (s2 _ _ e))
end
end Ow

set_option Elab.async false
set_option linter.all false
set_option maxRecDepth 100000
set_option maxHeartbeats 4000000
set_option exponentiation.threshold 3000
namespace Ow
open PySem PySem.Spec PyProof.Rows L2
abbrev trN : List Str := ["jug", "size", "voters", "lot", "voter", "tables", "at", "other", "spot"]
theorem scTried : FnScope trN ["jug", "size", "voters"] (defScope dTried) := ⟨rfl, rfl, rfl, by decide +kernel, rfl, by decide +kernel, by decide +kernel⟩
theorem good_flip {v : Nat} {r : List Int} {i : Nat} (g : GoodT v r) (h0 : 0 < i) (h1 : i < 2 ^ v - 1) : GoodT v (flipN r i) := by
  have lr := g.len
  have hi : i < r.length := by omega
  have l1 : (r.take i ++ [1 - r.getD i 0]).length = i + 1 := by
    rw [List.length_append, List.length_take]
    show min i r.length + 1 = i + 1
    omega
  refine ⟨?_, fun n hn => ?_, ?_, ?_⟩
  · unfold flipN
    rw [List.length_append, l1, List.length_drop]
    omega
  · unfold flipN at hn
    rcases List.mem_append.mp hn with hn | hn
    · rcases List.mem_append.mp hn with hn | hn
      · exact g.bit n (List.mem_of_mem_take hn)
      · rw [List.mem_singleton.mp hn]
        rw [List.getD_eq_getElem?_getD, List.getElem?_eq_getElem hi]
        rcases g.bit _ (List.getElem_mem hi) with e | e
        · right
          show 1 - r[i] = 1
          omega
        · left
          show 1 - r[i] = 0
          omega
    · exact g.bit n (List.mem_of_mem_drop hn)
  · unfold flipN
    rw [List.getElem?_append_left (by omega), List.getElem?_append_left (by rw [List.length_take]; omega), List.getElem?_take_of_lt h0]
    exact g.fst
  · unfold flipN
    rw [List.getElem?_append_right (by omega), l1, List.getElem?_drop, show i + 1 + (2 ^ v - 1 - (i + 1)) = 2 ^ v - 1 by omega]
    exact g.lst
theorem cutW_take {xs : List V} {i : Nat} (h : i ≤ xs.length) : cutV xs none (some (i : Int)) = xs.take i := by
  unfold cutV
  have e1 : HT.sIx xs.length 0 none = 0 := rfl
  have e2 : HT.sIx xs.length xs.length (some (i : Int)) = i := by
    rw [HT.sIx_nat]
    omega
  simp only [e1, e2]
  rw [List.drop_zero]
  rfl
theorem cutW_drop {xs : List V} {i : Nat} (h : i ≤ xs.length) : cutV xs (some (i : Int)) none = xs.drop i := by
  unfold cutV
  have e1 : HT.sIx xs.length 0 (some (i : Int)) = i := by
    rw [HT.sIx_nat]
    omega
  have e2 : HT.sIx xs.length xs.length none = xs.length := rfl
  simp only [e1, e2]
  rw [List.take_of_length_le]
  rw [List.length_drop]
  omega
theorem All2.take {α β : Type} {R : α → β → Prop} : ∀ {xs : List α} {ys : List β} (i : Nat), All2 R xs ys → All2 R (xs.take i) (ys.take i)
  | _, _, 0, _ => .nil
  | _, _, _ + 1, .nil => .nil
  | _, _, i + 1, .cons h t => .cons h (All2.take i t)
theorem All2.drop {α β : Type} {R : α → β → Prop} : ∀ {xs : List α} {ys : List β} (i : Nat), All2 R xs ys → All2 R (xs.drop i) (ys.drop i)
  | _, _, 0, h => h
  | _, _, _ + 1, .nil => .nil
  | _, _, i + 1, .cons _ t => All2.drop i t
theorem PS.of2 {X : Cx} {st : Stmt} {t t' : TS} (h : PS X st t) (k : ∀ D σ H, t' D σ H → t D σ H) : PS X st t' := ⟨fun pins s σ H D I q => h.run pins s σ H D I (k D σ H q)⟩
/-- the other table is a table -/
def tOther (J : Addr) (v : Nat) : TS := fun D σ H => ∃ (n k i : Int) (m : Nat) (tt o : Addr) (y8 : Option V) (rs : List (List Int)) (r : List Int), σ = [some (.ref J), some (.int n), some (.int v), some (.int k), some (.int i), some (.ref tt), some (.int m), some (.ref o), y8] ∧
  Jug H J ∧ IsRows H (.ref tt) rs ∧ m < rs.length ∧ (∀ r ∈ rs, GoodT v r) ∧ IsRow H (.ref o) r ∧ GoodT v r ∧
  ∀ H' o' r' y8', Sb J H H' → Jug H' J → IsRow H' (.ref o') r' → GoodT v r' → D.nx [some (.ref J), some (.int n), some (.int v), some (.int k), some (.int i), some (.ref tt), some (.int m), some (.ref o'), y8'] H'
theorem nat_of {k n : Int} (h0 : 0 ≤ k) (h1 : k < n) : ∃ i : Nat, k = (i : Int) ∧ (i : Int) < n := ⟨k.toNat, by omega, by omega⟩
section
variable {P : Program} {w : World} {K : PySem.W.Frag} {mg : Str → Option Value} {base : Heap}
theorem ok_tried {f fD fV fT : Addr} {fd fdD fdV fdT : FuncData} (F : Fun K "_law_tried" "_law_tried" dTried f fd)
    (FD : FnOk P w K mg base CX0 1 fD fdD ["jug", "total"] spDip) (kD : PySem.W.keepIn K (.ref fD) = true) (bD : Binds K fdD ["jug", "total"] []) (gD : mg "_law_dip" = some (.ref fD))
    (FV : FnOk P w K mg base CX0 2 fV fdV ["size", "voters", "voter"] spVT) (kV : PySem.W.keepIn K (.ref fV) = true) (bV : Binds K fdV ["size", "voters", "voter"] []) (gV : mg "_law_voter_tables" = some (.ref fV))
    (FT : FnOk P w K mg base CX0 4 fT fdT ["jug", "size", "voters"] spAnyTs) (kT : PySem.W.keepIn K (.ref fT) = true) (bT : Binds K fdT ["jug", "size", "voters"] []) (gT : mg "_law_any_tables" = some (.ref fT))
    (ml : mg "len" = none) : FnOk P w K mg base CX0 5 f fd ["jug", "size", "voters"] spAnyTs := by
  refine F.ok scTried (fun vs H Q E h => ?_) (fun cdv A outer s H vs Q E hr h => ?_)
  · obtain ⟨J, n, v, rfl, _⟩ := h
    rfl
  obtain ⟨J, n, v, rfl, hJ, hn1, hn, h1, h4, q⟩ := h
  refine ⟨_, pss_cons (ps_par (i := 3) (j := 4) (by rfl) scTried.nd rfl rfl (by decide) rfl rfl (pa_cons (pe_call FD (hr.mono (by decide)) (by rfl) gD kD bD .nil pass0 (pa_cons (pv 0) (pa_cons pe_int pa_nil))) (pa_cons (pe_call FD (hr.mono (by decide)) (by rfl) gD kD bD .nil pass0 (pa_cons (pv 0) (pa_cons (pv 2) pa_nil))) pa_nil)) (by rfl))
    (pss_cons (ps_set (i := 5) scTried.nd rfl (.inl rfl) (pe_call FV (hr.mono (by decide)) (by rfl) gV kV bV .nil pass0 (pa_cons (pv 1) (pa_cons (pv 2) (pa_cons (pv 4) pa_nil)))))
    (pss_cons (ps_if (pt_cmpR op_eq (pv 3) pe_int (nomark _)) (pss_one (ps_ret (pe_call FT (hr.mono (by decide)) (by rfl) gT kT bT .nil pass0 (pa_cons (pv 0) (pa_cons (pv 1) (pa_cons (pv 2) pa_nil)))))) pss_nil)
    (pss_cons (ps_if (pt_cmpR op_eq (pv 3) pe_int (nomark _)) (pss_one (ps_ret (pv 5))) pss_nil)
    (pss_cons (ps_set (i := 6) scTried.nd rfl (.inl rfl) (pe_call FD (hr.mono (by decide)) (by rfl) gD kD bD .nil pass0 (pa_cons (pv 0) (pa_cons (pv 1) pa_nil))))
    (pss_cons (ps_set (i := 7) scTried.nd rfl (.inl rfl) (pe_ix ix_tup (pe_call FV (hr.mono (by decide)) (by rfl) gV kV bV .nil pass0 (pa_cons pe_int (pa_cons (pv 2) (pa_cons (pe_call FD (hr.mono (by decide)) (by rfl) gD kD bD .nil pass0 (pa_cons (pv 0) (pa_cons (pv 2) pa_nil))) pa_nil)))) pe_int (fun _ _ => rfl)))
    (pss_cons (PS.of2 (t' := tOther J v) (ps_if (pt_cmpR op_eq (pv 3) pe_int (nomark _))
      (pss_cons (ps_set (i := 8) scTried.nd rfl (.inl rfl) (pe_call FD (hr.mono (by decide)) (by rfl) gD kD bD .nil pass0 (pa_cons (pv 0) (pa_cons (pe_callB call_len_seq (by rfl) ml PySem.boot_len (pa_cons (pe_ix ix_tup (pv 5) (pv 6) (fun _ _ => rfl)) pa_nil)) pa_nil))))
      (pss_cons (ps_set (i := 7) scTried.nd rfl (.inl rfl) (pe_ix ix_tup (pv 5) (pv 6) (fun _ _ => rfl)))
      (pss_one (ps_if (PW.pt (pw_and (pt_cmpR op_gt (pv 8) pe_int (nomark _)) (pw_and1 (pt_cmpR op_lt (pv 8) (pe_op op_sub (pe_callB call_len_seq (by rfl) ml PySem.boot_len (pa_cons (pv 7) pa_nil)) pe_int) (nomark _)))))
        (pss_one (ps_set (i := 7) scTried.nd rfl (.inl rfl) (pe_op op_tcat (pe_op op_tcat (pe_slice sl_tup (pv 7) po_none (po_some (pv 8))) (pe_tup (pa_cons (pe_op op_sub pe_int (pe_ix ix_tup (pv 7) (pv 8) (fun _ _ => rfl))) pa_nil)))
            (pe_slice sl_tup (pv 7) (po_some (pe_op op_add (pv 8) pe_int)) po_none)))) pss_nil)))) pss_nil) ?oth)
    (pss_one (ps_ret (pe_op op_tcat (pe_op op_tcat (pe_slice sl_tup (pv 5) po_none (po_some (pv 6))) (pe_tup (pa_cons (pv 7) pa_nil))) (pe_slice sl_tup (pv 5) (po_some (pe_op op_add (pv 6) pe_int)) po_none)))))))))), ?red⟩
  case oth =>
    intro D σ Hz h
    obtain ⟨n', k, i, m, tt, o, y8, rs, r, rfl, jz, ⟨tt', xs, e0, htt, hxs⟩, hm, hg, ho, gr, kz⟩ := h
    cases e0
    have lx := hxs.len
    refine ⟨.int k, rfl, rfl, _, rfl, ite2 (fun e => ?_) (fun e => kz Hz o r y8 (Sb.refl _ _) jz ho gr)⟩
    obtain ⟨x1, hx1⟩ : ∃ x1, xs[m]? = some x1 := ⟨xs[m], List.getElem?_eq_getElem (by omega)⟩
    obtain ⟨r1, hr1, a1, e1, ha1⟩ := hxs.get hx1
    subst e1
    have g1 := hg r1 (List.mem_of_getElem? hr1)
    have l16 := g1.le h4
    have p2 : 2 ≤ 2 ^ v := by
      have := Nat.pow_le_pow_right (show 0 < 2 by decide) h1
      simpa using this
    have lr1 := g1.len
    refine ⟨.ref J, rfl, .ref tt, rfl, .int m, rfl, tt, xs, m, .ref a1, rfl, rfl, .of htt, atI_nat hx1, a1, _, rfl, .inr (.of ha1), J, _, rfl, ?_, ?_, jz, fun H1 k1 sb1 j1 k10 k1l => ?_⟩
    · rw [List.length_map]
      omega
    · rw [List.length_map]
      exact Nat.lt_of_lt_of_le (by omega : ((r1.length : Nat) : Int).natAbs < 2 ^ 5) (Nat.pow_le_pow_right (by decide) (by decide))
    rw [List.length_map] at k1l
    obtain ⟨q1, rfl, q1l⟩ := nat_of k10 k1l
    have ht1 : H1 tt = some (.tup xs) := sb1.gw.tup (Jg.at_ jz) htt
    have hb1 : H1 a1 = some (.tup (r1.map V.int)) := sb1.gw.tup (Jg.at_ jz) ha1
    refine ⟨.ref tt, rfl, .int m, rfl, tt, xs, m, .ref a1, rfl, rfl, .of ht1, atI_nat hx1, ?_⟩
    refine ⟨.int q1, rfl, _, _, rfl, rfl, _, rfl, ite2 (fun e2 => ?_) (fun e2 => kz H1 a1 r1 _ sb1 j1 ⟨a1, rfl, hb1⟩ g1)⟩
    refine ⟨.int q1, rfl, .ref a1, rfl, a1, _, rfl, .inr (.of hb1), _, _, rfl, rfl, _, _, rfl, rfl, _, rfl, ite2 (fun e3 => ?_) (fun e3 => kz H1 a1 r1 _ sb1 j1 ⟨a1, rfl, hb1⟩ g1)⟩
    have f2 : (0 : Int) < (q1 : Int) := of_decide_eq_true e2
    have f3 : (q1 : Int) < ((r1.map V.int).length : Int) - 1 := of_decide_eq_true e3
    rw [List.length_map] at f3
    refine ⟨.ref a1, rfl, .int q1, rfl, _, rfl, a1, _, rfl, hb1, fun Ha b1 t1 hc1 => ⟨.ref a1, rfl, .int q1, rfl, a1, _, _, .int (r1.getD q1 0), rfl, rfl, .of (t1 _ _ hb1), atI_nat (map_at (by omega)), _, _, rfl, rfl, (by show 1 ≤ sizeLine; decide), fun c1 m1 => ?_⟩⟩
    rw [cut_take (by omega)] at hc1
    refine ⟨b1, c1, _, _, rfl, rfl, same_new m1 _ _ hc1, upd_same, ?_, fun Hb b2 t2 hb2 => ?_⟩
    · rw [List.length_map, List.length_take]
      show min q1 r1.length + 1 ≤ 5000
      omega
    have t12 : Same H1 Hb := t1.trans ((same_new m1).trans t2)
    refine ⟨.ref a1, rfl, .int q1, rfl, _, _, rfl, rfl, _, rfl, a1, _, rfl, t12 _ _ hb1, fun Hc b3 t3 hb3 => ?_⟩
    have ei : ((q1 : Int) + 1) = ((q1 + 1 : Nat) : Int) := by omega
    rw [ei, cut_drop (by omega)] at hb3
    refine ⟨b2, b3, _, _, rfl, rfl, t3 _ _ hb2, hb3, ?_, fun Hd b4 t4 hb4 => ?_⟩
    · rw [List.length_append, List.length_map, List.length_map, List.length_take, List.length_drop]
      show min q1 r1.length + 1 + (r1.length - (q1 + 1)) ≤ 5000
      omega
    have t14 : Same H1 Hd := t12.trans (t3.trans t4)
    refine kz Hd b4 (flipN r1 q1) _ (sb1.trans (.same t14)) (jug_same t14 j1) ⟨b4, rfl, ?_⟩ (good_flip g1 (by omega) (by omega))
    rw [hb4]
    unfold flipN
    rw [List.map_append, List.map_append]
    rfl
  case red =>
  refine ⟨.ref J, rfl, J, 4, rfl, by decide, by decide, hJ, fun H1 k sb1 j1 k0 k5 => ⟨.ref J, rfl, .int v, rfl, J, v, rfl, by omega, by omega, j1, fun H2 i0 sb2 j2 i00 i0l => ?_⟩⟩
  obtain ⟨i, rfl, hi⟩ := nat_of i00 i0l
  refine ⟨_, _, rfl, .int n, rfl, .int v, rfl, .int i, rfl, n, v, i, rfl, hn1, hn, h4, by omega, fun H3 x3 s3 hx3 => ?_⟩
  obtain ⟨tt, xs, rfl, htt, hxs⟩ := hx3
  have sb3 : Sb J H H3 := sb1.trans (sb2.trans (.same s3))
  have j3 := jug_same s3 j2
  have hgr : ∀ r ∈ List.replicate n (followN v i), GoodT v r := fun r hr => by
    rw [(List.mem_replicate.mp hr).2]
    exact follow_good h4 (by omega)
  have lx := hxs.len
  rw [List.length_replicate] at lx
  refine ⟨.int k, rfl, rfl, _, rfl, ite2 (fun e => ?_) (fun e => ?_)⟩
  · exact ⟨.ref J, rfl, .int n, rfl, .int v, rfl, J, n, v, rfl, j3, hn1, hn, h1, h4, fun H4 x rs sb4 j4 hx hl hg => q H4 x rs (sb3.trans sb4) j4 hx hl hg⟩
  refine ⟨.int k, rfl, rfl, _, rfl, ite2 (fun e => ?_) (fun e => ?_)⟩
  · exact ⟨.ref tt, rfl, q H3 (.ref tt) _ sb3 j3 ⟨tt, xs, rfl, htt, hxs⟩ (List.length_replicate ..) hgr⟩
  refine ⟨.ref J, rfl, .int n, rfl, J, n, rfl, by omega, Nat.lt_of_lt_of_le (by omega : ((n : Nat) : Int).natAbs < 2 ^ 6) (Nat.pow_le_pow_right (by decide) (by decide)), j3, fun H4 m0 sb4 j4 m00 m0l => ?_⟩
  obtain ⟨m, rfl, hm⟩ := nat_of m00 m0l
  refine ⟨.int v, rfl, .ref J, rfl, .int v, rfl, J, v, rfl, by omega, by omega, j4, fun H5 i2 sb5 j5 i20 i2l => ?_⟩
  obtain ⟨i2, rfl, hi2⟩ := nat_of i20 i2l
  refine ⟨1, v, i2, rfl, by decide, by decide, h4, by omega, fun H6 x6 s6 hx6 => ?_⟩
  obtain ⟨t6, xs6, rfl, ht6, hxs6⟩ := hx6
  obtain ⟨y6, hy6⟩ : ∃ y6, xs6[0]? = some y6 := ⟨xs6[0]'(by rw [hxs6.len, List.length_replicate]; decide), List.getElem?_eq_getElem _⟩
  obtain ⟨r6, hr6, o6, e6, ho6⟩ := hxs6.get hy6
  subst e6
  have er6 : r6 = followN v i2 := (Option.some.inj hr6).symm
  refine ⟨t6, xs6, 0, .ref o6, rfl, rfl, .of ht6, atI_nat (j := 0) hy6, ?_⟩
  have sb46 : Sb J H3 H6 := sb4.trans (sb5.trans (.same s6))
  have j6 := jug_same s6 j5
  have tk6 : Tk H3 H6 := sb46.gw.tk (Jg.at_ j3)
  refine ⟨n, k, i, m, tt, o6, _, _, r6, rfl, j6, ⟨tt, xs, rfl, tk6.tup htt, all_tk tk6 hxs⟩, by rw [List.length_replicate]; omega, hgr, ⟨o6, rfl, ho6⟩, by rw [er6]; exact follow_good h4 (by omega), fun H7 o7 r7 y8 sb7 j7 ho7 g7 => ?_⟩
  have tk7 : Tk H6 H7 := sb7.gw.tk (Jg.at_ j6)
  have ht7 := tk7.tup (tk6.tup htt)
  have hx7 := all_tk (tk6.trans tk7) hxs
  have sbT : Sb J H H7 := sb3.trans (sb46.trans sb7)
  refine ⟨.ref tt, rfl, .int m, rfl, _, rfl, tt, xs, rfl, ht7, fun Ha b1 t1 hb1 => ⟨.ref o7, rfl, (by show 1 ≤ sizeLine; decide), fun c1 m1 => ?_⟩⟩
  rw [cutW_take (by omega)] at hb1
  refine ⟨b1, c1, _, _, rfl, rfl, same_new m1 _ _ hb1, upd_same, ?_, fun Hb b2 t2 hb2 => ?_⟩
  · rw [List.length_take]
    show min m xs.length + 1 ≤ 5000
    omega
  have t12 : Same H7 Hb := t1.trans ((same_new m1).trans t2)
  refine ⟨.ref tt, rfl, .int m, rfl, _, _, rfl, rfl, _, rfl, tt, xs, rfl, t12 _ _ ht7, fun Hc b3 t3 hb3 => ?_⟩
  have ei : ((m : Int) + 1) = ((m + 1 : Nat) : Int) := by omega
  rw [ei, cutW_drop (by omega)] at hb3
  refine ⟨b2, b3, _, _, rfl, rfl, t3 _ _ hb2, hb3, ?_, fun Hd b4 t4 hb4 => ?_⟩
  · rw [List.length_append, List.length_take, List.length_drop]
    show min m xs.length + 1 + (xs.length - (m + 1)) ≤ 5000
    omega
  have t14 : Same H7 Hd := t12.trans (t3.trans t4)
  have hxd := all_tk (Tk.same t14) hx7
  have hod := ho7.tk (Tk.same t14)
  have hfin : All2 (IsRow Hd) (xs.take m ++ [.ref o7] ++ xs.drop (m + 1)) ((List.replicate n (followN v i)).take m ++ [r7] ++ (List.replicate n (followN v i)).drop (m + 1)) := ((All2.take m hxd).app (.cons hod .nil)).app (All2.drop (m + 1) hxd)
  refine q Hd (.ref b4) _ (sbT.trans (.same t14)) (jug_same t14 j7) ⟨b4, _, rfl, hb4, hfin⟩ ?_ fun r hr => ?_
  · rw [List.length_append, List.length_append, List.length_take, List.length_drop, List.length_replicate]
    show min m n + 1 + (n - (m + 1)) = n
    omega
  · rcases List.mem_append.mp hr with hr | hr
    · rcases List.mem_append.mp hr with hr | hr
      · exact hgr r (List.mem_of_mem_take hr)
      · rw [List.mem_singleton.mp hr]
        exact g7
    · exact hgr r (List.mem_of_mem_drop hr)
end
end Ow

set_option Elab.async false
set_option linter.all false
set_option maxRecDepth 100000
set_option maxHeartbeats 4000000
set_option exponentiation.threshold 3000
namespace Ow
open PySem PySem.Spec PyProof.Rows L2
theorem ltCps_tri : ∀ a b : List Nat, ltCps a b = false → ltCps b a = false → a = b
  | [], [], _, _ => rfl
  | [], _ :: _, h, _ => nomatch h
  | _ :: _, [], _, h => nomatch h
  | a :: r, b :: t, h, g => by
    unfold ltCps at h g
    have e : a = b := by
      by_cases h1 : a < b
      · simp [h1] at h
      · by_cases h2 : b < a
        · simp [h2] at g
        · omega
    subst e
    simp only [Nat.lt_irrefl, decide_false, Bool.false_or, beq_self_eq_true, Bool.true_and] at h g
    rw [ltCps_tri r t h g]
theorem str_ext {a b : Str} (h : a.cps.toList = b.cps.toList) : a = b := by
  cases a
  cases b
  congr 1
  exact Array.toList_inj.mp h
theorem asc_from : ∀ (r : List Str) (p : Str), (p :: r).Nodup → risingS p r = true → ascB (p :: r) = true
  | [], p, _, _ => rfl
  | x :: r, p, nd, h => by
    have nd' := List.nodup_cons.mp nd
    unfold risingS at h
    rw [Bool.and_eq_true] at h
    have ih := asc_from r x nd'.2 h.2
    show (ltS p x && ascB (x :: r)) = true
    rw [ih, Bool.and_true]
    unfold ltS
    rw [lt_meets]
    cases e : ltCps p.cps.toList x.cps.toList with
    | true => rfl
    | false =>
      have h1 : ltCps x.cps.toList p.cps.toList = false := by
        have := h.1
        cases q : ltCps x.cps.toList p.cps.toList with
        | true => rw [q] at this; cases this
        | false => rfl
      exact absurd (by rw [str_ext (ltCps_tri _ _ e h1)]; exact List.mem_cons_self : p ∈ x :: r) nd'.1
theorem asc_of : ∀ {ys : List Str}, ys.Nodup → sortedS ys = true → ascB ys = true
  | [], _, _ => rfl
  | y :: ys, nd, h => asc_from ys y nd h
theorem issues_of {zs ys : List Str} (pm : ys.Perm zs) (so : sortedS ys = true) (nd : zs.Nodup) (h1 : 1 ≤ zs.length) (h6 : zs.length ≤ 6) (hn : ∀ z ∈ zs, nameB (.str z) = true) : issuesB ys = true := by
  have l := pm.length_eq
  unfold issuesB namesB
  rw [asc_of (pm.nodup_iff.mpr nd) so, decide_eq_true (by omega), decide_eq_true (by omega)]
  have : (ys.all fun z => nameB (.str z)) = true := List.all_eq_true.mpr fun z hz => hn z (pm.mem_iff.mp hz)
  rw [this]
  rfl
abbrev five : List Str := ["a", "b", "c", "d", "e"]
theorem five_ok : ∀ n ≤ 5, (five.take n).Nodup ∧ (five.take n).length = n ∧ (∀ z ∈ five.take n, nameB (.str z) = true) ∧ ∀ z ∈ five.take n, z.length ≤ 4000 ∧ ∀ c ∈ z.cps.toList, c < 128 := by decide +kernel
theorem five_all {v n : Nat} {rs : List (List Int)} (h1 : 1 ≤ n) (h5 : n ≤ 5) (hl : rs.length = n) (hg : ∀ r ∈ rs, GoodT v r) : AllOk v (five.take n) (tabOf (five.take n) rs) := by
  obtain ⟨nd, l, hn, hp⟩ := five_ok n h5
  refine ⟨fun z hz => ?_, by omega, nd, hp, fun ys pm so => issues_of pm so nd (by omega) (by omega) hn⟩
  have e := tab_all nd (rs := rs) (by omega)
  have : tabOf (five.take n) rs z ∈ (five.take n).map (tabOf (five.take n) rs) := List.mem_map.mpr ⟨z, hz, rfl⟩
  rw [e] at this
  exact hg _ this
/-! what is told of it -/
def natD (is : List Nat) : PyData := .tuple (is.map fun i : Nat => .int (i : Int))
theorem dp_nats {K : PySem.W.Frag} {H : Hp} : ∀ is : List Nat, DpAll K H (is.map fun i => V.int (i : Nat)) (is.map fun i : Nat => .int (i : Int))
  | [] => .nil
  | n :: ns => .cons (.int n) (dp_nats ns)
theorem dp_nat {K : PySem.W.Frag} {H : Hp} {a : Addr} {is : List Nat} (h : H a = some (.tup (is.map fun i => V.int (i : Nat)))) : Dp K H (.ref a) (natD is) := .tup (.of h) (dp_nats is)
/-- a tuple of numbers below four -/
def Small4 (is : List Nat) : Prop := ∃ p : Nat → Bool, ∃ v ≤ 4, is = (List.range v).filter p
end Ow

set_option Elab.async false
set_option linter.all false
set_option maxRecDepth 100000
set_option maxHeartbeats 4000000
set_option exponentiation.threshold 3000
namespace Ow
open PySem PySem.Spec PyProof.Rows L2
abbrev ceN : List Str := ["jug", "turn", "voters", "size", "names", "tables", "rule", "due", "voter", "name", "table"]
theorem scCell : FnScope ceN ["jug"] (defScope dCell) := ⟨rfl, rfl, rfl, by decide +kernel, rfl, by decide +kernel, by decide +kernel⟩
/-! ### texts of them -/
def NatsOk (is : List Nat) : Prop := is.length ≤ 4 ∧ ∀ i ∈ is, i < 4
theorem int_shown : ∀ i < 4, (PyData.int ((i : Nat) : Int)).shown.length ≤ 1 := by decide +kernel
theorem sum_le {α : Type} {f : α → Nat} {c : Nat} : ∀ {xs : List α}, (∀ x ∈ xs, f x ≤ c) → (xs.map f).sum ≤ c * xs.length
  | [], _ => by simp
  | x :: xs, h => by
    rw [List.map_cons, List.sum_cons, List.length_cons, Nat.mul_succ]
    have a := h x List.mem_cons_self
    have b := sum_le (xs := xs) fun y hy => h y (List.mem_cons_of_mem _ hy)
    omega
theorem shownAll_map (ds : List PyData) : PyData.shownAll ds = ds.map PyData.shown := by
  induction ds with
  | nil => rfl
  | cons d ds ih => rw [List.map_cons, ← ih]; rfl
theorem nat_shown {is : List Nat} (h : NatsOk is) : (natD is).shown.length ≤ 20 := by
  have e : (natD is).shown = tupleText (PyData.shownAll (is.map fun i : Nat => .int (i : Int))) := rfl
  rw [e, shownAll_map, List.map_map]
  refine Nat.le_trans (tupleText_len_le _) ?_
  rw [List.map_map, List.length_map]
  have := sum_le (f := (fun s : Str => s.length) ∘ PyData.shown ∘ fun i : Nat => PyData.int (i : Int)) (c := 1) (xs := is) fun i hi => int_shown i (h.2 i hi)
  have l := h.1
  omega
theorem nat_showable {is : List Nat} (h : NatsOk is) : (natD is).showable = true := by
  show PyData.showableAll (is.map fun i : Nat => .int (i : Int)) = true
  replace h := h.2
  induction is with
  | nil => rfl
  | cons i is ih =>
    show (PyData.showable (.int (i : Int)) && PyData.showableAll (is.map fun i : Nat => .int (i : Int))) = true
    rw [ih fun j hj => h j (List.mem_cons_of_mem _ hj), Bool.and_true]
    have : ∀ i < 4, PyData.showable (.int ((i : Nat) : Int)) = true := by decide +kernel
    exact this i (h i List.mem_cons_self)
theorem nat_nodict (is : List Nat) : (natD is).hasDict = false := by
  show PyData.hasDictAll (is.map fun i : Nat => .int (i : Int)) = false
  induction is with
  | nil => rfl
  | cons i is ih =>
    show (PyData.hasDict (.int (i : Int)) || PyData.hasDictAll (is.map fun i : Nat => .int (i : Int))) = false
    rw [ih]
    rfl
theorem nat_depth (is : List Nat) : (natD is).depth = 1 := by
  show PyData.depthAll (is.map fun i : Nat => .int (i : Int)) + 1 = 1
  have : PyData.depthAll (is.map fun i : Nat => .int (i : Int)) = 0 := by
    induction is with
    | nil => rfl
    | cons i is ih =>
      show max 0 (PyData.depthAll (is.map fun i : Nat => .int (i : Int))) = 0
      rw [ih]
      rfl
  rw [this]
/-- what is told of some tuples -/
theorem told_ok {L : List (List Nat)} (hl : L.length ≤ 60) (h : ∀ is ∈ L, NatsOk is) : (PyData.list (L.map natD)).showable = true ∧ (PyData.list (L.map natD)).hasDict = false ∧ (PyData.list (L.map natD)).depth ≤ 40 ∧ (PyData.list (L.map natD)).shown.length ≤ sizeLine := by
  refine ⟨?_, ?_, ?_, ?_⟩
  · show PyData.showableAll (L.map natD) = true
    clear hl
    induction L with
    | nil => rfl
    | cons i L ih =>
      show (PyData.showable (natD i) && PyData.showableAll (L.map natD)) = true
      rw [ih fun j hj => h j (List.mem_cons_of_mem _ hj), nat_showable (h i List.mem_cons_self)]
      rfl
  · show PyData.hasDictAll (L.map natD) = false
    clear hl h
    induction L with
    | nil => rfl
    | cons i L ih =>
      show (PyData.hasDict (natD i) || PyData.hasDictAll (L.map natD)) = false
      rw [ih, nat_nodict]
      rfl
  · show PyData.depthAll (L.map natD) + 1 ≤ 40
    have : PyData.depthAll (L.map natD) ≤ 1 := by
      clear hl h
      induction L with
      | nil => exact Nat.zero_le _
      | cons i L ih =>
        show max (PyData.depth (natD i)) (PyData.depthAll (L.map natD)) ≤ 1
        rw [nat_depth]
        omega
    omega
  · have e : (PyData.list (L.map natD)).shown = listText (PyData.shownAll (L.map natD)) := rfl
    rw [e, shownAll_map, List.map_map]
    refine Nat.le_trans (listText_len_le _) ?_
    rw [List.map_map, List.length_map]
    have := sum_le (f := (fun s : Str => s.length) ∘ PyData.shown ∘ natD) (c := 20) (xs := L) fun i hi => nat_shown (h i hi)
    refine Nat.le_of_lt (small60 ?_)
    omega
theorem heard_ok {v : Nat} {ns : List Int} (h : v ≤ 4) : NatsOk (heardN v ns) := by
  refine ⟨?_, fun i hi => ?_⟩
  · refine Nat.le_trans (List.length_filter_le _ _) ?_
    rw [List.length_range]
    exact h
  · have := List.mem_range.mp (List.mem_filter.mp hi).1
    omega
theorem dp_idx {K : PySem.W.Frag} {H : Hp} {α : Type} {f : α → PyData} {ys : List V} {zs : List α} (h : All2 (fun y z => Dp K H y (f z)) ys zs) : DpAll K H ys (zs.map f) := by
  induction h with
  | nil => exact .nil
  | cons r _ ih => exact .cons r ih
def headV (o : Option Nat) : V := match o with
  | some i => .int (i : Nat)
  | none => .non
def headD (o : Option Nat) : PyData := match o with
  | some i => .int (i : Nat)
  | none => .none
theorem head_ok {K : PySem.W.Frag} {H : Hp} {o : Option Nat} (h : ∀ i, o = some i → i < 4) : Dp K H (headV o) (headD o) ∧ (headD o).showable = true ∧ (headD o).hasDict = false ∧ (headD o).depth ≤ 40 ∧ (headD o).shown.length ≤ sizeLine ∧ ∀ i : Int, headD o = .int i → i.natAbs.log2 < 1920 := by
  cases o with
  | none => exact ⟨.non, rfl, rfl, by decide, by decide +kernel, fun i e => nomatch e⟩
  | some i =>
    have hi := h i rfl
    refine ⟨.int i, ?_, rfl, by show 0 ≤ 40; decide, ?_, fun j e => ?_⟩
    · have : ∀ i < 4, PyData.showable (.int ((i : Nat) : Int)) = true := by decide +kernel
      exact this i hi
    · exact Nat.le_trans (int_shown i hi) (by decide)
    · cases e
      have : ∀ i < 4, ((i : Nat) : Int).natAbs.log2 < 1920 := by decide +kernel
      exact this i hi
theorem follow_head (v : Nat) (ys : List Str) (tab : Str → List Int) : followV v ys tab = headV ((List.range v).find? (followB v ys tab)) := by
  unfold followV headV
  rfl
theorem follow_eq {v n i : Nat} {ys zs : List Str} {tab : Str → List Int} {rs : List (List Int)} (pm : ys.Perm zs) (ht : zs.map tab = rs) (hl : rs.length = n) : followB v ys tab i = decide (List.replicate n (followN v i) = rs) := by
  rw [Bool.eq_iff_iff]
  unfold followB
  rw [List.all_eq_true, decide_eq_true_iff]
  constructor
  · intro h
    symm
    rw [List.eq_replicate_iff]
    refine ⟨hl, fun r hr => ?_⟩
    rw [← ht] at hr
    obtain ⟨z, hz, rfl⟩ := List.mem_map.mp hr
    exact of_decide_eq_true (h z (pm.mem_iff.mpr hz))
  · intro h z hz
    have hz := pm.mem_iff.mp hz
    have : tab z ∈ rs := by rw [← ht]; exact List.mem_map.mpr ⟨z, hz, rfl⟩
    rw [← h] at this
    exact decide_eq_true (List.mem_replicate.mp this).2
theorem find_head {v : Nat} {p q : Nat → Bool} (h : ∀ i, p i = q i) : (List.range v).find? p = ((List.range v).filter q).head? := by
  rw [List.head?_filter]
  congr 1
  funext i
  exact h i
end Ow

set_option Elab.async false
set_option linter.all false
set_option maxRecDepth 100000
set_option maxHeartbeats 4000000
set_option exponentiation.threshold 3000
namespace Ow
open PySem PySem.Spec PyProof.Rows L2
section
variable {P : Program} {w : World} {K : PySem.W.Frag} {mg : Str → Option Value} {base : Heap} {C : Addr}
def spCell2 : Sp := fun vs H Q _ => ∃ J : Addr, vs = [.ref J] ∧ Jug H J ∧ ∀ H', Sb J H H' → Q (.bl true) H'
/-- the first of the list, or None -/
def tDue : TE := fun σ H Q => ∃ (D : Addr) (L : List Nat), σ[7]? = some (some (.ref D)) ∧ H D = some (.lst (natsV L)) ∧ ∀ H', Same H H' → Q (headV L.head?) H'
theorem ok_cell {f fD fT fM fV fL fF fH : Addr} {fd fdD fdT fdM fdV fdL fdF fdH : FuncData} (R : RuleC K C) (F : Fun K "_law_cell_right" "_law_cell_right" dCell f fd)
    (FD : FnOk P w K mg base CX0 1 fD fdD ["jug", "total"] spDip) (kD : PySem.W.keepIn K (.ref fD) = true) (bD : Binds K fdD ["jug", "total"] []) (gD : mg "_law_dip" = some (.ref fD))
    (FT : FnOk P w K mg base CX0 5 fT fdT ["jug", "size", "voters"] spAnyTs) (kT : PySem.W.keepIn K (.ref fT) = true) (bT : Binds K fdT ["jug", "size", "voters"] []) (gT : mg "_law_tried" = some (.ref fT))
    (FM : FnOk P w K mg base CX0 9 fM fdM ["voters", "names", "tables"] (spMade C)) (kM : PySem.W.keepIn K (.ref fM) = true) (bM : Binds K fdM ["voters", "names", "tables"] []) (gM : mg "_law_made_rule" = some (.ref fM))
    (FV : FnOk P w K mg base CX0 2 fV fdV ["size", "voters", "voter"] spVT) (kV : PySem.W.keepIn K (.ref fV) = true) (bV : Binds K fdV ["size", "voters", "voter"] []) (gV : mg "_law_voter_tables" = some (.ref fV))
    (FL : FnOk P w K mg base CX0 3 fL fdL ["voters", "table"] spLH) (kL : PySem.W.keepIn K (.ref fL) = true) (bL : Binds K fdL ["voters", "table"] []) (gL : mg "_law_heard" = some (.ref fL))
    (FF : FnOk P w K mg base CX0 3 fF fdF ["self"] (spFollowed C)) (mF : Meth K C "followed" fF) (bF : Binds K fdF ["self"] [])
    (FH : FnOk P w K mg base CX0 3 fH fdH ["self", "issue"] (spHeard C)) (mH : Meth K C "heard" fH) (bH : Binds K fdH ["self", "issue"] [])
    (mr : mg "range" = none) (mp : mg "repr" = none) : FnG P w K mg base 10 f fd ["jug"] spCell2 := by
  refine okG F scCell (fun vs H Q E h => ?_) (fun cdv A outer s H vs Q E gB hr h => ?_)
  · obtain ⟨J, rfl, _⟩ := h
    rfl
  obtain ⟨J, rfl, hJ, q⟩ := h
  refine ⟨_, pss_cons (ps_for PassesOwn.never rfl (pi_range1 (by rfl) mr (pa_cons pe_int pa_nil)) (pg_name (i := 1) scCell.nd rfl (.inl rfl))
      (pss_cons (ps_asg (pe_tup (pa_cons (pe_op op_add pe_int (pe_call FD (hr.mono (by decide)) (by rfl) gD kD bD .nil pass0 (pa_cons (pv 0) (pa_cons pe_int pa_nil)))) (pa_cons (pe_op op_add pe_int (pe_call FD (hr.mono (by decide)) (by rfl) gD kD bD .nil pass0 (pa_cons (pv 0) (pa_cons pe_int pa_nil)))) pa_nil)))
          (pg_tup (by rfl) (pgs_cons (pg_name (i := 2) scCell.nd rfl (.inr rfl)) (pgs_cons (pg_name (i := 3) scCell.nd rfl (.inr rfl)) pgs_nil))))
      (pss_cons (ps_set (i := 4) scCell.nd rfl (.inl rfl) (pe_slice sl_list (pe_lst (pa_cons pe_str (pa_cons pe_str (pa_cons pe_str (pa_cons pe_str (pa_cons pe_str pa_nil)))))) po_none (po_some (pv 3))))
      (pss_cons (ps_set (i := 5) scCell.nd rfl (.inr rfl) (pe_call FT (hr.mono (by decide)) (by rfl) gT kT bT .nil pass0 (pa_cons (pv 0) (pa_cons (pv 3) (pa_cons (pv 2) pa_nil)))))
      (pss_cons (ps_set (i := 6) scCell.nd rfl (.inr rfl) (pe_call FM hr (by rfl) gM kM bM .nil pass0 (pa_cons (pv 2) (pa_cons (pv 4) (pa_cons (pv 5) pa_nil)))))
      (pss_cons (ps_setLc (i := 7) (te := tVar 8) (own := [("voter", 8)]) (g := gName 8) (tt := tTest (tOp (rEqD K) (tCall spVT [] E0 (tCons (tVar 3) (tCons (tVar 2) (tCons (tVar 8) tNil)))) (tVar 5))) rfl scCell.nd rfl rfl (sw_true rfl rfl rfl (by decide +kernel)) (pi_range1 (by rfl) mr (pa_cons (pv 2) pa_nil)) (blkOk_by (N := ceN) (sc := defScope dCell) (by decide +kernel))
          (fun _ _ _ _ _ => pg_name (i := 8) scCell.nd rfl (Or.inl rfl))
          (fun _ _ _ _ _ => pts_one (pt_cmpR (op_eqD (hu64 hr)) (pe_call FV (hr.mono (by decide)) (by rfl) gV kV bV .nil pass0 (pa_cons (pv 3) (pa_cons (pv 2) (pa_cons (pv 8) pa_nil)))) (pv 5) (nomark _)))
          (fun _ _ _ _ _ => pv 8))
      (pss_cons (ps_if (pt_cmpR op_ne (pe_callB (call_repr gB hr.units) (by rfl) mp boot_repr (pa_cons (pe_meth0 (pv 6) R.cl mF FF (hr.mono (by decide)) bF .nil pass0) pa_nil))
          (pe_callB (call_repr gB hr.units) (by rfl) mp boot_repr (pa_cons (PE.of (t' := tDue) (pe_ifExp (pt_cmpR (op_neD (hu64 hr)) (pv 7) (pe_lst pa_nil) (nomark _)) (pe_ix ix_list (pv 7) pe_int (fun _ _ => rfl)) pe_non) ?due) pa_nil)) (nomark _))
        (pss_one (ps_ret pe_bl)) pss_nil)
      (pss_one (ps_if (pt_cmpR op_ne
          (pe_callB (call_repr gB hr.units) (by rfl) mp boot_repr (pa_cons
            (pe_lc (te := tMeth C "heard" (spHeard C) [] E0 (tVar 6) (tCons (tVar 9) tNil)) (own := [("name", 9)]) (g := gName 9) (tt := tYes) rfl scCell.nd (pi_list (pv 4)) (blkOk_by (N := ceN) (sc := defScope dCell) (by decide +kernel))
              (fun _ _ _ _ _ => pg_name (i := 9) scCell.nd rfl (Or.inl rfl)) (fun _ _ _ _ _ => pts_nil)
              (fun _ _ _ _ _ => pe_meth (pv 6) R.cl mH FH (hr.mono (by decide)) bH .nil pass0 (pa_cons (pv 9) pa_nil))) pa_nil))
          (pe_callB (call_repr gB hr.units) (by rfl) mp boot_repr (pa_cons
            (pe_lc (te := tCall spLH [] E0 (tCons (tVar 2) (tCons (tVar 10) tNil))) (own := [("table", 10)]) (g := gName 10) (tt := tYes) rfl scCell.nd (pi_tup (pv 5)) (blkOk_by (N := ceN) (sc := defScope dCell) (by decide +kernel))
              (fun _ _ _ _ _ => pg_name (i := 10) scCell.nd rfl (Or.inl rfl)) (fun _ _ _ _ _ => pts_nil)
              (fun _ _ _ _ _ => pe_call FL (hr.mono (by decide)) (by rfl) gL kL bL .nil pass0 (pa_cons (pv 2) (pa_cons (pv 10) pa_nil)))) pa_nil)) (nomark _))
        (pss_one (ps_ret pe_bl)) pss_nil))))))))) 
    (pss_one (ps_ret pe_bl)), ?red⟩
  case due =>
    intro σ Hz Qz h
    obtain ⟨D, L, h7, hD, k⟩ := h
    refine ⟨.ref D, h7, Nat.zero_le _, fun e ne => ?_⟩
    have s0 : Same Hz (upd Hz e (.lst [])) := same_new ne
    have em : natsV L = (L.map fun j : Nat => (j : Int)).map V.int := by
      unfold natsV
      rw [List.map_map]
      rfl
    have hD2 := s0 _ _ hD
    have hD3 := hD2
    rw [em] at hD3
    refine ⟨.list ((L.map fun j : Nat => (j : Int)).map .int), .list [], .lst (.of hD3) (dp_ints _), .lst (.of upd_same) .nil, shaped_ints _, rfl, _, rfl, ?_⟩
    have e2 : PyData.eqv (.list ((L.map fun j : Nat => (j : Int)).map .int)) (.list []) = decide ((L.map fun j : Nat => (j : Int)) = []) := eqv_ints _ []
    rw [e2]
    cases L with
    | nil =>
      have : (!decide (([] : List Nat).map (fun j : Nat => (j : Int)) = [])) = false := rfl
      rw [this]
      exact iteF (k _ s0)
    | cons i L =>
      have : (!decide ((i :: L).map (fun j : Nat => (j : Int)) = [])) = true := rfl
      rw [this]
      refine iteT ⟨.ref D, h7, D, _, 0, .int i, rfl, rfl, .of hD2, atI_nat (j := 0) rfl, k _ s0⟩
  case red =>
  refine ⟨8, rfl, by decide, by decide, ?_⟩
  refine for_range (lo := 0) (n := 8) (fun t σ Hx => ∃ y1 y2 y3 y4 y5 y6 y7 y8 y9 y10, σ = [some (.ref J), y1, y2, y3, y4, y5, y6, y7, y8, y9, y10] ∧ Sb J H Hx ∧ Jug Hx J)
    ⟨_, _, _, _, _, _, _, _, _, _, rfl, Sb.refl _ _, hJ⟩ (fun t σ Hx ht hP => ?_) (fun σ Hx hP => ?_)
  · obtain ⟨y1, y2, y3, y4, y5, y6, y7, y8, y9, y10, rfl, sx, jx⟩ := hP
    refine ⟨.ref J, rfl, J, 4, rfl, by decide, by decide, jx, fun H1 k1 sb1 j1 k10 k1l => ⟨1, k1, rfl, rfl, .ref J, rfl, J, 5, rfl, by decide, by decide, j1, fun H2 k2 sb2 j2 k20 k2l => ⟨1, k2, rfl, rfl, (by show 2 ≤ sizeLine; decide), fun T nT => ?_⟩⟩⟩
    obtain ⟨v, ev, hv1, hv4⟩ : ∃ v : Nat, 1 + k1 = (v : Int) ∧ 1 ≤ v ∧ v ≤ 4 := ⟨(1 + k1).toNat, by omega, by omega, by omega⟩
    obtain ⟨n, en, hn1, hn5⟩ : ∃ n : Nat, 1 + k2 = (n : Int) ∧ 1 ≤ n ∧ n ≤ 5 := ⟨(1 + k2).toNat, by omega, by omega, by omega⟩
    refine ⟨T, [.int v, .int n], rfl, ?_, rfl, _, _, rfl, _, _, rfl, rfl, ?_⟩
    · rw [← ev, ← en]
      exact .of upd_same
    have sT : Same H2 (upd H2 T (.tup [.int (1 + k1), .int (1 + k2)])) := same_new nT
    have j3 := jug_same sT j2
    have sb3 : Sb J H (upd H2 T (.tup [.int (1 + k1), .int (1 + k2)])) := sx.trans (sb1.trans (sb2.trans (.same sT)))
    generalize upd H2 T (.tup [.int (1 + k1), .int (1 + k2)]) = H3 at j3 sb3 ⊢
    obtain ⟨nd5, l5, n5, p5⟩ := five_ok n hn5
    refine ⟨(by show 5 ≤ sizeLine; decide), fun L nL => ⟨.int n, rfl, _, rfl, L, five.map V.str, rfl, .of upd_same, fun ln nln => ?_⟩⟩
    rw [cutW_take (show n ≤ (five.map V.str).length from hn5), ← List.map_take]
    have sL := (same_new (o := .lst [.str "a", .str "b", .str "c", .str "d", .str "e"]) nL).trans (same_new (o := .lst ((five.take n).map V.str)) nln)
    have eln : upd (upd H3 L (.lst [.str "a", .str "b", .str "c", .str "d", .str "e"])) ln (.lst ((five.take n).map V.str)) ln = some (.lst ((five.take n).map V.str)) := upd_same
    have lnJ : ln ≠ J := jug_none (jug_same (same_new (o := .lst [.str "a", .str "b", .str "c", .str "d", .str "e"]) nL) j3) nln
    have j4 := jug_same sL j3
    have sb4 := sb3.trans (.same sL)
    generalize upd (upd H3 L (.lst [.str "a", .str "b", .str "c", .str "d", .str "e"])) ln (.lst ((five.take n).map V.str)) = H4 at eln j4 sb4 ⊢
    refine ⟨.ref J, rfl, .int n, rfl, .int v, rfl, J, n, v, rfl, j4, hn1, by omega, hv1, hv4, fun H5 x5 rs sb5 j5 hx5 hl5 hg5 => ?_⟩
    obtain ⟨tt, xs, rfl, htt, hxs⟩ := hx5
    have eln5 := sb5 _ _ lnJ eln
    have hall := five_all (v := v) hn1 hn5 hl5 hg5
    refine ⟨.int v, rfl, .ref ln, rfl, .ref tt, rfl, v, ln, tt, five.take n, rs, rfl, hv1, hv4, eln5, ⟨tt, xs, rfl, htt, hxs⟩, by omega, hall, fun H6 ru ys s6 pm hR => ?_⟩
    generalize etab : tabOf (five.take n) rs = tab at hR hall
    have hmap : (five.take n).map tab = rs := by
      rw [← etab]
      exact tab_all nd5 (by omega)
    have j6 := jug_same s6 j5
    have sb6 : Sb J H H6 := sb4.trans (sb5.trans (.same s6))
    have eln6 := s6 _ _ eln5
    have htt6 := s6 _ _ htt
    have hxs6 := all_tk (Tk.same s6) hxs
    have lys := pm.length_eq
    refine ⟨.int v, rfl, v, rfl, by omega, by omega, fun D nD => ?_⟩
    refine lc_it (walk_range (lo := 0) (n := v)) (fun i Hy => Same H6 Hy ∧ Hy D = some (.lst (natsV ((List.range i).filter fun i => decide (List.replicate n (followN v i) = rs))))) ⟨same_new nD, upd_same⟩ (fun _ _ _ _ => trivial)
      (fun i x Hy Hy' hi hQ hY => ?_) (fun Hy hQ => ?_)
    · obtain ⟨rfl, rfl⟩ := hY
      obtain ⟨sy, ey⟩ := hQ
      refine ⟨rfl, .int n, rfl, .int v, rfl, .int (0 + (i : Int)), rfl, n, v, i, by rw [Int.zero_add]; rfl, hn1, by omega, hv4, hi, fun H7 x7 s7 hx7 => ?_⟩
      have sy7 := sy.trans s7
      refine ⟨.ref tt, rfl, rowsD _, rowsD rs, dp_rows hx7, dp_rows ⟨tt, xs, rfl, sy7 _ _ htt6, all_tk (Tk.same sy7) hxs6⟩, shaped_rows _, shaped_rows _, _, rfl, ?_⟩
      rw [eqv_rows]
      have ey7 := s7 _ _ ey
      cases hc : decide (List.replicate n (followN v i) = rs) with
      | true =>
        refine iteT ⟨.int (0 + (i : Int)), rfl, _, ey7, ?_, fun b o e => ?_, ?_⟩
        · unfold natsV
          rw [List.length_map]
          refine small60 (Nat.le_trans (List.length_filter_le _ _) ?_)
          rw [List.length_range]
          omega
        · rw [upd_ne (ne_of_none e nD)]
          exact sy7 _ _ e
        · rw [upd_same, range_next, if_pos hc]
          unfold natsV
          rw [List.map_append, Int.zero_add]
          rfl
      | false =>
        refine iteF ⟨sy7, ?_⟩
        rw [ey7, range_next, if_neg (by rw [hc]; decide)]
    obtain ⟨sy, ey⟩ := hQ
    have hRy := hR.tk (Tk.same sy)
    obtain ⟨dx, ti, d, hru, _, _⟩ := id hRy
    have ehead : followV v ys tab = headV (((List.range v).filter fun i => decide (List.replicate n (followN v i) = rs)).head?) := by
      rw [follow_head, find_head fun i => follow_eq pm hmap hl5]
    have h4 : ∀ i, ((List.range v).filter fun i => decide (List.replicate n (followN v i) = rs)).head? = some i → i < 4 := fun i e => by
      have := List.mem_range.mp (List.mem_filter.mp (List.mem_of_head? e)).1
      omega
    generalize ((List.range v).filter fun i => decide (List.replicate n (followN v i) = rs)) = LL at ey ehead h4
    refine ⟨.ref ru, rfl, ru, dx, _, rfl, hru, rfl, ru, v, ys, tab, rfl, hv4, by omega, hRy, fun H8 s8 => ?_⟩
    obtain ⟨d1, d2, d3, d4, d5, d6⟩ := head_ok (K := K) (H := H8) h4
    rw [ehead]
    refine ⟨_, _, rfl, d1, d2, d3, d4, d5, d6, D, LL, rfl, s8 _ _ ey, fun H9 s9 => ?_⟩
    obtain ⟨e1, _, _, _, _, _⟩ := head_ok (K := K) (H := H9) h4
    refine ⟨_, _, rfl, e1, d2, d3, d4, d5, d6, rfl, _, rfl, ?_⟩
    rw [decide_eq_true rfl]
    refine iteF ?_
    have sy9 : Same H6 H9 := sy.trans (s8.trans s9)
    refine ⟨.ref ln, rfl, ln, rfl, ⟨_, .of (sy9 _ _ eln6)⟩, fun D2 nD2 => ?_⟩
    have gT : ∀ z ∈ five.take n, GoodT v (tab z) := hall.1
    refine lc_map (M := No) (walk_list (K := K) (a := ln) (xs := (five.take n).map V.str)) (by rw [List.length_map]; omega) Jg.no nD2 (fun i Hy y => ∃ z, (five.take n)[i]? = some z ∧ Dp K Hy y (natD (heardN v (tab z))) ∧ ∃ a, y = .ref a ∧ Hy a = some (.tup ((heardN v (tab z)).map fun i => V.int (i : Nat)))) 
      (fun _ _ _ _ tk h => by
        obtain ⟨z, hz, _, a, e, ha⟩ := h
        subst e
        exact ⟨z, hz, dp_nat (tk.tup ha), a, rfl, tk.tup ha⟩) (fun Hy g _ => .of (g.toSame _ _ (sy9 _ _ eln6)))
      (fun i x Hy Hy' Kk hi g _ hY hK => ?_) (fun Hy ws g _ eD hlen hq => ?_)
    · obtain ⟨rfl, hx⟩ := hY
      rw [List.getElem?_map] at hx
      cases hz : (five.take n)[i]? with
      | none => rw [hz] at hx; cases hx
      | some z =>
        rw [hz] at hx
        cases hx
        have sa := sy9.trans g.toSame
        have hRa := hR.tk (Tk.same sa)
        obtain ⟨dxa, _, _, hrua, _, _⟩ := id hRa
        have hzm := List.mem_of_getElem? hz
        exact ⟨rfl, .ref ru, rfl, ru, dxa, _, rfl, hrua, rfl, .str z, rfl, ru, z, v, ys, tab, rfl, hv4, hRa, pm.mem_iff.mpr hzm, (gT z hzm).len, fun Hb p sb hp => hK _ _ (Gw.same sb) Jg.no ⟨z, hz, dp_nat hp, p, rfl, hp⟩⟩
    have sa := sy9.trans g.toSame
    have lw : ws.length = (five.take n).length := by rw [hlen, List.length_map]
    have dW : DpAll K Hy ws ((five.take n).map fun z => natD (heardN v (tab z))) := dp_idx (.of_get lw fun i y z ey ez => by
      obtain ⟨z', hz', dz, _⟩ := hq i y ey
      rw [ez] at hz'
      cases hz'
      exact dz)
    have eL : ((five.take n).map fun z => natD (heardN v (tab z))) = (rs.map (heardN v)).map natD := by
      rw [← hmap, List.map_map, List.map_map]
      rfl
    rw [eL] at dW
    obtain ⟨f1, f2, f3, f4⟩ := told_ok (L := rs.map (heardN v)) (by rw [List.length_map]; omega) (fun is his => by
      obtain ⟨r, _, rfl⟩ := List.mem_map.mp his
      exact heard_ok hv4)
    refine ⟨.ref D2, _, rfl, .lst (.of eD) dW, f1, f2, f3, f4, (fun i e => nomatch e), ?_⟩
    have tta := sa _ _ htt6
    have xsa := all_tk (Tk.same sa) hxs6
    have lx := hxs6.len
    refine ⟨.ref tt, rfl, tt, rfl, ⟨_, .of tta⟩, fun D3 nD3 => ?_⟩
    refine lc_map (M := No) (walk_tup (K := K) (a := tt) (xs := xs)) (by omega) Jg.no nD3 (fun i Hy y => ∃ r, rs[i]? = some r ∧ ∃ a, y = .ref a ∧ Hy a = some (.tup ((heardN v r).map fun i => V.int (i : Nat)))) 
      (fun _ _ _ _ tk h => by
        obtain ⟨z, hz, a, e, ha⟩ := h
        exact ⟨z, hz, a, e, tk.tup ha⟩) (fun Hy g _ => .of (g.toSame _ _ tta))
      (fun i x Hz Hz' Kk hi g2 _ hY hK => ?_) (fun Hz us g2 _ eD3 hlen3 hq3 => ?_)
    · obtain ⟨rfl, hx⟩ := hY
      obtain ⟨r, hr, a, rfl, ha⟩ := xsa.get hx
      exact ⟨rfl, .int v, rfl, .ref a, rfl, v, a, r, rfl, hv4, g2.toSame _ _ ha, (hg5 r (List.mem_of_getElem? hr)).len, fun Hb p sb hp => hK _ _ (Gw.same sb) Jg.no ⟨r, hr, p, rfl, hp⟩⟩
    have dU : DpAll K Hz us (rs.map fun r => natD (heardN v r)) := dp_idx (.of_get (by omega) fun i y r ey er => by
      obtain ⟨r', hr', a, e, ha⟩ := hq3 i y ey
      rw [er] at hr'
      cases hr'
      subst e
      exact dp_nat ha)
    have eU : (rs.map fun r => natD (heardN v r)) = (rs.map (heardN v)).map natD := by
      rw [List.map_map]
      rfl
    rw [eU] at dU
    refine ⟨.ref D3, _, rfl, .lst (.of eD3) dU, f1, f2, f3, f4, (fun i e => nomatch e), rfl, _, rfl, ?_⟩
    rw [decide_eq_true rfl]
    have sz := sa.trans g2.toSame
    exact iteF ⟨_, _, _, _, _, _, _, _, _, _, rfl, sb6.trans (.same sz), jug_same sz j6⟩
  · obtain ⟨y1, y2, y3, y4, y5, y6, y7, y8, y9, y10, rfl, sx, jx⟩ := hP
    exact q _ sx
end
end Ow

set_option Elab.async false
set_option linter.all false
set_option maxRecDepth 100000
set_option maxHeartbeats 4000000
set_option exponentiation.threshold 3000
namespace Ow
open PySem PySem.Spec PyProof.Rows L2
theorem scLaw : FnScope ["script", "at", "most", "last"] ["script"] (defScope dLaw) := ⟨rfl, rfl, rfl, by decide +kernel, rfl, by decide +kernel, by decide +kernel⟩
def mostT : List Int := [0, 0, 0, 1, 0, 1, 1, 1]
def lastT : List Int := [0, 0, 0, 0, 0, 0, 0, 1]
def firstT : List Int := [0, 0, 0, 0, 0, 0, 0, 0, 1, 1, 1, 1, 1, 1, 1, 1]
theorem good_most : GoodT 3 mostT := ⟨rfl, by decide, rfl, rfl⟩
theorem good_last : GoodT 3 lastT := ⟨rfl, by decide, rfl, rfl⟩
theorem good_first : GoodT 4 firstT := ⟨rfl, by decide, rfl, rfl⟩
theorem one_all {v : Nat} {ns : List Int} (g : GoodT v ns) : AllOk v ["a"] (tabOf ["a"] [ns]) := five_all (n := 1) (rs := [ns]) (by decide) (by decide) rfl fun r hr => by rw [List.mem_singleton.mp hr]; exact g
theorem one_follow {v : Nat} {ns : List Int} {ys : List Str} (pm : ys.Perm ["a"]) : followV v ys (tabOf ["a"] [ns]) = headV (((List.range v).filter fun i => decide (List.replicate 1 (followN v i) = [ns])).head?) := by
  rw [follow_head, find_head fun i => follow_eq (n := 1) (rs := [ns]) pm rfl rfl]
theorem most_head : ((List.range 3).filter fun i => decide (List.replicate 1 (followN 3 i) = [mostT])).head? = none := by decide +kernel
theorem first_head : ((List.range 4).filter fun i => decide (List.replicate 1 (followN 4 i) = [firstT])).head? = some 0 := by decide +kernel
theorem most_heard : heardN 3 mostT = [0, 1, 2] := by decide +kernel
theorem last_heard : heardN 3 lastT = [0, 1, 2] := by decide +kernel
theorem sb_same {J : Addr} {H H' : Hp} (s : Sb J H H') (n : H J = none) : Same H H' := fun b o e => s b o (ne_of_none e n) e
section
variable {P : Program} {w : World} {K : PySem.W.Frag} {mg : Str → Option Value} {base : Heap} {C : Addr}
def spLaw (K : PySem.W.Frag) : Sp := fun vs H Q _ => ∃ (a : Addr) (ns : List Int), vs = [.ref a] ∧ SqL K H a (ns.map V.int) ∧ ns.length ≤ 63 ∧ ∀ H', Q (.bl true) H'
theorem par_read {i j : Nat} {ta tb : TE} {r : TS} {D : Ends} {σ : L2.St} {H : Hp} (h : ta σ H fun x H1 => tb σ H1 fun y H2 => ∃ v w, [x, y] = [v, w] ∧ r D ((σ.set i (some v)).set j (some w)) H2) :
    tSeq (tPar i j (tCons ta (tCons tb tNil))) r D σ H := h
theorem meth_of {m : Str} {sp : Sp} {ta : TE} {t r : TA} {σ : L2.St} {H : Hp} {Q : List V → Hp → Prop} (h : ta σ H fun x H1 => ∃ a dx fs, x = .ref a ∧ H1 a = some (.ins C dx fs) ∧ fs.lookup m = none ∧ t σ H1 fun vs H2 => sp (x :: (vs ++ [])) H2 (fun y H3 => r σ H3 fun xs H4 => Q (y :: xs) H4) E0) :
    tCons (tMeth C m sp [] E0 ta t) r σ H Q := h
theorem make_read {te : TE} {σ : L2.St} {H : Hp} {Q : VK} {E : XK} {v : Nat} {c : Int} {ns : List Int} (hc : c = (v : Int)) (h1 : 1 ≤ v) (h4 : v ≤ 4) (g : GoodT v ns)
    (hte : ∀ H1 (Q1 : VK), (∀ H2 t, Same H1 H2 → H2 t = some (.tup (ns.map V.int)) → Q1 (.ref t) H2) → te σ H1 Q1) (q : ∀ H' x ys, Same H H' → ys.Perm ["a"] → RuleAt C H' x v ys (tabOf ["a"] [ns]) → Q (.ref x) H') :
    tMake C (spInit C) [] E (tCons (tC (.int c)) (tCons (tDisp [(tC (.str "a"), te)]) tNil)) σ H Q := by
  subst hc
  intro p np
  refine hte _ _ fun H2 t s2 ht => ?_
  have hp2 : H2 p = some (.dK []) := s2 _ _ upd_same
  have tp : t ≠ p := ne_of ht hp2 (by intro z; cases z)
  refine ⟨hp2, [(Sum.inr "a", .ref t)], rfl, by show 1 ≤ 15; decide, fun x dx nx ndx nex => ?_⟩
  have em : mergeK [] [((Sum.inr "a" : Key), V.ref t)] = ([(Sum.inr "a", V.ref t)] : List (Key × V)) := rfl
  rw [em] at nx ndx ⊢
  have sp : Same H (upd H2 p (.dK [(Sum.inr "a", .ref t)])) := fun b o e => by
    rw [upd_ne (ne_of_none e np)]
    exact s2 _ _ (same_new np _ _ e)
  have htp : upd H2 p (.dK [(Sum.inr "a", .ref t)]) t = some (.tup (ns.map V.int)) := by
    rw [upd_ne tp]
    exact ht
  have hpp : upd H2 p (.dK [(Sum.inr "a", .ref t)]) p = some (.dK [(Sum.inr "a", .ref t)]) := upd_same
  generalize upd H2 p (.dK [(Sum.inr "a", .ref t)]) = H3 at nx ndx sp htp hpp ⊢
  have sx : Same H3 (upd (upd H3 dx (.own x)) x (.ins C dx [])) := (same_new ndx).trans (same_new (by rw [upd_ne (fun e => nex e.symm)]; exact nx))
  refine ⟨x, dx, p, v, ["a"], tabOf ["a"] [ns], rfl, upd_same, h1, h4, ⟨_, sx _ _ hpp, .cons ⟨rfl, t, rfl, sx _ _ htp⟩ .nil⟩, one_all g, fun H' ys sb pm hR => ⟨rfl, ?_⟩⟩
  refine q H' x ys (fun b o e => ?_) pm hR
  have e1 := sp _ _ e
  exact sb b o (fun z => by rw [z, nx] at e1; cases e1) (sx _ _ e1)
theorem ok_law {f fC fJ fI fF fH : Addr} {fd fdC fdJ fdI fdF fdH : FuncData} (R : RuleC K C) (F : Fun K "law" "law" dLaw f fd)
    (FC : FnG P w K mg base 10 fC fdC ["jug"] spCell2) (kC : PySem.W.keepIn K (.ref fC) = true) (bC : Binds K fdC ["jug"] []) (gC : mg "_law_cell_right" = some (.ref fC))
    (FJ : FnOk P w K mg base CX0 1 fJ fdJ ["script", "at"] (spJug K)) (kJ : PySem.W.keepIn K (.ref fJ) = true) (bJ : Binds K fdJ ["script", "at"] []) (gJ : mg "_law_jug" = some (.ref fJ))
    (M : Mk K C fI) (FI : FnOk P w K mg base CX0 7 fI fdI ["self", "voters", "tables"] (spInit C)) (bI : Binds K fdI ["self", "voters", "tables"] []) (gR : mg "Rule" = some (.ref C))
    (FF : FnOk P w K mg base CX0 3 fF fdF ["self"] (spFollowed C)) (mF : Meth K C "followed" fF) (bF : Binds K fdF ["self"] [])
    (FH : FnOk P w K mg base CX0 3 fH fdH ["self", "issue"] (spHeard C)) (mH : Meth K C "heard" fH) (bH : Binds K fdH ["self", "issue"] [])
    (mr : mg "range" = none) (ml : mg "len" = none) (mx : mg "max" = none) (mn : mg "min" = none) : FnG P w K mg base 11 f fd ["script"] (spLaw K) := by
  refine okG F scLaw (fun vs H Q E h => ?_) (fun cdv A outer s H vs Q E gB hr h => ?_)
  · obtain ⟨a, ns, rfl, _⟩ := h
    rfl
  obtain ⟨a, ns, rfl, hS, hl, q⟩ := h
  refine ⟨_, pss_cons (ps_for PassesOwn.never rfl (pi_range1 (by rfl) mr (pa_cons (pe_callB (call_max2 rfl) (by rfl) mx boot_max (pa_cons pe_int
        (pa_cons (pe_callB (call_min2 rfl) (by rfl) mn boot_min (pa_cons pe_int (pa_cons (pe_callB call_len_seq (by rfl) ml PySem.boot_len (pa_cons (pv 0) pa_nil)) pa_nil))) pa_nil))) pa_nil)) (pg_name (i := 1) scLaw.nd rfl (.inl rfl))
      (pss_one (ps_if (pt_not (pt_val (pe_callG FC gB hr (by rfl) gC kC bC (pa_cons (pe_call FJ (hr.mono (by decide)) (by rfl) gJ kJ bJ .nil pass0 (pa_cons (pv 0) (pa_cons (pv 1) pa_nil))) pa_nil)))) (pss_one (ps_ret pe_bl)) pss_nil)))
    (pss_cons (ps_par (i := 2) (j := 3) (by rfl) scLaw.nd rfl rfl (by decide) rfl rfl (pa_cons
        (pe_make M FI (hr.mono (by decide)) (by rfl) gR bI .nil pass0 (pa_cons pe_int (pa_cons (pe_disp (pps_cons pe_str (pe_tup (pa_cons pe_int (pa_cons pe_int (pa_cons pe_int (pa_cons pe_int (pa_cons pe_int (pa_cons pe_int (pa_cons pe_int (pa_cons pe_int pa_nil))))))))) pps_nil) rfl rfl (fun e => nomatch e) (by show 1 ≤ 15; decide)) pa_nil)))
        (pa_cons (pe_make M FI (hr.mono (by decide)) (by rfl) gR bI .nil pass0 (pa_cons pe_int (pa_cons (pe_disp (pps_cons pe_str (pe_tup (pa_cons pe_int (pa_cons pe_int (pa_cons pe_int (pa_cons pe_int (pa_cons pe_int (pa_cons pe_int (pa_cons pe_int (pa_cons pe_int pa_nil))))))))) pps_nil) rfl rfl (fun e => nomatch e) (by show 1 ≤ 15; decide)) pa_nil))) pa_nil)) (by rfl))
    (pss_one (ps_ret (pe_cmpR (op_eqD (hu64 hr))
      (pe_lst (pa_cons (pe_meth0 (pv 2) R.cl mF FF (hr.mono (by decide)) bF .nil pass0)
        (pa_cons (pe_meth (pv 2) R.cl mH FH (hr.mono (by decide)) bH .nil pass0 (pa_cons pe_str pa_nil))
        (pa_cons (pe_meth (pv 3) R.cl mH FH (hr.mono (by decide)) bH .nil pass0 (pa_cons pe_str pa_nil))
        (pa_cons (pe_meth0 (pe_make M FI (hr.mono (by decide)) (by rfl) gR bI .nil pass0 (pa_cons pe_int (pa_cons (pe_disp (pps_cons pe_str (pe_op op_tcat (pe_op op_trep (pe_tup (pa_cons pe_int pa_nil)) pe_int) (pe_op op_trep (pe_tup (pa_cons pe_int pa_nil)) pe_int)) pps_nil) rfl rfl (fun e => nomatch e) (by show 1 ≤ 15; decide)) pa_nil))) R.cl mF FF (hr.mono (by decide)) bF .nil pass0) pa_nil)))))
      (pe_lst (pa_cons pe_non (pa_cons (pe_tup (pa_cons pe_int (pa_cons pe_int (pa_cons pe_int pa_nil)))) (pa_cons (pe_tup (pa_cons pe_int (pa_cons pe_int (pa_cons pe_int pa_nil)))) (pa_cons pe_int pa_nil))))) (nomark _))))), ?_⟩
  refine ⟨.ref a, rfl, a, _, rfl, .inl hS, 6, _, rfl, 1, _, rfl, _, rfl, ?_, ?_, ?_⟩
  · split <;> split <;> omega
  · split <;> split <;> omega
  generalize (if (if (((ns.map V.int).length : Nat) : Int) < 6 then (((ns.map V.int).length : Nat) : Int) else 6) > 1 then (if (((ns.map V.int).length : Nat) : Int) < 6 then (((ns.map V.int).length : Nat) : Int) else 6) else 1) = m
  refine for_range (lo := 0) (n := m.toNat) (fun t σ Hx => ∃ y, σ = [some (.ref a), y, none, none] ∧ Same H Hx)
    ⟨none, rfl, Same.refl _⟩ (fun t σ Hx ht hP => ?_) (fun σ Hx hP => ?_)
  · obtain ⟨y, rfl, sx⟩ := hP
    refine ⟨.ref a, rfl, .int (0 + (t : Int)), rfl, a, ns, t, ?_, sx.seq hS, fun H1 J s1 nJ jJ => ⟨J, rfl, jJ, fun H2 sb2 => ⟨true, rfl, iteF ⟨_, rfl, sx.trans fun b o e => ?_⟩⟩⟩⟩
    · show [V.ref a, V.int (0 + (t : Int))] = _
      rw [Int.zero_add]
    · exact sb2 b o (ne_of_none e nJ) (s1 _ _ e)
  obtain ⟨y, rfl, sx⟩ := hP
  dsimp only
  refine par_read ?_
  refine make_read (v := 3) (ns := mostT) rfl (by decide) (by decide) good_most (fun H1 Q1 k1 => ⟨(by show 8 ≤ sizeLine; decide), fun t nt => k1 _ t (same_new nt) upd_same⟩) fun H1 mo ys1 s1 pm1 hR1 => ?_
  refine make_read (v := 3) (ns := lastT) rfl (by decide) (by decide) good_last (fun H2 Q1 k1 => ⟨(by show 8 ≤ sizeLine; decide), fun t nt => k1 _ t (same_new nt) upd_same⟩) fun H2 la ys2 s2 pm2 hR2 => ?_
  have hR1b := hR1.tk (Tk.same s2)
  obtain ⟨dx1, _, _, hmo, _, _⟩ := id hR1b
  refine ⟨_, _, rfl, .ref mo, rfl, mo, dx1, _, rfl, hmo, rfl, mo, 3, ys1, _, rfl, by decide, by rw [pm1.length_eq]; decide, hR1b, fun H3 s3 => ?_⟩
  have hR1c := hR1b.tk (Tk.same s3)
  refine ⟨.ref mo, rfl, mo, dx1, _, rfl, s3 _ _ hmo, rfl, mo, "a", 3, ys1, _, rfl, by decide, hR1c, pm1.mem_iff.mpr List.mem_cons_self, rfl, fun H4 p1 s4 hp1 => ?_⟩
  have s24 := s3.trans s4
  have hR2b := hR2.tk (Tk.same s24)
  obtain ⟨dx2, _, _, hla, _, _⟩ := id hR2b
  refine ⟨.ref la, rfl, la, dx2, _, rfl, hla, rfl, la, "a", 3, ys2, _, rfl, by decide, hR2b, pm2.mem_iff.mpr List.mem_cons_self, rfl, fun H5 p2 s5 hp2 => ?_⟩
  dsimp only
  refine meth_of ?_
  refine make_read (v := 4) (ns := firstT) rfl (by decide) (by decide) good_first (fun H6 Q1 k1 => ?_) fun H6 fi ys3 s6 pm3 hR3 => ?_
  · refine ⟨(by show 1 ≤ sizeLine; decide), fun t1 n1 => ⟨t1, 8, [.int 0], rfl, rfl, upd_same, by simp, by decide, by decide, by show 1 ≤ 1000; decide, fun H7 u1 g7 hu1 => ⟨(by show 1 ≤ sizeLine; decide), fun t2 n2 => ⟨t2, 8, [.int 1], rfl, rfl, upd_same, by simp, by decide, by decide, by show 1 ≤ 1000; decide, fun H8 u2 g8 hu2 => ?_⟩⟩⟩⟩
    have g78 : Same H7 H8 := (same_new n2).trans g8
    refine ⟨u1, u2, _, _, rfl, rfl, g78 _ _ hu1, hu2, by decide, fun H9 u3 g9 hu3 => k1 H9 u3 ((same_new n1).trans (g7.trans (g78.trans g9))) hu3⟩
  obtain ⟨dx3, _, _, hfi, _, _⟩ := id hR3
  refine ⟨fi, dx3, _, rfl, hfi, rfl, fi, 4, ys3, _, rfl, by decide, by rw [pm3.length_eq]; decide, hR3, fun H7 s7 => ⟨(by show 4 ≤ sizeLine; decide), fun L nL => ⟨(by show 3 ≤ sizeLine; decide), fun t1 n1 => ⟨(by show 3 ≤ sizeLine; decide), fun t2 n2 => ⟨(by show 4 ≤ sizeLine; decide), fun L2 nL2 => ?_⟩⟩⟩⟩⟩
  have a1 := same_new (o := .lst [followV 3 ys1 (tabOf ["a"] [mostT]), .ref p1, .ref p2, followV 4 ys3 (tabOf ["a"] [firstT])]) nL
  have eL : upd H7 L (.lst [followV 3 ys1 (tabOf ["a"] [mostT]), .ref p1, .ref p2, followV 4 ys3 (tabOf ["a"] [firstT])]) L = _ := upd_same
  have a2 := same_new (o := .tup [.int 0, .int 1, .int 2]) n1
  have a3 := same_new (o := .tup [.int 0, .int 1, .int 2]) n2
  have a4 := same_new (o := .lst [.non, .ref t1, .ref t2, .int 0]) nL2
  have eT1 := (a3.trans a4) t1 (.tup [.int 0, .int 1, .int 2]) upd_same
  have eT2 := a4 t2 (.tup [.int 0, .int 1, .int 2]) upd_same
  have eL1 := (a2.trans (a3.trans a4)) _ _ eL
  have eP1 := ((s5.trans (s6.trans s7)).trans (a1.trans (a2.trans (a3.trans a4)))) _ _ hp1
  have eP2 := ((s6.trans s7).trans (a1.trans (a2.trans (a3.trans a4)))) _ _ hp2
  have e0 : HO.lst [followV 3 ys1 (tabOf ["a"] [mostT]), .ref p1, .ref p2, followV 4 ys3 (tabOf ["a"] [firstT])] = HO.lst [V.non, .ref p1, .ref p2, .int 0] := by
    rw [one_follow pm1, most_head, one_follow pm3, first_head]
    rfl
  have eL2 := eL1.trans (congrArg some e0)
  rw [show tabOf ["a"] [mostT] "a" = mostT from rfl, most_heard] at eP1
  rw [show tabOf ["a"] [lastT] "a" = lastT from rfl, last_heard] at eP2
  refine ⟨.list [.none, natD [0, 1, 2], natD [0, 1, 2], .int 0], .list [.none, .tuple [.int 0, .int 1, .int 2], .tuple [.int 0, .int 1, .int 2], .int 0], .lst (.of eL2) (.cons .non (.cons (dp_nat eP1) (.cons (dp_nat eP2) (.cons (.int 0) .nil)))),
    .lst (.of upd_same) (.cons .non (.cons (.tup (.of eT1) (.cons (.int 0) (.cons (.int 1) (.cons (.int 2) .nil)))) (.cons (.tup (.of eT2) (.cons (.int 0) (.cons (.int 1) (.cons (.int 2) .nil)))) (.cons (.int 0) .nil)))), by decide +kernel, by decide +kernel, ?_⟩
  have ee : PyData.eqv (.list [.none, natD [0, 1, 2], natD [0, 1, 2], .int 0]) (.list [.none, .tuple [.int 0, .int 1, .int 2], .tuple [.int 0, .int 1, .int 2], .int 0]) = true := by decide +kernel
  rw [ee]
  exact q _
end
end Ow

set_option Elab.async false
set_option linter.all false
set_option maxRecDepth 100000
set_option maxHeartbeats 4000000
set_option exponentiation.threshold 3000
namespace Ow
open PySem PySem.Spec PyProof.Rows L2
/-- a def found by its name -/
theorem Fun.ofD {K : PySem.W.Frag} {x qual : Str} {st : Stmt} {f : Addr} {fd : FuncData} (F : FunD K x qual (defArgs st) (defBody st) (defScope st) [] [] f fd) : Fun K x qual st f fd := by
  obtain ⟨oc, od, dV, kV, doc, pm, an, cdv, ct, osl, rfl, lk, hcd, hD, hK⟩ := F.ex
  rcases hD with ⟨_, rfl⟩ | ⟨e, _⟩
  · exact ⟨⟨oc, od, kV, doc, pm, an, cdv, ct, osl, rfl, lk, hcd⟩, F.kp⟩
  · exact absurd rfl e
/-! the head by facts -/
def dd (i : Nat) (x : Str) : He.DefD := ⟨(x, none), x, x, defArgs (topS i), defBody (topS i), defScope (topS i), [], []⟩
def dm (j : Nat) (m q : Str) : He.DefD := ⟨("Rule", some m), m, q, defArgs (inS 31 j), defBody (inS 31 j), defScope (inS 31 j), [], []⟩
def fns : List He.DefD := [dd 11 "is_integer", dd 12 "is_name", dd 13 "is_value", dd 14 "is_values", dd 15 "has_values", dd 16 "all_values", dd 17 "is_ascending", dd 18 "is_set_of_names", dd 21 "is_issues", dd 22 "has_issues_as_keys", dd 25 "need_voters", dd 26 "_is_table", dd 27 "_are_tables", dd 28 "_follow_table", dd 30 "_hangs_on", dm 0 "__init__" "Rule.__init__", dm 4 "__getitem__" "Rule.__getitem__", dm 12 "followed" "Rule.followed", dm 13 "heard" "Rule.heard", dd 33 "_law_jug", dd 34 "_law_dip", dd 35 "_law_choice", dd 36 "_law_all_rows", dd 37 "_law_voter_tables", dd 38 "_law_any_table", dd 39 "_law_any_tables", dd 40 "_law_made_rule", dd 41 "_law_heard", dd 42 "_law_tried", dd 43 "_law_cell_right", dd 44 "law"]
def fas : List He.Fa := [.glo "is_integer", .glo "is_name", .glo "is_value", .glo "is_values", .glo "has_values", .glo "all_values", .glo "is_ascending", .glo "is_set_of_names", .glo "is_issues", .glo "has_issues_as_keys", .glo "need_voters", .glo "_is_table", .glo "_are_tables", .glo "_follow_table", .glo "_hangs_on", .glo "_law_jug", .glo "_law_dip", .glo "_law_choice", .glo "_law_all_rows", .glo "_law_voter_tables", .glo "_law_any_table", .glo "_law_any_tables", .glo "_law_made_rule", .glo "_law_heard", .glo "_law_tried", .glo "_law_cell_right", .glo "law", .glo "Rule", .int "MAX_LETTERS" 8, .int "_BOUND" 1000000000000000000000000000000000000000000000000000000000000, .int "MAX_ISSUES" 6, .int "MAX_VOTERS" 4, .free "isinstance", .free "int", .free "bool", .free "str", .free "len", .free "all", .free "any", .free "tuple", .free "abs", .free "max", .free "min", .free "sum", .free "range", .free "repr", .free "list", .free "dict", .free "zip", .free "enumerate", .free "sorted", .cls "Rule", .noat "Rule" "_voters", .noat "Rule" "_issues", .noat "Rule" "_tables", .meth "Rule" "__getitem__", .meth "Rule" "followed", .meth "Rule" "heard", .mkr "Rule"]
/-- more facts -/
def xtra (K : PySem.W.Frag) : Bool := PySem.W.noSeq K (He.ga K "Rule") && PySem.W.fnIn K (He.ma K (He.ga K "Rule") "__getitem__")
abbrev AlE : Type := He.AlD × Bool
def obsE (n : Nat) (g : Addr → Option Obj) : AlE := (He.obsD fas fns (He.frG g (He.asD g n)), xtra (He.frG g (He.asD g n)))
def hookE (n : Nat) : PySem.W.Hook where
  α := AlE
  obs := fun s => obsE n s.heap.get?
  val := fun _ => (He.valD fns, true)
  says := fun _ h => ∃ K : PySem.W.Frag, K.In h ∧ He.SaysD fas fns K ∧ xtra K = true
  of := fun _ _ e => ⟨_, He.frG_in, congrArg (fun z : AlE => z.1) e, congrArg (fun z : AlE => z.2) e⟩
  keeps := fun _ _ _ ⟨K, hK, c⟩ k => ⟨K, PySem.W.Frag.In.keeps hK k, c⟩
theorem obsE_eq {n : Nat} {g : Addr → Option Obj} {s : Shared} (h : ∀ a, g a = s.heap.get? a) : obsE n g = (hookE n).obs s := by
  have e : g = s.heap.get? := funext h
  rw [e] <;> rfl
theorem facts {P : Program} {w : World} {K : PySem.W.Frag} {h : Heap} {mg : Str → Option Value} {f : Addr} (X : K.In h) (G : h.Ns mainGlobals mg) (hfa : mg ("law" : Str) = some (.ref f)) (c : He.SaysD fas fns K) (xt : xtra K = true) :
    ∃ fd : FuncData, (∀ (s : Shared) (v : Value), BindsTo s fd ⟨[v], []⟩ [("script", v)]) ∧ ∀ base : Heap, K.In base → base.Ns mainGlobals mg → FnG P w K mg base 11 f fd ["script"] (spLaw K) := by
  obtain ⟨fdI, DI⟩ := c.def_ 0 (d := dd 11 "is_integer") rfl
  obtain ⟨fdN, DN⟩ := c.def_ 1 (d := dd 12 "is_name") rfl
  obtain ⟨fdV, DV⟩ := c.def_ 2 (d := dd 13 "is_value") rfl
  obtain ⟨fdVS, DVS⟩ := c.def_ 3 (d := dd 14 "is_values") rfl
  obtain ⟨fdHV, DHV⟩ := c.def_ 4 (d := dd 15 "has_values") rfl
  obtain ⟨fdAV, DAV⟩ := c.def_ 5 (d := dd 16 "all_values") rfl
  obtain ⟨fdAS, DAS⟩ := c.def_ 6 (d := dd 17 "is_ascending") rfl
  obtain ⟨fdSN, DSN⟩ := c.def_ 7 (d := dd 18 "is_set_of_names") rfl
  obtain ⟨fdIS, DIS⟩ := c.def_ 8 (d := dd 21 "is_issues") rfl
  obtain ⟨fdHK, DHK⟩ := c.def_ 9 (d := dd 22 "has_issues_as_keys") rfl
  obtain ⟨fdNV, DNV⟩ := c.def_ 10 (d := dd 25 "need_voters") rfl
  obtain ⟨fdIT, DIT⟩ := c.def_ 11 (d := dd 26 "_is_table") rfl
  obtain ⟨fdAT, DAT⟩ := c.def_ 12 (d := dd 27 "_are_tables") rfl
  obtain ⟨fdFO, DFO⟩ := c.def_ 13 (d := dd 28 "_follow_table") rfl
  obtain ⟨fdHO, DHO⟩ := c.def_ 14 (d := dd 30 "_hangs_on") rfl
  obtain ⟨fdMI, DMI⟩ := c.def_ 15 (d := dm 0 "__init__" "Rule.__init__") rfl
  obtain ⟨fdMG, DMG⟩ := c.def_ 16 (d := dm 4 "__getitem__" "Rule.__getitem__") rfl
  obtain ⟨fdMF, DMF⟩ := c.def_ 17 (d := dm 12 "followed" "Rule.followed") rfl
  obtain ⟨fdMH, DMH⟩ := c.def_ 18 (d := dm 13 "heard" "Rule.heard") rfl
  obtain ⟨fdJ, DJ⟩ := c.def_ 19 (d := dd 33 "_law_jug") rfl
  obtain ⟨fdD, DD⟩ := c.def_ 20 (d := dd 34 "_law_dip") rfl
  obtain ⟨fdC, DC⟩ := c.def_ 21 (d := dd 35 "_law_choice") rfl
  obtain ⟨fdAR, DAR⟩ := c.def_ 22 (d := dd 36 "_law_all_rows") rfl
  obtain ⟨fdVT, DVT⟩ := c.def_ 23 (d := dd 37 "_law_voter_tables") rfl
  obtain ⟨fdTT, DTT⟩ := c.def_ 24 (d := dd 38 "_law_any_table") rfl
  obtain ⟨fdTS, DTS⟩ := c.def_ 25 (d := dd 39 "_law_any_tables") rfl
  obtain ⟨fdMR, DMR⟩ := c.def_ 26 (d := dd 40 "_law_made_rule") rfl
  obtain ⟨fdLH, DLH⟩ := c.def_ 27 (d := dd 41 "_law_heard") rfl
  obtain ⟨fdTR, DTR⟩ := c.def_ 28 (d := dd 42 "_law_tried") rfl
  obtain ⟨fdCE, DCE⟩ := c.def_ 29 (d := dd 43 "_law_cell_right") rfl
  obtain ⟨fdLA, DLA⟩ := c.def_ 30 (d := dd 44 "law") rfl
  have e := hfa.symm.trans (He.glo_ok X G (c.fact 26 (f := .glo "law") rfl))
  cases e
  have gI := He.glo_ok X G (c.fact 0 (f := .glo "is_integer") rfl)
  have gN := He.glo_ok X G (c.fact 1 (f := .glo "is_name") rfl)
  have gV := He.glo_ok X G (c.fact 2 (f := .glo "is_value") rfl)
  have gVS := He.glo_ok X G (c.fact 3 (f := .glo "is_values") rfl)
  have gHV := He.glo_ok X G (c.fact 4 (f := .glo "has_values") rfl)
  have gAV := He.glo_ok X G (c.fact 5 (f := .glo "all_values") rfl)
  have gAS := He.glo_ok X G (c.fact 6 (f := .glo "is_ascending") rfl)
  have gSN := He.glo_ok X G (c.fact 7 (f := .glo "is_set_of_names") rfl)
  have gIS := He.glo_ok X G (c.fact 8 (f := .glo "is_issues") rfl)
  have gHK := He.glo_ok X G (c.fact 9 (f := .glo "has_issues_as_keys") rfl)
  have gNV := He.glo_ok X G (c.fact 10 (f := .glo "need_voters") rfl)
  have gIT := He.glo_ok X G (c.fact 11 (f := .glo "_is_table") rfl)
  have gAT := He.glo_ok X G (c.fact 12 (f := .glo "_are_tables") rfl)
  have gFO := He.glo_ok X G (c.fact 13 (f := .glo "_follow_table") rfl)
  have gHO := He.glo_ok X G (c.fact 14 (f := .glo "_hangs_on") rfl)
  have gJ := He.glo_ok X G (c.fact 15 (f := .glo "_law_jug") rfl)
  have gD := He.glo_ok X G (c.fact 16 (f := .glo "_law_dip") rfl)
  have gC := He.glo_ok X G (c.fact 17 (f := .glo "_law_choice") rfl)
  have gAR := He.glo_ok X G (c.fact 18 (f := .glo "_law_all_rows") rfl)
  have gVT := He.glo_ok X G (c.fact 19 (f := .glo "_law_voter_tables") rfl)
  have gTT := He.glo_ok X G (c.fact 20 (f := .glo "_law_any_table") rfl)
  have gTS := He.glo_ok X G (c.fact 21 (f := .glo "_law_any_tables") rfl)
  have gMR := He.glo_ok X G (c.fact 22 (f := .glo "_law_made_rule") rfl)
  have gLH := He.glo_ok X G (c.fact 23 (f := .glo "_law_heard") rfl)
  have gTR := He.glo_ok X G (c.fact 24 (f := .glo "_law_tried") rfl)
  have gCE := He.glo_ok X G (c.fact 25 (f := .glo "_law_cell_right") rfl)
  have gR := He.glo_ok X G (c.fact 27 (f := .glo "Rule") rfl)
  obtain ⟨tL, mIL⟩ := He.int_ok X G (c.fact 28 (f := .int "MAX_LETTERS" 8) rfl)
  obtain ⟨tB, mIB0⟩ := He.int_ok X G (c.fact 29 (f := .int "_BOUND" 1000000000000000000000000000000000000000000000000000000000000) rfl)
  obtain ⟨tI, mII⟩ := He.int_ok X G (c.fact 30 (f := .int "MAX_ISSUES" 6) rfl)
  obtain ⟨tV, mIV⟩ := He.int_ok X G (c.fact 31 (f := .int "MAX_VOTERS" 4) rfl)
  have mIB : mg "_BOUND" = some (.int (10 ^ 60) tB) := by
    rw [mIB0, show (10 : Int) ^ 60 = 1000000000000000000000000000000000000000000000000000000000000 by decide +kernel]
  have m_isinstance := He.free_ok X G (c.fact 32 (f := .free "isinstance") rfl)
  have m_int := He.free_ok X G (c.fact 33 (f := .free "int") rfl)
  have m_bool := He.free_ok X G (c.fact 34 (f := .free "bool") rfl)
  have m_str := He.free_ok X G (c.fact 35 (f := .free "str") rfl)
  have m_len := He.free_ok X G (c.fact 36 (f := .free "len") rfl)
  have m_all := He.free_ok X G (c.fact 37 (f := .free "all") rfl)
  have m_any := He.free_ok X G (c.fact 38 (f := .free "any") rfl)
  have m_tuple := He.free_ok X G (c.fact 39 (f := .free "tuple") rfl)
  have m_abs := He.free_ok X G (c.fact 40 (f := .free "abs") rfl)
  have m_max := He.free_ok X G (c.fact 41 (f := .free "max") rfl)
  have m_min := He.free_ok X G (c.fact 42 (f := .free "min") rfl)
  have m_sum := He.free_ok X G (c.fact 43 (f := .free "sum") rfl)
  have m_range := He.free_ok X G (c.fact 44 (f := .free "range") rfl)
  have m_repr := He.free_ok X G (c.fact 45 (f := .free "repr") rfl)
  have m_list := He.free_ok X G (c.fact 46 (f := .free "list") rfl)
  have m_dict := He.free_ok X G (c.fact 47 (f := .free "dict") rfl)
  have m_zip := He.free_ok X G (c.fact 48 (f := .free "zip") rfl)
  have m_enumerate := He.free_ok X G (c.fact 49 (f := .free "enumerate") rfl)
  have m_sorted := He.free_ok X G (c.fact 50 (f := .free "sorted") rfl)
  have RC : RuleC K (He.ga K "Rule") := ⟨He.cls_ok (c.fact 51 (f := .cls "Rule") rfl), He.noat_ok (c.fact 52 (f := .noat "Rule" "_voters") rfl), He.noat_ok (c.fact 53 (f := .noat "Rule" "_issues") rfl), He.noat_ok (c.fact 54 (f := .noat "Rule" "_tables") rfl)⟩
  have mtG := He.meth_ok (c.fact 55 (f := .meth "Rule" "__getitem__") rfl)
  have mtF := He.meth_ok (c.fact 56 (f := .meth "Rule" "followed") rfl)
  have mtH := He.meth_ok (c.fact 57 (f := .meth "Rule" "heard") rfl)
  have mk := He.mkr_ok (c.fact 58 (f := .mkr "Rule") rfl)
  obtain ⟨x1, x2⟩ := He.ba xt
  have bI : Binds K fdI ["value"] [] := DI.bindsN fun _ _ _ _ _ _ us hl => match us, hl with | [_], _ => rfl
  have bN : Binds K fdN ["value"] [] := DN.bindsN fun _ _ _ _ _ _ us hl => match us, hl with | [_], _ => rfl
  have bV : Binds K fdV ["value"] [] := DV.bindsN fun _ _ _ _ _ _ us hl => match us, hl with | [_], _ => rfl
  have bVS : Binds K fdVS ["value"] [] := DVS.bindsN fun _ _ _ _ _ _ us hl => match us, hl with | [_], _ => rfl
  have bHV : Binds K fdHV ["value", "many"] [] := DHV.bindsN fun _ _ _ _ _ _ us hl => match us, hl with | [_, _], _ => rfl
  have bAV : Binds K fdAV ["many"] [] := DAV.bindsN fun _ _ _ _ _ _ us hl => match us, hl with | [_], _ => rfl
  have bAS : Binds K fdAS ["items"] [] := DAS.bindsN fun _ _ _ _ _ _ us hl => match us, hl with | [_], _ => rfl
  have bSN : Binds K fdSN ["value"] [] := DSN.bindsN fun _ _ _ _ _ _ us hl => match us, hl with | [_], _ => rfl
  have bIS : Binds K fdIS ["value"] [] := DIS.bindsN fun _ _ _ _ _ _ us hl => match us, hl with | [_], _ => rfl
  have bHK : Binds K fdHK ["value"] [] := DHK.bindsN fun _ _ _ _ _ _ us hl => match us, hl with | [_], _ => rfl
  have bNV : Binds K fdNV ["voters"] [] := DNV.bindsN fun _ _ _ _ _ _ us hl => match us, hl with | [_], _ => rfl
  have bIT : Binds K fdIT ["value", "voters"] [] := DIT.bindsN fun _ _ _ _ _ _ us hl => match us, hl with | [_, _], _ => rfl
  have bAT : Binds K fdAT ["value", "voters"] [] := DAT.bindsN fun _ _ _ _ _ _ us hl => match us, hl with | [_, _], _ => rfl
  have bFO : Binds K fdFO ["voters", "voter"] [] := DFO.bindsN fun _ _ _ _ _ _ us hl => match us, hl with | [_, _], _ => rfl
  have bHO : Binds K fdHO ["table", "step"] [] := DHO.bindsN fun _ _ _ _ _ _ us hl => match us, hl with | [_, _], _ => rfl
  have bMI : Binds K fdMI ["self", "voters", "tables"] [] := DMI.bindsN fun _ _ _ _ _ _ us hl => match us, hl with | [_, _, _], _ => rfl
  have bMG : Binds K fdMG ["self", "issue"] [] := DMG.bindsN fun _ _ _ _ _ _ us hl => match us, hl with | [_, _], _ => rfl
  have bMF : Binds K fdMF ["self"] [] := DMF.bindsN fun _ _ _ _ _ _ us hl => match us, hl with | [_], _ => rfl
  have bMH : Binds K fdMH ["self", "issue"] [] := DMH.bindsN fun _ _ _ _ _ _ us hl => match us, hl with | [_, _], _ => rfl
  have bJ : Binds K fdJ ["script", "at"] [] := DJ.bindsN fun _ _ _ _ _ _ us hl => match us, hl with | [_, _], _ => rfl
  have bD : Binds K fdD ["jug", "total"] [] := DD.bindsN fun _ _ _ _ _ _ us hl => match us, hl with | [_, _], _ => rfl
  have bC : Binds K fdC ["jug", "items"] [] := DC.bindsN fun _ _ _ _ _ _ us hl => match us, hl with | [_, _], _ => rfl
  have bAR : Binds K fdAR ["size"] [] := DAR.bindsN fun _ _ _ _ _ _ us hl => match us, hl with | [_], _ => rfl
  have bVT : Binds K fdVT ["size", "voters", "voter"] [] := DVT.bindsN fun _ _ _ _ _ _ us hl => match us, hl with | [_, _, _], _ => rfl
  have bTT : Binds K fdTT ["jug", "voters"] [] := DTT.bindsN fun _ _ _ _ _ _ us hl => match us, hl with | [_, _], _ => rfl
  have bTS : Binds K fdTS ["jug", "size", "voters"] [] := DTS.bindsN fun _ _ _ _ _ _ us hl => match us, hl with | [_, _, _], _ => rfl
  have bMR : Binds K fdMR ["voters", "names", "tables"] [] := DMR.bindsN fun _ _ _ _ _ _ us hl => match us, hl with | [_, _, _], _ => rfl
  have bLH : Binds K fdLH ["voters", "table"] [] := DLH.bindsN fun _ _ _ _ _ _ us hl => match us, hl with | [_, _], _ => rfl
  have bTR : Binds K fdTR ["jug", "size", "voters"] [] := DTR.bindsN fun _ _ _ _ _ _ us hl => match us, hl with | [_, _, _], _ => rfl
  have bCE : Binds K fdCE ["jug"] [] := DCE.bindsN fun _ _ _ _ _ _ us hl => match us, hl with | [_], _ => rfl
  have bLA := FunD.bindsA (ps := ["script"]) DLA fun _ _ _ _ _ _ us hl => match us, hl with | [_], _ => rfl
  refine ⟨fdLA, fun s v => bLA s [v] rfl, fun base _ _ => ?_⟩
  have FI : FnOk P w K mg base CX0 1 _ fdI ["value"] (spB fun _ => shortB) := ok_integer (Fun.ofD DI) m_isinstance m_int m_bool mIB
  have FN : FnOk P w K mg base CX0 1 _ fdN ["value"] (spB fun _ => nameB) := ok_name (Fun.ofD DN) m_isinstance m_str m_len m_all mIL
  have FV : FnOk P w K mg base CX0 2 _ fdV ["value"] (spB fun _ => bitB) := ok_value (Fun.ofD DV) FI DI.kp bI gI
  have FVS : FnOk P w K mg base CX0 3 _ fdVS ["value"] (spB rowB) := ok_values (Fun.ofD DVS) FV DV.kp bV gV m_isinstance m_tuple m_all
  have FHV : FnOk P w K mg base CX0 4 _ fdHV ["value", "many"] (spHV) := ok_hasvalues (Fun.ofD DHV) FVS DVS.kp bVS gVS m_len
  have FAV : FnOk P w K mg base CX0 1 _ fdAV ["many"] (spRowsT) := ok_allvalues (Fun.ofD DAV) m_range m_tuple
  have FAS : FnOk P w K mg base CX0 1 _ fdAS ["items"] (spAsc) := ok_asc (Fun.ofD DAS) m_zip m_all
  have FSN : FnOk P w K mg base CX0 2 _ fdSN ["value"] (spTexts namesB) := ok_setnames (Fun.ofD DSN) FN DN.kp bN gN FAS DAS.kp bAS gAS m_isinstance m_tuple m_all
  have FIS : FnOk P w K mg base CX0 3 _ fdIS ["value"] (spTexts issuesB) := ok_issues (Fun.ofD DIS) FSN DSN.kp bSN gSN m_len mII
  have FHK : FnOk P w K mg base CX0 4 _ fdHK ["value"] (spKeys) := ok_keys (Fun.ofD DHK) FIS DIS.kp bIS gIS m_isinstance m_dict m_str m_all m_tuple m_sorted
  have FNV : FnOk P w K mg base CX0 2 _ fdNV ["voters"] (spNV) := ok_needvoters (Fun.ofD DNV) FI DI.kp bI gI mIV
  have FIT : FnOk P w K mg base CX0 5 _ fdIT ["value", "voters"] (spIsT) := ok_istable (Fun.ofD DIT) FHV DHV.kp bHV gHV
  have FAT : FnOk P w K mg base CX0 6 _ fdAT ["value", "voters"] (spAre) := ok_aretables (Fun.ofD DAT) FHK DHK.kp bHK gHK FIT DIT.kp bIT gIT m_all
  have FFO : FnOk P w K mg base CX0 2 _ fdFO ["voters", "voter"] (spFollow) := ok_follow (Fun.ofD DFO) FAV DAV.kp bAV gAV m_tuple
  have FHO : FnOk P w K mg base CX0 1 _ fdHO ["table", "step"] (spHangs) := ok_hangs (Fun.ofD DHO) m_enumerate m_any
  have FMI : FnOk P w K mg base CX0 7 _ fdMI ["self", "voters", "tables"] (spInit (He.ga K "Rule")) := ok_init RC (Fun.ofD DMI) FNV DNV.kp bNV gNV FAT DAT.kp bAT gAT m_tuple m_sorted
  have FMG : FnOk P w K mg base CX0 1 _ fdMG ["self", "issue"] (spGet (He.ga K "Rule")) := ok_get RC (Fun.ofD DMG)
  have FMF : FnOk P w K mg base CX0 3 _ fdMF ["self"] (spFollowed (He.ga K "Rule")) := ok_followed RC ⟨x1, mtG, x2, FMG, bMG⟩ (Fun.ofD DMF) FFO DFO.kp bFO gFO m_range m_all
  have FMH : FnOk P w K mg base CX0 3 _ fdMH ["self", "issue"] (spHeard (He.ga K "Rule")) := ok_heard RC ⟨x1, mtG, x2, FMG, bMG⟩ (Fun.ofD DMH) FHO DHO.kp bHO gHO m_range m_tuple m_enumerate
  have FJ : FnOk P w K mg base CX0 1 _ fdJ ["script", "at"] (spJug K) := ok_jug (Fun.ofD DJ) m_int m_len m_abs m_max
  have FD : FnOk P w K mg base CX0 1 _ fdD ["jug", "total"] (spDip) := ok_dip (Fun.ofD DD) m_int
  have FC : FnOk P w K mg base CX0 2 _ fdC ["jug", "items"] (spChoice) := ok_choice (Fun.ofD DC) FD DD.kp bD gD m_len
  have FAR : FnOk P w K mg base CX0 1 _ fdAR ["size"] (spRowsL) := ok_allrows (Fun.ofD DAR) m_range m_list
  have FVT : FnOk P w K mg base CX0 2 _ fdVT ["size", "voters", "voter"] (spVT) := ok_votertables (Fun.ofD DVT) FAR DAR.kp bAR gAR m_tuple
  have FTT : FnOk P w K mg base CX0 3 _ fdTT ["jug", "voters"] (spAnyT) := ok_anytable (Fun.ofD DTT) FD DD.kp bD gD FAR DAR.kp bAR gAR FC DC.kp bC gC m_tuple m_range m_max m_min m_int m_len m_sum
  have FTS : FnOk P w K mg base CX0 4 _ fdTS ["jug", "size", "voters"] (spAnyTs) := ok_anytables (Fun.ofD DTS) FD DD.kp bD gD FTT DTT.kp bTT gTT m_tuple m_range
  have FMR : FnOk P w K mg base CX0 9 _ fdMR ["voters", "names", "tables"] (spMade (He.ga K "Rule")) := ok_maderule (Fun.ofD DMR) mk FMI bMI gR m_dict m_list m_zip
  have FLH : FnOk P w K mg base CX0 3 _ fdLH ["voters", "table"] (spLH) := ok_lheard (Fun.ofD DLH) FAR DAR.kp bAR gAR m_range m_enumerate m_tuple
  have FTR : FnOk P w K mg base CX0 5 _ fdTR ["jug", "size", "voters"] (spAnyTs) := ok_tried (Fun.ofD DTR) FD DD.kp bD gD FVT DVT.kp bVT gVT FTS DTS.kp bTS gTS m_len
  have FCE : FnG P w K mg base 10 _ fdCE ["jug"] spCell2 := ok_cell RC (Fun.ofD DCE) FD DD.kp bD gD FTR DTR.kp bTR gTR FMR DMR.kp bMR gMR FVT DVT.kp bVT gVT FLH DLH.kp bLH gLH FMF mtF bMF FMH mtH bMH m_range m_repr
  exact ok_law RC (Fun.ofD DLA) FCE DCE.kp bCE gCE FJ DJ.kp bJ gJ mk FMI bMI gR FMF mtF bMF FMH mtH bMH m_range m_len m_max m_min
end Ow

set_option Elab.async false
set_option linter.all false
set_option maxRecDepth 100000
set_option maxHeartbeats 0
namespace Ow
open PySem PySem.Spec PyProof.Rows L2
abbrev RR : PySem.W.OpenRow := PySem.W.OpenLaw.row PySem.Challenge.rw_oneswill_k22_voters_followed_and_heard
abbrev hk : PySem.W.Hook := hookE 5
def ob (s : PySem.W.SharedT) : AlE := obsE 5 (HandSHeadRun.getT s)
theorem ob_eq (s : PySem.W.SharedT) : ob s = hk.obs s.abs := obsE_eq (HandSHeadRun.getT_eq s)
def loose0 : List Str := ["_wall", "_own", "WillError", "InvalidRule", "InvalidOperation", "InvalidNumber", "UnknownName", "MAX_LETTERS", "_BOUND", "is_integer"]
def loose1 : List Str := ["is_name", "is_value", "is_values", "has_values", "all_values", "is_ascending", "is_set_of_names", "MAX_ISSUES", "is_issues", "has_issues_as_keys"]
def loose2 : List Str := ["MAX_VOTERS", "need_voters", "_is_table", "_are_tables", "_follow_table", "place_of", "_hangs_on", "Rule", "_law_jug", "_law_dip"]
def loose3 : List Str := ["_law_choice", "_law_all_rows", "_law_voter_tables", "_law_any_table", "_law_any_tables", "_law_made_rule", "_law_heard", "_law_tried", "_law_cell_right"]
def loose : List Str := loose0 ++ loose1 ++ loose2 ++ loose3
theorem run (w : World) : HandSHeadRun.RunEq RR (PySem.W.view RR.prog [44]) hk ob 6000 loose w := by
  intro os
  kernel_rfl
end Ow
open PySem PySem.W PySem.Calls PyProof.Rows
theorem PySem.Challenge.cw_oneswill_k22_voters_followed_and_heard_holds : PySem.Challenge.rw_oneswill_k22_voters_followed_and_heard.Holds := by
  w_on; o_law
  refine HandSHeadRun.head_any (r := OpenLaw.row PySem.Challenge.rw_oneswill_k22_voters_followed_and_heard) (q := view (OpenLaw.row PySem.Challenge.rw_oneswill_k22_voters_followed_and_heard).prog [44]) (H := Ow.hk) (ob := Ow.ob) (M := 6000) (loose := Ow.loose) (d := HandSHeadRun.topDef (OpenLaw.row PySem.Challenge.rw_oneswill_k22_voters_followed_and_heard).prog 44) (kwd := []) Ow.ob_eq
    (by kernel_rfl) (fun s => by kernel_rfl) Ow.run (by kernel_rfl) (by kernel_rfl) (by kernel_rfl) (by rfl) (by first | assumption | decide +kernel) (by decide +kernel) ⟨rfl, rfl, rfl, rfl, rfl, by decide +kernel⟩ ?hw ?hc
  case hw => w_witness2
  case hc =>
    refine Att.attach_call (n := 63) rfl (by kernel_rfl) fun w s₀ s₁ mg mb fa o pm cd doc a vs ns G Y ho hd hcd hmg0 hobj hints hlen hg => ?_
    obtain ⟨K, KX, c, xt⟩ := Y
    have hmg : mg ("law" : PySem.Str) = some (.ref fa) := by
      have e : (HandSHeadRun.topDef (OpenLaw.row PySem.Challenge.rw_oneswill_k22_voters_followed_and_heard).prog 44).name = ("law" : PySem.Str) := by kernel_rfl
      rw [← e]
      exact hmg0
    obtain ⟨fd, hb, hF⟩ := Ow.facts (P := PySem.Challenge.rw_oneswill_k22_voters_followed_and_heard.prog) (w := w) KX G.T.g hmg c xt
    exact Ow.endG (k := 11) KX G.T.g G.T.b G.T.builtins G.T.nolimit hg hobj hints (Nat.le_trans hlen (by decide)) ⟨rfl, by decide, by decide⟩ hF hb fun H hO hS => ⟨a, ns, rfl, hS, hlen, fun _ => rfl⟩
