import PyProof.Rows.All
import Wide.All
import OpenK.AllK
import Wide.FinOn
import PySem.Challenge.RW_oneswill_k18_rules_told
import HandS.ForMost
import HandS.IsInst
import HandS.Wide
import HandS.TupAny
import HandS.TupMul
import HandS.Style
import HandS.Conv
import PyProof.ReprRoads
import HandS.Dict
import HandS.DictComp
import HandS.Zip
import HandS.Deep
import HandS.More
import HandS.Star
import HandS.WideBits
import HandS.ClsMeth
import HandS.Walk
import KE.GoesMore
import KE.GoesZip
import KE.KItemsList
import HandS.Text
import OpenK.KOps
import KE.KCallOwn
import PyProof.ListStr
import PyProof.StrOps2
import HandS.IterVal
import PyProof.InstEq
import KE.KStar
import HandS.FStr
import HandS.Property
import HandS.Defaults
import HandS.HeadHook1
import HandS.HeadHook2
import Lean
import HandS.Ends
import HandS.Words
import HandS.WordsExc
import HandS.Head0
import HandS.Head1
import HandS.Head2
import HandS.HeadEnd
set_option Elab.async false
set_option linter.all false
set_option maxRecDepth 100000
set_option maxHeartbeats 4000000
namespace Ow
open PySem PySem.Spec PyProof.Rows L2

/-! a def's promise where no repr runs around the call -/
structure FnG (P : Program) (w : World) (K : PySem.W.Frag) (mg : Str → Option Value)
    (base : Heap) (k : Nat) (f : Addr) (fd : FuncData) (ps : List Str) (sp : Sp) : Prop where
  ln : ∀ vs H Q E, sp vs H Q E → vs.length = ps.length
  go : ∀ (B : Around) (up : List Env) (s : Shared) (H : Hp) (ar : Args) (ws : List Value) (vs : List V)
    (Q : VK) (E : XK), B.guards = some [] → Room k B → Env0 P w K mg base B up s H →
    BindsTo s fd ar (ps.zip ws) → Vals vs ws → sp vs H Q E →
    codeAny (model P w) B (.call (.ref f) ar) (CR CX0 up P w H s Q E) s
theorem FnG.of {P : Program} {w : World} {K : PySem.W.Frag} {mg : Str → Option Value} {base : Heap}
    {k : Nat} {f : Addr} {fd : FuncData} {ps : List Str} {sp : Sp}
    (F : FnOk P w K mg base CX0 k f fd ps sp) : FnG P w K mg base k f fd ps sp :=
  ⟨F.len, fun B up s H ar ws vs Q E _ => F.run B up s H ar ws vs Q E⟩

section
variable {P : Program} {w : World} {K : PySem.W.Frag} {mg : Str → Option Value} {base : Heap}
theorem guardsDeep {B : Around} {env : Env} : (B.deeper env).guards = B.guards := rfl
/-- a def of the text, by its body, with nothing guarded -/
theorem okG {x qual : Str} {st : Stmt} {f : Addr} {fd : FuncData} {N ps : List Str} {k : Nat} {sp : Sp}
    (F : Fun K x qual st f fd) (S : FnScope N ps (defScope st))
    (ln : ∀ vs H Q E, sp vs H Q E → vs.length = ps.length)
    (body : ∀ (cd : Value) (B : Around) (up : List Env) (s : Shared) (H : Hp) (vs : List V) (Q : VK) (E : XK),
      B.guards = some [] → Room k (B.deeper (envOfC qual (defScope st) s.heap.objs.size f cd)) → sp vs H Q E →
      ∃ t, PSs (cxOf CX0 P w K mg base N qual (defScope st) f cd B up s H E).nox (defBody st) t ∧
        t { nx := fun _ H' => Q .non H', rt := Q } (start N vs) H) :
    FnG P w K mg base (k + 1) f fd ps sp := by
  obtain ⟨oc, od, kV, doc, pm, an, cd, ct, osl, rfl, lk, hcd⟩ := F.ex
  refine ⟨ln, fun B up s H ar ws vs Q E gB hr e0 hb r hsp => ?_⟩
  have nvs := ln _ _ _ _ hsp
  have inK : K.In s.heap := e0.mod.kin.keeps fun b o e => (e0.bs b o e).1
  have noL : s.heap.NoLimit := e0.mod.nolimit.keeps fun b o e => (e0.bs b o e).1
  have kinds : ∀ y ∈ ps.zip ws, (defScope st).names.lookup y.1 = some .local ∨
      ((defScope st).names.lookup y.1 = some .cell ∧
        ((cellsFrom (s.heap.objs.size + 1) (defScope st).names []).lookup y.1).isSome = true) := by
    intro ⟨n, v⟩ hy
    rcases S.par n (List.of_mem_zip hy).1 with q | q
    · exact .inl q
    · exact .inr ⟨q, PySem.W.cellsFrom_some _ _ _ (.inl q)⟩
  refine codeAny_call_function hr.depth (inK _ _ lk) rfl S.co S.gen rfl
    (PySem.W.codeRec_of inK hcd) (hb _ _ _ _ ?_)
  refine wpAny_newFunctionEnv_cells S.kind kinds fun env he s1 z => ?_
  subst he
  refine ⟨noL.keeps z.toInCall.keep, codeAny_func ?_⟩
  obtain ⟨t, ht, hq⟩ := body cd B up s H vs Q E gB (hr.deeper _) hsp
  have J0 : Inv (cxOf CX0 P w K mg base N qual (defScope st) f cd B up s H E) [] (start N vs) H s1 :=
    inv_start S hr.hd e0 nvs r z
  refine wpAny_mono (ht.nox.run [] s1 (start N vs) H _ J0 hq) (fun fl s' hs => ?_) fun e s' hs => hs
  cases fl with
  | ret u =>
    obtain ⟨v, σ', H', J, rv, q⟩ := hs
    exact ⟨v, H', J.os, J.bare, J.base, J.hok, rv, q⟩
  | next =>
    obtain ⟨σ', H', J, q⟩ := hs
    exact ⟨V.non, H', J.os, J.bare, J.base, J.hok, rfl, q⟩
  | brk =>
    obtain ⟨_, _, _, q⟩ := hs
    exact False.elim q
  | cont =>
    obtain ⟨_, _, _, q⟩ := hs
    exact False.elim q
end
section
variable {X : Cx} {k : Nat} {f : Addr} {fd : FuncData} {ps : List Str} {sp : Sp}
  {x : Str} {p pos : Pos} {e : Expr} {es : List Expr} {t : TA}
/-- f(..) of such a def, in a body around which nothing is guarded -/
theorem pe_callG (F : FnG X.prog X.w X.K X.mg X.base k f fd ps sp) (gX : X.A.guards = some [])
    (hr : Room k X.A) (hg : Gl X x) (hm : X.mg x = some (.ref f)) (hk : PySem.W.keepIn X.K (.ref f) = true)
    (hb : Binds X.K fd ps []) (ha : PA X (e :: es) t)
    (hdb : (x == ("__debug__" : Str)) = false := by decide)
    (he : starEach (e :: es) X.env = (false, eval e X.env) :: starEach es X.env := by rfl)
    (hpl : (backTo pos (starEach es X.env)).any (·.1) = false := by rfl) :
    PE X (.Call (.Name x p) (e :: es) [] pos) (tCall sp [] E0 t) := by
  refine ⟨fun pins s σ H Q I h => ?_⟩
  refine wpAny_Call_Name_kw (ld_glob I hg hm ?_ hdb)
  refine PySem.W.callWith_K (h₀ := X.base) I.ok.mod.kin hk
    (thn (ha.run pos pins s σ H _ I h) fun us s1 hs1 => ?_) he hpl
  obtain ⟨vs, H1, I1, r, q⟩ := hs1
  refine ⟨I1.kIn, ?_⟩
  have q' : sp (vs ++ []) H1 Q E0 := q
  rw [List.append_nil] at q'
  have hl : (us ++ []).length = ps.length := by
    rw [List.append_nil, ← r.length]
    exact F.ln _ _ _ _ q'
  have bt := hb s1 us I1.kIn hl
  rw [List.append_nil] at bt
  refine wpAny_call (codeAny_mono (F.go X.A X.stack s1 H1 ⟨us, []⟩ us vs Q E0 gX hr I1.env0 bt r q') ?_)
  intro r' s' hq
  cases r' with
  | error er => exact False.elim hq
  | ok fl =>
    cases fl with
    | ret u => exact I1.after hq
    | next => exact False.elim hq
    | brk => exact False.elim hq
    | cont => exact False.elim hq
end

/-! repr of data -/
section
variable {X : Cx}
/-- repr(x): x data whose text is known to fit -/
def rRepr (K : PySem.W.Frag) : List V → Hp → VK → Prop := fun xs H Q => ∃ (x : V) (d : PyData), xs = [x] ∧
  Dp K H x d ∧ d.showable = true ∧ d.hasDict = false ∧ d.depth ≤ 40 ∧ d.shown.length ≤ sizeLine ∧
  (∀ i : Int, d = .int i → i.natAbs.log2 < 1920) ∧ Q (.str d.shown) H
theorem call_repr (gX : X.A.guards = some []) (hu : X.A.units + 64 < cLine) :
    CallR X (.builtin "repr") (rRepr X.K) := by
  intro pins s σ H xs us Q I r h
  obtain ⟨x, d, rfl, hd, hsh, hno, hde, hsz, hint, q⟩ := h
  obtain ⟨u, rfl, ru⟩ := vals1 r
  cases hd with
  | non =>
    cases ru
    exact PySem.P.repr_of_none ⟨.str _, H, I.tok _, ⟨_, rfl⟩, q⟩
  | bl b =>
    cases ru
    refine PySem.P.repr_of_bool ⟨.str _, H, I.tok _, ⟨_, rfl⟩, ?_⟩
    cases b <;> exact q
  | int i =>
    obtain ⟨t, rfl⟩ := ru
    exact PySem.P.repr_of_int (hint i rfl) ⟨.str _, H, I.tok _, ⟨_, rfl⟩, q⟩
  | str z =>
    obtain ⟨t, rfl⟩ := ru
    exact PySem.P.repr_of_str ⟨.str _, H, I.tok _, ⟨_, rfl⟩, q⟩ hsz
  | @lst a ys ds hs ha =>
    obtain ⟨as, rd⟩ := Dp.reads I (.list ds) (.ref a) u (.lst hs ha) ru
    cases ru
    refine repr_of_reads' rd hsh (fun z => absurd (hno.symm.trans z) Bool.false_ne_true) gX (by omega)
      (fun _ _ e => e) (fun h' t' tk hk => ?_) hsz
    exact ⟨.str _, H, I.kept (t' := tk) hk, ⟨_, rfl⟩, q⟩
  | @tup a ys ds hs ha =>
    obtain ⟨as, rd⟩ := Dp.reads I (.tuple ds) (.ref a) u (.tup hs ha) ru
    cases ru
    refine repr_of_reads' rd hsh (fun z => absurd (hno.symm.trans z) Bool.false_ne_true) gX (by omega)
      (fun _ _ e => e) (fun h' t' tk hk => ?_) hsz
    exact ⟨.str _, H, I.kept (t' := tk) hk, ⟨_, rfl⟩, q⟩
end
end Ow

set_option Elab.async false
set_option linter.all false
set_option maxRecDepth 100000
set_option maxHeartbeats 4000000
namespace Ow
open PySem PySem.Spec PyProof.Rows L2

/-- what the law's end asks of the call -/
abbrev EndOf (s₁ : Shared) : Result → Shared → Prop := fun r s' =>
  r = .ok (.ret (.bool true)) ∧ OldK s₁.heap s'.heap ∧ s'.os = s₁.os ∧ AllBare s'.gens
section
variable {P : Program} {w : World} {K : PySem.W.Frag} {mg mb : Str → Option Value} {k : Nat} {fa a : Addr}
  {fd : FuncData} {x : Str} {sp : Sp} {s₁ : Shared} {vs : List Value} {ns : List Int}
/-- .. where at most the script, known to its object, is tracked -/
theorem endG1 {H : Hp} (ob : Obj) (hob : s₁.heap.get? a = some ob) (hda : ∀ es ep, ob.data ≠ .dict es ep)
    (inK : K.In s₁.heap) (nsM : s₁.heap.Ns mainGlobals mg) (nsB : s₁.heap.Ns builtinsNs mb)
    (boot : ∀ y : Str, y ≠ "__name__" → mb y = bootBuiltins y) (noL : s₁.heap.NoLimit)
    (g0 : s₁.gens = #[]) (hr : Room k callerA)
    (F : ∀ base : Heap, K.In base → base.Ns mainGlobals mg → FnG P w K mg base k fa fd [x] sp)
    (bind : ∀ (s : Shared) (u : Value), BindsTo s fd ⟨[u], []⟩ [(x, u)])
    (hs : sp [.ref a] H (fun v _ => v = .bl true) fun _ _ _ => False) (only : Only H)
    (hok : HOk P w H s₁.heap) (hA : ∀ b, H b ≠ none → b = a) (hK : H a ≠ none → K.lookup a = none) :
    codeAny (model P w) callerA (.call (.ref fa) ⟨[.ref a], []⟩) (EndOf s₁) s₁ := by
  have free : ∀ {b : Addr}, b ≠ a → H b = none := fun {b} n => by
    cases e : H b with
    | none => rfl
    | some u => exact absurd (hA b (by rw [e]; exact fun z => nomatch z)) n
  have hid : ∀ {b : Addr} {o : Obj}, s₁.heap.get? b = some o → H b = none → (hidT s₁.heap H).get? b = some o :=
    fun e n => hidT_get e n
  have dictFree : ∀ {b : Addr} {o : Obj} {es : Array DictEntry} {ep : Nat},
      s₁.heap.get? b = some o → o.data = .dict es ep → H b = none := fun {b o es ep} e d => by
    refine free fun z => ?_
    rw [z, hob] at e
    exact hda es ep (by rw [Option.some.inj e]; exact d)
  have nsOf : ∀ {b : Addr} {m : Str → Option Value}, s₁.heap.Ns b m → (hidT s₁.heap H).Ns b m := by
    intro b m q
    obtain ⟨o, es, ep, e, d, r⟩ := q
    exact ⟨o, es, ep, hid e (dictFree e d), d, r⟩
  have inB : K.In (hidT s₁.heap H) := fun b o e => hid (inK b o e) (by
    by_cases hb : b = a
    · cases q : H b with
      | none => rfl
      | some u =>
        rw [hb] at e q
        rw [hK (by rw [q]; exact fun z => nomatch z)] at e
        cases e
    · exact free hb)
  have hM : Mod K mg (hidT s₁.heap H) := by
    obtain ⟨mc, h1, h2⟩ := noL
    exact ⟨inB, nsOf nsM, ⟨mb, nsOf nsB, boot⟩, mc, nsOf h1, h2⟩
  have e0 : Env0 P w K mg (hidT s₁.heap H) callerA [] s₁ H :=
    { frames := rfl, mod := hM, bs := fun b o e => of_hidT e, bsz := Nat.le_of_eq (hidT_size _ _)
      funs := trivial, frf := fun b hb => (nomatch (show b ∈ ([] : List Addr) from hb)), hok := hok, bare := .of_eq g0 }
  have run := (F _ inB (nsOf nsM)).go callerA [] s₁ H ⟨[.ref a], []⟩ [.ref a] [.ref a] _ _ rfl hr e0
    (bind s₁ (.ref a)) (.cons rfl .nil) hs
  refine codeAny_mono run fun r s' h => ?_
  cases r with
  | error e => exact False.elim h
  | ok fl =>
    cases fl with
    | next => exact False.elim h
    | brk => exact False.elim h
    | cont => exact False.elim h
    | ret u =>
      obtain ⟨v, H', os, bare, un, hok', rv, q⟩ := h
      have q' : v = .bl true := q
      subst q'
      have eu : u = Value.bool true := rv
      subst eu
      refine ⟨rfl, OldK.of_keep fun b o e => ?_, os, bare⟩
      rcases only b with z | ⟨ob, xs, z⟩
      · exact un.keep b o e z (fun m => nomatch (show b ∈ ([] : List Addr) from m)) (fun m => nomatch m)
      · obtain ⟨e1, _⟩ := hok b _ z
        obtain ⟨e2, _⟩ := hok' b _ (un.frzs b ob _ z)
        rw [e] at e1
        rw [Option.some.inj e1]
        exact e2
theorem endG (inK : K.In s₁.heap) (nsM : s₁.heap.Ns mainGlobals mg) (nsB : s₁.heap.Ns builtinsNs mb)
    (boot : ∀ y : Str, y ≠ "__name__" → mb y = bootBuiltins y) (noL : s₁.heap.NoLimit)
    (g0 : s₁.gens = #[]) (hob : s₁.heap.get? a = some { cls := .type "list", data := .seq vs.toArray })
    (hi : IntsAre vs ns) (hl : ns.length ≤ sizeLine) (hr : Room k callerA)
    (F : ∀ base : Heap, K.In base → base.Ns mainGlobals mg → FnG P w K mg base k fa fd [x] sp)
    (bind : ∀ (s : Shared) (u : Value), BindsTo s fd ⟨[u], []⟩ [(x, u)])
    (hs : ∀ H : Hp, Only H → SqL K H a (ns.map V.int) → sp [.ref a] H (fun v _ => v = .bl true) fun _ _ _ => False) :
    codeAny (model P w) callerA (.call (.ref fa) ⟨[.ref a], []⟩) (EndOf s₁) s₁ := by
  have rv := vals_ints hi
  have nd : ∀ es ep, (Obj.data { cls := .type "list", data := .seq vs.toArray }) ≠ .dict es ep := fun es ep z => by cases z
  cases hk : K.lookup a with
  | some o =>
    have e := inK a o hk
    rw [hob] at e
    cases e
    have O : Only (fun _ => none) := fun _ => .inl rfl
    refine endG1 (H := fun _ => none) _ hob nd inK nsM nsB boot noL g0 hr F bind (hs _ O (.inr ?_)) O
      (fun b u z => nomatch z) (fun b z => absurd rfl z) (fun z => absurd rfl z)
    exact ⟨_, vs.toArray, _, hk, rfl, rfl, rfl, by rw [List.size_toArray, hi.length]; exact hl, rv⟩
  | none =>
    have at_ : ∀ b u, (fun b => if b = a then some (HO.frz { cls := .type "list", data := .seq vs.toArray }
        (.lst (ns.map V.int))) else none) b = some u → b = a ∧ u = HO.frz { cls := .type "list", data := .seq vs.toArray } (.lst (ns.map V.int)) := by
      intro b u z
      by_cases hb : b = a
      · exact ⟨hb, (Option.some.inj ((if_pos hb).symm.trans z)).symm⟩
      · exact nomatch (if_neg hb).symm.trans z
    have O : Only (fun b => if b = a then some (HO.frz { cls := .type "list", data := .seq vs.toArray }
        (.lst (ns.map V.int))) else none) := by
      intro b
      by_cases hb : b = a
      · exact .inr ⟨_, _, if_pos hb⟩
      · exact .inl (if_neg hb)
    refine endG1 _ hob nd inK nsM nsB boot noL g0 hr F bind (hs _ O (.inl (.inr ⟨_, if_pos rfl⟩))) O ?_ ?_ (fun _ => hk)
    · intro b u z
      obtain ⟨rfl, rfl⟩ := at_ b u z
      exact ⟨hob, by rw [List.length_map]; exact hl, vs, _, rv, hob⟩
    · intro b z
      cases q : (fun b => if b = a then some (HO.frz { cls := .type "list", data := .seq vs.toArray }
        (.lst (ns.map V.int))) else none) b with
      | none => exact absurd q z
      | some u => exact (at_ b u q).1
end
/-- the head's goal, from the law's promise with nothing guarded -/
theorem walkG {l : PySem.W.OpenLaw} {n k : Nat} {q : Program} {loose : List Str} {XP : (Str → Option Value) → Heap → Prop}
    {YP : World → Heap → Prop} {d : DefRec} {K : Params → PySem.W.Frag} {sp : PySem.W.Frag → Sp} {x : Str}
    (hn : l.most = some n) (hn2 : n ≤ sizeLine) (hdf : d.params.defaults = []) (hr : Room k callerA)
    (hY : ∀ (w : World) (h : Heap), YP w h → (K w.params).In h)
    (F : ∀ (w : World) (mg : Str → Option Value) (fa : Addr) (h : Heap), (K w.params).In h → h.Ns mainGlobals mg →
      mg d.name = some (.ref fa) → ∃ fd : FuncData, (∀ (s : Shared) (u : Value), BindsTo s fd ⟨[u], []⟩ [(x, u)]) ∧
        ∀ base : Heap, (K w.params).In base → base.Ns mainGlobals mg →
          FnG l.prog w (K w.params) mg base k fa fd [x] (sp (K w.params)))
    (hs : ∀ (K : PySem.W.Frag) (H : Hp) (a : Addr) (ns : List Int), ns.length ≤ n → Only H →
      SqL K H a (ns.map V.int) → sp K [.ref a] H (fun v _ => v = .bl true) fun _ _ _ => False) :
    PySem.W.WalkO q loose XP YP l.row.toRowW d [] (fun f vs => PySem.call f vs) := by
  refine Att.attach_call hn hdf fun w s₀ s₁ mg mb fa o pm cd doc a vs ns G Y ho hd hcd hmg hobj hints hlen hg => ?_
  have inK := hY w _ Y
  obtain ⟨fd, hb, hF⟩ := F w mg fa _ inK G.T.g hmg
  exact endG inK G.T.g G.T.b G.T.builtins G.T.nolimit hg hobj hints (Nat.le_trans hlen hn2) hr hF hb
    fun H hO hS => hs _ H a ns hlen hO hS
end Ow

set_option Elab.async false
set_option linter.all false
set_option maxRecDepth 100000
set_option maxHeartbeats 4000000
namespace Ow
open PySem PySem.Spec PyProof.Rows L2

/-! powers of greater numbers -/
def CPowB (i j : Int) : Prop := 0 ≤ j ∧ (Builtin.Int.intBits i : Int) * j ≤ 2 ^ 27
section
variable {X : Cx}
theorem op_powB : OpR X (binaryOp .Pow) (rI CPowB fun i j => .int (i ^ j.toNat)) :=
  opI fun _ _ _ _ _ _ _ hc q => pow_int hc.1 hc.2 q
end

/-! a tuple backwards: some of its items -/
theorem vals_pick {xs : List V} {its : List Value} (r : Vals xs its) (f : Nat → Nat) : ∀ l : List Nat,
    Vals (l.filterMap fun m => xs[f m]?) (l.filterMap fun m => its[f m]?)
  | [] => .nil
  | m :: l => by
    have ih := vals_pick r f l
    cases e : xs[f m]? with
    | none =>
      simp only [List.filterMap_cons, e, r.none_of e]
      exact ih
    | some x =>
      obtain ⟨u, hu, rv⟩ := r.get e
      simp only [List.filterMap_cons, e, hu]
      exact .cons rv ih
theorem back_places (n : Nat) : Builtin.Slice.slicePlaces ((n : Int) - 1) (-1) (-1) = n := by
  unfold Builtin.Slice.slicePlaces
  rw [if_neg (by decide)]
  by_cases h : (n : Int) - 1 > -1
  · rw [if_pos h]
    simp only [Int.neg_neg, Int.ediv_one]
    omega
  · rw [if_neg h]
    omega
theorem back_adjust (n : Nat) : Builtin.Slice.sliceAdjust none none (-1) (n : Int) = ((n : Int) - 1, -1) := by
  unfold Builtin.Slice.sliceAdjust
  simp
section
variable {prog : Program} {w : World} {A : Around} {E : Value → Shared → Prop} {s : Shared}
theorem back_applied {sl : Addr} {vs : Value} {n : Nat} {Q : Int × Int × Nat → Shared → Prop}
    (hs : s.heap.IsSliceOf sl .none .none vs) (p : IsPart vs (some (-1))) (h : Q ((n : Int) - 1, -1, n) s) :
    wpAny (model prog w) A (Builtin.Slice.sliceApplied (.ref sl) (pure (n : Int))) Q E s := by
  obtain ⟨os, hos, hcs, hds⟩ := id hs
  unfold Builtin.Slice.sliceApplied Builtin.Slice.sliceFields
  refine wpAny_bind (wpAny_bind (wpAny_field hos hds (x := .none) rfl ?_))
  refine wpAny_bind (wpAny_field hos hds (x := .none) rfl ?_)
  refine wpAny_bind (wpAny_field hos hds (x := vs) rfl (wpAny_pure ?_))
  refine wpAny_bind (HT.slicePart_ p ?_)
  show wpAny _ _ (if ((-1 : Int) == 0) = true then _ else _) _ _ s
  rw [if_neg (by decide)]
  refine wpAny_bind (slicePart_none (wpAny_bind (slicePart_none (wpAny_bind (wpAny_pure ?_)))))
  show wpAny _ _ (match Builtin.Slice.sliceAdjust none none (-1) (n : Int) with
    | (lo, hi) => pure (lo, (-1 : Int), Builtin.Slice.slicePlaces lo hi (-1))) _ _ s
  rw [back_adjust]
  show wpAny _ _ (pure ((n : Int) - 1, (-1 : Int), Builtin.Slice.slicePlaces ((n : Int) - 1) (-1) (-1))) _ _ s
  rw [back_places]
  exact wpAny_pure h
theorem back_item {t sl : Addr} {items : Array Value} {vs : Value} {Q : Value → Shared → Prop}
    (ht : IsTup s.heap t items) (hs : s.heap.IsSliceOf sl .none .none vs) (p : IsPart vs (some (-1)))
    (hsz : items.size ≤ sizeLine)
    (h : Q (.ref s.heap.objs.size) { s with heap := s.heap.push { cls := .type "tuple", data := .seq ((List.range items.size).filterMap fun (k : Nat) => items[((items.size : Int) - 1 + (k : Int) * -1).toNat]?).toArray } }) :
    wpAny (model prog w) A (getItem (.ref t) (.ref sl)) Q E s := by
  have hz : sizeOk (.seq ((List.range items.size).filterMap fun (k : Nat) =>
      items[((items.size : Int) - 1 + (k : Int) * -1).toNat]?).toArray) := by
    show Array.size _ ≤ sizeLine
    rw [List.size_toArray]
    refine Nat.le_trans (List.length_filterMap_le _ _) ?_
    rw [List.length_range]
    exact hsz
  obtain ⟨os, hos, hcs, hds⟩ := id hs
  have isS : s.TypeIs (.ref sl) "slice" := ⟨os, hos, hcs⟩
  unfold getItem
  try with_reducible refine wpAny_holding ?_
  first | refine wpAny_bind (wpAny_pure ?_) | skip
  refine wpAny_bind (wpAny_sequenceKey ht.typeIs (by decide) ?_)
  refine wpAny_bind (wpAny_callSpecial?_slot (name := Str.ofString "__getitem__") ht.typeIs
    PyProof.Rows.slot_tuple_getitem (wpAny_call_entry PyProof.Rows.slot_tuple_getitem ht.typeIs
      entry_tuple_getitem ?_ (args_tuple_getitem _ _)))
  show wpAny _ _ (Builtin.Tuple.tupleItemsOf (.ref t) >>= _) _ _ s
  refine wpAny_bind (tupleItemsOf_ ht ?_)
  refine wpAny_bind (wpAny_typeOf isS ?_)
  rw [if_pos (by decide)]
  refine wpAny_bind (back_applied hs p ?_)
  have no : ¬ ((((items.size : Int) - 1) == 0 && (-1 : Int) == 1 && items.size == items.size) = true) := by
    intro q
    rw [Bool.and_eq_true, Bool.and_eq_true] at q
    exact absurd q.1.2 (by decide)
  show wpAny _ _ (if (((items.size : Int) - 1) == 0 && (-1 : Int) == 1 && items.size == items.size) = true then _ else _) _ _ s
  rw [if_neg no]
  first
    | exact wpAny_bind (m := Builtin.Tuple.tupleExact _) (wpAny_newObj_type (wpAny_pure ⟨_, rfl, wpAny_pure h⟩) hz)
    | exact wpAny_bind (m := Builtin.Tuple.tupleExact _)
        (wpAny_newObj_type (wpAny_bind (wpAny_pure (wpAny_pure ⟨_, rfl, wpAny_pure h⟩))) hz)
    | exact wpAny_bind (wpAny_bind (m := Builtin.Tuple.tupleExact _)
        (wpAny_newObj_type (wpAny_pure (wpAny_pure ⟨_, rfl, wpAny_pure h⟩)) hz))
    | exact wpAny_bind (wpAny_bind (m := Builtin.Tuple.tupleExact _)
        (wpAny_newObj_type (wpAny_pure ⟨_, rfl, wpAny_pure h⟩) hz))
end
def tBack (K : PySem.W.Frag) (te : TE) : TE := fun σ H Q => te σ H fun x H1 => ∃ a xs, x = .ref a ∧ SqT K H1 a xs ∧
  ∀ p zs, H1 p = none → (∀ z ∈ zs, z ∈ xs) → zs.length ≤ xs.length → Q (.ref p) (upd H1 p (.tup zs))
section
variable {X : Cx}
theorem pe_back {e : Expr} {te : TE} {k : Nat} {p1 p2 p3 pos : Pos} (he : PE X e te) :
    PE X (.Subscript e (.Slice none none (some (.UnaryOp .USub (.Constant (.int 1) k p1) p2)) p3) pos) (tBack X.K te) := by
  refine ⟨fun pins s σ H Q I h => ?_⟩
  refine Subscript_ (thn (he.run pins s σ H _ I h) fun v s1 hv => ?_)
  obtain ⟨x, H1, I1, r1, a, xs, ex, hx, q⟩ := hv
  subst ex
  cases r1
  have hst : PO X (some (.UnaryOp .USub (.Constant (.int 1) k p1) p2)) (tPart (tUn (rU fun i => .int (-i)) (tC (.int 1)))) :=
    po_some (pe_un un_neg pe_int)
  refine wpAny_Slice (thn (po_none.run pins s1 σ H1 (fun o H2 => o = none ∧ H2 = H1) I1 ⟨rfl, rfl⟩) fun vl s2 hl => ?_)
  obtain ⟨l, H2, I2, pl, el, e2⟩ := hl
  subst el e2
  refine thn (po_none.run pins s2 σ H2 (fun o H3 => o = none ∧ H3 = H2) I2 ⟨rfl, rfl⟩) fun vu s3 hl => ?_
  obtain ⟨u, H3, I3, pu, eu, e3⟩ := hl
  subst eu e3
  refine thn (hst.run pins s3 σ H3 (fun o H4 => o = some (-1) ∧ H4 = H3) I3 ⟨1, rfl, -1, rfl, rfl, rfl⟩) fun vs s4 hl => ?_
  obtain ⟨o, H4, I4, ps, eo, e4⟩ := hl
  subst eo e4
  cases pl
  cases pu
  have I5 : Inv X pins σ H4 { s4 with heap := s4.heap.push { cls := .type "slice", data := .fields #[.none, .none, vs] } } :=
    I4.kept (t' := s4.toks) fun b ob q => Heap.get?_push_of_some _ q
  obtain ⟨its, r, ht, hz⟩ := I5.tuple hx
  have hlen := r.length
  refine tail_any (ops := [.ref a, .ref s4.heap.objs.size]) ht.typeIs (PyProof.Rows.slot_tuple_getitem.lookup) ?_ (by with_unfolding_all rfl)
  refine back_item ht (Heap.IsSliceOf.new _ .none .none vs) ps (by rw [List.size_toArray]; omega) ?_
  have hsz : its.toArray.size = xs.length := by rw [List.size_toArray]; exact hlen.symm
  rw [hsz]
  let f : Nat → Nat := fun k => ((xs.length : Int) - 1 + (k : Int) * -1).toNat
  have hv := vals_pick r f (List.range xs.length)
  have le : ((List.range xs.length).filterMap fun m => xs[f m]?).length ≤ xs.length :=
    Nat.le_trans (List.length_filterMap_le _ _) (by rw [List.length_range]; exact Nat.le_refl _)
  refine ⟨.ref _, _, I5.laid (t' := s4.toks) (o := .tup ((List.range xs.length).filterMap fun m => xs[f m]?))
    (fun b ob q => Heap.get?_push_of_some _ q) (Nat.le_refl _) ?_, rfl,
    q _ _ (I5.hok.fresh (Nat.le_refl _)) (fun z hz => ?_) le⟩
  · refine ⟨Nat.le_trans le hz, (List.range xs.length).filterMap fun m => its[f m]?, hv, ?_⟩
    have e : (List.filterMap (fun (k : Nat) => its.toArray[((xs.length : Int) - 1 + (k : Int) * -1).toNat]?) (List.range xs.length)) =
        ((List.range xs.length).filterMap fun m => its[f m]?) := by
      congr 1
      funext m
      simp [f]
    rw [e]
    exact IsTup.new _ _
  · obtain ⟨m, _, hm⟩ := List.mem_filterMap.mp hz
    exact List.mem_of_getElem? hm
end

/-! a comprehension over a text's signs -/
theorem lc_signs {z : Str} {g : TG} {tt : TT} {te : TE} {vs : List Nat} {σ : L2.St} {H1 : Hp} {D : Addr} {Qd : Hp → Prop}
    (I : Nat → Hp → Prop) (h0 : I 0 (upd H1 D (.lst [])))
    (hs : ∀ i c H, z.cps[i]? = some c → I i H → g (.str ⟨#[c]⟩) (wipe σ vs) H fun σ2 H2 => wipe σ2 vs = wipe σ vs ∧
      tt σ2 H2 fun b H3 => if b = true then te σ2 H3 fun y H4 => ∃ acc, H4 D = some (.lst acc) ∧
        acc.length < sizeLine ∧ I (i + 1) (upd H4 D (.lst (acc ++ [y]))) else I (i + 1) H3)
    (hd : ∀ H, I z.cps.size H → Qd H) :
    ∃ W : Nat → Nat → Hp → Prop, (∃ m, W 0 m (upd H1 D (.lst []))) ∧ ∀ i m H, W i m H →
      ((Its z).stop i H ∧ Qd H) ∨ ((Its z).go i H ∧ ∃ Nx : Hp → Prop, (∀ H', Nx H' → ∃ m', m' < m ∧ W (i + 1) m' H') ∧
        ∀ x H', (Its z).yld i H x H' → g x (wipe σ vs) H' fun σ2 H2 => wipe σ2 vs = wipe σ vs ∧ tt σ2 H2 fun b H3 =>
          if b = true then te σ2 H3 fun y H4 => ∃ acc, H4 D = some (.lst acc) ∧ acc.length < sizeLine ∧
            Nx (upd H4 D (.lst (acc ++ [y]))) else Nx H3) := by
  refine ⟨fun i m H => m + i = z.cps.size ∧ I i H, ⟨z.cps.size, by omega, h0⟩, fun i m H hW => ?_⟩
  obtain ⟨hm, hI⟩ := hW
  by_cases hi : i < z.cps.size
  · refine .inr ⟨hi, I (i + 1), fun H' h' => ⟨m - 1, by omega, by omega, h'⟩, fun x H' hy => ?_⟩
    obtain ⟨rfl, c, hc, rfl⟩ := hy
    exact hs i c _ hc hI
  · have e : i = z.cps.size := by omega
    subst e
    exact .inl ⟨Nat.le_refl _, hd H hI⟩
end Ow

set_option Elab.async false
set_option linter.all false
set_option maxRecDepth 100000
set_option maxHeartbeats 4000000
namespace Ow
open PySem PySem.Spec PyProof.Rows L2

/-! ### the text -/
def topS (i : Nat) : Stmt := PySem.Challenge.pw_oneswill_k18_rules_told.main.body.getD i (.Pass ⟨0, 0, 0, 0⟩)
def inS (i j : Nat) : Stmt := match topS i with
  | .ClassDef _ _ _ b _ _ _ _ _ _ _ => b.getD j (.Pass ⟨0, 0, 0, 0⟩)
  | _ => .Pass ⟨0, 0, 0, 0⟩
abbrev dInteger : Stmt := topS 11
abbrev dName : Stmt := topS 12
abbrev dValue : Stmt := topS 13
abbrev dValues : Stmt := topS 14
abbrev dHasValues : Stmt := topS 15
abbrev dAllValues : Stmt := topS 16
abbrev dAscending : Stmt := topS 17
abbrev dSetNames : Stmt := topS 18
abbrev dIssues : Stmt := topS 21
abbrev dKeys : Stmt := topS 22
abbrev dNeedIssues : Stmt := topS 26
abbrev dNeedVoters : Stmt := topS 27
abbrev dIsTable : Stmt := topS 28
abbrev dAreTables : Stmt := topS 29
abbrev dFollow : Stmt := topS 30
abbrev dPlace : Stmt := topS 31
abbrev dVoted : Stmt := topS 34
abbrev dJug : Stmt := topS 35
abbrev dDip : Stmt := topS 36
abbrev dChoice : Stmt := topS 37
abbrev dJumbled : Stmt := topS 38
abbrev dAllRows : Stmt := topS 39
abbrev dVoterTables : Stmt := topS 40
abbrev dLetter : Stmt := topS 41
abbrev dManyNames : Stmt := topS 42
abbrev dSpare : Stmt := topS 43
abbrev dAnyTable : Stmt := topS 44
abbrev dAnyTables : Stmt := topS 45
abbrev dIsTheRule : Stmt := topS 46
abbrev dNear : Stmt := topS 47
abbrev dAllRight : Stmt := topS 48
abbrev dMadeMixed : Stmt := topS 49
abbrev dCell : Stmt := topS 50
abbrev dLaw : Stmt := topS 51
abbrev dInit : Stmt := inS 32 0
abbrev dOfVoter : Stmt := inS 32 1
abbrev dPVoters : Stmt := inS 32 2
abbrev dPIssues : Stmt := inS 32 3
abbrev dGetitem : Stmt := inS 32 4
abbrev dCall : Stmt := inS 32 5
abbrev dAreVotes : Stmt := inS 32 6
abbrev dContains : Stmt := inS 32 7
abbrev dLen : Stmt := inS 32 8
abbrev dEq : Stmt := inS 32 9
abbrev dStr : Stmt := inS 32 10
abbrev dIter : Stmt := inS 32 11

/-! ### heaps that grow, but for the jug at J -/
def Sb (J : Addr) (H H' : Hp) : Prop := ∀ b o, b ≠ J → H b = some o → H' b = some o
theorem Sb.refl (J : Addr) (H : Hp) : Sb J H H := fun _ _ _ e => e
theorem Sb.trans {J : Addr} {H H1 H2 : Hp} (a : Sb J H H1) (b : Sb J H1 H2) : Sb J H H2 :=
  fun c o n e => b c o n (a c o n e)
theorem Sb.same {J : Addr} {H H' : Hp} (a : Same H H') : Sb J H H' := fun c o _ e => a c o e
theorem same_new {H : Hp} {p : Addr} {o : HO} (h : H p = none) : Same H (upd H p o) := fun b x e => by
  rw [upd_ne (ne_of_none e h)]
  exact e
theorem Sb.new {J : Addr} {H : Hp} {p : Addr} {o : HO} (h : H p = none) : Sb J H (upd H p o) := .same (same_new h)
theorem Sb.at {J : Addr} {H : Hp} {o : HO} : Sb J H (upd H J o) := fun b x n e => by
  rw [upd_ne n]
  exact e

/-! ### the values that the law asks about -/
/-- no reference; small enough to be told as a text -/
def scOk : V → Prop
  | .non => True
  | .bl _ => True
  | .int i => i.natAbs < 2 ^ 400
  | .str z => z.length ≤ 4000 ∧ ∀ c ∈ z.cps.toList, c < 128
  | _ => False
/-- (), (0,), [] -/
def Gr (H : Hp) (a : Addr) : Prop := H a = some (.tup []) ∨ H a = some (.tup [.int 0]) ∨ H a = some (.lst [])
def Im (J : Addr) (H : Hp) (v : V) : Prop := scOk v ∨ ∃ a, v = .ref a ∧ a ≠ J ∧ Gr H a
def Vl (J : Addr) (H : Hp) (v : V) : Prop := scOk v ∨ ∃ a, v = .ref a ∧ a ≠ J ∧
  ((∃ xs, H a = some (.tup xs) ∧ xs.length ≤ 60 ∧ ∀ x ∈ xs, Im J H x) ∨ (∃ xs, H a = some (.lst xs)) ∨ ∃ kvs, H a = some (.dK kvs))
theorem Gr.mono {J : Addr} {H H' : Hp} {a : Addr} (s : Sb J H H') (n : a ≠ J) (h : Gr H a) : Gr H' a := by
  rcases h with h | h | h
  · exact .inl (s _ _ n h)
  · exact .inr (.inl (s _ _ n h))
  · exact .inr (.inr (s _ _ n h))
theorem Im.mono {J : Addr} {H H' : Hp} {v : V} (s : Sb J H H') (h : Im J H v) : Im J H' v := by
  rcases h with h | ⟨a, e, n, g⟩
  · exact .inl h
  · exact .inr ⟨a, e, n, g.mono s n⟩
theorem Vl.mono {J : Addr} {H H' : Hp} {v : V} (s : Sb J H H') (h : Vl J H v) : Vl J H' v := by
  rcases h with h | ⟨a, e, n, g⟩
  · exact .inl h
  · refine .inr ⟨a, e, n, ?_⟩
    rcases g with ⟨xs, h, l, q⟩ | ⟨xs, h⟩ | ⟨kvs, h⟩
    · exact .inl ⟨xs, s _ _ n h, l, fun x hx => (q x hx).mono s⟩
    · exact .inr (.inl ⟨xs, s _ _ n h⟩)
    · exact .inr (.inr ⟨kvs, s _ _ n h⟩)
theorem Im.vl {J : Addr} {H : Hp} {v : V} (h : Im J H v) : Vl J H v := by
  rcases h with h | ⟨a, e, n, g⟩
  · exact .inl h
  · refine .inr ⟨a, e, n, ?_⟩
    rcases g with h | h | h
    · exact .inl ⟨_, h, Nat.zero_le _, fun x hx => nomatch hx⟩
    · refine .inl ⟨_, h, by decide, fun x hx => ?_⟩
      rw [List.mem_singleton] at hx
      rw [hx]
      exact .inl (by show Int.natAbs 0 < 2 ^ 400; decide)
    · exact .inr (.inl ⟨_, h⟩)
/-- what is told of a value -/
def bitB (v : V) : Bool := decide (v = .int 0) || decide (v = .int 1)
def shortB : V → Bool
  | .int i => decide (-(10 ^ 60) < i) && decide (i < 10 ^ 60)
  | _ => false
def signB (c : Nat) : Bool := decide (97 ≤ c) && decide (c ≤ 122)
def nameB : V → Bool
  | .str z => (decide (1 ≤ z.length) && decide (z.length ≤ 8)) && z.cps.toList.all signB
  | _ => false
def rowB (H : Hp) : V → Bool
  | .ref a => match H a with
    | some (.tup xs) => xs.all bitB
    | _ => false
  | _ => false
/-- a def that tells a truth of a value, and changes nothing -/
def spB (g : Hp → V → Bool) : Sp := fun vs H Q _ => ∃ v J, vs = [v] ∧ Vl J H v ∧ ∀ H', Same H H' → Q (.bl (g H v)) H'
theorem spB_len {g : Hp → V → Bool} : ∀ vs H Q E, spB g vs H Q E → vs.length = 1 := by
  intro vs H Q E h
  obtain ⟨v, J, rfl, _⟩ := h
  rfl
/-- the classes of such values -/
theorem Vl.ty {K : PySem.W.Frag} {J : Addr} {H : Hp} {v : V} (h : Vl J H v) : ∃ T : String, TyX K H v (.type T) ∧
    ((∃ i, v = .int i) ∧ T = "int" ∨ (∃ b, v = .bl b) ∧ T = "bool" ∨ (v = .non) ∧ T = "NoneType" ∨ (∃ z, v = .str z ∧ z.length ≤ 4000 ∧ ∀ c ∈ z.cps.toList, c < 128) ∧ T = "str" ∨
      (∃ a xs, v = .ref a ∧ H a = some (.tup xs) ∧ xs.length ≤ 60 ∧ ∀ x ∈ xs, Im J H x) ∧ T = "tuple" ∨
      (∃ a xs, v = .ref a ∧ H a = some (.lst xs)) ∧ T = "list" ∨ (∃ a kvs, v = .ref a ∧ H a = some (.dK kvs)) ∧ T = "dict") := by
  rcases h with h | ⟨a, rfl, n, h⟩
  · cases v with
    | non => exact ⟨"NoneType", .base .non, .inr (.inr (.inl ⟨rfl, rfl⟩))⟩
    | bl b => exact ⟨"bool", .base (.bl b), .inr (.inl ⟨⟨b, rfl⟩, rfl⟩)⟩
    | int i => exact ⟨"int", .base (.int i), .inl ⟨⟨i, rfl⟩, rfl⟩⟩
    | str z => exact ⟨"str", .base (.str z), .inr (.inr (.inr (.inl ⟨⟨z, rfl, h⟩, rfl⟩)))⟩
    | byt _ => exact False.elim h
    | flt _ => exact False.elim h
    | ref _ => exact False.elim h
    | ty _ => exact False.elim h
  · rcases h with ⟨xs, h, l, q⟩ | ⟨xs, h⟩ | ⟨kvs, h⟩
    · exact ⟨"tuple", .base (.tup h), .inr (.inr (.inr (.inr (.inl ⟨⟨a, xs, rfl, h, l, q⟩, rfl⟩))))⟩
    · exact ⟨"list", .base (.lst h), .inr (.inr (.inr (.inr (.inr (.inl ⟨⟨a, xs, rfl, h⟩, rfl⟩)))))⟩
    · exact ⟨"dict", .base (.dK h), .inr (.inr (.inr (.inr (.inr (.inr ⟨⟨a, kvs, rfl, h⟩, rfl⟩)))))⟩
end Ow

set_option Elab.async false
set_option linter.all false
set_option maxRecDepth 100000
set_option maxHeartbeats 4000000
set_option exponentiation.threshold 3000
namespace Ow
open PySem PySem.Spec PyProof.Rows L2
theorem scInteger : FnScope ["value"] ["value"] (defScope dInteger) := ⟨rfl, rfl, rfl, by decide +kernel, rfl, by decide +kernel, by decide +kernel⟩
theorem scValue : FnScope ["value"] ["value"] (defScope dValue) := ⟨rfl, rfl, rfl, by decide +kernel, rfl, by decide +kernel, by decide +kernel⟩
theorem boot_isi : bootBuiltins "isinstance" = some (.builtin "isinstance") := by decide +kernel
section
variable {P : Program} {w : World} {K : PySem.W.Frag} {mg : Str → Option Value} {base : Heap}
/-- isinstance(x, T), T a built-in class -/
theorem pe_isi {X : Cx} {e : Expr} {te : TE} {T : String} {n : Str} {p p2 pos : Pos} (g : Gl X "isinstance") (m : X.mg "isinstance" = none)
    (he : PE X e te) (g2 : Gl X n) (m2 : X.mg n = none) (hv : bootBuiltins n = some (.type T)) (nn : n ≠ "__name__" := by decide) (nd : (n == ("__debug__" : Str)) = false := by decide)
    (h1 : starEach [e, .Name n p2] X.env = (false, eval e X.env) :: starEach [.Name n p2] X.env := by rfl) (h2 : (backTo pos (starEach [.Name n p2] X.env)).any (·.1) = false := by rfl) :
    PE X (.Call (.Name "isinstance" p) [e, .Name n p2] [] pos) (tCB (rIsi X.K) (tCons te (tCons (tC (.ty T)) tNil))) :=
  pe_callB call_isi g m boot_isi (pa_cons he (pa_cons (pe_bltn g2 m2 hv rfl nn nd) pa_nil (by rfl)) h1) (by decide) (by decide) h1 h2
def isT (T U : String) : Bool := (kitB T U).getD false
theorem isi_at {K : PySem.W.Frag} {H : Hp} {v : V} {T : String} {b : Bool} {Q : VK} {i : Nat} {σ : L2.St} (U : String) (hi : σ[i]? = some (some v)) (ty : TyX K H v (.type T)) (k : kitB T U = some b) (q : Q (.bl b) H) :
    tCB (rIsi K) (tCons (tVar i) (tCons (tC (.ty U)) tNil)) σ H Q := ⟨v, hi, v, .ty U, .type T, .type U, b, rfl, .ty U, ty, kit_ty k, q⟩
theorem ok_integer {f : Addr} {fd : FuncData} {t : Tok} (F : Fun K "is_integer" "is_integer" dInteger f fd) (mi : mg "isinstance" = none) (mn : mg "int" = none) (mb : mg "bool" = none)
    (mB : mg "_BOUND" = some (.int (10 ^ 60) t)) : FnOk P w K mg base CX0 1 f fd ["value"] (spB fun _ => shortB) := by
  refine F.ok scInteger spB_len (fun cdv A outer s H vs Q E hr h => ?_)
  obtain ⟨v, J, rfl, hv, q⟩ := h
  refine ⟨_, pss_one (ps_ret (pe_and (pe_isi (by rfl) mi (pv 0) (by rfl) mn boot_int)
    (pe_and (pe_not (pe_isi (T := "bool") (by rfl) mi (pv 0) (by rfl) mb (by decide +kernel)))
      (pe_one (pe_chain op_lt op_lt (pe_un un_neg (pe_glob (v := .int (10 ^ 60)) (by rfl) mB ⟨_, rfl⟩)) (pv 0) (pe_glob (v := .int (10 ^ 60)) (by rfl) mB ⟨_, rfl⟩)))))), ?_⟩
  obtain ⟨T, ty, c⟩ := hv.ty (K := K)
  have fin : ∀ b, b = shortB v → Q (.bl b) H := fun b e => by
    rw [e]
    exact q H (Same.refl H)
  rcases c with ⟨⟨i, rfl⟩, rfl⟩ | ⟨⟨b, rfl⟩, rfl⟩ | ⟨rfl, rfl⟩ | ⟨⟨z, rfl, _⟩, rfl⟩ | ⟨⟨a, xs, rfl, _⟩, rfl⟩ | ⟨⟨a, xs, rfl, _⟩, rfl⟩ | ⟨⟨a, xs, rfl, _⟩, rfl⟩
  · refine isi_at "int" rfl ty (b := true) (by decide +kernel) ⟨true, rfl, iteT (isi_at "bool" rfl ty (b := false) (by decide +kernel) ⟨false, rfl, true, rfl, iteT ?_⟩)⟩
    refine ⟨10 ^ 60, rfl, .int i, rfl, _, _, rfl, rfl, _, rfl, ?_⟩
    by_cases h : -(10 ^ 60) < i
    · rw [decide_eq_true h]
      refine iteT ⟨_, _, rfl, rfl, fin _ ?_⟩
      show _ = (decide (-(10 ^ 60) < i) && _)
      rw [decide_eq_true h]
      rfl
    · rw [decide_eq_false h]
      refine iteF (fin _ ?_)
      show _ = (decide (-(10 ^ 60) < i) && _)
      rw [decide_eq_false h]
      rfl
  · exact isi_at "int" rfl ty (b := true) (by decide +kernel) ⟨true, rfl, iteT (isi_at "bool" rfl ty (b := true) (by decide +kernel) ⟨true, rfl, false, rfl, iteF (fin _ rfl)⟩)⟩
  · exact isi_at "int" rfl ty (b := false) (by decide +kernel) ⟨false, rfl, iteF (fin _ rfl)⟩
  · exact isi_at "int" rfl ty (b := false) (by decide +kernel) ⟨false, rfl, iteF (fin _ rfl)⟩
  · exact isi_at "int" rfl ty (b := false) (by decide +kernel) ⟨false, rfl, iteF (fin _ rfl)⟩
  · exact isi_at "int" rfl ty (b := false) (by decide +kernel) ⟨false, rfl, iteF (fin _ rfl)⟩
  · exact isi_at "int" rfl ty (b := false) (by decide +kernel) ⟨false, rfl, iteF (fin _ rfl)⟩
/-- is_value: an integer, 0 or 1 -/
theorem ok_value {f fI : Addr} {fd fdI : FuncData} (F : Fun K "is_value" "is_value" dValue f fd) (FI : FnOk P w K mg base CX0 1 fI fdI ["value"] (spB fun _ => shortB))
    (kI : PySem.W.keepIn K (.ref fI) = true) (bI : Binds K fdI ["value"] []) (gI : mg "is_integer" = some (.ref fI)) : FnOk P w K mg base CX0 2 f fd ["value"] (spB fun _ => bitB) := by
  refine F.ok scValue spB_len (fun cdv A outer s H vs Q E hr h => ?_)
  obtain ⟨v, J, rfl, hv, q⟩ := h
  refine ⟨_, pss_one (ps_ret (pe_and (pe_call FI hr (by rfl) gI kI bI .nil pass0 (pa_cons (pv 0) pa_nil))
    (pe_one (pe_chain op_le op_le pe_int (pv 0) pe_int)))), ?_⟩
  refine ⟨v, rfl, v, J, rfl, hv, fun H1 sm => ⟨_, rfl, ?_⟩⟩
  have fin : ∀ b, b = bitB v → Q (.bl b) H1 := fun b e => by
    rw [e]
    exact q H1 sm
  by_cases hs : shortB v = true
  · show if shortB v = true then _ else _
    rw [hs]
    refine iteT ?_
    cases v with
    | int i =>
      refine ⟨.int i, rfl, 0, i, rfl, rfl, _, rfl, ?_⟩
      have e : bitB (.int i) = (decide (0 ≤ i) && decide (i ≤ 1)) := by
        unfold bitB
        rw [Bool.eq_iff_iff]
        simp only [Bool.or_eq_true, Bool.and_eq_true, decide_eq_true_eq, V.int.injEq]
        omega
      by_cases h : 0 ≤ i
      · rw [decide_eq_true h]
        refine iteT ⟨_, _, rfl, rfl, fin _ ?_⟩
        rw [e, decide_eq_true h]
        rfl
      · rw [decide_eq_false h]
        refine iteF (fin _ ?_)
        rw [e, decide_eq_false h]
        rfl
    | _ => exact absurd (show false = true from hs) Bool.false_ne_true
  · have e : shortB v = false := Bool.eq_false_iff.mpr hs
    show if shortB v = true then _ else _
    rw [e]
    refine iteF (fin _ ?_)
    cases v with
    | int i =>
      symm
      have e2 : (decide (-(10 ^ 60) < i) && decide (i < 10 ^ 60)) = false := e
      unfold bitB
      rw [Bool.or_eq_false_iff]
      constructor
      · refine decide_eq_false fun z => ?_
        have z : i = 0 := V.int.inj z
        subst z
        exact absurd e2 (by decide)
      · refine decide_eq_false fun z => ?_
        have z : i = 1 := V.int.inj z
        subst z
        exact absurd e2 (by decide)
    | _ =>
      symm
      unfold bitB
      rw [Bool.or_eq_false_iff]
      exact ⟨decide_eq_false (fun z => (nomatch z)), decide_eq_false (fun z => (nomatch z))⟩
end
end Ow

set_option Elab.async false
set_option linter.all false
set_option maxRecDepth 100000
set_option maxHeartbeats 4000000
set_option exponentiation.threshold 3000
namespace Ow
open PySem PySem.Spec PyProof.Rows L2
theorem scName : FnScope ["value", "sign"] ["value"] (defScope dName) := ⟨rfl, rfl, rfl, by decide +kernel, rfl, by decide +kernel, by decide +kernel⟩
theorem scValues : FnScope ["value", "item"] ["value"] (defScope dValues) := ⟨rfl, rfl, rfl, by decide +kernel, rfl, by decide +kernel, by decide +kernel⟩
theorem boot_all : bootBuiltins "all" = some (.builtin "all") := by decide +kernel
theorem lt1 (c d : Nat) : decide (([c] : List Nat) < [d]) = decide (c < d) := by
  rw [Bool.eq_iff_iff]
  simp only [decide_eq_true_eq, List.cons_lt_cons_iff]
  constructor
  · intro h
    rcases h with h | ⟨_, h⟩
    · exact h
    · exact absurd h (List.not_lt_nil _)
  · exact .inl
theorem small60 {n : Nat} (h : n ≤ 5000) : n < sizeLine := Nat.lt_of_le_of_lt h (by decide)
section
variable {P : Program} {w : World} {K : PySem.W.Frag} {mg : Str → Option Value} {base : Heap}
theorem ok_name {f : Addr} {fd : FuncData} {t : Tok} (F : Fun K "is_name" "is_name" dName f fd) (mi : mg "isinstance" = none) (ms : mg "str" = none) (ml : mg "len" = none) (ma : mg "all" = none)
    (mM : mg "MAX_LETTERS" = some (.int 8 t)) : FnOk P w K mg base CX0 1 f fd ["value"] (spB fun _ => nameB) := by
  refine F.ok scName spB_len (fun cdv A outer s H vs Q E hr h => ?_)
  obtain ⟨v, J, rfl, hv, q⟩ := h
  refine ⟨_, pss_cons (ps_if (PW.pt (pw_or (pt_not (pt_val (pe_isi (T := "str") (by rfl) mi (pv 0) (by rfl) ms (by decide +kernel))))
      (pw_or1 (pt_not (pt_chain op_le op_le pe_int (pe_callB call_len_str (by rfl) ml PySem.boot_len (pa_cons (pv 0) pa_nil)) (pe_glob (v := .int 8) (by rfl) mM ⟨_, rfl⟩))))))
      (pss_one (ps_ret pe_bl)) pss_nil)
    (pss_one (ps_ret (pe_callB (cr_all rfl) (by rfl) ma boot_all (pa_cons
      (pe_lc (own := [("sign", 1)]) (g := gName 1) (tt := tYes) rfl scName.nd (pi_str (pv 0)) (blkOk_by (N := ["value", "sign"]) (sc := defScope dName) (by decide +kernel))
        (fun _ _ _ _ _ => pg_name (i := 1) scName.nd rfl (Or.inl rfl)) (fun _ _ _ _ _ => pts_nil)
        (fun _ _ _ _ _ => pe_chain op_le_str op_le_str pe_str (pv 1) pe_str)) pa_nil)))), ?_⟩
  obtain ⟨T, ty, c⟩ := hv.ty (K := K)
  have fin : ∀ b H', Same H H' → b = nameB v → Q (.bl b) H' := fun b H' sm e => by
    rw [e]
    exact q H' sm
  rcases c with ⟨⟨i, rfl⟩, rfl⟩ | ⟨⟨b, rfl⟩, rfl⟩ | ⟨rfl, rfl⟩ | ⟨⟨z, rfl, hz, hc⟩, rfl⟩ | ⟨⟨a, xs, rfl, _⟩, rfl⟩ | ⟨⟨a, xs, rfl, _⟩, rfl⟩ | ⟨⟨a, xs, rfl, _⟩, rfl⟩
  · exact isi_at "str" rfl ty (b := false) (by decide +kernel) ⟨false, rfl, iteT (iteT (fin _ _ (Same.refl H) rfl))⟩
  · exact isi_at "str" rfl ty (b := false) (by decide +kernel) ⟨false, rfl, iteT (iteT (fin _ _ (Same.refl H) rfl))⟩
  · exact isi_at "str" rfl ty (b := false) (by decide +kernel) ⟨false, rfl, iteT (iteT (fin _ _ (Same.refl H) rfl))⟩
  · refine isi_at "str" rfl ty (b := true) (by decide +kernel) ⟨true, rfl, iteF ?_⟩
    refine ⟨.str z, rfl, z, rfl, Nat.le_of_lt (small60 (by omega)), 1, _, rfl, rfl, _, rfl, ?_⟩
    by_cases h1 : (1 : Int) ≤ (z.length : Int)
    · rw [decide_eq_true h1]
      refine iteT ⟨_, _, rfl, rfl, _, rfl, ?_⟩
      by_cases h8 : (z.length : Int) ≤ 8
      · rw [decide_eq_true h8]
        refine iteF ?_
        have hsz : z.length = z.cps.toList.length := by rw [Array.length_toList]; rfl
        refine ⟨.str z, rfl, z, rfl, fun D nD => ?_⟩
        refine lc_signs (fun i Hx => Same H Hx ∧ Hx D = some (.lst (((z.cps.toList.take i).map signB).map V.bl))) ⟨same_new nD, upd_same⟩ (fun i c Hx hi hI => ?_) (fun Hx hI => ?_)
        · obtain ⟨sm, eD⟩ := hI
          have hi' : z.cps.toList[i]? = some c := by rw [Array.getElem?_toList]; exact hi
          refine ⟨rfl, ?_⟩
          have next : ∀ b, b = signB c → ∃ acc, Hx D = some (.lst acc) ∧ acc.length < sizeLine ∧
              (Same H (upd Hx D (.lst (acc ++ [V.bl b]))) ∧ (upd Hx D (.lst (acc ++ [V.bl b]))) D = some (.lst (((z.cps.toList.take (i + 1)).map signB).map V.bl))) := by
            intro b e
            refine ⟨_, eD, ?_, fun b o e => ?_, ?_⟩
            · rw [List.length_map, List.length_map]
              refine small60 (Nat.le_trans (List.length_take_le _ _) ?_)
              have hi2 := (List.getElem?_eq_some_iff.mp hi').1
              omega
            · rw [upd_ne (ne_of_none e nD)]
              exact sm _ _ e
            · rw [upd_same, List.take_add_one, hi', List.map_append, List.map_append, e]
              rfl
          refine ⟨.str ⟨#[c]⟩, rfl, _, _, rfl, rfl, _, rfl, ?_⟩
          show if (!decide (([c] : List Nat) < [97])) = true then _ else _
          rw [lt1]
          by_cases hl : c < 97
          · rw [decide_eq_true hl]
            refine iteF (next _ ?_)
            unfold signB
            rw [decide_eq_false (show ¬ 97 ≤ c by omega)]
            rfl
          · rw [decide_eq_false hl]
            refine iteT ⟨_, _, rfl, rfl, next _ ?_⟩
            show (!decide (([122] : List Nat) < [c])) = signB c
            rw [lt1]
            unfold signB
            rw [decide_eq_true (show 97 ≤ c by omega)]
            by_cases hh : 122 < c
            · rw [decide_eq_true hh, decide_eq_false (show ¬ c ≤ 122 by omega)]
              rfl
            · rw [decide_eq_false hh, decide_eq_true (show c ≤ 122 by omega)]
              rfl
        · obtain ⟨sm, eD⟩ := hI
          rw [List.take_of_length_le (by rw [Array.length_toList]; exact Nat.le_refl _)] at eD
          refine ⟨D, _, rfl, .of eD, fin _ _ sm ?_⟩
          show _ = ((decide (1 ≤ z.length) && decide (z.length ≤ 8)) && z.cps.toList.all signB)
          rw [decide_eq_true (show 1 ≤ z.length by omega), decide_eq_true (show z.length ≤ 8 by omega), List.all_map]
          rfl
      · rw [decide_eq_false h8]
        refine iteT (fin _ _ (Same.refl H) ?_)
        show _ = ((_ && decide (z.length ≤ 8)) && _)
        rw [decide_eq_false (show ¬ z.length ≤ 8 by omega), Bool.and_false, Bool.false_and]
    · rw [decide_eq_false h1]
      refine iteF ⟨_, rfl, iteT (fin _ _ (Same.refl H) ?_)⟩
      show _ = ((decide (1 ≤ z.length) && _) && _)
      rw [decide_eq_false (show ¬ 1 ≤ z.length by omega), Bool.false_and, Bool.false_and]
  · exact isi_at "str" rfl ty (b := false) (by decide +kernel) ⟨false, rfl, iteT (iteT (fin _ _ (Same.refl H) rfl))⟩
  · exact isi_at "str" rfl ty (b := false) (by decide +kernel) ⟨false, rfl, iteT (iteT (fin _ _ (Same.refl H) rfl))⟩
  · exact isi_at "str" rfl ty (b := false) (by decide +kernel) ⟨false, rfl, iteT (iteT (fin _ _ (Same.refl H) rfl))⟩
end
end Ow

set_option Elab.async false
set_option linter.all false
set_option maxRecDepth 100000
set_option maxHeartbeats 4000000
set_option exponentiation.threshold 3000
namespace Ow
open PySem PySem.Spec PyProof.Rows L2
section
variable {P : Program} {w : World} {K : PySem.W.Frag} {mg : Str → Option Value} {base : Heap}
theorem boot_tup : bootBuiltins "tuple" = some (.type "tuple") := by decide +kernel
theorem ok_values {f fV : Addr} {fd fdV : FuncData} (F : Fun K "is_values" "is_values" dValues f fd) (FV : FnOk P w K mg base CX0 2 fV fdV ["value"] (spB fun _ => bitB))
    (kV : PySem.W.keepIn K (.ref fV) = true) (bV : Binds K fdV ["value"] []) (gV : mg "is_value" = some (.ref fV))
    (mi : mg "isinstance" = none) (mt : mg "tuple" = none) (ma : mg "all" = none) : FnOk P w K mg base CX0 3 f fd ["value"] (spB rowB) := by
  refine F.ok scValues spB_len (fun cdv A outer s H vs Q E hr h => ?_)
  obtain ⟨v, J, rfl, hv, q⟩ := h
  refine ⟨_, pss_one (ps_ret (pe_and (pe_isi (T := "tuple") (by rfl) mi (pv 0) (by rfl) mt boot_tup)
    (pe_one (pe_callB (cr_all rfl) (by rfl) ma boot_all (pa_cons
      (pe_lc (own := [("item", 1)]) (g := gName 1) (tt := tYes) rfl scValues.nd (pi_tup (pv 0)) (blkOk_by (N := ["value", "item"]) (sc := defScope dValues) (by decide +kernel))
        (fun _ _ _ _ _ => pg_name (i := 1) scValues.nd rfl (Or.inl rfl)) (fun _ _ _ _ _ => pts_nil)
        (fun _ _ _ _ _ => pe_call FV hr (by rfl) gV kV bV .nil pass0 (pa_cons (pv 1) pa_nil))) pa_nil))))), ?_⟩
  obtain ⟨T, ty, c⟩ := hv.ty (K := K)
  have fin : ∀ b H', Same H H' → b = rowB H v → Q (.bl b) H' := fun b H' sm e => by
    rw [e]
    exact q H' sm
  rcases c with ⟨⟨i, rfl⟩, rfl⟩ | ⟨⟨b, rfl⟩, rfl⟩ | ⟨rfl, rfl⟩ | ⟨⟨z, rfl, hz, hc⟩, rfl⟩ | ⟨⟨a, xs, rfl, ha, hl, hi⟩, rfl⟩ | ⟨⟨a, xs, rfl, ha⟩, rfl⟩ | ⟨⟨a, xs, rfl, ha⟩, rfl⟩
  · exact isi_at "tuple" rfl ty (b := false) (by decide +kernel) ⟨false, rfl, iteF (fin _ _ (Same.refl H) rfl)⟩
  · exact isi_at "tuple" rfl ty (b := false) (by decide +kernel) ⟨false, rfl, iteF (fin _ _ (Same.refl H) rfl)⟩
  · exact isi_at "tuple" rfl ty (b := false) (by decide +kernel) ⟨false, rfl, iteF (fin _ _ (Same.refl H) rfl)⟩
  · exact isi_at "tuple" rfl ty (b := false) (by decide +kernel) ⟨false, rfl, iteF (fin _ _ (Same.refl H) rfl)⟩
  · refine isi_at "tuple" rfl ty (b := true) (by decide +kernel) ⟨true, rfl, iteT ?_⟩
    refine ⟨.ref a, rfl, a, rfl, ⟨xs, .of ha⟩, fun D nD => ?_⟩
    refine lc_tup (K := K) (a := a) (xs := xs) (fun i Hx => Same H Hx ∧ Hx D = some (.lst (((xs.take i).map bitB).map V.bl))) ⟨same_new nD, upd_same⟩
      (fun i Hx _ hI => .of (hI.1 _ _ ha)) (fun i x Hx hx hI => ?_) (fun Hx hI => ?_)
    · obtain ⟨sm, eD⟩ := hI
      refine ⟨rfl, ?_⟩
      have iv : Vl J Hx x := (hi x (List.mem_of_getElem? hx)).vl.mono (.same sm)
      refine ⟨x, rfl, x, J, rfl, iv, fun H2 sm2 => ⟨_, sm2 _ _ eD, ?_, fun b o e => ?_, ?_⟩⟩
      · rw [List.length_map, List.length_map]
        exact small60 (Nat.le_trans (List.length_take_le _ _) (by have hi2 := (List.getElem?_eq_some_iff.mp hx).1; omega))
      · rw [upd_ne (ne_of_none e nD)]
        exact sm2 _ _ (sm _ _ e)
      · rw [upd_same, List.take_add_one, hx, List.map_append, List.map_append]
        rfl
    · obtain ⟨sm, eD⟩ := hI
      rw [List.take_of_length_le (Nat.le_refl _)] at eD
      refine ⟨D, _, rfl, .of eD, fin _ _ sm ?_⟩
      unfold rowB
      simp only [ha]
      rw [List.all_map]
      rfl
  · exact isi_at "tuple" rfl ty (b := false) (by decide +kernel) ⟨false, rfl, iteF (fin _ _ (Same.refl H) (by unfold rowB; simp only [ha]))⟩
  · exact isi_at "tuple" rfl ty (b := false) (by decide +kernel) ⟨false, rfl, iteF (fin _ _ (Same.refl H) (by unfold rowB; simp only [ha]))⟩
end
end Ow

set_option Elab.async false
set_option linter.all false
set_option maxRecDepth 100000
set_option maxHeartbeats 4000000
set_option exponentiation.threshold 3000
namespace Ow
open PySem PySem.Spec PyProof.Rows L2
/-- a weaker reading of an expression -/
theorem PE.of {X : Cx} {e : Expr} {t t' : TE} (h : PE X e t) (k : ∀ σ H Q, t' σ H Q → t σ H Q) : PE X e t' :=
  ⟨fun pins s σ H Q I q => h.run pins s σ H Q I (k σ H Q q)⟩
/-- the jug: a list of three ints -/
def Jug (H : Hp) (J : Addr) : Prop := ∃ a b c : Int, H J = some (.lst [.int a, .int b, .int c])
theorem scJug : FnScope ["script", "at", "cell", "great", "mixed"] ["script", "at"] (defScope dJug) := ⟨rfl, rfl, rfl, by decide +kernel, rfl, by decide +kernel, by decide +kernel⟩
theorem scDip : FnScope ["jug", "total", "found", "one", "two"] ["jug", "total"] (defScope dDip) := ⟨rfl, rfl, rfl, by decide +kernel, rfl, by decide +kernel, by decide +kernel⟩
theorem scChoice : FnScope ["jug", "items"] ["jug", "items"] (defScope dChoice) := ⟨rfl, rfl, rfl, by decide +kernel, rfl, by decide +kernel, by decide +kernel⟩
theorem mulB {a m j : Int} (h0 : 0 < m) (h1 : m < 2 ^ 64) : CMul (a % m) j := by
  have l := Int.emod_nonneg a (show m ≠ 0 by omega)
  have u := Int.emod_lt_of_pos a h0
  exact .inl ⟨by omega, by omega⟩
section
variable {P : Program} {w : World} {K : PySem.W.Frag} {mg : Str → Option Value} {base : Heap}
def spDip : Sp := fun vs H Q _ => ∃ (J : Addr) (n : Int), vs = [.ref J, .int n] ∧ 0 < n ∧ n.natAbs < 2 ^ 200 ∧ Jug H J ∧
  ∀ H' k, Sb J H H' → Jug H' J → 0 ≤ k → k < n → Q (.int k) H'
theorem ok_dip {f : Addr} {fd : FuncData} (F : Fun K "_law_dip" "_law_dip" dDip f fd) (mi : mg "int" = none) : FnOk P w K mg base CX0 1 f fd ["jug", "total"] spDip := by
  refine F.ok scDip (fun vs H Q E h => ?_) (fun cdv A outer s H vs Q E hr h => ?_)
  · obtain ⟨J, n, rfl, _⟩ := h
    rfl
  obtain ⟨J, n, rfl, n0, nz, ⟨x, y, z, hJ⟩, q⟩ := h
  refine ⟨_, pss_cons (ps_if (pt_cmpR op_gt (pe_ix ix_list (pv 0) pe_int (fun _ _ => rfl)) pe_int (nomark _))
      (pss_cons (ps_set (i := 2) scDip.nd rfl (.inl rfl) (pe_op op_mod (pe_callTy call_int1 (by rfl) mi boot_int (pa_cons (pe_ix ix_list (pv 0) pe_int (fun _ _ => rfl)) pa_nil)) (pv 1)))
      (pss_cons (ps_asg (pe_op op_fdivW (pe_ix ix_list (pv 0) pe_int (fun _ _ => rfl)) (pv 1)) (pg_sub (pv 0) pe_int set_list))
      (pss_one (ps_ret (pv 2))))) pss_nil)
    (pss_cons (ps_asg (pe_op op_add (pe_ix ix_list (pv 0) pe_int (fun _ _ => rfl)) pe_int) (pg_sub (pv 0) pe_int set_list))
    (pss_cons (ps_set (i := 3) scDip.nd rfl (.inl rfl) (pe_op op_mod (pe_callTy call_int1 (by rfl) mi boot_int (pa_cons
        (pe_op op_add (pe_ix ix_list (pv 0) pe_int (fun _ _ => rfl)) (pe_op op_mul pe_int (pe_ix ix_list (pv 0) pe_int (fun _ _ => rfl)))) pa_nil)) pe_int))
    (pss_cons (ps_set (i := 4) scDip.nd rfl (.inl rfl) (pe_op op_add (pe_op op_mul (pe_op op_mod (pe_callTy call_int1 (by rfl) mi boot_int (pa_cons (pe_op op_mul (pv 3) (pv 3)) pa_nil)) pe_int) (pv 3))
        (pe_op op_mul pe_int (pe_ix ix_list (pv 0) pe_int (fun _ _ => rfl)))))
    (pss_one (ps_ret (pe_op op_mod (pe_callTy call_int1 (by rfl) mi boot_int (pa_cons (pe_op op_fdiv (pe_op op_mod (pe_callTy call_int1 (by rfl) mi boot_int (pa_cons (pv 4) pa_nil)) pe_int) pe_int) pa_nil)) (pv 1))))))), ?_⟩
  have hd : CDivW x n := wide_div (b := 200) n0 nz (by decide) (by decide)
  refine ⟨.ref J, rfl, J, _, 0, .int x, rfl, rfl, .of hJ, atI_nat (j := 0) rfl, x, 0, rfl, rfl, _, rfl, ite2 (fun _ => ?_) (fun _ => ?_)⟩
  · refine ⟨.ref J, rfl, J, _, 0, .int x, rfl, rfl, .of hJ, atI_nat (j := 0) rfl, .inl ⟨x, rfl, .int n, rfl, x, n, rfl, rfl, n0, ?_⟩⟩
    refine ⟨.ref J, rfl, J, _, 0, .int x, rfl, rfl, .of hJ, atI_nat (j := 0) rfl, .int n, rfl, x, n, rfl, rfl, hd, ?_⟩
    refine ⟨.ref J, rfl, J, _, 0, 0, rfl, rfl, hJ, rfl, ?_⟩
    exact ⟨_, rfl, q _ _ Sb.at ⟨_, _, _, upd_same⟩ (Int.emod_nonneg _ (by omega)) (Int.emod_lt_of_pos _ n0)⟩
  · refine ⟨.ref J, rfl, J, _, 2, .int z, rfl, rfl, .of hJ, atI_nat (j := 2) rfl, z, 1, rfl, rfl, ?_⟩
    refine ⟨.ref J, rfl, J, _, 2, 2, rfl, rfl, hJ, rfl, ?_⟩
    have h2 : upd H J (.lst ([V.int x, .int y, .int z].set 2 (.int (z + 1)))) J = some (.lst [.int x, .int y, .int (z + 1)]) := upd_same
    refine ⟨.ref J, rfl, J, _, 1, .int y, rfl, rfl, .of h2, atI_nat (j := 1) rfl, .ref J, rfl, J, _, 2, .int (z + 1), rfl, rfl, .of h2, atI_nat (j := 2) rfl, ?_⟩
    refine ⟨1000429, z + 1, rfl, rfl, .inl ⟨by decide, by decide⟩, y, _, rfl, rfl, .inl ⟨_, rfl, _, _, rfl, rfl, (by show (0 : Int) < _; decide), ?_⟩⟩
    refine ⟨_, rfl, _, rfl, _, _, rfl, rfl, mulB (by decide) (by decide), .inl ⟨_, rfl, _, _, rfl, rfl, (by show (0 : Int) < _; decide), ?_⟩⟩
    refine ⟨_, rfl, _, _, rfl, rfl, mulB (by decide) (by decide), .ref J, rfl, J, _, 2, .int (z + 1), rfl, rfl, .of h2, atI_nat (j := 2) rfl, ?_⟩
    refine ⟨9109, z + 1, rfl, rfl, .inl ⟨by decide, by decide⟩, _, _, rfl, rfl, ?_⟩
    refine ⟨_, rfl, .inl ⟨_, rfl, _, _, rfl, rfl, (by show (0 : Int) < _; decide), _, 16384, rfl, rfl, ⟨by decide, by decide⟩, .inl ⟨_, rfl, .int n, rfl, _, n, rfl, rfl, n0, ?_⟩⟩⟩
    exact q _ _ Sb.at ⟨_, _, _, h2⟩ (Int.emod_nonneg _ (by omega)) (Int.emod_lt_of_pos _ n0)
/-- a jug: three ints, new -/
def spJug (K : PySem.W.Frag) : Sp := fun vs H Q _ => ∃ (a : Addr) (ns : List Int) (i : Nat), vs = [.ref a, .int i] ∧ SqL K H a (ns.map V.int) ∧
  ∀ H' p, Same H H' → H p = none → Jug H' p → Q (.ref p) H'
def tCellAt (K : PySem.W.Frag) : TE := fun σ H Q => ∃ (a : Addr) (ns : List Int) (i : Nat), σ[0]? = some (some (.ref a)) ∧ σ[1]? = some (some (.int i)) ∧
  SqL K H a (ns.map V.int) ∧ ∀ c : Int, Q (.int c) H
def tSomeOf (j : Nat) : TE := fun σ H Q => ∃ c : Int, σ[j]? = some (some (.int c)) ∧ ∀ g : Int, Q (.int g) H
theorem ok_jug {f : Addr} {fd : FuncData} (F : Fun K "_law_jug" "_law_jug" dJug f fd) (mi : mg "int" = none) (ml : mg "len" = none) (ma : mg "abs" = none) (mm : mg "max" = none) :
    FnOk P w K mg base CX0 1 f fd ["script", "at"] (spJug K) := by
  refine F.ok scJug (fun vs H Q E h => ?_) (fun cdv A outer s H vs Q E hr h => ?_)
  · obtain ⟨a, ns, i, rfl, _⟩ := h
    rfl
  obtain ⟨a, ns, i, rfl, hS, q⟩ := h
  refine ⟨_, pss_cons (ps_set (i := 2) scJug.nd rfl (.inl rfl) (PE.of (t' := tCellAt K) (pe_ifExp (pt_cmpR op_lt (pv 1) (pe_callB call_len_seq (by rfl) ml PySem.boot_len (pa_cons (pv 0) pa_nil)) (nomark _))
        (pe_ix ix_list (pv 0) (pv 1) (fun _ _ => rfl)) (pe_op op_add (pe_op op_mul pe_int (pv 1)) pe_int)) ?c1))
    (pss_cons (ps_set (i := 3) scJug.nd rfl (.inl rfl) (PE.of (t' := tSomeOf 2) (pe_op op_mod (pe_callTy call_int1 (by rfl) mi boot_int (pa_cons (pe_callB call_abs (by rfl) ma boot_abs (pa_cons (pv 2) pa_nil)) pa_nil))
        (pe_op op_powB (pe_op op_powB pe_int pe_int) pe_int)) ?c2))
    (pss_cons (ps_set (i := 4) scJug.nd rfl (.inl rfl) (pe_op op_add (pe_op op_add (pe_op op_add (pe_op op_mul (pe_op op_mod (pe_callTy call_int1 (by rfl) mi boot_int (pa_cons (pv 3) pa_nil)) pe_int) pe_int)
        (pe_op op_mul pe_int (pv 1))) (pe_op op_mul pe_int (pe_callTy call_int1 (by rfl) mi boot_int (pa_cons (pe_cmpR op_lt (pv 2) pe_int (nomark _)) pa_nil)))) pe_int))
    (pss_one (ps_ret (pe_lst (pa_cons (pe_callB (call_max2 rfl) (by rfl) mm boot_max (pa_cons pe_int (pa_cons (pe_op op_sub (pv 3) (pe_op op_powB pe_int pe_int)) pa_nil)))
      (pa_cons (pe_op op_mod (pe_callTy call_int1 (by rfl) mi boot_int (pa_cons (pv 4) pa_nil)) pe_int) (pa_cons pe_int pa_nil)))))))), ?r⟩
  case c1 =>
    intro σ H Q h
    obtain ⟨a, ns, i, h0, h1, hS, q⟩ := h
    refine ⟨.int i, h1, .ref a, h0, a, _, rfl, .inl hS, _, _, rfl, rfl, _, rfl, ite2 (fun e => ?_) (fun _ => ?_)⟩
    · have e1 : (i : Int) < ((ns.map V.int).length : Nat) := of_decide_eq_true e
      rw [List.length_map] at e1
      have hi : i < ns.length := by omega
      refine ⟨.ref a, h0, .int i, h1, a, _, i, .int ns[i], rfl, rfl, hS, atI_nat (j := i) ?_, q _⟩
      rw [List.getElem?_map, List.getElem?_eq_getElem hi]
      rfl
    · exact ⟨.int i, h1, 71, i, rfl, rfl, .inl ⟨by decide, by decide⟩, _, 41, rfl, rfl, q _⟩
  case c2 =>
    intro σ H Q h
    obtain ⟨c, h2, q⟩ := h
    refine ⟨.int c, h2, c, rfl, .inl ⟨_, rfl, 10, 43, rfl, rfl, ⟨by decide, by decide +kernel⟩, _, 14, rfl, rfl, ⟨by decide, by decide +kernel⟩, _, _, rfl, rfl, (by show (0 : Int) < _; decide +kernel), q _⟩⟩
  refine ⟨a, ns, i, rfl, rfl, hS, fun c => ⟨c, rfl, fun g => ?_⟩⟩
  refine ⟨.int g, rfl, .inl ⟨_, rfl, g, 2147483179, rfl, rfl, (by show (0 : Int) < _; decide), _, 97303, rfl, rfl, .inr ⟨by decide, by decide⟩, .int i, rfl, 8147, i, rfl, rfl, .inl ⟨by decide, by decide⟩, _, _, rfl, rfl, ?_⟩⟩
  refine ⟨.int c, rfl, c, 0, rfl, rfl, .inr ⟨_, rfl, 53, _, rfl, rfl, .inl ⟨by decide, by decide⟩, _, _, rfl, rfl, _, 79, rfl, rfl, ?_⟩⟩
  refine ⟨.int g, rfl, 10, 18, rfl, rfl, ⟨by decide, by decide +kernel⟩, g, _, rfl, rfl, 0, _, rfl, ?_⟩
  refine ⟨_, rfl, .inl ⟨_, rfl, _, 2305843009213693907, rfl, rfl, (by show (0 : Int) < _; decide), (by show 3 ≤ sizeLine; decide), fun p np => ?_⟩⟩
  exact q _ p (same_new np) np ⟨_, _, _, upd_same⟩
/-- one of some items -/
def spChoice : Sp := fun vs H Q _ => ∃ (J L : Addr) (xs : List V), vs = [.ref J, .ref L] ∧ L ≠ J ∧ H L = some (.lst xs) ∧ xs ≠ [] ∧ xs.length ≤ 1000 ∧ Jug H J ∧
  ∀ H' x, Sb J H H' → Jug H' J → x ∈ xs → Q x H'
theorem ok_choice {f fD : Addr} {fd fdD : FuncData} (F : Fun K "_law_choice" "_law_choice" dChoice f fd) (FD : FnOk P w K mg base CX0 1 fD fdD ["jug", "total"] spDip)
    (kD : PySem.W.keepIn K (.ref fD) = true) (bD : Binds K fdD ["jug", "total"] []) (gD : mg "_law_dip" = some (.ref fD)) (ml : mg "len" = none) : FnOk P w K mg base CX0 2 f fd ["jug", "items"] spChoice := by
  refine F.ok scChoice (fun vs H Q E h => ?_) (fun cdv A outer s H vs Q E hr h => ?_)
  · obtain ⟨J, L, xs, rfl, _⟩ := h
    rfl
  obtain ⟨J, L, xs, rfl, nJ, hL, ne, le, hJ, q⟩ := h
  refine ⟨_, pss_one (ps_ret (pe_ix ix_list (pv 1) (pe_call FD hr (by rfl) gD kD bD .nil pass0 (pa_cons (pv 0) (pa_cons (pe_callB call_len_seq (by rfl) ml PySem.boot_len (pa_cons (pv 1) pa_nil)) pa_nil))) (fun _ _ => rfl))), ?_⟩
  have pos : 0 < xs.length := List.length_pos_iff.mpr ne
  refine ⟨.ref L, rfl, .ref J, rfl, .ref L, rfl, L, xs, rfl, .inl (.of hL), J, xs.length, rfl, by omega, by omega, hJ, fun H' k sb hJ' k0 kn => ?_⟩
  have hk : k.toNat < xs.length := by omega
  refine ⟨L, xs, k, xs[k.toNat], rfl, rfl, .of (sb _ _ nJ hL), ?_, q _ _ sb hJ' (List.getElem_mem hk)⟩
  exact at_of (show k = (k.toNat : Int) by omega) (List.getElem?_eq_getElem hk)
end
end Ow

set_option Elab.async false
set_option linter.all false
set_option maxRecDepth 100000
set_option maxHeartbeats 4000000
set_option exponentiation.threshold 3000
namespace Ow
open PySem PySem.Spec PyProof.Rows L2
/-! ### heaps that grow, but for the places M, where jugs stand -/
def Gw (M : Addr → Prop) (H H' : Hp) : Prop := ∀ b o, ¬ M b → H b = some o → H' b = some o
def Jg (M : Addr → Prop) (H : Hp) : Prop := ∀ b, M b → Jug H b
def No : Addr → Prop := fun _ => False
def At (J : Addr) : Addr → Prop := fun b => b = J
section
variable {M : Addr → Prop} {H H' H'' : Hp} {J p a : Addr} {o : HO} {xs : List V}
theorem Gw.refl (H : Hp) : Gw M H H := fun _ _ _ e => e
theorem Gw.trans (a : Gw M H H') (b : Gw M H' H'') : Gw M H H'' := fun c o n e => b c o n (a c o n e)
theorem Gw.same (s : Same H H') : Gw M H H' := fun c o _ e => s c o e
theorem Gw.toSame (s : Gw No H H') : Same H H' := fun c o e => s c o (fun z => z) e
theorem Gw.sb (s : Gw (At J) H H') : Sb J H H' := fun c o n e => s c o n e
theorem Sb.gw (s : Sb J H H') : Gw (At J) H H' := fun c o n e => s c o n e
theorem Gw.new (h : H p = none) : Gw M H (upd H p o) := .same (same_new h)
theorem Gw.newer (g : Gw M H H') (n : H p = none) : Gw M H (upd H' p o) := fun b x m e => by
  rw [upd_ne (ne_of_none e n)]
  exact g b x m e
theorem jug_same (s : Same H H') (j : Jug H J) : Jug H' J := by
  obtain ⟨a, b, c, e⟩ := j
  exact ⟨a, b, c, s _ _ e⟩
theorem jug_keep (j : Jug H J) (n : p ≠ J) : Jug (upd H p o) J := by
  obtain ⟨a, b, c, e⟩ := j
  exact ⟨a, b, c, by rw [upd_ne n.symm]; exact e⟩
theorem jug_none (j : Jug H J) (n : H p = none) : p ≠ J := fun z => by
  obtain ⟨a, b, c, e⟩ := j
  rw [z, e] at n
  cases n
theorem jug_tup (j : Jug H J) (n : H p = some (.tup xs)) : p ≠ J := fun z => by
  obtain ⟨a, b, c, e⟩ := j
  rw [z, e] at n
  cases n
theorem Jg.no : Jg No H := fun _ z => z.elim
theorem Jg.at_ (j : Jug H J) : Jg (At J) H := fun b z => by
  have z : b = J := z
  rw [z]
  exact j
theorem Jg.jug (j : Jg (At J) H) : Jug H J := j J rfl
theorem Jg.same (j : Jg M H) (s : Same H H') : Jg M H' := fun b m => jug_same s (j b m)
theorem Jg.keep (j : Jg M H) (n : ¬ M p) : Jg M (upd H p o) := fun b m => jug_keep (j b m) fun z => n (by rw [z]; exact m)
theorem Jg.free (j : Jg M H) (n : H p = none) : ¬ M p := fun m => jug_none (j p m) n rfl
theorem Jg.new (j : Jg M H) (n : H p = none) : Jg M (upd H p o) := j.keep (j.free n)
theorem Jg.tup (j : Jg M H) (n : H p = some (.tup xs)) : ¬ M p := fun m => jug_tup (j p m) n rfl
theorem Gw.tup (g : Gw M H H') (j : Jg M H) (h : H a = some (.tup xs)) : H' a = some (.tup xs) := g a _ (j.tup h) h
end
/-! all but lists stay -/
def Tk (H H' : Hp) : Prop := ∀ b o, (∀ xs, o ≠ .lst xs) → H b = some o → H' b = some o
theorem Tk.refl (H : Hp) : Tk H H := fun _ _ _ e => e
theorem Tk.trans {H H' H'' : Hp} (a : Tk H H') (b : Tk H' H'') : Tk H H'' := fun c o n e => b c o n (a c o n e)
theorem Gw.tk {M : Addr → Prop} {H H' : Hp} (g : Gw M H H') (j : Jg M H) : Tk H H' := fun b o n e => g b o (fun m => by
  obtain ⟨x, y, z, q⟩ := j b m
  rw [e] at q
  exact n _ (Option.some.inj q)) e
theorem Tk.same {H H' : Hp} (s : Same H H') : Tk H H' := fun b o _ e => s b o e
theorem Tk.lst {H : Hp} {a : Addr} {xs ys : List V} (h : H a = some (.lst xs)) : Tk H (upd H a (.lst ys)) := fun b o n e => by
  rw [upd_ne (fun z => by rw [z, h] at e; exact n _ (Option.some.inj e).symm)]
  exact e
theorem Tk.new {H : Hp} {p : Addr} {o : HO} (h : H p = none) : Tk H (upd H p o) := .same (same_new h)
theorem Tk.tup {H H' : Hp} {a : Addr} {xs : List V} (t : Tk H H') (h : H a = some (.tup xs)) : H' a = some (.tup xs) := t a _ (fun _ z => nomatch z) h
/-! ### two lists, item by item -/
inductive All2 {α β : Type} (R : α → β → Prop) : List α → List β → Prop
  | nil : All2 R [] []
  | cons {x : α} {y : β} {xs : List α} {ys : List β} : R x y → All2 R xs ys → All2 R (x :: xs) (y :: ys)
section
variable {α β : Type} {R S : α → β → Prop} {xs : List α} {ys : List β}
theorem All2.len (h : All2 R xs ys) : xs.length = ys.length := by
  induction h with
  | nil => rfl
  | cons _ _ ih => rw [List.length_cons, List.length_cons, ih]
theorem All2.imp (k : ∀ x y, R x y → S x y) (h : All2 R xs ys) : All2 S xs ys := by
  induction h with
  | nil => exact .nil
  | cons r _ ih => exact .cons (k _ _ r) ih
theorem All2.get (h : All2 R xs ys) : ∀ {i : Nat} {x : α}, xs[i]? = some x → ∃ y, ys[i]? = some y ∧ R x y := by
  induction h with
  | nil => intro i x e; simp at e
  | cons r _ ih =>
    intro i x e
    cases i with
    | zero => simp at e; subst e; exact ⟨_, rfl, r⟩
    | succ i => exact ih (by simpa using e)
theorem All2.get' (h : All2 R xs ys) : ∀ {i : Nat} {y : β}, ys[i]? = some y → ∃ x, xs[i]? = some x ∧ R x y := by
  induction h with
  | nil => intro i x e; simp at e
  | cons r _ ih =>
    intro i x e
    cases i with
    | zero => simp at e; subst e; exact ⟨_, rfl, r⟩
    | succ i => exact ih (by simpa using e)
theorem All2.app {xs' : List α} {ys' : List β} (h : All2 R xs ys) (g : All2 R xs' ys') : All2 R (xs ++ xs') (ys ++ ys') := by
  induction h with
  | nil => exact g
  | cons r _ ih => exact .cons r ih
theorem All2.mem (h : All2 R xs ys) {x : α} (m : x ∈ xs) : ∃ y, y ∈ ys ∧ R x y := by
  obtain ⟨i, hi⟩ := List.mem_iff_getElem?.mp m
  obtain ⟨y, hy, r⟩ := h.get hi
  exact ⟨y, List.mem_of_getElem? hy, r⟩
theorem All2.of_get : ∀ {xs : List α} {ys : List β}, xs.length = ys.length → (∀ (i : Nat) x y, xs[i]? = some x → ys[i]? = some y → R x y) → All2 R xs ys
  | [], [], _, _ => .nil
  | x :: xs, y :: ys, e, h => .cons (h 0 x y rfl rfl) (All2.of_get (by simpa using e) fun i x y hx hy => h (i + 1) x y (by simpa using hx) (by simpa using hy))
  | [], _ :: _, e, _ => nomatch e
  | _ :: _, [], e, _ => nomatch e
theorem All2.map {γ : Type} (f : γ → β) {zs : List γ} (h : ∀ (i : Nat) x z, xs[i]? = some x → zs[i]? = some z → R x (f z)) (e : xs.length = zs.length) : All2 R xs (zs.map f) := by
  refine .of_get (by rw [List.length_map]; exact e) fun i x y hx hy => ?_
  rw [List.getElem?_map] at hy
  cases hz : zs[i]? with
  | none => rw [hz] at hy; cases hy
  | some z =>
    rw [hz] at hy
    cases hy
    exact h i x z hx hz
end
/-! ### tuples of ints, and lists and tuples of them -/
def IsRow (H : Hp) (v : V) (ns : List Int) : Prop := ∃ a, v = .ref a ∧ H a = some (.tup (ns.map V.int))
def IsRows (H : Hp) (v : V) (rs : List (List Int)) : Prop := ∃ a xs, v = .ref a ∧ H a = some (.tup xs) ∧ All2 (IsRow H) xs rs
section
variable {H H' : Hp} {v : V} {ns : List Int} {rs : List (List Int)} {xs : List V}
theorem IsRow.tk (t : Tk H H') (h : IsRow H v ns) : IsRow H' v ns := by
  obtain ⟨a, e, q⟩ := h
  exact ⟨a, e, t.tup q⟩
theorem all_tk (t : Tk H H') (h : All2 (IsRow H) xs rs) : All2 (IsRow H') xs rs := h.imp fun _ _ q => q.tk t
theorem IsRows.tk (t : Tk H H') (h : IsRows H v rs) : IsRows H' v rs := by
  obtain ⟨a, xs, e, q, r⟩ := h
  exact ⟨a, xs, e, t.tup q, all_tk t r⟩
theorem IsRow.new {p : Addr} : IsRow (upd H p (.tup (ns.map V.int))) (.ref p) ns := ⟨p, rfl, upd_same⟩
end
/-! ### comprehensions -/
section
variable {J : It} {n : Nat} {G : Hp → Prop} {Y : Nat → Hp → V → Hp → Prop}
/-- every element by itself: what is known of it stays whatever lists do -/
theorem lc_map {M : Addr → Prop} (w : Walk J n G Y) (hn : n ≤ 5000) {g : TG} {te : TE} {vs : List Nat} {σ : L2.St} {H1 : Hp} {D : Addr} {Qd : Hp → Prop} (hJ : Jg M H1) (nD : H1 D = none) (P : Nat → Hp → V → Prop)
    (hP : ∀ i H H' v, Tk H H' → P i H v → P i H' v) (hG : ∀ H, Gw M H1 H → Jg M H → G H)
    (hs : ∀ i x H H' (K : VK), i < n → Gw M H1 H → Jg M H → Y i H x H' → (∀ y H4, Gw M H H4 → Jg M H4 → P i H4 y → K y H4) →
      g x (wipe σ vs) H' fun σ2 H2 => wipe σ2 vs = wipe σ vs ∧ te σ2 H2 K)
    (hd : ∀ H ys, Gw M H1 H → Jg M H → H D = some (.lst ys) → ys.length = n → (∀ i y, ys[i]? = some y → P i H y) → Qd H) :
    ∃ W : Nat → Nat → Hp → Prop, (∃ m, W 0 m (upd H1 D (.lst []))) ∧ ∀ i m H, W i m H →
      (J.stop i H ∧ Qd H) ∨ (J.go i H ∧ ∃ Nx : Hp → Prop, (∀ H', Nx H' → ∃ m', m' < m ∧ W (i + 1) m' H') ∧ ∀ x H', J.yld i H x H' → g x (wipe σ vs) H' fun σ2 H2 => wipe σ2 vs = wipe σ vs ∧ tYes σ2 H2 fun b H3 =>
        if b = true then te σ2 H3 fun y H4 => ∃ acc, H4 D = some (.lst acc) ∧ acc.length < sizeLine ∧ Nx (upd H4 D (.lst (acc ++ [y]))) else Nx H3) := by
  have nM : ¬ M D := hJ.free nD
  refine lc_it w (fun i H => Gw M H1 H ∧ Jg M H ∧ ∃ ys, H D = some (.lst ys) ∧ ys.length = i ∧ ∀ j y, ys[j]? = some y → P j H y)
    ⟨Gw.new nD, hJ.new nD, [], upd_same, rfl, fun j y e => by simp at e⟩ (fun i H _ h => hG H h.1 h.2.1) (fun i x H H' hi h y => ?_) (fun H h => ?_)
  · obtain ⟨g1, j1, ys, eD, hl, hp⟩ := h
    refine hs i x H H' (fun y H4 => ∃ acc, H4 D = some (.lst acc) ∧ acc.length < sizeLine ∧ (fun H => Gw M H1 H ∧ Jg M H ∧ ∃ ys, H D = some (.lst ys) ∧ ys.length = i + 1 ∧ ∀ j y, ys[j]? = some y → P j H y) (upd H4 D (.lst (acc ++ [y])))) hi g1 j1 y fun y2 H4 g4 j4 p4 => ?_
    have e4 : H4 D = some (.lst ys) := g4 D _ nM eD
    have t4 : Tk H H4 := g4.tk j1
    refine ⟨ys, e4, small60 (by omega), ?_, ?_, ys ++ [y2], upd_same, by rw [List.length_append, hl]; rfl, fun k z hz => ?_⟩
    · exact (g1.trans g4).newer nD
    · exact j4.keep nM
    · by_cases hk : k < ys.length
      · rw [List.getElem?_append_left hk] at hz
        exact hP _ _ _ _ (t4.trans (Tk.lst e4)) (hp k z hz)
      · rw [List.getElem?_append_right (by omega)] at hz
        have e0 : k - ys.length = 0 := by
          cases hq : k - ys.length with
          | zero => rfl
          | succ m => rw [hq] at hz; simp at hz
        rw [e0] at hz
        have ek : k = i := by omega
        have ez : z = y2 := by simpa using hz.symm
        rw [ek, ez]
        exact hP _ _ _ _ (Tk.lst e4) p4
  · obtain ⟨g1, j1, ys, eD, hl, hp⟩ := h
    exact hd H ys g1 j1 eD hl hp
end
end Ow

set_option Elab.async false
set_option linter.all false
set_option maxRecDepth 100000
set_option maxHeartbeats 4000000
namespace PySem
open Sem (wp)
open AutoSeq1 (wpAny_loadPart')
/-! enumerate of a tuple, made -/
theorem ow_enum_newT (l : Addr) (items : Array Value) (n : Nat) (dct : Option Addr) (sl : Array (Option Value)) :
    Meets (Builtin.«enumerate.__new__» ⟨[.type "enumerate", .ref l], []⟩) (fun _ R s => s.heap.get? l = some { cls := .type "tuple", dict := dct, data := .seq items n, slots := sl } ∧
      R (.ok (.ret (.ref (s.heap.push { cls := .type "tuple_iterator", data := .fields #[.ref l, .int 0 0] }).objs.size)))
        { s with heap := (s.heap.push { cls := .type "tuple_iterator", data := .fields #[.ref l, .int 0 0] }).push { cls := .type "enumerate", data := .fields #[.none, .bool false, .ref s.heap.objs.size, rawInt 0, .none, .none] } }) :=
  .of_wp fun prog w A R s h => by
    obtain ⟨hp, g, d, tk, os⟩ := s
    obtain ⟨hl, h⟩ := h
    have hsub := sub_enumerate
    have hT : Heap.IsTuple (Shared.heap ⟨hp, g, d, tk, os⟩) l items := ⟨_, hl, rfl, n, rfl⟩
    wp_walk using wpAny_loadPart' hl
    refine wpAny_stack_any fun st => wpAny_pure ?_
    split
    · rename_i c _ _ _ _ _
      cases (c == Value.type "enumerate")
      · wp_walk using wpAny_loadPart' hl, wpAny_pyIter_tuple hT
        exact ⟨_, rfl, h⟩
      · wp_walk using wpAny_loadPart' hl, wpAny_pyIter_tuple hT
        exact ⟨_, rfl, h⟩
    · wp_walk using wpAny_loadPart' hl, wpAny_pyIter_tuple hT
      exact ⟨_, rfl, h⟩
section
variable {prog : Program} {w : World} {A : Around} {E : Value → Shared → Prop} {s : Shared}
theorem ow_call_enumT {l : Addr} {items : Array Value} {Q : Value → Shared → Prop} (hL : s.heap.IsTuple l items)
    (h : ∀ h', IsEnum h' (s.heap.objs.size + 1) s.heap.objs.size 0 .none → h'.IsTupleIter s.heap.objs.size l 0 → (∀ b o, s.heap.get? b = some o → h'.get? b = some o) → Q (.ref (s.heap.objs.size + 1)) { s with heap := h' }) :
    wpAny (model prog w) A (call (.type "enumerate") [.ref l]) Q E s := by
  obtain ⟨⟨c, dct, dt, sl⟩, hl, hc, n, hd⟩ := hL
  have hc1 : c = .type "tuple" := hc
  have hd1 : dt = .seq items n := hd
  subst hc1 hd1
  refine callType_new F.called_enumerate (by decide) (F.typeCall_enumerate_1 _) (F.newCall_enumerate_1 _) (fun obj => F.args_object_init_2 obj _) F.entry_enumerate_new (ow_enum_newT l items n dct sl) ⟨hl, ?_⟩
  have hz : (s.heap.push { cls := .type "tuple_iterator", data := .fields #[.ref l, .int 0 0] }).objs.size = s.heap.objs.size + 1 := Heap.size_push ..
  show _ ∧ _
  rw [hz]
  have he : IsEnum ((s.heap.push { cls := .type "tuple_iterator", data := .fields #[.ref l, .int 0 0] }).push { cls := .type "enumerate", data := .fields #[.none, .bool false, .ref s.heap.objs.size, rawInt 0, .none, .none] }) (s.heap.objs.size + 1) s.heap.objs.size 0 .none := by
    have e := Heap.get?_push_size (s.heap.push { cls := .type "tuple_iterator", data := .fields #[.ref l, .int 0 0] }) (o := { cls := .type "enumerate", data := .fields #[.none, .bool false, .ref s.heap.objs.size, rawInt 0, .none, .none] }) rfl
    rw [hz] at e
    exact e
  exact ⟨⟨_, he, rfl⟩, h _ he ⟨_, Heap.get?_push_of_some _ (Heap.get?_push_size _ rfl), rfl, rfl⟩ fun b o x => Heap.get?_push_of_some _ (Heap.get?_push_of_some _ x)⟩
end
end PySem
namespace Ow
open PySem PySem.Spec PyProof.Rows L2
/-! a walk over enumerate(tuple) -/
def IteT (K : PySem.W.Frag) (a : Addr) : It :=
  ⟨fun i H => ∃ (xs : List V) (x : V), SqT K H a xs ∧ xs[i]? = some x, fun i H v H' => ∃ T x, v = .ref T ∧ H T = none ∧ H' = upd H T (.tup [.int (i : Nat), x]) ∧ ∀ xs, SqT K H a xs → xs[i]? = some x, fun i H => ∃ xs : List V, SqT K H a xs ∧ xs.length ≤ i⟩
theorem isTuple_of {h : Heap} {a : Addr} {its : Array Value} (t : IsTup h a its) : h.IsTuple a its := t
theorem turn_enumT {P : Program} {w : World} {K : PySem.W.Frag} {elts : List Expr} {kk : Nat} {tpos : Pos} (a e it : Addr) :
    Turn P w K (.Tuple elts kk tpos) (IteT K a) [e, it] e (fun i h => (∃ old, IsEnum h e it ((i : Nat) : Int) old) ∧ h.IsTupleIter it a i ∧ e ≠ it) where
  mem := by simp
  obj := fun i h st b hb => by
    obtain ⟨⟨old, he⟩, ⟨o, ho, hc, hd⟩, _⟩ := st
    rcases (show b = e ∨ b = it by simpa using hb) with z | z
    · rw [z]
      exact ⟨_, he, fun v q => (nomatch q)⟩
    · rw [z]
      exact ⟨o, ho, fun v q => by rw [hd] at q; cases q⟩
  keep := fun i h h' st k => let ⟨⟨old, he⟩, hi, hne⟩ := st; ⟨⟨old, k e (by simp) _ he⟩, hi.at fun o q => k it (by simp) o q, hne⟩
  item := by
    intro X hP hw hK hc i pins s σ H E I hf st hg
    subst hP hw hK
    obtain ⟨⟨old, he⟩, hit, hne⟩ := st
    obtain ⟨xs, x, hq, hx⟩ := hg
    obtain ⟨its, rv, p, hz⟩ := I.tuple hq
    obtain ⟨u, hu, ru⟩ := rv.get hx
    have hel : e < s.heap.objs.size := Heap.lt_size he
    have hil : it < s.heap.objs.size := by obtain ⟨_, q, _⟩ := hit; exact Heap.lt_size q
    have hai : a ≠ it := fun z => by
      obtain ⟨o1, h1, c1, _⟩ := p
      obtain ⟨o2, h2, c2, _⟩ := hit
      rw [z, h2] at h1
      cases h1
      rw [c1] at c2
      exact absurd c2 (by decide)
    have hae : e ≠ a := fun z => by
      obtain ⟨o1, h1, c1, _⟩ := p
      rw [← z, he] at h1
      cases h1
      have c3 : Value.type "enumerate" = Value.type "tuple" := c1
      exact absurd c3 (by decide)
    have hif : i < its.toArray.size := by
      have h1 := (List.getElem?_eq_some_iff.mp hu).1
      rw [List.size_toArray]
      exact h1
    refine wpAny_pyNext_enum_itemD (Draws.tuple (A := X.A.in1) (show X.A.in1.handled = none from I.ok.hd hc) it a hai its.toArray) he ⟨hit, p⟩ hif hne (by simp [hne, hae]) fun y h' tk hy ho hst hT hsz hk => ?_
    have ey : y = u := by
      have : its.toArray[i]? = some u := by simpa using hu
      rw [this] at hy
      exact (Option.some.inj hy).symm
    subst ey
    refine ⟨_, rfl, wpAny_letOwnedTupleGo_enum (s := { s with heap := h', toks := tk + 1 }) ho fun h'' he' sb => ?_⟩
    have hT2 : h''.get? s.heap.objs.size = some { cls := .type "tuple", data := .seq #[.int i tk, y] } := (sb.2 _ (Nat.ne_of_gt hel)).trans hT
    have new : ObjOk X.prog X.w (upd H s.heap.objs.size (.tup [.int (i : Nat), x])) h'' s.heap.objs.size (.tup [.int (i : Nat), x]) :=
      ⟨by show 2 ≤ sizeLine; decide, [.int i tk, y], .cons ⟨_, rfl⟩ (.cons ru .nil), ⟨_, hT2, rfl, _, rfl⟩⟩
    have I1 : Inv X pins σ (upd H s.heap.objs.size (.tup [.int (i : Nat), x])) { s with heap := h'', toks := tk + 1 } :=
      I.turnedNew (ch := [e, it]) (fun b ob hb q => (sb.2 b (fun z => hb (by simp [z]))).trans (hk b ob (fun z => hb (by simp [z])) (fun z => hb (by simp [z])) q)) hf (Nat.le_refl _) new
    refine ⟨.ref s.heap.objs.size, _, I1, rfl, ⟨_, x, rfl, I.hok.fresh (Nat.le_refl _), rfl, fun ys hy => by rw [I.tuple_inj hy hq]; exact hx⟩, ⟨⟨y, ?_⟩, hst.1.at fun o q => (sb.2 it (Ne.symm hne)).trans q, hne⟩, fun b hb => ?_⟩
    · rw [show ((i + 1 : Nat) : Int) = (i : Int) + 1 by omega]
      exact he'
    · have hb' : b < s.heap.objs.size := by
        rcases (show b = e ∨ b = it by simpa using hb) with z | z
        · rw [z]; exact hel
        · rw [z]; exact hil
      rw [upd_ne (Nat.ne_of_lt hb')]
      exact (hf b hb).1
  done := by
    intro X hP hw hK hc i pins s σ H E I hf st hg
    subst hP hw hK
    obtain ⟨⟨old, he⟩, hit, hne⟩ := st
    obtain ⟨xs, hq, hx⟩ := hg
    obtain ⟨its, rv, p, hz⟩ := I.tuple hq
    have hai : a ≠ it := fun z => by
      obtain ⟨o1, h1, c1, _⟩ := p
      obtain ⟨o2, h2, c2, _⟩ := hit
      rw [z, h2] at h1
      cases h1
      rw [c1] at c2
      exact absurd c2 (by decide)
    obtain ⟨f0, f1, f2, f3, f4, f5⟩ := hf it (by simp)
    have hl := rv.length
    have D2 : Draws X.prog X.w X.A.in1 it [it, a] i (fun j v => its.toArray[j]? = some v) (fun j h => j = i ∧ h.IsTupleIter it a i ∧ h.IsTuple a its.toArray) :=
      ⟨fun _ _ st => let ⟨o, ho, _⟩ := st.2.1; ⟨o, ho⟩, fun _ _ _ st hk => ⟨st.1, st.2.1.at fun o e => hk it (by simp) o e, st.2.2.at fun o e => hk a (by simp) o e⟩,
        fun j s Q E hj st hQ => absurd st.1 (by omega), fun s Q E st hE => by
        refine wpAny_nextOf_tuple_end (A := X.A.in1) (show X.A.in1.handled = none from I.ok.hd hc) st.2.1 st.2.2 ?_ hE
        rw [List.getElem?_toArray]
        exact List.getElem?_eq_none (by omega)⟩
    exact wpAny_pyNext_enum_endD D2 he ⟨rfl, hit, p⟩ fun h' eb => ⟨rfl, I.turned (t' := s.toks) (fun b o hb q => eb b o hb q) f0 f1 f3 f4 f5⟩
  self := fun A i s Q E st h => let ⟨⟨_, he⟩, _⟩ := st; wpAny_pyIter_enum he h
def iEnumT (K : PySem.W.Frag) (ta : TA) : TI := fun σ H R => ta σ H fun vs H1 => ∃ a xs, vs = [.ref a] ∧ SqT K H1 a xs ∧ R (IteT K a) H1
/-- for i, x in enumerate(t), t a tuple -/
theorem pi_enumT {X : Cx} {e : Expr} {ta : TA} {p pos tpos : Pos} {elts : List Expr} {kk : Nat} (hg : Gl X "enumerate") (hm : X.mg "enumerate" = none) (ha : PA X [e] ta) (hs : starEach [e] X.env = [(false, eval e X.env)] := by rfl) :
    PI X (.Tuple elts kk tpos) (.Call (.Name "enumerate" p) [e] [] pos) (iEnumT X.K ta) := by
  refine ⟨fun pins s σ H R I h => ?_⟩
  refine Call_ (ld_blt I hg hm boot_enumerate (PyProof.Rows.callWith_type1 (thn (ha.run pos pins s σ H _ I h) fun us s1 ⟨vs, H1, I1, r1, q1⟩ => ?_) hs rfl))
  obtain ⟨a, xs, ex, hq, q⟩ := q1
  subst ex
  cases r1 with
  | cons r rr =>
    cases rr
    cases r
    obtain ⟨its, rv, p', hz⟩ := I1.tuple hq
    refine ow_call_enumT (isTuple_of p') fun h' he hit hk => wpAny_pyIter_enum he ?_
    have I2 : Inv X pins σ H1 { s1 with heap := h' } := I1.kept (t' := s1.toks) hk
    refine ⟨s1.heap.objs.size + 1, [s1.heap.objs.size + 1, s1.heap.objs.size], _, _, H1, rfl, I2, turn_enumT a (s1.heap.objs.size + 1) s1.heap.objs.size, ⟨⟨.none, he⟩, hit, Nat.succ_ne_self _⟩, fun b hb => ?_, q⟩
    have hle : s1.heap.objs.size ≤ b := by
      rcases (show b = s1.heap.objs.size + 1 ∨ b = s1.heap.objs.size by simpa using hb) with z | z
      · rw [z]
        exact Nat.le_add_right _ _
      · rw [z]
        exact Nat.le_refl _
    exact I1.fpOk hle (I1.hok.fresh hle)
theorem walk_enumT {K : PySem.W.Frag} {a : Addr} {xs : List V} : Walk (IteT K a) xs.length (fun H => SqT K H a xs) (YPair (fun i => some (.int (i : Nat))) (fun i => xs[i]?)) where
  goes := fun i H hi h => ⟨xs, xs[i], h, List.getElem?_eq_getElem hi⟩
  stops := fun H h => ⟨xs, h, Nat.le_refl _⟩
  yields := fun i H x H' hi h y => by
    obtain ⟨T, z, rfl, n, rfl, q⟩ := y
    exact ⟨T, _, z, rfl, n, rfl, rfl, q xs h⟩
end Ow

set_option Elab.async false
set_option linter.all false
set_option maxRecDepth 100000
set_option maxHeartbeats 4000000
namespace Ow
open PySem PySem.Spec PyProof.Rows L2
section
variable {X : Cx} {CX : CXT} {k : Nat} {f C : Addr} {fd : FuncData} {ps : List Str} {sp : Sp} {E : XK}
/-- a def called from around A, whose frames are those of the body -/
theorem run_at {A : Around} (hfr : A.frames = X.A.frames) {pins : List (Addr × Obj)} {σ : L2.St} {H : Hp} {s : Shared} {Q : VK} {us : List Value} {vs : List V} (F : FnOk X.prog X.w X.K X.mg X.base CX k f fd ps sp) (hr : Room k A) (hb : Binds X.K fd ps []) (hx : Passes CX X E)
    (I : Inv X pins σ H s) (r : Vals vs us) (h : sp vs H Q E) : wpAny (model X.prog X.w) A (call (.ref f) us) (EP X pins σ Q) X.xe s := by
  have hl : us.length = ps.length := by rw [← r.length]; exact F.len _ _ _ _ h
  have b := hb s us I.kIn (by rw [List.append_nil]; exact hl)
  rw [List.append_nil] at b
  have e0 : Env0 X.prog X.w X.K X.mg X.base A X.stack s H := by
    have e := I.env0
    exact ⟨hfr.trans e.frames, e.mod, e.bs, e.bsz, e.funs, e.frf, e.hok, e.bare⟩
  refine wpAny_call (codeAny_mono (F.run A X.stack s H ⟨us, []⟩ us vs Q E hr e0 b r h) fun o s' hq => ?_)
  cases o with
  | error e => exact hx pins σ H s e s' I hq
  | ok fl =>
    cases fl with
    | ret u => exact I.after hq
    | next => exact False.elim hq
    | brk => exact False.elim hq
    | cont => exact False.elim hq
/-- o[i], o of an own class with its own [] -/
def tIxO (C : Addr) (sp : Sp) (E : XK) (to ti : TE) : TE := fun σ H Q => to σ H fun x H1 => ti σ H1 fun y H2 => ∃ a dx fs, x = .ref a ∧ H2 a = some (.ins C dx fs) ∧ sp [.ref a, y] H2 Q E
theorem pe_ixO {o i : Expr} {pos : Pos} {to ti : TE} (ho : PE X o to) (hi : PE X i ti) (hn : PySem.W.noSeq X.K C = true) (hm : Meth X.K C "__getitem__" f) (hfn : PySem.W.fnIn X.K f = true) (F : FnOk X.prog X.w X.K X.mg X.base CX k f fd ps sp)
    (hr : Room (k + 1) X.A) (hb : Binds X.K fd ps []) (hx : Passes CX X E) (hs : ∀ a v, subscripted i true (.ref a) v = runValue (.builtin "lifetime.subscript" ⟨[.ref a, v], []⟩) := by intro _ _; with_unfolding_all rfl) :
    PE X (.Subscript o i pos) (tIxO C sp E to ti) := by
  refine ⟨fun pins s σ H Q I h => ?_⟩
  refine Subscript_ (binT ho hi I h fun v u s2 x y H2 I2 rx ry q => ?_)
  obtain ⟨a, dx, fs, rfl, ha, q⟩ := q
  cases rx
  obtain ⟨mA, J, _⟩ := ins_get I2.hok ha
  obtain ⟨od, J, _⟩ := J.look
  obtain ⟨m, hF⟩ := I2.fr
  refine PySem.W.sub_K hF I2.ok.mod.kin J hm.at_ hfn hm.fn ?_ (hs a u)
  have rr : Vals [V.ref a, y] [Value.ref a, u] := .cons rfl (.cons ry .nil)
  exact run_at (A := X.A.in1) rfl F hr.in1 hb hx I2 rr q
end
/-! ### a tuple times one is itself -/
theorem tuple_mulO (l : Addr) (items : Array Value) (n : Nat) (dd : Option Addr) (sl : Array (Option Value)) (u : Tok) :
    Meets (Builtin.«tuple.__mul__» ⟨[.ref l, .int 1 u], []⟩) (fun _ R s => s.heap.get? l = some { cls := .type "tuple", dict := dd, data := .seq items n, slots := sl } ∧ R (.ok (.ret (Value.ref l))) s) :=
  .of_wp fun prog w A R s h => by
    obtain ⟨hp, g, d, tk, os⟩ := s
    obtain ⟨hl, h⟩ := h
    have f1 := AutoSeq1.idx_int
    wp_walk using wpAny_loadPart' hl
    repeat (first
      | (refine wpAny_ite_true (decide_eq_true (by simp)) ?_; wp_walk using wpAny_loadPart' hl)
      | (refine wpAny_ite_false (decide_eq_false (by simp)) ?_; wp_walk using wpAny_loadPart' hl))
    all_goals exact ⟨_, rfl, h⟩

def rRepA (K : PySem.W.Frag) : R2 := fun x y H Q => ∃ l k xs, x = .ref l ∧ y = .int k ∧ SqT K H l xs ∧ xs ≠ [] ∧ 1 ≤ k ∧ k ≤ 1000 ∧ xs.length ≤ 1000 ∧ (k = 1 → Q (.ref l) H) ∧
  (2 ≤ k → ∀ p, H p = none → Q (.ref p) (upd H p (.tup (List.replicate k.toNat xs).flatten)))
section
variable {X : Cx}
theorem op_repA : OpR X (binaryOp .Mult) (rRepA X.K) := by
  intro pins s σ H x y v u Q I rx ry h
  obtain ⟨l, k, xs, rfl, rfl, hT, hne, h1, h2, hz, q1, q2⟩ := h
  by_cases hk : 2 ≤ k
  · exact op_repT pins s σ H _ _ v u Q I rx ry ⟨l, k, xs, rfl, rfl, hT, hne, hk, h2, hz, q2 hk⟩
  have ek : k = 1 := by omega
  subst ek
  cases rx
  obtain ⟨t, rfl⟩ := ry
  obtain ⟨its, r, ⟨⟨cls, dd, data, sl⟩, ho, hc, n, hd⟩, hs⟩ := I.tuple hT
  have hc1 : cls = .type "tuple" := hc
  have hd1 : data = .seq its.toArray n := hd
  subst hc1 hd1
  refine wpAny_binaryOp_repeat_ref (T := "tuple") (U := "int") (by decide) ⟨_, ho, rfl⟩ (fun s' => typeIs_int s' 1 t) noFill_tuple_mul F.fills_int_mul F.slot_int_rmul repeat_tuple F.slot_int_index.lookup
    (call_meets F.slot_int_rmul (typeIs_int s 1 t) F.entry_int_rmul (F.args_int_rmul_2 _ _) (int_rmul_tuple 1 t l its.toArray n dd sl)
      ⟨ho, rfl, ⟨_, ho, rfl⟩, call_meets F.slot_tuple_mul ⟨_, ho, rfl⟩ F.entry_tuple_mul (F.args_tuple_mul_2 _ _) (tuple_mulO l its.toArray n dd sl t) ⟨ho, ?_⟩⟩)
  exact ⟨.ref l, H, I, rfl, q1 rfl⟩
end
/-! ### every second item of a tuple -/
theorem step_adjust (n : Nat) : Builtin.Slice.sliceAdjust none none 2 (n : Int) = (0, (n : Int)) := by
  unfold Builtin.Slice.sliceAdjust
  simp
theorem step_places (n : Nat) : Builtin.Slice.slicePlaces 0 (n : Int) 2 = (n + 1) / 2 := by
  unfold Builtin.Slice.slicePlaces
  rw [if_pos (by decide)]
  by_cases h : (0 : Int) < (n : Int)
  · first | rw [if_pos h] | rw [if_pos (show (n : Int) > 0 from h)] | skip
    omega
  · first | rw [if_neg h] | skip
    omega
section
variable {prog : Program} {w : World} {A : Around} {E : Value → Shared → Prop} {s : Shared}
theorem step_applied {sl : Addr} {vs : Value} {n : Nat} {Q : Int × Int × Nat → Shared → Prop} (hs : s.heap.IsSliceOf sl .none .none vs) (p : IsPart vs (some 2)) (h : Q (0, 2, (n + 1) / 2) s) :
    wpAny (model prog w) A (Builtin.Slice.sliceApplied (.ref sl) (pure (n : Int))) Q E s := by
  obtain ⟨os, hos, hcs, hds⟩ := id hs
  unfold Builtin.Slice.sliceApplied Builtin.Slice.sliceFields
  refine wpAny_bind (wpAny_bind (wpAny_field hos hds (x := .none) rfl ?_))
  refine wpAny_bind (wpAny_field hos hds (x := .none) rfl ?_)
  refine wpAny_bind (wpAny_field hos hds (x := vs) rfl (wpAny_pure ?_))
  refine wpAny_bind (HT.slicePart_ p ?_)
  show wpAny _ _ (if ((2 : Int) == 0) = true then _ else _) _ _ s
  rw [if_neg (by decide)]
  refine wpAny_bind (slicePart_none (wpAny_bind (slicePart_none (wpAny_bind (wpAny_pure ?_)))))
  show wpAny _ _ (match Builtin.Slice.sliceAdjust none none 2 (n : Int) with
    | (lo, hi) => pure (lo, (2 : Int), Builtin.Slice.slicePlaces lo hi 2)) _ _ s
  rw [step_adjust]
  show wpAny _ _ (pure ((0 : Int), (2 : Int), Builtin.Slice.slicePlaces 0 (n : Int) 2)) _ _ s
  rw [step_places]
  exact wpAny_pure h
theorem step_item {t sl : Addr} {items : Array Value} {vs : Value} {Q : Value → Shared → Prop} (ht : IsTup s.heap t items) (hs : s.heap.IsSliceOf sl .none .none vs) (p : IsPart vs (some 2)) (hsz : items.size ≤ sizeLine)
    (h : Q (.ref s.heap.objs.size) { s with heap := s.heap.push { cls := .type "tuple", data := .seq ((List.range ((items.size + 1) / 2)).filterMap fun (k : Nat) => items[((0 : Int) + (k : Int) * 2).toNat]?).toArray } }) :
    wpAny (model prog w) A (getItem (.ref t) (.ref sl)) Q E s := by
  have hz : sizeOk (.seq ((List.range ((items.size + 1) / 2)).filterMap fun (k : Nat) => items[((0 : Int) + (k : Int) * 2).toNat]?).toArray) := by
    show Array.size _ ≤ sizeLine
    rw [List.size_toArray]
    refine Nat.le_trans (List.length_filterMap_le _ _) ?_
    rw [List.length_range]
    have : (items.size + 1) / 2 ≤ items.size := by omega
    omega
  obtain ⟨os, hos, hcs, hds⟩ := id hs
  have isS : s.TypeIs (.ref sl) "slice" := ⟨os, hos, hcs⟩
  unfold getItem
  try with_reducible refine wpAny_holding ?_
  first | refine wpAny_bind (wpAny_pure ?_) | skip
  refine wpAny_bind (wpAny_sequenceKey ht.typeIs (by decide) ?_)
  refine wpAny_bind (wpAny_callSpecial?_slot (name := Str.ofString "__getitem__") ht.typeIs PyProof.Rows.slot_tuple_getitem (wpAny_call_entry PyProof.Rows.slot_tuple_getitem ht.typeIs entry_tuple_getitem ?_ (args_tuple_getitem _ _)))
  show wpAny _ _ (Builtin.Tuple.tupleItemsOf (.ref t) >>= _) _ _ s
  refine wpAny_bind (tupleItemsOf_ ht ?_)
  refine wpAny_bind (wpAny_typeOf isS ?_)
  rw [if_pos (by decide)]
  refine wpAny_bind (step_applied hs p ?_)
  have no : ¬ (((0 : Int) == 0 && (2 : Int) == 1 && (items.size + 1) / 2 == items.size) = true) := by
    intro q
    rw [Bool.and_eq_true, Bool.and_eq_true] at q
    exact absurd q.1.2 (by decide)
  show wpAny _ _ (if ((0 : Int) == 0 && (2 : Int) == 1 && (items.size + 1) / 2 == items.size) = true then _ else _) _ _ s
  rw [if_neg no]
  first
    | exact wpAny_bind (m := Builtin.Tuple.tupleExact _) (wpAny_newObj_type (wpAny_pure ⟨_, rfl, wpAny_pure h⟩) hz)
    | exact wpAny_bind (m := Builtin.Tuple.tupleExact _) (wpAny_newObj_type (wpAny_bind (wpAny_pure (wpAny_pure ⟨_, rfl, wpAny_pure h⟩))) hz)
    | exact wpAny_bind (wpAny_bind (m := Builtin.Tuple.tupleExact _) (wpAny_newObj_type (wpAny_pure (wpAny_pure ⟨_, rfl, wpAny_pure h⟩)) hz))
    | exact wpAny_bind (wpAny_bind (m := Builtin.Tuple.tupleExact _) (wpAny_newObj_type (wpAny_pure ⟨_, rfl, wpAny_pure h⟩) hz))
end
def tStep2 (K : PySem.W.Frag) (te : TE) : TE := fun σ H Q => te σ H fun x H1 => ∃ a xs, x = .ref a ∧ SqT K H1 a xs ∧
  ∀ p zs, H1 p = none → (∀ z ∈ zs, z ∈ xs) → zs.length = (xs.length + 1) / 2 → Q (.ref p) (upd H1 p (.tup zs))
section
variable {X : Cx}
theorem pick_len {α : Type} (xs : List α) : ∀ l : List Nat, (∀ m ∈ l, m < xs.length) → (l.filterMap fun m => xs[m]?).length = l.length
  | [], _ => rfl
  | m :: l, h => by
    have hm := h m List.mem_cons_self
    rw [List.filterMap_cons, List.getElem?_eq_getElem hm]
    simp only [List.length_cons]
    rw [pick_len xs l fun k hk => h k (List.mem_cons_of_mem _ hk)]
theorem pe_step2 {e : Expr} {te : TE} {k : Nat} {p1 p3 pos : Pos} (he : PE X e te) : PE X (.Subscript e (.Slice none none (some (.Constant (.int 2) k p1)) p3) pos) (tStep2 X.K te) := by
  refine ⟨fun pins s σ H Q I h => ?_⟩
  refine Subscript_ (thn (he.run pins s σ H _ I h) fun v s1 hv => ?_)
  obtain ⟨x, H1, I1, r1, a, xs, ex, hx, q⟩ := hv
  subst ex
  cases r1
  have hst : PO X (some (.Constant (.int 2) k p1)) (tPart (tC (.int 2))) := po_some pe_int
  refine wpAny_Slice (thn (po_none.run pins s1 σ H1 (fun o H2 => o = none ∧ H2 = H1) I1 ⟨rfl, rfl⟩) fun vl s2 hl => ?_)
  obtain ⟨l, H2, I2, pl, el, e2⟩ := hl
  subst el e2
  refine thn (po_none.run pins s2 σ H2 (fun o H3 => o = none ∧ H3 = H2) I2 ⟨rfl, rfl⟩) fun vu s3 hl => ?_
  obtain ⟨u, H3, I3, pu, eu, e3⟩ := hl
  subst eu e3
  refine thn (hst.run pins s3 σ H3 (fun o H4 => o = some 2 ∧ H4 = H3) I3 ⟨2, rfl, rfl, rfl⟩) fun vs s4 hl => ?_
  obtain ⟨o, H4, I4, ps, eo, e4⟩ := hl
  subst eo e4
  cases pl
  cases pu
  have I5 : Inv X pins σ H4 { s4 with heap := s4.heap.push { cls := .type "slice", data := .fields #[.none, .none, vs] } } := I4.kept (t' := s4.toks) fun b ob q => Heap.get?_push_of_some _ q
  obtain ⟨its, r, ht, hz⟩ := I5.tuple hx
  have hlen := r.length
  refine tail_any (ops := [.ref a, .ref s4.heap.objs.size]) ht.typeIs (PyProof.Rows.slot_tuple_getitem.lookup) ?_ (by with_unfolding_all rfl)
  refine step_item ht (Heap.IsSliceOf.new _ .none .none vs) ps (by rw [List.size_toArray]; omega) ?_
  have hsz : its.toArray.size = xs.length := by rw [List.size_toArray]; exact hlen.symm
  rw [hsz]
  let f : Nat → Nat := fun k => ((0 : Int) + (k : Int) * 2).toNat
  have hv := vals_pick r f (List.range ((xs.length + 1) / 2))
  have le : ((List.range ((xs.length + 1) / 2)).filterMap fun m => xs[f m]?).length = (xs.length + 1) / 2 := by
    have e := pick_len xs ((List.range ((xs.length + 1) / 2)).map f) (fun m hm => by
      obtain ⟨j, hj, rfl⟩ := List.mem_map.mp hm
      have := List.mem_range.mp hj
      show ((0 : Int) + (j : Int) * 2).toNat < _
      omega)
    rw [List.filterMap_map, List.length_map, List.length_range] at e
    exact e
  refine ⟨.ref _, _, I5.laid (t' := s4.toks) (o := .tup ((List.range ((xs.length + 1) / 2)).filterMap fun m => xs[f m]?)) (fun b ob q => Heap.get?_push_of_some _ q) (Nat.le_refl _) ?_, rfl,
    q _ _ (I5.hok.fresh (Nat.le_refl _)) (fun z hz => ?_) le⟩
  · refine ⟨by rw [le]; omega, (List.range ((xs.length + 1) / 2)).filterMap fun m => its[f m]?, hv, ?_⟩
    have e : (List.filterMap (fun (k : Nat) => its.toArray[((0 : Int) + (k : Int) * 2).toNat]?) (List.range ((xs.length + 1) / 2))) = ((List.range ((xs.length + 1) / 2)).filterMap fun m => its[f m]?) := by
      congr 1
      funext m
      simp [f]
    rw [e]
    exact IsTup.new _ _
  · obtain ⟨m, _, hm⟩ := List.mem_filterMap.mp hz
    exact List.mem_of_getElem? hm
end
end Ow

set_option Elab.async false
set_option linter.all false
set_option maxRecDepth 100000
set_option maxHeartbeats 4000000
namespace Ow
open PySem PySem.Spec PyProof.Rows
open Sem (wp)
/-! ### a list or a tuple, walked -/
inductive SqK | lst | tup
def SqK.Is : SqK → Heap → Addr → Array Value → Prop
  | .lst, h, l, xs => h.IsList l xs
  | .tup, h, l, xs => h.IsTuple l xs
def SqK.It : SqK → Heap → Addr → Addr → Nat → Prop
  | .lst, h, it, l, i => h.IsListIter it l i
  | .tup, h, it, l, i => h.IsTupleIter it l i
def SqK.ob : SqK → Addr → Obj
  | .lst, l => { cls := .type "list_iterator", data := .fields #[.ref l, .int 0 0] }
  | .tup, l => { cls := .type "tuple_iterator", data := .fields #[.ref l, .int 0 0] }
section
variable {prog : Program} {w : World} {A : Around} {E : Value → Shared → Prop} {s : Shared} {k k1 k2 : SqK}
theorem SqK.Is.keep {h h' : Heap} {l : Addr} {xs : Array Value} (x : k.Is h l xs) (e : ∀ o, h.get? l = some o → h'.get? l = some o) : k.Is h' l xs := by
  cases k with
  | lst => exact Heap.IsList.at x e
  | tup => exact Heap.IsTuple.at x e
theorem SqK.It.keep {h h' : Heap} {it l : Addr} {i : Nat} (x : k.It h it l i) (e : ∀ o, h.get? it = some o → h'.get? it = some o) : k.It h' it l i := by
  cases k with
  | lst => exact Heap.IsListIter.at x e
  | tup => exact Heap.IsTupleIter.at x e
theorem SqK.Is.lt {h : Heap} {l : Addr} {xs : Array Value} (x : k.Is h l xs) : l < h.objs.size := by
  cases k with
  | lst => obtain ⟨o, e, _⟩ := x; exact Heap.lt_size e
  | tup => obtain ⟨o, e, _⟩ := x; exact Heap.lt_size e
theorem SqK.iter {l : Addr} {xs : Array Value} (x : k.Is s.heap l xs) {Q : Value → Shared → Prop} (h : Q (.ref s.heap.objs.size) { s with heap := s.heap.push (k.ob l) }) : wpAny (model prog w) A (pyIter (.ref l)) Q E s := by
  cases k with
  | lst => exact wpAny_pyIter_list x h
  | tup => exact wpAny_pyIter_tuple x h
theorem SqK.start {h : Heap} {l it : Addr} (e : h.get? it = some (k.ob l)) : k.It h it l 0 := by
  cases k with
  | lst => exact ⟨_, e, rfl, rfl⟩
  | tup => exact ⟨_, e, rfl, rfl⟩
theorem SqK.draws (hh : A.handled = none) (it l : Addr) (hne : l ≠ it) (items : Array Value) : Draws prog w A it [it, l] items.size (fun i v => items[i]? = some v) (fun i h => k.It h it l i ∧ k.Is h l items) := by
  cases k with
  | lst => exact Draws.list hh it l hne items
  | tup => exact Draws.tuple hh it l hne items
end
/-! ### zip, made -/
def zh1 (h : Heap) (k1 : SqK) (l1 : Addr) : Heap := h.push (k1.ob l1)
def zh2 (h : Heap) (k1 k2 : SqK) (l1 l2 : Addr) : Heap := (zh1 h k1 l1).push (k2.ob l2)
def zh3 (h : Heap) (k1 k2 : SqK) (l1 l2 : Addr) : Heap := (zh2 h k1 k2 l1 l2).push { cls := .type "tuple", data := .seq #[.ref h.objs.size, .ref (zh1 h k1 l1).objs.size] }
def zh4 (h : Heap) (k1 k2 : SqK) (l1 l2 : Addr) : Heap := (zh3 h k1 k2 l1 l2).push { cls := .type "tuple", data := .seq #[.none, .none] }
def zh5 (h : Heap) (k1 k2 : SqK) (l1 l2 : Addr) : Heap := (zh4 h k1 k2 l1 l2).push { cls := .type "zip", data := .fields #[.none, .bool false, .bool false, .ref (zh2 h k1 k2 l1 l2).objs.size, .ref (zh3 h k1 k2 l1 l2).objs.size] }
theorem meets_zip (k1 k2 : SqK) (l1 l2 : Addr) (xs ys : Array Value) :
    Meets (Builtin.«zip.__new__» ⟨[.type "zip", .ref l1, .ref l2], []⟩) (fun _ R s => k1.Is s.heap l1 xs ∧ k2.Is s.heap l2 ys ∧ R (.ok (.ret (.ref (zh4 s.heap k1 k2 l1 l2).objs.size))) { s with heap := zh5 s.heap k1 k2 l1 l2 }) :=
  .of_wp fun prog w A R s h => by
    obtain ⟨hp, g, d, tk, os⟩ := s
    obtain ⟨hl1, hl2, h⟩ := h
    have hsub := sub_zip
    have hL1 : k1.Is (Shared.heap ⟨hp, g, d, tk, os⟩) l1 xs := hl1
    have hL2 : k2.Is (Shared.heap ⟨hp.push (k1.ob l1), g, d, tk, os⟩) l2 ys := SqK.Is.keep hl2 fun o e => Heap.get?_push_of_some _ e
    wp_walk using SqK.iter hL1, SqK.iter hL2
    exact ⟨_, rfl, h⟩
section
variable {prog : Program} {w : World} {A : Around} {E : Value → Shared → Prop} {s : Shared} {k1 k2 : SqK}
theorem call_zipK {l1 l2 : Addr} {xs ys : Array Value} {Q : Value → Shared → Prop} (hl1 : k1.Is s.heap l1 xs) (hl2 : k2.Is s.heap l2 ys)
    (h : ∀ h', IsZip h' (s.heap.objs.size + 4) (s.heap.objs.size + 2) (s.heap.objs.size + 3) .none → IsTupOf2 h' (s.heap.objs.size + 2) (.ref s.heap.objs.size) (.ref (s.heap.objs.size + 1)) →
      IsTupOf2 h' (s.heap.objs.size + 3) .none .none → k1.It h' s.heap.objs.size l1 0 → k2.It h' (s.heap.objs.size + 1) l2 0 → h'.objs.size = s.heap.objs.size + 5 →
      (∀ c o, s.heap.get? c = some o → h'.get? c = some o) → Q (.ref (s.heap.objs.size + 4)) { s with heap := h' }) :
    wpAny (model prog w) A (call (.type "zip") [.ref l1, .ref l2]) Q E s := by
  refine callType_new F.called_zip (by decide) (F.typeCall_zip_2 _ _) (F.newCall_zip_2 _ _) (fun obj => F.args_object_init_3 obj _ _) F.entry_zip_new (meets_zip k1 k2 l1 l2 xs ys) ⟨hl1, hl2, ?_⟩
  have z1 : (zh1 s.heap k1 l1).objs.size = s.heap.objs.size + 1 := Heap.size_push ..
  have z2 : (zh2 s.heap k1 k2 l1 l2).objs.size = s.heap.objs.size + 2 := by unfold zh2; rw [Heap.size_push, z1]
  have z3 : (zh3 s.heap k1 k2 l1 l2).objs.size = s.heap.objs.size + 3 := by unfold zh3; rw [Heap.size_push, z2]
  have z4 : (zh4 s.heap k1 k2 l1 l2).objs.size = s.heap.objs.size + 4 := by unfold zh4; rw [Heap.size_push, z3]
  have z5 : (zh5 s.heap k1 k2 l1 l2).objs.size = s.heap.objs.size + 5 := by unfold zh5; rw [Heap.size_push, z4]
  have g5 : (zh5 s.heap k1 k2 l1 l2).get? (zh4 s.heap k1 k2 l1 l2).objs.size = some _ := Heap.get?_push_size _ rfl
  have g4 : (zh5 s.heap k1 k2 l1 l2).get? (zh3 s.heap k1 k2 l1 l2).objs.size = some _ := Heap.get?_push_of_some _ (Heap.get?_push_size _ rfl)
  have g3 : (zh5 s.heap k1 k2 l1 l2).get? (zh2 s.heap k1 k2 l1 l2).objs.size = some _ := Heap.get?_push_of_some _ (Heap.get?_push_of_some _ (Heap.get?_push_size _ rfl))
  have fr : (k2.ob l2).isFreed = false := by cases k2 <;> rfl
  have fr1 : (k1.ob l1).isFreed = false := by cases k1 <;> rfl
  have g2 : (zh5 s.heap k1 k2 l1 l2).get? (zh1 s.heap k1 l1).objs.size = some (k2.ob l2) := Heap.get?_push_of_some _ (Heap.get?_push_of_some _ (Heap.get?_push_of_some _ (Heap.get?_push_size _ fr)))
  have g1 : (zh5 s.heap k1 k2 l1 l2).get? s.heap.objs.size = some (k1.ob l1) := Heap.get?_push_of_some _ (Heap.get?_push_of_some _ (Heap.get?_push_of_some _ (Heap.get?_push_of_some _ (Heap.get?_push_size _ fr1))))
  show _ ∧ _
  rw [z2, z3, z4] at g5
  rw [z1, z2] at g3
  rw [z3] at g4
  rw [z1] at g2
  rw [z4]
  exact ⟨⟨_, g5, rfl⟩, h _ g5 g3 g4 (SqK.start g1) (SqK.start g2) z5 fun c o x => Heap.get?_push_of_some _ (Heap.get?_push_of_some _ (Heap.get?_push_of_some _ (Heap.get?_push_of_some _ (Heap.get?_push_of_some _ x))))⟩
end
/-! ### zip's next, while the tuple that it handed out is still held -/
/-- the tuple T is out -/
def ZipO (h : Heap) (z TI TO T : Addr) : Prop := ∃ fl, h.get? z = some { cls := .type "zip", dict := none, data := .fields #[rawInt T, .bool fl, .bool false, .ref TI, .ref TO], slots := #[] }
section
variable {prog : Program} {w : World} {A : Around} {E : Value → Shared → Prop} {s : Shared} {z TI TO T i1 i2 : Addr} {fp1 fp2 : List Addr} {n1 n2 i : Nat} {P1 P2 : Nat → Value → Prop} {St1 St2 : Nat → Heap → Prop} {oT : Obj}
theorem zipO_free {Q : Bool → Shared → Prop} (hz : ZipO s.heap z TI TO T) (hT : s.heap.get? T = some oT) (h : ∀ h', ZipO h' z TI TO T → Heap.SameBut z s.heap h' → Q false { s with heap := h' }) :
    wpAny (model prog w) A (Builtin.SmallTypes.ownedTupleIsFree (.ref z)) Q E s := by
  obtain ⟨fl, hz⟩ := hz
  unfold Builtin.SmallTypes.ownedTupleIsFree
  refine wpAny_bind (wpAny_field hz rfl (x := rawInt T) rfl ?_)
  show wpAny _ _ (loadIfAlive ((T : Int).toNat) >>= _) _ _ _
  rw [Int.toNat_natCast]
  refine wpAny_bind (PySem.W.kdx_alive hT ?_)
  simp only [Option.isNone_some, Bool.false_eq_true, if_false]
  refine wpAny_bind (wpAny_field hz rfl (x := .bool fl) rfl ?_)
  cases fl with
  | true =>
    have e : (Value.bool true != Value.bool true) = false := by decide
    simp only [e, Bool.false_eq_true, if_false]
    exact wpAny_pure (h s.heap ⟨true, hz⟩ (Heap.SameBut.refl z s.heap))
  | false =>
    have e : (Value.bool false != Value.bool true) = true := by decide
    simp only [e, if_true]
    exact wpAny_bind (wpAny_setField_rec hz (by simp) fun h' hz' hs' => wpAny_pure (h h' ⟨true, hz'⟩ hs'))

theorem zipO_item {Q : Value → Shared → Prop} (S : ZipSep2 z TI TO i1 i2 fp1 fp2) (D1 : Draws prog w A i1 fp1 n1 P1 St1) (D2 : Draws prog w A i2 fp2 n2 P2 St2)
    (hz : ZipO s.heap z TI TO T) (hT : s.heap.get? T = some oT) (hTI : IsTupOf2 s.heap TI (.ref i1) (.ref i2)) (st1 : St1 i s.heap) (st2 : St2 i s.heap) (hlt1 : i < n1) (hlt2 : i < n2)
    (hQ : ∀ x1 x2 h' tk, P1 i x1 → P2 i x2 → ZipO h' z TI TO T → St1 (i + 1) h' → St2 (i + 1) h' → IsTupOf2 h' s.heap.objs.size x1 x2 → h'.objs.size = s.heap.objs.size + 1 →
      (∀ c o, c ≠ z → c ≠ i1 → c ≠ i2 → s.heap.get? c = some o → h'.get? c = some o) → Q (.ref s.heap.objs.size) { s with heap := h', toks := tk }) :
    wpAny (model prog w) A (Builtin.«zip.__next__» ⟨[.ref z], []⟩) (fun fin s' => ∃ v, fin = .done (.ret v) ∧ Q v s') E s := by
  obtain ⟨hp, g, d, tk0, os⟩ := s
  obtain ⟨fl, hz0⟩ := id hz
  show wpAny _ _ (field (.ref z) 2 >>= _) _ _ _
  refine wpAny_bind (wpAny_field hz0 rfl (x := .bool false) rfl ?_)
  show wpAny _ _ (field (.ref z) 3 >>= _) _ _ _
  refine wpAny_bind (wpAny_field hz0 rfl (x := .ref TI) rfl ?_)
  refine wpAny_bind (wpAny_seqItems hTI rfl ?_)
  show wpAny _ _ (Builtin.SmallTypes.ownedTupleIsFree (.ref z) >>= _) _ _ _
  refine wpAny_bind (zipO_free hz hT fun g0 hz1 hs0 => ?_)
  simp only [Bool.false_eq_true, if_false]
  have hs0' : Heap.SameBut z hp g0 := hs0
  rw [← Array.forIn_toList]
  simp only [List.forIn_cons, List.forIn_nil]
  refine wpAny_bind (wpAny_bind (wpAny_bind (wpAny_holding ?_)))
  show wpAny _ _ (Builtin.SmallTypes.nextOf (.ref i1) >>= _) _ _ ⟨g0, g, d, tk0, os⟩
  refine wpAny_bind (D1.item i _ _ _ hlt1 (D1.over st1 hs0' S.zf1) fun x1 p1 tk1 hx1 sn1 hp1 => wpAny_pure ?_)
  have hp1' : Heap.SameBut i1 g0 p1 := hp1
  refine wpAny_pure ?_
  refine wpAny_bind (wpAny_bind (wpAny_holding ?_))
  show wpAny _ _ (Builtin.SmallTypes.nextOf (.ref i2) >>= _) _ _ ⟨p1, g, d, tk1, os⟩
  refine wpAny_bind (D2.item i _ _ _ hlt2 (D2.over (D2.over st2 hs0' S.zf2) hp1' S.sep1_2) fun x2 p2 tk2 hx2 sn2 hp2 => wpAny_pure ?_)
  have hp2' : Heap.SameBut i2 p1 p2 := hp2
  refine wpAny_pure (wpAny_pure ?_)
  show wpAny _ _ (newTuple [x1, x2] >>= _) _ _ ⟨p2, g, d, tk2, os⟩
  refine wpAny_bind (wpAny_newTuple ?_)
  have hsz : p2.objs.size = hp.objs.size := by rw [hp2'.1, hp1'.1, hs0'.1]
  refine wpAny_pure ⟨_, rfl, ?_⟩
  obtain ⟨fl2, hz2⟩ := hz1
  have hzz : ZipO (p2.push { cls := .type "tuple", data := .seq #[x1, x2] }) z TI TO T := ⟨fl2, Heap.get?_push_of_some _ (hp2'.extBut _ _ S.zi2 (hp1'.extBut _ _ S.zi1 hz2))⟩
  have up : ∀ c o, p2.get? c = some o → (p2.push { cls := .type "tuple", data := .seq #[x1, x2] }).get? c = some o := fun c o e => Heap.get?_push_of_some _ e
  have hj1 : St1 (i + 1) p2 := D1.over sn1 hp2' S.sep2_1
  have res := hQ x1 x2 (p2.push { cls := .type "tuple", data := .seq #[x1, x2] }) tk2 hx1 hx2 hzz (D1.frame _ _ _ hj1 fun b _ o e => up b o e) (D2.frame _ _ _ sn2 fun b _ o e => up b o e)
  have e1 : IsTupOf2 (p2.push { cls := .type "tuple", data := .seq #[x1, x2] }) hp.objs.size x1 x2 := by
    rw [← hsz]
    exact Heap.get?_push_size _ rfl
  have res2 := res e1 (by rw [Heap.size_push, hsz]) (fun c o cz c1 c2 e => up c o (hp2'.extBut _ _ c2 (hp1'.extBut _ _ c1 (hs0'.extBut _ _ cz e))))
  show Q (.ref p2.objs.size) _
  rw [hsz]
  exact res2

theorem zipO_end {Q : Fin → Shared → Prop} (S : ZipSep2 z TI TO i1 i2 fp1 fp2) (D1 : Draws prog w A i1 fp1 n1 P1 St1) (D2 : Draws prog w A i2 fp2 n2 P2 St2)
    (hz : ZipO s.heap z TI TO T) (hT : s.heap.get? T = some oT) (hTI : IsTupOf2 s.heap TI (.ref i1) (.ref i2)) (st1 : St1 i s.heap) (st2 : St2 i s.heap) (hle1 : i ≤ n1) (hle2 : i ≤ n2) (hend : i = n1 ∨ i = n2)
    (hE : ∀ h' tk e, (∀ c o, c ≠ z → c ≠ i1 → c ≠ i2 → s.heap.get? c = some o → h'.get? c = some o) → (∃ o, h'.get? e = some o ∧ o.cls = .type "StopIteration") → E (.ref e) { s with heap := h', toks := tk }) :
    wpAny (model prog w) A (Builtin.«zip.__next__» ⟨[.ref z], []⟩) Q E s := by
  obtain ⟨hp, g, d, tk0, os⟩ := s
  obtain ⟨fl, hz0⟩ := id hz
  show wpAny _ _ (field (.ref z) 2 >>= _) _ _ _
  refine wpAny_bind (wpAny_field hz0 rfl (x := .bool false) rfl ?_)
  show wpAny _ _ (field (.ref z) 3 >>= _) _ _ _
  refine wpAny_bind (wpAny_field hz0 rfl (x := .ref TI) rfl ?_)
  refine wpAny_bind (wpAny_seqItems hTI rfl ?_)
  show wpAny _ _ (Builtin.SmallTypes.ownedTupleIsFree (.ref z) >>= _) _ _ _
  refine wpAny_bind (zipO_free hz hT fun g0 hz1 hs0 => ?_)
  simp only [Bool.false_eq_true, if_false]
  have hs0' : Heap.SameBut z hp g0 := hs0
  rw [← Array.forIn_toList]
  simp only [List.forIn_cons, List.forIn_nil]
  refine wpAny_bind (wpAny_bind (wpAny_bind (wpAny_holding ?_)))
  show wpAny _ _ (Builtin.SmallTypes.nextOf (.ref i1) >>= _) _ _ ⟨g0, g, d, tk0, os⟩
  by_cases hlt1 : i < n1
  · refine wpAny_bind (D1.item i _ _ _ hlt1 (D1.over st1 hs0' S.zf1) fun x1 p1 tk1 hx1 sn1 hp1 => wpAny_pure ?_)
    have hp1' : Heap.SameBut i1 g0 p1 := hp1
    have hi2 : i = n2 := by omega
    refine wpAny_pure ?_
    refine wpAny_bind (wpAny_bind (wpAny_holding ?_))
    show wpAny _ _ (Builtin.SmallTypes.nextOf (.ref i2) >>= _) _ _ ⟨p1, g, d, tk1, os⟩
    refine wpAny_bind (D2.done ⟨p1, g, d, tk1, os⟩ _ _ (by rw [← hi2]; exact D2.over (D2.over st2 hs0' S.zf2) hp1' S.sep1_2) fun q e hq he => ?_)
    exact hE q tk1 e (fun c o cz c1 c2 x => hq _ _ c2 (hp1'.extBut _ _ c1 (hs0'.extBut _ _ cz x))) he
  · have hi1 : i = n1 := by omega
    refine wpAny_bind (D1.done ⟨g0, g, d, tk0, os⟩ _ _ (by rw [← hi1]; exact D1.over st1 hs0' S.zf1) fun q e hq he => ?_)
    exact hE q tk0 e (fun c o cz c1 c2 x => hq _ _ c1 (hs0'.extBut _ _ cz x)) he
/-! ### next(zip), before and behind the first item -/
/-- nothing handed out yet, or the tuple T, which stands -/
def ZipS (h : Heap) (z TI TO : Addr) (lo : Addr) : Prop := (IsZip h z TI TO .none ∧ ∃ a b, IsTupOf2 h TO a b) ∨ ∃ T oT, ZipO h z TI TO T ∧ h.get? T = some oT ∧ lo < T
theorem zipS_item {lo : Addr} {Q : Option Value → Shared → Prop} (S : ZipSep2 z TI TO i1 i2 fp1 fp2) (D1 : Draws prog w A.in1 i1 fp1 n1 P1 St1) (D2 : Draws prog w A.in1 i2 fp2 n2 P2 St2)
    (hz : ZipS s.heap z TI TO lo) (hlo : lo < s.heap.objs.size) (hTI : IsTupOf2 s.heap TI (.ref i1) (.ref i2)) (st1 : St1 i s.heap) (st2 : St2 i s.heap) (hlt1 : i < n1) (hlt2 : i < n2) (lz : z ≤ lo) (l1 : i1 ≤ lo) (l2 : i2 ≤ lo)
    (hQ : ∀ x1 x2 h' tk, P1 i x1 → P2 i x2 → ZipS h' z TI TO lo → IsTupOf2 h' TI (.ref i1) (.ref i2) → St1 (i + 1) h' → St2 (i + 1) h' → IsTupOf2 h' s.heap.objs.size x1 x2 → h'.objs.size = s.heap.objs.size + 1 →
      (∀ c o, c ≠ z → c ≠ TO → c ≠ i1 → c ≠ i2 → s.heap.get? c = some o → h'.get? c = some o) → Q (some (.ref s.heap.objs.size)) { s with heap := h', toks := tk }) :
    wpAny (model prog w) A (pyNext (.ref z)) Q E s := by
  rcases hz with ⟨hz, a, b, hTO⟩ | ⟨T, oT, hz, hT, hl⟩
  · refine wpAny_pyNext_zipD2_item S D1 D2 hz hTI hTO st1 st2 hlt1 hlt2 fun x1 x2 h' tk p1 p2 hz' hTO' s1 s2 hn hsz hk => ?_
    refine hQ x1 x2 h' tk p1 p2 (.inr ⟨s.heap.objs.size, _, ⟨false, hz'⟩, hn, hlo⟩) (hk _ _ S.TIz S.TITO S.TIi1 S.TIi2 hTI) s1 s2 hn hsz hk
  · obtain ⟨fl, hz0⟩ := id hz
    have hTy : s.TypeIs (.ref z) "zip" := ⟨_, hz0, rfl⟩
    unfold pyNext
    refine wpAny_bind (wpAny_attempt (wpAny_callSpecial?_slot (name := Str.ofString "__next__") hTy F.slot_zip_next (wpAny_call_entry F.slot_zip_next hTy F.entry_zip_next
      (zipO_item S D1 D2 hz hT hTI st1 st2 hlt1 hlt2 fun x1 x2 h' tk p1 p2 hz' s1 s2 hn hsz hk => wpAny_pure ?_) (F.args_zip_next_1 _))))
    have nT : ∀ x, x ≤ lo → T ≠ x := fun x hx e => by rw [e] at hl; exact absurd (Nat.lt_of_lt_of_le hl hx) (Nat.lt_irrefl _)
    exact hQ x1 x2 h' tk p1 p2 (.inr ⟨T, oT, hz', hk T oT (nT z lz) (nT i1 l1) (nT i2 l2) hT, hl⟩) (hk _ _ S.TIz S.TIi1 S.TIi2 hTI) s1 s2 hn hsz fun c o cz _ c1 c2 e => hk c o cz c1 c2 e
theorem zipS_end {lo : Addr} {Q : Option Value → Shared → Prop} (S : ZipSep2 z TI TO i1 i2 fp1 fp2) (D1 : Draws prog w A.in1 i1 fp1 n1 P1 St1) (D2 : Draws prog w A.in1 i2 fp2 n2 P2 St2)
    (hz : ZipS s.heap z TI TO lo) (hTI : IsTupOf2 s.heap TI (.ref i1) (.ref i2)) (st1 : St1 i s.heap) (st2 : St2 i s.heap) (hle1 : i ≤ n1) (hle2 : i ≤ n2) (hend : i = n1 ∨ i = n2)
    (hQ : ∀ h' tk, (∀ c o, c ≠ z → c ≠ TO → c ≠ i1 → c ≠ i2 → s.heap.get? c = some o → h'.get? c = some o) → Q none { s with heap := h', toks := tk }) : wpAny (model prog w) A (pyNext (.ref z)) Q E s := by
  rcases hz with ⟨hz, a, b, hTO⟩ | ⟨T, oT, hz, hT, hl⟩
  · exact wpAny_pyNext_zipD2_end S D1 D2 hz hTI hTO st1 st2 hle1 hle2 hend hQ
  · obtain ⟨fl, hz0⟩ := id hz
    have hTy : s.TypeIs (.ref z) "zip" := ⟨_, hz0, rfl⟩
    unfold pyNext
    refine wpAny_bind (wpAny_attempt (wpAny_callSpecial?_slot (name := Str.ofString "__next__") hTy F.slot_zip_next (wpAny_call_entry F.slot_zip_next hTy F.entry_zip_next
      (zipO_end S D1 D2 hz hT hTI st1 st2 hle1 hle2 hend fun h' tk e hk he => ?_) (F.args_zip_next_1 _))))
    obtain ⟨o, ho, hc⟩ := he
    refine wpAny_bind (wpAny_isInstance (T := "StopIteration") (b := true) ⟨o, ho, hc⟩ isSubtype_stop ?_)
    exact wpAny_pure (hQ _ _ fun c o cz _ c1 c2 e => hk c o cz c1 c2 e)
end
end Ow

set_option Elab.async false
set_option linter.all false
set_option maxRecDepth 100000
set_option maxHeartbeats 4000000
namespace Ow
open PySem PySem.Spec PyProof.Rows
open Sem (wp)
theorem zip_nolen : typeLookup (.type "zip") "__len__" = pure none := by rw [typeLookup_type, builtinLookup_eq_fast]; kernel_rfl
theorem zip_nohint : typeLookup (.type "zip") "__length_hint__" = pure none := by rw [typeLookup_type, builtinLookup_eq_fast]; kernel_rfl
/-- the pairs made so far -/
structure ZG (xs ys : Array Value) (lo : Addr) (h : Heap) (as : List Addr) : Prop where
  rise : as.Pairwise (· < ·)
  above : ∀ a ∈ as, lo < a
  pairs : ∀ (j : Nat) (a : Addr), as[j]? = some a → ∃ x y, xs[j]? = some x ∧ ys[j]? = some y ∧ IsTupOf2 h a x y
theorem ZG.there {xs ys : Array Value} {lo : Addr} {h : Heap} {as : List Addr} (g : ZG xs ys lo h as) {a : Addr} (ha : a ∈ as) : a < h.objs.size := by
  obtain ⟨j, hj⟩ := List.mem_iff_getElem?.mp ha
  obtain ⟨_, _, _, _, e⟩ := g.pairs j a hj
  exact Heap.lt_size e
/-- where a zip over l1 and l2 stands, all below S -/
structure ZP (z TI TO i1 i2 l1 l2 S : Addr) : Prop where
  sep : ZipSep2 z TI TO i1 i2 [i1, l1] [i2, l2]
  n1 : l1 ≠ i1
  n2 : l2 ≠ i2
  bz : z < S
  bI : TI < S
  bO : TO < S
  b1 : i1 < S
  b2 : i2 < S
  c1 : l1 < S
  c2 : l2 < S
/-- the zip, its turn i being next -/
def ZSt (k1 k2 : SqK) (z TI TO i1 i2 l1 l2 S : Addr) (xs ys : Array Value) (i : Nat) (h : Heap) : Prop :=
  ZipS h z TI TO S ∧ IsTupOf2 h TI (.ref i1) (.ref i2) ∧ (k1.It h i1 l1 i ∧ k1.Is h l1 xs) ∧ k2.It h i2 l2 i ∧ k2.Is h l2 ys
theorem ZSt.keep {k1 k2 : SqK} {z TI TO i1 i2 l1 l2 S : Addr} {xs ys : Array Value} {i : Nat} {h h' : Heap} (p : ZP z TI TO i1 i2 l1 l2 S) (x : ZSt k1 k2 z TI TO i1 i2 l1 l2 S xs ys i h)
    (k : ∀ b o, b ≠ S → h.get? b = some o → h'.get? b = some o) : ZSt k1 k2 z TI TO i1 i2 l1 l2 S xs ys i h' := by
  obtain ⟨hz, hI, ⟨a1, a2⟩, a3, a4⟩ := x
  refine ⟨?_, k _ _ (Nat.ne_of_lt p.bI) hI, ⟨a1.keep fun o e => k _ o (Nat.ne_of_lt p.b1) e, a2.keep fun o e => k _ o (Nat.ne_of_lt p.c1) e⟩, a3.keep fun o e => k _ o (Nat.ne_of_lt p.b2) e, a4.keep fun o e => k _ o (Nat.ne_of_lt p.c2) e⟩
  rcases hz with ⟨hz, a, b, hTO⟩ | ⟨T, oT, ⟨fl, hz⟩, hT, hl⟩
  · exact .inl ⟨k _ _ (Nat.ne_of_lt p.bz) hz, a, b, k _ _ (Nat.ne_of_lt p.bO) hTO⟩
  · exact .inr ⟨T, oT, ⟨fl, k _ _ (Nat.ne_of_lt p.bz) hz⟩, k _ _ (Nat.ne_of_gt hl) hT, hl⟩
section
variable {prog : Program} {w : World} {A : Around} {s : Shared} {R : Result → Shared → Prop} {k1 k2 : SqK} {z TI TO i1 i2 l1 l2 S : Addr} {xs ys : Array Value}
theorem zip_loop (hh : A.handled = none) (p : ZP z TI TO i1 i2 l1 l2 S) (hn : min xs.size ys.size ≤ sizeLine) (res : Value) {h₁ : Heap}
    (hR : ∀ h' tk acc c as, (∀ b o, b ≠ S → b ≠ z → b ≠ TO → b ≠ i1 → b ≠ i2 → h₁.get? b = some o → h'.get? b = some o) → h'.get? S = some { cls := .type "list", dict := none, data := .seq acc c, slots := #[] } → as.length = min xs.size ys.size → ZG xs ys S h' as →
      acc.toList = as.map Value.ref → R (.ok (.ret res)) { s with heap := h', toks := tk }) :
    ∀ (k i : Nat) (h : Heap) (tk c : Nat) (acc : Array Value) (as : List Addr), min xs.size ys.size - i = k → i ≤ min xs.size ys.size → ZSt k1 k2 z TI TO i1 i2 l1 l2 S xs ys i h → (∀ b o, b ≠ S → b ≠ z → b ≠ TO → b ≠ i1 → b ≠ i2 → h₁.get? b = some o → h.get? b = some o) →
      h.get? S = some { cls := .type "list", dict := none, data := .seq acc c, slots := #[] } → acc.toList = as.map Value.ref → as.length = i → ZG xs ys S h as →
      codeAny (model prog w) A (.builtin "list.extend.loop" ⟨[.ref S, .ref z, res], []⟩) R { s with heap := h, toks := tk } := by
  have D1 : Draws prog w A.in1.in1 i1 [i1, l1] xs.size (fun i v => xs[i]? = some v) (fun i h => k1.It h i1 l1 i ∧ k1.Is h l1 xs) := SqK.draws (A := A.in1.in1) hh i1 l1 p.n1 xs
  have D2 : Draws prog w A.in1.in1 i2 [i2, l2] ys.size (fun i v => ys[i]? = some v) (fun i h => k2.It h i2 l2 i ∧ k2.Is h l2 ys) := SqK.draws (A := A.in1.in1) hh i2 l2 p.n2 ys
  intro k
  induction k with
  | zero =>
    intro i h tk c acc as hk hi hst hkeep hS hacc hal hG
    have hin : i = min xs.size ys.size := by omega
    refine codeAny_builtin PySem.F.entry_extend_loop ?_
    rw [Around.under_plainId PySem.F.plain_extend_loop _]
    show wpAny _ A.in1 (pyNext (.ref z) >>= _) _ _ _
    obtain ⟨hz, hI, a12, a34⟩ := hst
    refine wpAny_bind (zipS_end (s := { s with heap := h, toks := tk }) (A := A.in1) (i := i) p.sep D1 D2 hz hI a12 a34 (by omega) (by omega) (by omega) fun h' tk' he => ?_)
    refine wpAny_pure (hR h' tk' acc c as (fun b o n1 n2 n3 n4 n5 e => he b o n2 n3 n4 n5 (hkeep b o n1 n2 n3 n4 n5 e)) (he S _ (Nat.ne_of_gt p.bz) (Nat.ne_of_gt p.bO) (Nat.ne_of_gt p.b1) (Nat.ne_of_gt p.b2) hS) (by omega) ⟨hG.rise, hG.above, fun j a hj => ?_⟩ hacc)
    obtain ⟨x, y, e1, e2, e3⟩ := hG.pairs j a hj
    have ha := hG.above a (List.mem_of_getElem? hj)
    exact ⟨x, y, e1, e2, he a _ (Nat.ne_of_gt (Nat.lt_trans p.bz ha)) (Nat.ne_of_gt (Nat.lt_trans p.bO ha)) (Nat.ne_of_gt (Nat.lt_trans p.b1 ha)) (Nat.ne_of_gt (Nat.lt_trans p.b2 ha)) e3⟩
  | succ k ih =>
    intro i h tk c acc as hk hi hst hkeep hS hacc hal hG
    have hlt : i < min xs.size ys.size := by omega
    have hsz : acc.size = i := by rw [← Array.length_toList, hacc, List.length_map, hal]
    have hSl : S < h.objs.size := Heap.lt_size hS
    refine codeAny_builtin PySem.F.entry_extend_loop ?_
    rw [Around.under_plainId PySem.F.plain_extend_loop _]
    show wpAny _ A.in1 (pyNext (.ref z) >>= _) _ _ _
    obtain ⟨hz, hI, a12, a34⟩ := hst
    refine wpAny_bind (zipS_item (s := { s with heap := h, toks := tk }) (A := A.in1) (i := i) p.sep D1 D2 hz hSl hI a12 a34 (by omega) (by omega) (Nat.le_of_lt p.bz) (Nat.le_of_lt p.b1) (Nat.le_of_lt p.b2) fun x y h' tk' hx hy hz' hI' b12 b34 hT hsz' hkp => ?_)
    dsimp only at hT hsz' hkp ⊢
    have hS' := hkp S _ (Nat.ne_of_gt p.bz) (Nat.ne_of_gt p.bO) (Nat.ne_of_gt p.b1) (Nat.ne_of_gt p.b2) hS
    have up : ∀ b o, b ≠ S → h'.get? b = some o → (h'.update S (Obj.mapSeq (·.push (Value.ref h.objs.size)))).get? b = some o := fun b o hb e => (Heap.get?_update_other _ _ (Ne.symm hb)).trans e
    have st' : ZSt k1 k2 z TI TO i1 i2 l1 l2 S xs ys (i + 1) (h'.update S (Obj.mapSeq (·.push (Value.ref h.objs.size)))) := ZSt.keep p ⟨hz', hI', b12, b34⟩ up
    show wpAny _ A.in1 (updateSeq S (·.push (Value.ref h.objs.size)) >>= _) _ _ _
    refine wpAny_bind ?_
    refine wpAny_updateSeq hS' rfl (wpAny_pure ⟨plainId_quiet PySem.F.plain_extend_loop _, ih (i + 1) _ tk' _ (acc.push (Value.ref h.objs.size)) (as ++ [h.objs.size]) (by omega) hlt st'
      (fun b o n1 n2 n3 n4 n5 e => up b o n1 (hkp b o n2 n3 n4 n5 (hkeep b o n1 n2 n3 n4 n5 e))) (Heap.get?_update_self _ hS' rfl) (by rw [Array.toList_push, hacc, List.map_append]; rfl) (by rw [List.length_append, hal]; rfl) ⟨?_, ?_, ?_⟩⟩) (by rw [hsz]; omega) (by show (acc.push (Value.ref h.objs.size)).size ≤ sizeLine + 1; rw [Array.size_push, hsz]; omega)
    · refine List.pairwise_append.mpr ⟨hG.rise, List.pairwise_singleton _ _, fun a ha b hb => ?_⟩
      rw [List.mem_singleton.mp hb]
      exact hG.there ha
    · intro a ha
      rcases List.mem_append.mp ha with ha | ha
      · exact hG.above a ha
      · rw [List.mem_singleton.mp ha]; exact hSl
    · intro j b hj
      rcases Nat.lt_trichotomy j as.length with q | q | q
      · rw [List.getElem?_append_left q] at hj
        obtain ⟨x', y', e1, e2, e3⟩ := hG.pairs j b hj
        have hb := hG.above b (List.mem_of_getElem? hj)
        exact ⟨x', y', e1, e2, up b _ (Nat.ne_of_gt hb) (hkp b _ (Nat.ne_of_gt (Nat.lt_trans p.bz hb)) (Nat.ne_of_gt (Nat.lt_trans p.bO hb)) (Nat.ne_of_gt (Nat.lt_trans p.b1 hb)) (Nat.ne_of_gt (Nat.lt_trans p.b2 hb)) e3)⟩
      · subst q
        have hb : h.objs.size = b := by simpa using hj
        subst hb
        exact ⟨x, y, by rw [hal]; exact hx, by rw [hal]; exact hy, up _ _ (Nat.ne_of_gt hSl) hT⟩
      · have hnone : (as ++ [h.objs.size])[j]? = none := List.getElem?_eq_none (by rw [List.length_append, List.length_singleton]; omega)
        rw [hnone] at hj; cases hj
end
section
variable {prog : Program} {w : World} {A : Around} {E : Value → Shared → Prop} {s : Shared} {k1 k2 : SqK} {z TI TO i1 i2 l1 l2 : Addr} {xs ys : Array Value}
theorem zip_hint (hT : s.TypeIs (.ref z) "zip") {Q : Bool → Shared → Prop} (h : Q true s) : wpAny (model prog w) A (Builtin.List.listLengthHint (.ref z)) Q E s := by
  unfold Builtin.List.listLengthHint
  refine wpAny_bind (wpAny_specialOf hT zip_nolen ?_)
  first
    | exact wpAny_bind (wpAny_specialOf hT zip_nohint (wpAny_pure h))
    | (show wpAny _ _ (specialOf (Value.ref z) (Str.ofString "__length_hint__") >>= _) _ _ _
       exact wpAny_bind (wpAny_specialOf hT zip_nohint (wpAny_pure h)))

theorem zip_extend {R : Result → Shared → Prop} {S : Addr} (hh : A.handled = none) (p : ZP z TI TO i1 i2 l1 l2 S) (hn : min xs.size ys.size ≤ sizeLine) (hz : IsZip s.heap z TI TO .none) (hTO : IsTupOf2 s.heap TO .none .none)
    (st : IsTupOf2 s.heap TI (.ref i1) (.ref i2) ∧ (k1.It s.heap i1 l1 0 ∧ k1.Is s.heap l1 xs) ∧ k2.It s.heap i2 l2 0 ∧ k2.Is s.heap l2 ys) (res : Value) (c₀ : Nat) (hS : s.heap.get? S = some { cls := .type "list", data := .seq #[] c₀ })
    (hR : ∀ h' tk acc c as, (∀ b o, b ≠ S → b ≠ z → b ≠ TO → b ≠ i1 → b ≠ i2 → s.heap.get? b = some o → h'.get? b = some o) → h'.get? S = some { cls := .type "list", dict := none, data := .seq acc c, slots := #[] } → as.length = min xs.size ys.size → ZG xs ys S h' as →
      acc.toList = as.map Value.ref → R (.ok (.ret res)) { s with heap := h', toks := tk }) :
    wpAny (model prog w) A.in1 (Builtin.List.listExtendWith (.ref S) (.ref z) res)
      (fun fin s' => match fin with | .done f => R (.ok f) s' | .again c' => c'.quiet = true ∧ codeAny (model prog w) A c' R s') (fun e s' => R (.error e) s') s := by
  have hTy : s.TypeIs (.ref z) "zip" := ⟨_, hz, rfl⟩
  have key : ∀ (h : Heap) (c₁ tk : Nat), (∀ b o, b ≠ S → s.heap.get? b = some o → h.get? b = some o) → h.get? S = some { cls := .type "list", data := .seq #[] c₁ } →
      codeAny (model prog w) A (.builtin "list.extend.loop" ⟨[.ref S, .ref z, res], []⟩) R { s with heap := h, toks := tk } := by
    intro h c₁ tk hk hS₁
    have st0 : ZSt k1 k2 z TI TO i1 i2 l1 l2 S xs ys 0 s.heap := ⟨.inl ⟨hz, _, _, hTO⟩, st⟩
    exact zip_loop (s := s) (h₁ := s.heap) hh p hn res (fun h' tk' acc c as hk' hS' hl hG hacc => hR h' tk' acc c as hk' hS' hl hG hacc) (min xs.size ys.size) 0 h tk c₁ #[] [] (Nat.sub_zero _) (Nat.zero_le _) (st0.keep p hk)
      (fun b o n1 _ _ _ _ e => hk b o n1 e) hS₁ rfl rfl ⟨List.Pairwise.nil, (fun _ ha => nomatch ha), (fun j a hj => by simp at hj)⟩
  unfold Builtin.List.listExtendWith
  refine wpAny_bind (wpAny_typeOf (T := "zip") hTy ?_)
  have hSz : S ≠ z := Nat.ne_of_gt p.bz
  have h1 : Builtin.List.listSameRef (.ref S) (.ref z) = false := by simp [Builtin.List.listSameRef, hSz]
  have h2 : (Value.type "zip" == Value.type "list") = false := by decide
  have h3 : (Value.type "zip" == Value.type "tuple") = false := by decide
  simp only [h1, h2, h3, Bool.or_false, Bool.false_eq_true, if_false]
  refine wpAny_bind (wpAny_pyIter_zip hz ?_)
  refine wpAny_bind (wpAny_holding (zip_hint hTy ?_))
  refine wpAny_ite_split (fun _ => ?_) (fun _ => wpAny_pure ⟨plainId_quiet PySem.F.plain_extend_loop _, key _ c₀ _ (fun b o _ e => e) hS⟩)
  refine wpAny_bind (wpAny_rule ?_)
  refine wpAny_bind ?_
  show wpAny _ _ (updateSeq S (·.push .none) >>= fun _ => updateSeq S (·.pop)) _ _ _
  refine wpAny_bind (wpAny_updateSeq hS rfl ?_)
  have hS₂ := Heap.get?_update_self (Obj.mapSeq (·.push Value.none)) hS rfl
  refine wpAny_updateSeq (hz := by seq_fits) hS₂ rfl ?_
  have hS₃ := Heap.get?_update_self (Obj.mapSeq (·.pop)) hS₂ rfl
  refine wpAny_pure ⟨plainId_quiet PySem.F.plain_extend_loop _, key _ _ _ (fun b o hb e => ?_) hS₃⟩
  exact (Heap.get?_update_other _ _ (Ne.symm hb)).trans ((Heap.get?_update_other _ _ (Ne.symm hb)).trans e)
theorem zip_init {R : Result → Shared → Prop} {S : Addr} (hh : A.handled = none) (p : ZP z TI TO i1 i2 l1 l2 S) (hn : min xs.size ys.size ≤ sizeLine) (hz : IsZip s.heap z TI TO .none) (hTO : IsTupOf2 s.heap TO .none .none)
    (st : IsTupOf2 s.heap TI (.ref i1) (.ref i2) ∧ (k1.It s.heap i1 l1 0 ∧ k1.Is s.heap l1 xs) ∧ k2.It s.heap i2 l2 0 ∧ k2.Is s.heap l2 ys) (hS : s.heap.get? S = some { cls := .type "list", data := .seq #[] })
    (hR : ∀ h' tk acc c as, (∀ b o, b ≠ S → b ≠ z → b ≠ TO → b ≠ i1 → b ≠ i2 → s.heap.get? b = some o → h'.get? b = some o) → h'.get? S = some { cls := .type "list", dict := none, data := .seq acc c, slots := #[] } → as.length = min xs.size ys.size → ZG xs ys S h' as →
      acc.toList = as.map Value.ref → R (.ok (.ret .none)) { s with heap := h', toks := tk }) :
    wpAny (model prog w) A.in1 (Builtin.«list.__init__» ⟨[.ref S, .ref z], []⟩)
      (fun fin s' => match fin with | .done f => R (.ok f) s' | .again c' => c'.quiet = true ∧ codeAny (model prog w) A c' R s') (fun e s' => R (.error e) s') s := by
  show wpAny _ _ (do let old ← Builtin.List.listItems (.ref S); Builtin.List.listUpdate (.ref S) (fun _ => #[]); letGo old.toList.reverse; Builtin.List.listExtendWith (.ref S) (.ref z) .none) _ _ s
  refine wpAny_bind ?_
  unfold Builtin.List.listItems
  refine wpAny_bind (wpAny_seqItems hS rfl (wpAny_pure ?_))
  show wpAny _ _ (updateSeq S (fun _ => #[]) >>= fun _ => letGo (#[] : Array Value).toList.reverse >>= fun _ => Builtin.List.listExtendWith (.ref S) (.ref z) .none) _ _ s
  refine wpAny_bind (wpAny_updateSeq hS rfl ?_)
  have hS₂ := Heap.get?_update_self (Obj.mapSeq (fun _ => (#[] : Array Value))) hS rfl
  have oth : ∀ b o, b ≠ S → s.heap.get? b = some o → (s.heap.update S (Obj.mapSeq (fun _ => (#[] : Array Value)))).get? b = some o := fun b o hb e => (Heap.get?_update_other _ _ (Ne.symm hb)).trans e
  refine wpAny_bind (wpAny_letGo ?_)
  obtain ⟨hI, ⟨a1, a2⟩, a3, a4⟩ := st
  refine zip_extend hh p hn (oth _ _ (Nat.ne_of_lt p.bz) hz) (oth _ _ (Nat.ne_of_lt p.bO) hTO) ⟨oth _ _ (Nat.ne_of_lt p.bI) hI, ⟨a1.keep fun o e => oth _ o (Nat.ne_of_lt p.b1) e, a2.keep fun o e => oth _ o (Nat.ne_of_lt p.c1) e⟩, a3.keep fun o e => oth _ o (Nat.ne_of_lt p.b2) e, a4.keep fun o e => oth _ o (Nat.ne_of_lt p.c2) e⟩ .none _ hS₂ fun h' tk acc c as hk hS' hl hG hacc => ?_
  exact hR h' tk acc c as (fun b o n1 n2 n3 n4 n5 e => hk b o n1 n2 n3 n4 n5 (oth b o n1 e)) hS' hl hG hacc
theorem call_list_zip {Q : Value → Shared → Prop} (hh : A.handled = none) (p : ZP z TI TO i1 i2 l1 l2 s.heap.objs.size) (hn : min xs.size ys.size ≤ sizeLine) (hz : IsZip s.heap z TI TO .none) (hTO : IsTupOf2 s.heap TO .none .none)
    (st : IsTupOf2 s.heap TI (.ref i1) (.ref i2) ∧ (k1.It s.heap i1 l1 0 ∧ k1.Is s.heap l1 xs) ∧ k2.It s.heap i2 l2 0 ∧ k2.Is s.heap l2 ys)
    (hQ : ∀ h' tk acc c as, (∀ b o, b ≠ z → b ≠ TO → b ≠ i1 → b ≠ i2 → s.heap.get? b = some o → h'.get? b = some o) → h'.get? s.heap.objs.size = some { cls := .type "list", dict := none, data := .seq acc c, slots := #[] } → as.length = min xs.size ys.size → ZG xs ys s.heap.objs.size h' as →
      acc.toList = as.map Value.ref → Q (.ref s.heap.objs.size) { s with heap := h', toks := tk }) :
    wpAny (model prog w) A (call (.type "list") [.ref z]) Q E s := by
  refine callType_codes (Q₁ := fun obj s₁ => obj = .ref s.heap.objs.size ∧ s₁ = { s with heap := s.heap.push { cls := .type "list", data := .seq #[] } }) PySem.F.called_list (PySem.F.typeCall_list_1 _) PySem.F.entry_list_init (code_list_new _ ⟨rfl, rfl⟩) fun obj s₁ h₁ => ?_
  obtain ⟨rfl, rfl⟩ := h₁
  have hS : (s.heap.push { cls := .type "list", data := .seq #[] }).get? s.heap.objs.size = some { cls := .type "list", data := .seq #[] } := Heap.get?_push_size _ rfl
  obtain ⟨hI, ⟨a1, a2⟩, a3, a4⟩ := st
  have ps : ∀ b o, s.heap.get? b = some o → (s.heap.push { cls := .type "list", data := .seq #[] }).get? b = some o := fun b o e => Heap.get?_push_of_some _ e
  refine ⟨⟨_, hS, rfl⟩, PySem.F.args_list_init_2 _ _, zip_init (A := A.in1) hh p hn (ps _ _ hz) (ps _ _ hTO) ⟨ps _ _ hI, ⟨a1.keep fun o e => ps _ o e, a2.keep fun o e => ps _ o e⟩, a3.keep fun o e => ps _ o e, a4.keep fun o e => ps _ o e⟩ hS fun h' tk acc c as hk hS' hl hG hacc => ?_⟩
  exact ⟨rfl, hQ h' tk acc c as (fun b o n1 n2 n3 n4 e => hk b o (Nat.ne_of_lt (Heap.lt_size e)) n1 n2 n3 n4 (ps b o e)) hS' hl hG hacc⟩
end
end Ow

set_option Elab.async false
set_option linter.all false
set_option maxRecDepth 100000
set_option maxHeartbeats 4000000
namespace Ow
open PySem PySem.Spec PyProof.Rows L2
/-- pairs tracked at their addresses -/
def putP : Hp → List Addr → List (V × V) → Hp
  | H, a :: as, p :: ps => putP (upd H a (.tup [p.1, p.2])) as ps
  | H, _, _ => H
theorem putP_off {b : Addr} : ∀ (as : List Addr) (ps : List (V × V)) (H : Hp), b ∉ as → putP H as ps b = H b
  | [], _, _, _ => rfl
  | _ :: _, [], _, _ => rfl
  | a :: as, p :: ps, H, h => by
    show putP (upd H a (.tup [p.1, p.2])) as ps b = H b
    rw [putP_off as ps _ (fun z => h (List.mem_cons_of_mem _ z)), upd_ne (fun z => h (by rw [z]; exact List.mem_cons_self))]
theorem putP_at : ∀ (as : List Addr) (ps : List (V × V)) (H : Hp), as.length = ps.length → as.Nodup → ∀ (j : Nat) (t : Addr), as[j]? = some t → ∃ p, ps[j]? = some p ∧ putP H as ps t = some (.tup [p.1, p.2])
  | [], [], _, _, _, j, t, e => by simp at e
  | [], _ :: _, _, h, _, _, _, _ => by cases h
  | _ :: _, [], _, h, _, _, _, _ => by cases h
  | a :: as, p :: ps, H, h, hn, j, t, e => by
    have hn' := List.nodup_cons.mp hn
    cases j with
    | zero =>
      have e1 : a = t := by simpa using e
      subst e1
      refine ⟨p, rfl, ?_⟩
      show putP (upd H a (.tup [p.1, p.2])) as ps a = some (.tup [p.1, p.2])
      rw [putP_off as ps _ hn'.1, upd_same]
    | succ j => exact putP_at as ps (upd H a (.tup [p.1, p.2])) (Nat.succ.inj h) hn'.2 j t (by simpa using e)
theorem vals_addrs : ∀ as : List Addr, Vals (as.map V.ref) (as.map Value.ref)
  | [] => .nil
  | _ :: as => .cons rfl (vals_addrs as)
section
variable {X : Cx} {pins : List (Addr × Obj)} {σ : L2.St} {H : Hp} {s : Shared}
theorem zip_laid {h' : Heap} {tk c : Nat} {acc : Array Value} {as : List Addr} {xs ys : List V} {us ws : Array Value} {S : Addr} (I : Inv X pins σ H s) (hSs : s.heap.objs.size ≤ S) (hz : min us.size ws.size ≤ sizeLine) (rx : Vals xs us.toList) (ry : Vals ys ws.toList)
    (hk : ∀ b o, s.heap.get? b = some o → h'.get? b = some o) (hS : h'.get? S = some { cls := .type "list", dict := none, data := .seq acc c, slots := #[] }) (hl : as.length = min us.size ws.size) (hG : ZG us ws S h' as) (hacc : acc.toList = as.map Value.ref) :
    ∃ H' : Hp, Same H H' ∧ H S = none ∧ H' S = some (.lst (as.map V.ref)) ∧ (∀ (j : Nat) (t : Addr), as[j]? = some t → ∃ x y, xs[j]? = some x ∧ ys[j]? = some y ∧ H t = none ∧ H' t = some (.tup [x, y])) ∧ Inv X pins σ H' { s with heap := h', toks := tk } := by
  have hSn : S ∉ as := fun z => Nat.lt_irrefl _ (hG.above _ z)
  have nd : as.Nodup := List.Pairwise.imp (fun {a b} (h : a < b) => Nat.ne_of_lt h) hG.rise
  have above : ∀ t ∈ as, s.heap.objs.size ≤ t := fun t ht => Nat.le_of_lt (Nat.lt_of_le_of_lt hSs (hG.above t ht))
  have new : ∀ t ∈ as, H t = none := fun t ht => I.hok.fresh (above t ht)
  have newS : H S = none := I.hok.fresh hSs
  have lx : xs.length = us.size := by have := rx.length; rw [Array.length_toList] at this; exact this
  have ly : ys.length = ws.size := by have := ry.length; rw [Array.length_toList] at this; exact this
  have lz : (xs.zip ys).length = as.length := by rw [List.length_zip, lx, ly, hl]
  have atP := putP_at as (xs.zip ys) (upd H S (.lst (as.map V.ref))) lz.symm nd
  have off : ∀ b, b ∉ as → b ≠ S → putP (upd H S (.lst (as.map V.ref))) as (xs.zip ys) b = H b := fun b h1 h2 => by rw [putP_off as _ _ h1, upd_ne h2]
  have low : ∀ b o, s.heap.get? b = some o → b ∉ as ∧ b ≠ S := fun b o e => ⟨fun z => absurd (Heap.lt_size e) (Nat.not_lt.mpr (above b z)), fun z => absurd (Heap.lt_size e) (Nat.not_lt.mpr (by rw [z]; exact hSs))⟩
  have kp : ∀ b u, H b = some u → (putP (upd H S (.lst (as.map V.ref))) as (xs.zip ys)) b = some u := fun b u e => by
    rw [off b (fun z => by rw [new b z] at e; cases e) (fun z => by rw [z, newS] at e; cases e)]
    exact e
  have eS : putP (upd H S (.lst (as.map V.ref))) as (xs.zip ys) S = some (.lst (as.map V.ref)) := by rw [putP_off as _ _ hSn, upd_same]
  refine ⟨_, kp, newS, eS, fun j t e => ?_, ?_⟩
  · obtain ⟨p, e1, e2⟩ := atP j t e
    obtain ⟨e3, e4⟩ := List.getElem?_zip_eq_some.mp e1
    exact ⟨p.1, p.2, e3, e4, new t (List.mem_of_getElem? e), e2⟩
  refine I.call' (ch := []) rfl ⟨fun b o q _ _ _ => hk b o q, fun b o q _ _ _ => ⟨o.slots, hk b o q⟩, fun b o q n _ => ?_, fun b o q _ => ⟨o, hk b o q⟩, fun b xs q => kp b _ q, fun b o u q => kp b _ q, fun b ps q => ⟨#[], by rw [kp b _ q]; simp⟩⟩ (fun b u q => ?_) I.bare fun b z => by simp at z
  · obtain ⟨z1, z2⟩ := low b o q
    rw [off b z1 z2]
    exact n
  · by_cases hb : b ∈ as
    · obtain ⟨j, hj⟩ := List.mem_iff_getElem?.mp hb
      obtain ⟨p, e1, e2⟩ := atP j b hj
      rw [e2] at q
      cases q
      obtain ⟨e3, e4⟩ := List.getElem?_zip_eq_some.mp e1
      obtain ⟨x, y, f1, f2, f3⟩ := hG.pairs j b hj
      obtain ⟨x', g1, r1⟩ := rx.get e3
      obtain ⟨y', g2, r2⟩ := ry.get e4
      rw [Array.getElem?_toList, f1] at g1
      rw [Array.getElem?_toList, f2] at g2
      cases g1
      cases g2
      exact ⟨by show 2 ≤ sizeLine; decide, [x, y], .cons r1 (.cons r2 .nil), ⟨_, f3, rfl, _, rfl⟩⟩
    · by_cases hb2 : b = S
      · rw [hb2] at q ⊢
        rw [eS] at q
        cases q
        refine ⟨by rw [List.length_map]; omega, acc.toList, c, by rw [hacc]; exact vals_addrs as, ?_⟩
        rw [Array.toArray_toList]
        exact hS
      · rw [off b hb hb2] at q
        exact (I.hok b u q).stay (fun d v _ y => hk d v y) (fun d y => kp d _ y) fun d xs y => kp d _ y
/-- a list or a tuple of these, read -/
theorem sq_kind {a : Addr} {xs : List V} (I : Inv X pins σ H s) (h : SqL X.K H a xs ∨ SqT X.K H a xs) : ∃ (k : SqK) (its : List Value), k.Is s.heap a its.toArray ∧ Vals xs its ∧ xs.length ≤ sizeLine := by
  rcases h with h | h
  · obtain ⟨its, rv, pl, hz⟩ := I.list h
    exact ⟨.lst, its, pl.isList, rv, hz⟩
  · obtain ⟨its, rv, pl, hz⟩ := I.tuple h
    exact ⟨.tup, its, pl, rv, hz⟩
theorem zp_of (n a b : Nat) (la : a < n) (lb : b < n) : ZP (n + 4) (n + 2) (n + 3) n (n + 1) a b (n + 5) := by
  have m1 : ∀ x : Nat, x ≠ n → x ≠ a → x ∉ [n, a] := fun x h1 h2 => by simp [h1, h2]
  have m2 : ∀ x : Nat, x ≠ n + 1 → x ≠ b → x ∉ [n + 1, b] := fun x h1 h2 => by simp [h1, h2]
  exact ⟨⟨by show (n + 2 : Nat) ≠ n + 4; omega, by show (n + 3 : Nat) ≠ n + 4; omega, by show (n + 2 : Nat) ≠ n + 3; omega, by show (n + 2 : Nat) ≠ n; omega, by simp, m1 _ (by omega) (by omega), m1 _ (by omega) (by omega),
    by show (n + 2 : Nat) ≠ n + 1; omega, by simp, m2 _ (by omega) (by omega), m2 _ (by omega) (by omega), m2 _ (by omega) (by omega), m1 _ (by omega) (by omega)⟩,
    by show (a : Nat) ≠ n; omega, by show (b : Nat) ≠ n + 1; omega, by show (n + 4 : Nat) < n + 5; omega, by show (n + 2 : Nat) < n + 5; omega, by show (n + 3 : Nat) < n + 5; omega, by show (n : Nat) < n + 5; omega, by show (n + 1 : Nat) < n + 5; omega, by show (a : Nat) < n + 5; omega, by show (b : Nat) < n + 5; omega⟩
/-- list(zip(a, b)) -/
def tLZip (K : PySem.W.Frag) (t : TA) : TE := fun σ H Q => t σ H fun vs H1 => ∃ a b xs ys, vs = [.ref a, .ref b] ∧ (SqL K H1 a xs ∨ SqT K H1 a xs) ∧ (SqL K H1 b ys ∨ SqT K H1 b ys) ∧
  ∀ (H' : Hp) (p : Addr) (ts : List Addr), Same H1 H' → H1 p = none → H' p = some (.lst (ts.map V.ref)) → ts.length = min xs.length ys.length →
    (∀ (j : Nat) (t : Addr), ts[j]? = some t → ∃ x y, xs[j]? = some x ∧ ys[j]? = some y ∧ H1 t = none ∧ H' t = some (.tup [x, y])) → Q (.ref p) H'
theorem pe_lzip {e e2 : Expr} {t : TA} {p p2 pos pos2 : Pos} (hc : X.calm = true) (hg : Gl X "list") (hm : X.mg "list" = none) (hg2 : Gl X "zip") (hm2 : X.mg "zip" = none) (hv : bootBuiltins "list" = some (.type "list")) (ha : PA X [e, e2] t)
    (hs : starEach [.Call (.Name "zip" p2) [e, e2] [] pos2] X.env = (false, eval (.Call (.Name "zip" p2) [e, e2] [] pos2) X.env) :: starEach [] X.env := by rfl)
    (hs2 : starEach [e, e2] X.env = (false, eval e X.env) :: starEach [e2] X.env := by rfl) (hpl : (backTo pos2 (starEach [e2] X.env)).any (·.1) = false := by rfl) :
    PE X (.Call (.Name "list" p) [.Call (.Name "zip" p2) [e, e2] [] pos2] [] pos) (tLZip X.K t) := by
  refine ⟨fun pins s σ H Q I hq => ?_⟩
  refine wpAny_Call_Name_kw (ld_blt I hg hm hv ?_)
  refine PyProof.Rows.callWith_type1 ?_ hs rfl
  rw [hs]
  show wpAny _ _ (spliced ((false, eval (.Call (.Name "zip" p2) [e, e2] [] pos2) X.env) :: backTo pos (starEach [] X.env))) _ _ s
  refine Calls.spliced_cons ?_
  refine wpAny_Call_Name_kw (ld_blt I hg2 hm2 PyProof.Rows.boot_zip (PyProof.Rows.callWith_type1 (thn (ha.run pos2 pins s σ H _ I hq) fun us s1 ⟨vs, H1, I1, r1, q1⟩ => ?_) hs2 hpl))
  obtain ⟨a, b, xs, ys, ex, hxs, hys, q⟩ := q1
  subst ex
  cases r1 with
  | cons r rr =>
    cases rr with
    | cons r' rr =>
      cases rr
      cases r
      cases r'
      obtain ⟨k1, us, u1, ru, zu⟩ := sq_kind I1 hxs
      obtain ⟨k2, ws, w1, rw', zw⟩ := sq_kind I1 hys
      refine call_zipK u1 w1 fun h' hz hI hO st1 st2 hsz hk => ?_
      have I2 : Inv X pins σ H1 { s1 with heap := h' } := I1.kept (t' := s1.toks) hk
      have la := u1.lt
      have lb := w1.lt
      have p0 : ZP (s1.heap.objs.size + 4) (s1.heap.objs.size + 2) (s1.heap.objs.size + 3) s1.heap.objs.size (s1.heap.objs.size + 1) a b h'.objs.size := by
        rw [hsz]
        exact zp_of _ _ _ la lb
      refine Calls.spliced_nil ?_
      have lu := ru.length
      have lw := rw'.length
      refine call_list_zip (s := { s1 with heap := h' }) (k1 := k1) (k2 := k2) (xs := us.toArray) (ys := ws.toArray) (I1.ok.hd hc) p0 (by rw [List.size_toArray, List.size_toArray]; omega) hz hO ⟨hI, ⟨st1, u1.keep fun o e => hk _ o e⟩, st2, w1.keep fun o e => hk _ o e⟩ fun h2 tk acc c as hk2 hS hl hG hacc => ?_
      have hk3 : ∀ b o, s1.heap.get? b = some o → h2.get? b = some o := fun b o e => by
        have hb : (b : Nat) < s1.heap.objs.size := Heap.lt_size e
        exact hk2 b o (Nat.ne_of_lt (Nat.lt_of_lt_of_le hb (Nat.le_add_right _ _))) (Nat.ne_of_lt (Nat.lt_of_lt_of_le hb (Nat.le_add_right _ _))) (Nat.ne_of_lt hb) (Nat.ne_of_lt (Nat.lt_of_lt_of_le hb (Nat.le_add_right _ _))) (hk b o e)
      have hSs : s1.heap.objs.size ≤ h'.objs.size := by rw [hsz]; exact Nat.le_add_right _ _
      obtain ⟨H', k1', k2', k3', k4', J⟩ := zip_laid (tk := tk) (S := h'.objs.size) (us := us.toArray) (ws := ws.toArray) I1 hSs (by rw [List.size_toArray, List.size_toArray]; omega) (by simpa using ru) (by simpa using rw') hk3 hS hl hG hacc
      refine ⟨.ref _, H', J, rfl, q H' _ as k1' k2' k3' (by rw [hl, List.size_toArray, List.size_toArray, lu, lw]) k4'⟩
end
end Ow

set_option Elab.async false
set_option linter.all false
set_option maxRecDepth 100000
set_option maxHeartbeats 4000000
namespace Ow
open PySem PySem.Spec PyProof.Rows L2
/-! ### tuples: what comes is one that stands, new or not -/
theorem cutV_whole {xs : List V} {lo hi : Option Int} (h1 : HT.sIx xs.length 0 lo = 0) (h2 : HT.sIx xs.length xs.length hi = xs.length) : cutV xs lo hi = xs := by
  unfold cutV
  simp only [h1, h2]
  simp
def rTSl : V → Option Int → Option Int → Hp → VK → Prop := fun x lo hi H Q => ∃ a xs, x = .ref a ∧ H a = some (.tup xs) ∧ ∀ H' p, Same H H' → H' p = some (.tup (cutV xs lo hi)) → Q (.ref p) H'
def rTCat : R2 := fun x y H Q => ∃ a b xs ys, x = .ref a ∧ y = .ref b ∧ H a = some (.tup xs) ∧ H b = some (.tup ys) ∧ xs.length + ys.length ≤ 5000 ∧ ∀ H' p, Same H H' → H' p = some (.tup (xs ++ ys)) → Q (.ref p) H'
def rTRep : R2 := fun x y H Q => ∃ a k xs, x = .ref a ∧ y = .int k ∧ H a = some (.tup xs) ∧ xs ≠ [] ∧ 1 ≤ k ∧ k ≤ 1000 ∧ xs.length ≤ 1000 ∧ ∀ H' p, Same H H' → H' p = some (.tup (List.replicate k.toNat xs).flatten) → Q (.ref p) H'
section
variable {X : Cx}
theorem sl_tup : SlR X rTSl := by
  intro pins s σ H x v vl vu lo hi sl Q I rx hs pl pu h
  obtain ⟨a, xs, rfl, hx, q⟩ := h
  refine sl_tupA pins s σ H _ v vl vu lo hi sl Q I rx hs pl pu ⟨a, xs, rfl, .of hx, fun w => ?_, fun _ p np => q _ _ (same_new np) upd_same⟩
  refine q H a (Same.refl H) ?_
  rw [cutV_whole w.1 w.2]
  exact hx
theorem op_tcat : OpR X (binaryOp .Add) rTCat := by
  intro pins s σ H x y v u Q I rx ry h
  obtain ⟨a, b, xs, ys, rfl, rfl, ha, hb, hl, q⟩ := h
  refine op_catA pins s σ H _ _ v u Q I rx ry ⟨a, b, xs, ys, rfl, rfl, .of ha, .of hb, Nat.le_trans hl (by decide), fun e => ?_, fun _ e => ?_, fun _ _ p np => q _ _ (same_new np) upd_same⟩
  · refine q H b (Same.refl H) ?_
    rw [e, List.nil_append]
    exact hb
  · refine q H a (Same.refl H) ?_
    rw [e, List.append_nil]
    exact ha
theorem op_trep : OpR X (binaryOp .Mult) rTRep := by
  intro pins s σ H x y v u Q I rx ry h
  obtain ⟨a, k, xs, rfl, rfl, ha, hne, h1, h2, hz, q⟩ := h
  refine op_repA pins s σ H _ _ v u Q I rx ry ⟨a, k, xs, rfl, rfl, .of ha, hne, h1, h2, hz, fun e => ?_, fun _ p np => q _ _ (same_new np) upd_same⟩
  refine q H a (Same.refl H) ?_
  rw [e]
  show H a = some (HO.tup (List.replicate 1 xs).flatten)
  simpa using ha
end
/-! ### zip of tuples, walked -/
theorem walk_zipT {K : PySem.W.Frag} {a b : Addr} {xs ys : List V} {n : Nat} (hn : n = min xs.length ys.length) : Walk (RZ.ItzT K a b) n (fun H => SqT K H a xs ∧ SqT K H b ys) (YPair (fun i => xs[i]?) (fun i => ys[i]?)) := by
  subst hn
  refine ⟨fun i _ hi q => ?_, fun _ q => ⟨xs, ys, q.1, q.2, by omega⟩, fun i H v H' _ q y => ?_⟩
  · exact ⟨xs, ys, xs[i], ys[i], q.1, q.2, List.getElem?_eq_getElem (by omega), List.getElem?_eq_getElem (by omega)⟩
  · obtain ⟨T, x, z, h1, h2, h3, h4, h5⟩ := y
    exact ⟨T, x, z, h1, h2, h3, h4 xs q.1, h5 ys q.2⟩
/-! ### a statement, an expression that is never met -/
theorem ps_never {X : Cx} {st : Stmt} : PS X st (fun _ _ _ => False) := ⟨fun _ _ _ _ _ _ h => h.elim⟩
theorem pe_never {X : Cx} {e : Expr} : PE X e (fun _ _ _ => False) := ⟨fun _ _ _ _ _ _ h => h.elim⟩
/-! ### locks -/
theorem gw_lock {M : Addr → Prop} {H H' : Hp} {d : Addr} {u : HO} {od : Obj} (hd : H d = some u) (g : Gw M (upd H d (.frz od u)) H') : Gw M H (upd H' d u) := fun b o n e => by
  by_cases hb : b = d
  · rw [hb] at e ⊢
    rw [upd_same, ← hd]
    exact e
  · rw [upd_ne hb]
    exact g b o n (by rw [upd_ne hb]; exact e)
theorem same_lock {H H' : Hp} {d : Addr} {u : HO} {od : Obj} (hd : H d = some u) (g : Same (upd H d (.frz od u)) H') : Same H (upd H' d u) := Gw.toSame (gw_lock (M := No) hd (Gw.same g))
end Ow

set_option Elab.async false
set_option linter.all false
set_option maxRecDepth 100000
set_option maxHeartbeats 4000000
namespace Ow
open PySem PySem.Spec PyProof.Rows L2
/-- the inner walk of a comprehension of two clauses -/
def Inner (te : TE) (g1 : TG) (vs1 : List Nat) (D : Addr) (After : Hp → Prop) (σ2 : L2.St) (J1 : It) (H4 : Hp) : Prop :=
  ∃ (n1 : Nat) (G1 : Hp → Prop) (Y1 : Nat → Hp → V → Hp → Prop) (Pv1 : Nat → Hp → Prop), Walk J1 n1 G1 Y1 ∧ Pv1 0 H4 ∧ (∀ j H, j ≤ n1 → Pv1 j H → G1 H) ∧ (∀ H, Pv1 n1 H → After H) ∧
    ∀ j x H H', j < n1 → Pv1 j H → Y1 j H x H' → g1 x (wipe σ2 vs1) H' fun σ3 H5 => wipe σ3 vs1 = wipe σ2 vs1 ∧ te σ3 H5 fun y H7 => ∃ acc, H7 D = some (.lst acc) ∧ acc.length < sizeLine ∧ Pv1 (j + 1) (upd H7 D (.lst (acc ++ [y])))
theorem lc2_it {J : It} {n : Nat} {G : Hp → Prop} {Y : Nat → Hp → V → Hp → Prop} (w : Walk J n G Y) {g g1 : TG} {wi1 : TI} {te : TE} {vs vs1 : List Nat} {σ : L2.St} {H1 : Hp} {D : Addr} {Qd : Hp → Prop} (Pv : Nat → Hp → Prop)
    (h0 : Pv 0 (upd H1 D (.lst []))) (hG : ∀ i H, i ≤ n → Pv i H → G H)
    (hs : ∀ i x H H' (Kg : L2.St → Hp → Prop), i < n → Pv i H → Y i H x H' → (∀ σ2 H2, wipe σ2 vs = wipe σ vs → (∀ Ki : It → Hp → Prop, (∀ J1 H4, Inner te g1 vs1 D (Pv (i + 1)) σ2 J1 H4 → Ki J1 H4) → wi1 σ2 H2 Ki) → Kg σ2 H2) → g x (wipe σ vs) H' Kg)
    (hd : ∀ H, Pv n H → Qd H) :
    ∃ W : Nat → Nat → Hp → Prop, (∃ m, W 0 m (upd H1 D (.lst []))) ∧ ∀ i m H, W i m H →
      (J.stop i H ∧ Qd H) ∨ (J.go i H ∧ ∃ Nx : Hp → Prop, (∀ H', Nx H' → ∃ m', m' < m ∧ W (i + 1) m' H') ∧ ∀ x H', J.yld i H x H' → g x (wipe σ vs) H' fun σ2 H2 => wipe σ2 vs = wipe σ vs ∧ tYes σ2 H2 fun b H3 =>
        if b = true then wi1 σ2 H3 fun J1 H4 => ∃ W1 : Nat → Nat → Hp → Prop, (∃ m, W1 0 m H4) ∧ ∀ j k H, W1 j k H →
          (J1.stop j H ∧ Nx H) ∨ (J1.go j H ∧ ∃ Nx1 : Hp → Prop, (∀ H', Nx1 H' → ∃ k', k' < k ∧ W1 (j + 1) k' H') ∧ ∀ x H', J1.yld j H x H' → g1 x (wipe σ2 vs1) H' fun σ3 H5 => wipe σ3 vs1 = wipe σ2 vs1 ∧ tYes σ3 H5 fun b H6 =>
            if b = true then te σ3 H6 fun y H7 => ∃ acc, H7 D = some (.lst acc) ∧ acc.length < sizeLine ∧ Nx1 (upd H7 D (.lst (acc ++ [y]))) else Nx1 H6)
        else Nx H3) := by
  refine ⟨fun i m H => m = n - i ∧ i ≤ n ∧ Pv i H, ⟨n, by simp, Nat.zero_le _, h0⟩, ?_⟩
  rintro i m H ⟨rfl, hi, p⟩
  have q := hG i H hi p
  by_cases hlt : i < n
  · refine .inr ⟨w.goes i H hlt q, Pv (i + 1), fun H' p' => ⟨n - (i + 1), by omega, rfl, hlt, p'⟩, fun x H' y => hs i x H H' _ hlt p (w.yields i H x H' hlt q y) fun σ2 H2 hw hwi => ⟨hw, ?_⟩⟩
    refine hwi _ fun J1 H4 hin => ?_
    obtain ⟨n1, G1, Y1, Pv1, w1, s1, g1', a1, t1⟩ := hin
    refine ⟨fun j k H => k = n1 - j ∧ j ≤ n1 ∧ Pv1 j H, ⟨n1, by simp, Nat.zero_le _, s1⟩, ?_⟩
    rintro j k H ⟨rfl, hj, p1⟩
    have q1 := g1' j H hj p1
    by_cases hl1 : j < n1
    · exact .inr ⟨w1.goes j H hl1 q1, Pv1 (j + 1), fun H' p' => ⟨n1 - (j + 1), by omega, rfl, hl1, p'⟩, fun x H' y => t1 j x H H' hl1 p1 (w1.yields j H x H' hl1 q1 y)⟩
    · have e : j = n1 := by omega
      subst e
      exact .inl ⟨w1.stops H q1, a1 H p1⟩
  · have e : i = n := by omega
    subst e
    exact .inl ⟨w.stops H q, hd H p⟩
/-! ### rows of bits -/
def rowsN : Nat → List (List Int)
  | 0 => [[]]
  | n + 1 => (rowsN n).flatMap fun r => [r ++ [0], r ++ [1]]
theorem rowsN_len : ∀ n, (rowsN n).length = 2 ^ n
  | 0 => rfl
  | n + 1 => by
    have h : ∀ l : List (List Int), (l.flatMap fun r => [r ++ [0], r ++ [1]]).length = 2 * l.length := fun l => by
      induction l with
      | nil => rfl
      | cons a l ih => simp only [List.flatMap_cons, List.length_append, ih, List.length_cons, List.length_nil]; omega
    show ((rowsN n).flatMap _).length = _
    rw [h, rowsN_len n, Nat.pow_succ]
    omega
/-- the rows made of the first i ones -/
def grown (rs : List (List Int)) (i : Nat) : List (List Int) := (rs.take i).flatMap fun r => [r ++ [0], r ++ [1]]
theorem grown_next {rs : List (List Int)} {i : Nat} {r : List Int} (h : rs[i]? = some r) : grown rs (i + 1) = grown rs i ++ [r ++ [0], r ++ [1]] := by
  unfold grown
  rw [List.take_add_one, h, List.flatMap_append]
  show _ ++ (([r].flatMap _)) = _
  simp
theorem grown_all {rs : List (List Int)} {n : Nat} (h : n = rs.length) : grown rs n = rs.flatMap fun r => [r ++ [0], r ++ [1]] := by
  unfold grown
  rw [h, List.take_length]
theorem grown_len (rs : List (List Int)) (i : Nat) : (grown rs i).length ≤ 2 * rs.length := by
  unfold grown
  have h : ∀ l : List (List Int), (l.flatMap fun r => [r ++ [0], r ++ [1]]).length = 2 * l.length := fun l => by
    induction l with
    | nil => rfl
    | cons a l ih => simp only [List.flatMap_cons, List.length_append, ih, List.length_cons, List.length_nil]; omega
  rw [h, List.length_take]
  omega
end Ow

set_option Elab.async false
set_option linter.all false
set_option maxRecDepth 100000
set_option maxHeartbeats 4000000
set_option exponentiation.threshold 3000
namespace Ow
open PySem PySem.Spec PyProof.Rows L2
theorem scHasValues : FnScope ["value", "many"] ["value", "many"] (defScope dHasValues) := ⟨rfl, rfl, rfl, by decide +kernel, rfl, by decide +kernel, by decide +kernel⟩
theorem scAllValues : FnScope ["many", "found", "_", "values", "value"] ["many"] (defScope dAllValues) := ⟨rfl, rfl, rfl, by decide +kernel, rfl, by decide +kernel, by decide +kernel⟩
theorem scAllRows : FnScope ["size", "found", "turn", "longer", "row"] ["size"] (defScope dAllRows) := ⟨rfl, rfl, rfl, by decide +kernel, rfl, by decide +kernel, by decide +kernel⟩
def bitsB (ns : List Int) : Bool := ns.all fun n => decide (n = 0) || decide (n = 1)
theorem bits_row {H : Hp} {a : Addr} {ns : List Int} (h : H a = some (.tup (ns.map V.int))) : rowB H (.ref a) = bitsB ns := by
  unfold rowB bitsB
  simp only [h, List.all_map]
  congr 1
  funext n
  show (decide (V.int n = V.int 0) || decide (V.int n = V.int 1)) = _
  simp
theorem vl_ints {H : Hp} {a : Addr} {ns : List Int} (h : H a = some (.tup (ns.map V.int))) (hl : ns.length ≤ 60) (hs : ∀ n ∈ ns, n.natAbs < 2 ^ 400) : Vl (a + 1) H (.ref a) :=
  .inr ⟨a, rfl, Nat.ne_of_lt (Nat.lt_succ_self a), .inl ⟨_, h, by rw [List.length_map]; exact hl, fun x hx => by
    obtain ⟨n, hn, rfl⟩ := List.mem_map.mp hx
    exact .inl (hs n hn)⟩⟩
section
variable {P : Program} {w : World} {K : PySem.W.Frag} {mg : Str → Option Value} {base : Heap}
def spHV : Sp := fun vs H Q _ => ∃ (a : Addr) (ns : List Int) (m : Int), vs = [.ref a, .int m] ∧ H a = some (.tup (ns.map V.int)) ∧ ns.length ≤ 60 ∧ (∀ n ∈ ns, n.natAbs < 2 ^ 400) ∧
  ∀ H', Same H H' → Q (.bl (bitsB ns && decide ((ns.length : Int) = m))) H'
theorem ok_hasvalues {f fV : Addr} {fd fdV : FuncData} (F : Fun K "has_values" "has_values" dHasValues f fd) (FV : FnOk P w K mg base CX0 3 fV fdV ["value"] (spB rowB))
    (kV : PySem.W.keepIn K (.ref fV) = true) (bV : Binds K fdV ["value"] []) (gV : mg "is_values" = some (.ref fV)) (ml : mg "len" = none) : FnOk P w K mg base CX0 4 f fd ["value", "many"] spHV := by
  refine F.ok scHasValues (fun vs H Q E h => ?_) (fun cdv A outer s H vs Q E hr h => ?_)
  · obtain ⟨a, ns, m, rfl, _⟩ := h
    rfl
  obtain ⟨a, ns, m, rfl, ha, hl, hs, q⟩ := h
  refine ⟨_, pss_one (ps_ret (pe_and (pe_call FV hr (by rfl) gV kV bV .nil pass0 (pa_cons (pv 0) pa_nil)) (pe_one (pe_cmpR op_eq (pe_callB call_len_seq (by rfl) ml PySem.boot_len (pa_cons (pv 0) pa_nil)) (pv 1) (nomark _))))), ?_⟩
  refine ⟨.ref a, rfl, .ref a, a + 1, rfl, vl_ints ha hl hs, fun H1 sm => ⟨_, rfl, ?_⟩⟩
  rw [bits_row ha]
  cases hb : bitsB ns with
  | true =>
    refine iteT ⟨.ref a, rfl, a, _, rfl, .inr (.of (sm _ _ ha)), .int m, rfl, rfl, ?_⟩
    have := q H1 sm
    rw [hb, Bool.true_and] at this
    rw [List.length_map]
    have e : decide (V.int (ns.length : Int) = V.int m) = decide ((ns.length : Int) = m) := by simp
    rw [e]
    exact this
  | false =>
    refine iteF ?_
    have := q H1 sm
    rw [hb, Bool.false_and] at this
    exact this
/-- all rows of so many bits, a new list of them -/
def spRowsL : Sp := fun vs H Q _ => ∃ n : Nat, vs = [.int n] ∧ n ≤ 6 ∧ ∀ H' p xs, Same H H' → H p = none → H' p = some (.lst xs) → All2 (IsRow H') xs (rowsN n) → Q (.ref p) H'
theorem pow6 {n : Nat} (h : n ≤ 6) : 2 ^ n ≤ 64 := Nat.pow_le_pow_right (by decide) h
theorem ok_allrows {f : Addr} {fd : FuncData} (F : Fun K "_law_all_rows" "_law_all_rows" dAllRows f fd) (mr : mg "range" = none) (mls : mg "list" = none) : FnOk P w K mg base CX0 1 f fd ["size"] spRowsL := by
  refine F.ok scAllRows (fun vs H Q E h => ?_) (fun cdv A outer s H vs Q E hr h => ?_)
  · obtain ⟨n, rfl, _⟩ := h
    rfl
  obtain ⟨n, rfl, hn, q⟩ := h
  refine ⟨_, pss_cons (ps_set (i := 1) scAllRows.nd rfl (.inl rfl) (pe_lst (pa_cons (pe_tup pa_nil) pa_nil)))
    (pss_cons (ps_for PassesOwn.never rfl (pi_range1 (by rfl) mr (pa_cons (pv 0) pa_nil)) (pg_name (i := 2) scAllRows.nd rfl (.inl rfl))
      (pss_cons (ps_set (i := 3) scAllRows.nd rfl (.inl rfl) (pe_lst pa_nil))
      (pss_cons (ps_for PassesOwn.never rfl (pi_list (pe_callTy call_list_of (by rfl) mls (by decide +kernel) (pa_cons (pv 1) pa_nil))) (pg_name (i := 4) scAllRows.nd rfl (.inl rfl))
        (pss_one (ps_expr (pe_bm PySem.F.plainAttrs_list PySem.F.slot_list_extend PySem.F.type_list_extend mt_extend (pv 3) (pa_cons
          (pe_lst (pa_cons (pe_op op_tcat (pv 4) (pe_tup (pa_cons pe_int pa_nil))) (pa_cons (pe_op op_tcat (pv 4) (pe_tup (pa_cons pe_int pa_nil))) pa_nil))) pa_nil)))))
      (pss_one (ps_set (i := 1) scAllRows.nd rfl (.inl rfl) (pv 3))))))
    (pss_one (ps_ret (pv 1)))), ?_⟩
  refine ⟨Nat.zero_le _, fun p1 n1 => ⟨(by show 1 ≤ sizeLine; decide), fun p2 n2 => ⟨.int n, rfl, n, rfl, by omega, by omega, ?_⟩⟩⟩
  have e2 : upd (upd H p1 (.tup [])) p2 (.lst [.ref p1]) p1 = some (.tup []) := by
    rw [upd_ne (ne_of_none upd_same n2)]
    exact upd_same
  have s2 : Same H (upd (upd H p1 (.tup [])) p2 (.lst [.ref p1])) := (same_new n1).trans (same_new n2)
  have n2' : H p2 = none := by
    by_cases h : p2 = p1
    · rw [h]; exact n1
    · rw [upd_ne h] at n2; exact n2
  refine for_range (lo := 0) (n := n) (fun i σ Hx => ∃ L xs y2 y3 y4, σ = [some (.int n), some (.ref L), y2, y3, y4] ∧ Same H Hx ∧ H L = none ∧ Hx L = some (.lst xs) ∧ All2 (IsRow Hx) xs (rowsN i))
    ⟨p2, [.ref p1], none, none, none, rfl, s2, n2', upd_same, .cons ⟨p1, rfl, e2⟩ .nil⟩ (fun i σ Hx hi hP => ?_) (fun σ Hx hP => ?_)
  · obtain ⟨L, xs, y2, y3, y4, rfl, sx, nL, eL, ax⟩ := hP
    have lx := ax.len
    rw [rowsN_len] at lx
    have p6 := pow6 (show i ≤ 6 by omega)
    refine ⟨Nat.zero_le _, fun p3 n3 => ⟨.ref L, rfl, L, xs, rfl, .inl (.of ?_), fun M nM => ?_⟩⟩
    · rw [upd_ne (ne_of_none eL n3)]
      exact eL
    have eM : upd (upd Hx p3 (.lst [])) M (.lst xs) M = some (.lst xs) := upd_same
    have n3M : p3 ≠ M := ne_of_none upd_same nM
    have sM : Same Hx (upd (upd Hx p3 (.lst [])) M (.lst xs)) := (same_new n3).trans (same_new nM)
    refine ⟨M, rfl, ⟨xs, .of eM⟩, ?_⟩
    refine for_list (K := K) (xs := xs) (fun j σ Hy => ∃ zs y4, σ = [some (.int n), some (.ref L), some (.int (0 + (i : Int))), some (.ref p3), y4] ∧ Same Hx Hy ∧ Hy M = some (.lst xs) ∧ Hy p3 = some (.lst zs) ∧ All2 (IsRow Hy) zs (grown (rowsN i) j))
      ⟨[], y4, rfl, sM, eM, ?_, .nil⟩ (fun j σ Hy _ hQ => ?_) (fun j x σ Hy hx hQ => ?_) (fun σ Hy hQ => ?_)
    · rw [upd_ne n3M]
      exact upd_same
    · obtain ⟨zs, y4, rfl, sy, em, e3, az⟩ := hQ
      exact .of em
    · obtain ⟨zs, y4, rfl, sy, em, e3, az⟩ := hQ
      obtain ⟨r, hr, ⟨a, rfl, ha⟩⟩ := ax.get hx
      have ha' : Hy a = some (.tup (r.map V.int)) := sy _ _ ha
      have lr : r.length ≤ 6 := by
        have : ∀ m, ∀ r ∈ rowsN m, r.length = m := fun m => by
          induction m with
          | zero => intro r hr; rw [List.mem_singleton.mp hr]; rfl
          | succ m ih =>
            intro r hr
            obtain ⟨q, hq, hr⟩ := List.mem_flatMap.mp hr
            have := ih q hq
            simp only [List.mem_cons, List.not_mem_nil, or_false] at hr
            rcases hr with rfl | rfl <;> rw [List.length_append, this] <;> rfl
        have := this i r (List.mem_of_getElem? hr)
        omega
      have lz := az.len
      have gl := grown_len (rowsN i) j
      rw [rowsN_len] at gl
      refine ⟨.ref p3, rfl, .inl ⟨rfl, _, .of e3⟩, .ref a, rfl, (by show 1 ≤ sizeLine; decide), fun t1 m1 => ?_⟩
      refine ⟨a, t1, r.map V.int, _, rfl, rfl, ?_, upd_same, ?_, fun H2 q1 s2 h1 => ?_⟩
      · rw [upd_ne (ne_of_none ha' m1)]
        exact ha'
      · rw [List.length_map]
        show r.length + 1 ≤ 5000
        omega
      have sa2 : Same Hy H2 := (same_new m1).trans s2
      refine ⟨.ref a, rfl, (by show 1 ≤ sizeLine; decide), fun t2 m2 => ?_⟩
      refine ⟨a, t2, r.map V.int, _, rfl, rfl, ?_, upd_same, ?_, fun H3 q2 s3 h2 => ?_⟩
      · rw [upd_ne (ne_of_none (sa2 _ _ ha') m2)]
        exact sa2 _ _ ha'
      · rw [List.length_map]
        show r.length + 1 ≤ 5000
        omega
      have sa3 : Same H2 H3 := (same_new m2).trans s3
      refine ⟨(by show 2 ≤ sizeLine; decide), fun b nb => ?_⟩
      have sb : Same H3 (upd H3 b (.lst [.ref q1, .ref q2])) := same_new nb
      have s4 : Same Hy (upd H3 b (.lst [.ref q1, .ref q2])) := (sa2.trans sa3).trans sb
      have e34 := s4 _ _ e3
      have nb3 : p3 ≠ b := ne_of_none (sa3 _ _ (sa2 _ _ e3)) nb
      refine ⟨p3, b, zs, [.ref q1, .ref q2], rfl, rfl, e34, upd_same, ?_, ?_⟩
      · show zs.length + 2 ≤ sizeLine
        exact Nat.le_of_lt (small60 (by omega))
      have t5 : Tk Hy (upd (upd H3 b (.lst [.ref q1, .ref q2])) p3 (.lst (zs ++ [.ref q1, .ref q2]))) := (Tk.same s4).trans (Tk.lst e34)
      have n3x : p3 ≠ M := n3M
      refine ⟨zs ++ [.ref q1, .ref q2], some (.ref a), rfl, fun c o ec => ?_, ?_, upd_same, ?_⟩
      · rw [upd_ne (ne_of_none ec n3)]
        exact s4 _ _ (sy _ _ ec)
      · rw [upd_ne n3M.symm]
        exact s4 _ _ em
      · rw [grown_next hr]
        refine (all_tk t5 az).app (.cons ?_ (.cons ?_ .nil))
        · refine ⟨q1, rfl, ?_⟩
          rw [upd_ne (ne_of e34 ((sa3.trans sb) _ _ h1) (by intro z; cases z)).symm]
          have := (sa3.trans sb) _ _ h1
          rw [List.map_append]
          exact this
        · refine ⟨q2, rfl, ?_⟩
          rw [upd_ne (ne_of e34 (sb _ _ h2) (by intro z; cases z)).symm]
          have := sb _ _ h2
          rw [List.map_append]
          exact this
    · obtain ⟨zs, y4, rfl, sy, em, e3, az⟩ := hQ
      refine ⟨.ref p3, rfl, ?_⟩
      refine ⟨p3, zs, _, _, y4, rfl, sx.trans sy, ?_, e3, ?_⟩
      · cases h : H p3 with
        | none => rfl
        | some o => rw [sx _ _ h] at n3; cases n3
      · rw [grown_all (by rw [lx, rowsN_len])] at az
        exact az
  · obtain ⟨L, xs, y2, y3, y4, rfl, sx, nL, eL, ax⟩ := hP
    exact ⟨.ref L, rfl, q Hx L xs sx nL eL ax⟩
end
end Ow

set_option Elab.async false
set_option linter.all false
set_option maxRecDepth 100000
set_option maxHeartbeats 4000000
namespace Ow
open PySem PySem.Spec PyProof.Rows L2
theorem rowsN_size : ∀ n, ∀ r ∈ rowsN n, r.length = n
  | 0, r, hr => by rw [List.mem_singleton.mp hr]; rfl
  | n + 1, r, hr => by
    obtain ⟨q, hq, hr⟩ := List.mem_flatMap.mp hr
    have := rowsN_size n q hq
    simp only [List.mem_cons, List.not_mem_nil, or_false] at hr
    rcases hr with rfl | rfl <;> rw [List.length_append, this] <;> rfl
theorem same_none {H H' : Hp} {p : Addr} (s : Same H H') (n : H' p = none) : H p = none := by
  cases h : H p with
  | none => rfl
  | some o => rw [s _ _ h] at n; cases n
theorem same_newer {H H' : Hp} {p : Addr} {o : HO} (s : Same H H') (n : H p = none) : Same H (upd H' p o) := fun b x e => by
  rw [upd_ne (ne_of_none e n)]
  exact s b x e
section
variable {P : Program} {w : World} {K : PySem.W.Frag} {mg : Str → Option Value} {base : Heap}
/-- all rows of so many bits, a tuple of them -/
def spRowsT : Sp := fun vs H Q _ => ∃ n : Nat, vs = [.int n] ∧ n ≤ 6 ∧ ∀ H' p xs, Same H H' → H' p = some (.tup xs) → All2 (IsRow H') xs (rowsN n) → Q (.ref p) H'
theorem ok_allvalues {f : Addr} {fd : FuncData} (F : Fun K "all_values" "all_values" dAllValues f fd) (mr : mg "range" = none) (mt : mg "tuple" = none) : FnOk P w K mg base CX0 1 f fd ["many"] spRowsT := by
  refine F.ok scAllValues (fun vs H Q E h => ?_) (fun cdv A outer s H vs Q E hr h => ?_)
  · obtain ⟨n, rfl, _⟩ := h
    rfl
  obtain ⟨n, rfl, hn, q⟩ := h
  refine ⟨_, pss_cons (ps_set (i := 1) scAllValues.nd rfl (.inl rfl) (pe_lst (pa_cons (pe_tup pa_nil) pa_nil)))
    (pss_cons (ps_for PassesOwn.never rfl (pi_range1 (by rfl) mr (pa_cons (pv 0) pa_nil)) (pg_name (i := 2) scAllValues.nd rfl (.inl rfl))
      (pss_one (ps_setLc2 (i := 1) (own := [("values", 3), ("value", 4)]) (vs1 := [4]) (g := gName 3) (g1 := gName 4) (tt := tYes) (tt1 := tYes) (wi1 := iTup K (tTup (tCons (tC (.int 0)) (tCons (tC (.int 1)) tNil))))
        (te := tTup (StX.tStar K (tVar 3) (tCons (tVar 4) tNil))) rfl scAllValues.nd rfl rfl (sw_true rfl rfl rfl (by decide +kernel)) (pi_list (pv 1)) (blkOk_by (N := ["many", "found", "_", "values", "value"]) (sc := defScope dAllValues) (by decide +kernel)) (by decide)
        (fun _ _ _ _ _ => pg_name (i := 3) scAllValues.nd rfl (Or.inl rfl)) (fun _ _ _ _ _ => pts_nil) (fun _ _ _ _ _ => pi_tup (pe_tup (pa_cons pe_int (pa_cons pe_int pa_nil)))) (fun _ _ _ _ _ => pg_name (i := 4) scAllValues.nd rfl (Or.inl rfl)) (fun _ _ _ _ _ => pts_nil)
        (fun _ _ _ _ _ => pe_tup (StX.pa_star (pv 3) (pa_cons (pv 4) pa_nil))))))
    (pss_one (ps_ret (pe_callTy call_tuple_of (by rfl) mt boot_tup (pa_cons (pv 1) pa_nil))))), ?_⟩
  refine ⟨Nat.zero_le _, fun p1 n1 => ⟨(by show 1 ≤ sizeLine; decide), fun p2 n2 => ⟨.int n, rfl, n, rfl, by omega, by omega, ?_⟩⟩⟩
  have e2 : upd (upd H p1 (.tup [])) p2 (.lst [.ref p1]) p1 = some (.tup []) := by
    rw [upd_ne (ne_of_none upd_same n2)]
    exact upd_same
  have s2 : Same H (upd (upd H p1 (.tup [])) p2 (.lst [.ref p1])) := (same_new n1).trans (same_new n2)
  refine for_range (lo := 0) (n := n) (fun i σ Hx => ∃ L xs y2 y3 y4, σ = [some (.int n), some (.ref L), y2, y3, y4] ∧ Same H Hx ∧ Hx L = some (.lst xs) ∧ All2 (IsRow Hx) xs (rowsN i))
    ⟨p2, [.ref p1], none, none, none, rfl, s2, upd_same, .cons ⟨p1, rfl, e2⟩ .nil⟩ (fun i σ Hx hi hP => ?_) (fun σ Hx hP => ?_)
  · obtain ⟨L, xs, y2, y3, y4, rfl, sx, eL, ax⟩ := hP
    have lx := ax.len
    rw [rowsN_len] at lx
    have p6 := pow6 (show i ≤ 6 by omega)
    refine ⟨.ref L, rfl, L, rfl, ⟨xs, .of eL⟩, fun D nD => ?_⟩
    refine lc2_it (walk_list (K := K) (a := L) (xs := xs)) (fun j Hy => Same Hx Hy ∧ ∃ zs, Hy D = some (.lst zs) ∧ All2 (IsRow Hy) zs (grown (rowsN i) j)) ⟨same_new nD, [], upd_same, .nil⟩ (fun j Hy _ hQ => .of (hQ.1 _ _ eL))
      (fun j x Hy Hy' Kg hj hQ hY hK => ?_) (fun Hy hQ => ?_)
    · obtain ⟨rfl, hx⟩ := hY
      obtain ⟨sy, zs, eD, az⟩ := hQ
      obtain ⟨r, hr, a, rfl, ha⟩ := ax.get hx
      have lr : r.length = i := rowsN_size i r (List.mem_of_getElem? hr)
      have lz := az.len
      have gl := grown_len (rowsN i) j
      rw [rowsN_len] at gl
      refine hK _ _ (by show ((((wipe _ [3, 4]).set 3 _).set 4 none).set 3 none) = _; rfl) fun Ki hKi => ?_
      refine ⟨(by show 2 ≤ sizeLine; decide), fun T nT => ⟨T, rfl, ⟨_, .of upd_same⟩, hKi _ _ ?_⟩⟩
      refine ⟨2, _, _, fun k Hz => Same Hx Hz ∧ Hz T = some (.tup [.int 0, .int 1]) ∧ ∃ zs, Hz D = some (.lst zs) ∧ All2 (IsRow Hz) zs (grown (rowsN i) j ++ [r ++ [0], r ++ [1]].take k), walk_tup (K := K) (a := T) (xs := [.int 0, .int 1]),
        ⟨sy.trans (same_new nT), upd_same, zs, ?_, ?_⟩, (fun k Hw _ h => .of h.2.1), (fun Hz h => ?_), fun k y Hz Hz' hk h hY2 => ?_⟩
      · rw [upd_ne (ne_of_none eD nT)]
        exact eD
      · rw [List.take_zero, List.append_nil]
        exact all_tk (Tk.new nT) az
      · obtain ⟨sz, eT, zs, eD', az'⟩ := h
        exact ⟨sz, zs, eD', by rw [grown_next hr]; exact az'⟩
      · obtain ⟨eHz, hy⟩ := hY2
        have eHz' := eHz.symm
        subst eHz'
        obtain ⟨sz, eT, zs', eD', az'⟩ := h
        obtain ⟨b, rfl, hb⟩ : ∃ b : Int, y = .int b ∧ [r ++ [0], r ++ [1]][k]? = some (r ++ [b]) := by
          match k, hk with
          | 0, _ => exact ⟨0, by simpa using hy.symm, rfl⟩
          | 1, _ => exact ⟨1, by simpa using hy.symm, rfl⟩
        have ha' : Hz a = some (.tup (r.map V.int)) := sz _ _ ha
        have lz' := az'.len
        rw [List.length_append, List.length_take] at lz'
        have l2 : ([r ++ [0], r ++ [1]] : List (List Int)).length = 2 := rfl
        refine ⟨rfl, .ref a, rfl, a, _, rfl, .inl (.of ha'), .int b, rfl, ?_, fun p np => ?_⟩
        · rw [List.length_append, List.length_map]
          exact Nat.le_of_lt (small60 (by show r.length + 1 ≤ 5000; omega))
        · have eD2 : upd Hz p (.tup (r.map V.int ++ [.int b])) D = some (.lst zs') := by
            rw [upd_ne (ne_of_none eD' np)]
            exact eD'
          refine ⟨zs', eD2, small60 (by omega), fun c o ec => ?_, ?_, zs' ++ [.ref p], upd_same, ?_⟩
          · rw [upd_ne (ne_of_none ec nD)]
            exact (sz.trans (same_new np)) _ _ ec
          · rw [upd_ne (ne_of eT eD' (by intro z; cases z)), upd_ne (ne_of_none eT np)]
            exact eT
          · have tk : Tk Hz (upd (upd Hz p (.tup (r.map V.int ++ [.int b]))) D (.lst (zs' ++ [.ref p]))) := (Tk.new np).trans (Tk.lst eD2)
            rw [List.take_add_one, hb, ← List.append_assoc]
            refine (all_tk tk az').app (.cons ⟨p, rfl, ?_⟩ .nil)
            rw [upd_ne (ne_of eD2 upd_same (by intro z; cases z)).symm, upd_same, List.map_append]
            rfl
    · obtain ⟨sy, zs, eD, az⟩ := hQ
      rw [grown_all (by rw [lx, rowsN_len])] at az
      exact ⟨D, zs, _, _, _, rfl, sx.trans sy, eD, az⟩
  · obtain ⟨L, xs, y2, y3, y4, rfl, sx, eL, ax⟩ := hP
    refine ⟨.ref L, rfl, L, xs, rfl, .inl ⟨.of eL, fun p np => q _ p xs (sx.trans (same_new np)) upd_same (all_tk (Tk.new np) ax)⟩⟩
end
end Ow

set_option Elab.async false
set_option linter.all false
set_option maxRecDepth 100000
set_option maxHeartbeats 4000000
namespace Ow
open PySem PySem.Spec PyProof.Rows L2
theorem scAsc : FnScope ["items", "one", "other"] ["items"] (defScope dAscending) := ⟨rfl, rfl, rfl, by decide +kernel, rfl, by decide +kernel, by decide +kernel⟩
theorem scSetNames : FnScope ["value", "item"] ["value"] (defScope dSetNames) := ⟨rfl, rfl, rfl, by decide +kernel, rfl, by decide +kernel, by decide +kernel⟩
theorem scIssues : FnScope ["value"] ["value"] (defScope dIssues) := ⟨rfl, rfl, rfl, by decide +kernel, rfl, by decide +kernel, by decide +kernel⟩
theorem scKeys : FnScope ["value", "key"] ["value"] (defScope dKeys) := ⟨rfl, rfl, rfl, by decide +kernel, rfl, by decide +kernel, by decide +kernel⟩
def ltS (a b : Str) : Bool := decide (a.cps.toList < b.cps.toList)
def ascB (zs : List Str) : Bool := ((zs.zip zs.tail).map fun p => ltS p.1 p.2).all id
theorem cut_tail (xs : List V) : cutV xs (some 1) none = xs.tail := by
  unfold cutV
  have e : HT.sIx xs.length 0 (some 1) = min 1 xs.length := by
    exact HT.sIx_nat xs.length 0 1
  rw [e]
  show (xs.drop (min 1 xs.length)).take (xs.length - min 1 xs.length) = xs.tail
  cases xs with
  | nil => rfl
  | cons x xs =>
    have : min 1 (x :: xs).length = 1 := by rw [List.length_cons]; omega
    rw [this, List.drop_one, List.tail_cons, List.take_of_length_le (by rw [List.length_cons]; omega)]
/-- the elements of a comprehension, known one by one, as a list -/
theorem list_eq {α : Type} {f : α → V} {ys : List V} {n : Nat} {zs : List α} (hl : ys.length = n) (hz : zs.length = n) (h : ∀ (i : Nat) y, ys[i]? = some y → ∃ z, zs[i]? = some z ∧ y = f z) : ys = zs.map f := by
  refine List.ext_getElem? fun i => ?_
  rw [List.getElem?_map]
  cases e : ys[i]? with
  | none =>
    have : zs[i]? = none := List.getElem?_eq_none (by have := List.getElem?_eq_none_iff.mp e; omega)
    rw [this]
    rfl
  | some y =>
    obtain ⟨z, hz, rfl⟩ := h i y e
    rw [hz]
    rfl
section
variable {P : Program} {w : World} {K : PySem.W.Frag} {mg : Str → Option Value} {base : Heap}
def spAsc : Sp := fun vs H Q _ => ∃ (a : Addr) (zs : List Str), vs = [.ref a] ∧ H a = some (.tup (zs.map V.str)) ∧ zs.length ≤ 100 ∧ ∀ H', Same H H' → Q (.bl (ascB zs)) H'
theorem ok_asc {f : Addr} {fd : FuncData} (F : Fun K "is_ascending" "is_ascending" dAscending f fd) (mz : mg "zip" = none) (ma : mg "all" = none) : FnOk P w K mg base CX0 1 f fd ["items"] spAsc := by
  refine F.ok scAsc (fun vs H Q E h => ?_) (fun cdv A outer s H vs Q E hr h => ?_)
  · obtain ⟨a, zs, rfl, _⟩ := h
    rfl
  obtain ⟨a, zs, rfl, ha, hl, q⟩ := h
  refine ⟨_, pss_one (ps_ret (pe_callB (cr_all rfl) (by rfl) ma boot_all (pa_cons
    (pe_lc (own := [("one", 1), ("other", 2)]) (g := gTup K 2 (gCons (gName 1) (gCons (gName 2) gNil))) (tt := tYes) rfl scAsc.nd
      (RZ.pi_zipA (by rfl) mz (pa_cons (pv 0) (pa_cons (pe_slice sl_tup (pv 0) (po_some pe_int) po_none) pa_nil)))
      (blkOk_by (N := ["items", "one", "other"]) (sc := defScope dAscending) (by decide +kernel))
      (fun _ _ _ _ _ => pg_tup rfl (pgs_cons (pg_name (i := 1) scAsc.nd rfl (Or.inl rfl)) (pgs_cons (pg_name (i := 2) scAsc.nd rfl (Or.inl rfl)) pgs_nil)))
      (fun _ _ _ _ _ => pts_nil) (fun _ _ _ _ _ => pe_cmpR op_lt_str (pv 1) (pv 2) (nomark _))) pa_nil))), ?_⟩
  refine ⟨.ref a, rfl, .ref a, rfl, 1, rfl, a, zs.map V.str, rfl, ha, fun H1 b s1 hb => ?_⟩
  rw [cut_tail, ← List.map_tail] at hb
  refine ⟨a, b, zs.map V.str, zs.tail.map V.str, rfl, .inr ⟨.of (s1 _ _ ha), .of hb, fun D nD => ?_⟩⟩
  refine lc_map (M := No) (walk_zipT (K := K) (a := a) (b := b) (xs := zs.map V.str) (ys := zs.tail.map V.str) rfl) (by rw [List.length_map, List.length_map, List.length_tail]; omega) Jg.no nD
    (fun i _ y => ∃ p, (zs.zip zs.tail)[i]? = some p ∧ y = .bl (ltS p.1 p.2)) (fun _ _ _ _ _ h => h) (fun Hx g _ => ⟨.of (g.toSame _ _ (s1 _ _ ha)), .of (g.toSame _ _ hb)⟩)
    (fun i x Hx Hx' Kk hi g _ hY hK => ?_) (fun Hx ys g _ eD hlen hp => ?_)
  · obtain ⟨T, x, y, rfl, nT, rfl, hx, hy⟩ := hY
    have hx : (zs.map V.str)[i]? = some x := hx
    have hy : (zs.tail.map V.str)[i]? = some y := hy
    rw [List.getElem?_map] at hx hy
    cases h1 : zs[i]? with
    | none => rw [h1] at hx; cases hx
    | some c =>
      cases h2 : zs.tail[i]? with
      | none => rw [h2] at hy; cases hy
      | some d =>
        rw [h1] at hx
        rw [h2] at hy
        cases hx
        cases hy
        refine ⟨T, [.str c, .str d], rfl, .of upd_same, rfl, _, _, rfl, _, _, rfl, rfl, rfl, .str c, rfl, .str d, rfl, c, d, rfl, rfl, hK _ _ (Gw.new nT) Jg.no ⟨(c, d), List.getElem?_zip_eq_some.mpr ⟨h1, h2⟩, rfl⟩⟩
  · have e : ys = ((zs.zip zs.tail).map fun p => ltS p.1 p.2).map V.bl := by
      rw [List.map_map]
      exact list_eq (f := V.bl ∘ fun p : Str × Str => ltS p.1 p.2) hlen (by rw [List.length_zip, List.length_map, List.length_map]) hp
    rw [e] at eD
    refine ⟨D, _, rfl, .of eD, q _ ?_⟩
    exact s1.trans g.toSame
end
end Ow

set_option Elab.async false
set_option linter.all false
set_option maxRecDepth 100000
set_option maxHeartbeats 4000000
namespace Ow
open PySem PySem.Spec PyProof.Rows L2
def namesB (zs : List Str) : Bool := (zs.all fun z => nameB (.str z)) && ascB zs
def issuesB (zs : List Str) : Bool := namesB zs && (decide (1 ≤ zs.length) && decide (zs.length ≤ 6))
/-- texts of plain signs -/
def Plain (zs : List Str) : Prop := ∀ z ∈ zs, z.length ≤ 4000 ∧ ∀ c ∈ z.cps.toList, c < 128
section
variable {P : Program} {w : World} {K : PySem.W.Frag} {mg : Str → Option Value} {base : Heap}
def spTexts (g : List Str → Bool) : Sp := fun vs H Q _ => ∃ (a : Addr) (zs : List Str), vs = [.ref a] ∧ H a = some (.tup (zs.map V.str)) ∧ zs.length ≤ 60 ∧ Plain zs ∧ ∀ H', Same H H' → Q (.bl (g zs)) H'
theorem ok_setnames {f fN fA : Addr} {fd fdN fdA : FuncData} (F : Fun K "is_set_of_names" "is_set_of_names" dSetNames f fd) (FN : FnOk P w K mg base CX0 1 fN fdN ["value"] (spB fun _ => nameB)) (kN : PySem.W.keepIn K (.ref fN) = true) (bN : Binds K fdN ["value"] []) (gN : mg "is_name" = some (.ref fN))
    (FA : FnOk P w K mg base CX0 1 fA fdA ["items"] spAsc) (kA : PySem.W.keepIn K (.ref fA) = true) (bA : Binds K fdA ["items"] []) (gA : mg "is_ascending" = some (.ref fA)) (mi : mg "isinstance" = none) (mt : mg "tuple" = none) (ma : mg "all" = none) :
    FnOk P w K mg base CX0 2 f fd ["value"] (spTexts namesB) := by
  refine F.ok scSetNames (fun vs H Q E h => ?_) (fun cdv A outer s H vs Q E hr h => ?_)
  · obtain ⟨a, zs, rfl, _⟩ := h
    rfl
  obtain ⟨a, zs, rfl, ha, hl, hp, q⟩ := h
  refine ⟨_, pss_one (ps_ret (pe_and (pe_isi (T := "tuple") (by rfl) mi (pv 0) (by rfl) mt boot_tup)
    (pe_and (pe_callB (cr_all rfl) (by rfl) ma boot_all (pa_cons
      (pe_lc (own := [("item", 1)]) (g := gName 1) (tt := tYes) rfl scSetNames.nd (pi_tup (pv 0)) (blkOk_by (N := ["value", "item"]) (sc := defScope dSetNames) (by decide +kernel))
        (fun _ _ _ _ _ => pg_name (i := 1) scSetNames.nd rfl (Or.inl rfl)) (fun _ _ _ _ _ => pts_nil)
        (fun _ _ _ _ _ => pe_call FN hr (by rfl) gN kN bN .nil pass0 (pa_cons (pv 1) pa_nil))) pa_nil))
      (pe_one (pe_call FA hr (by rfl) gA kA bA .nil pass0 (pa_cons (pv 0) pa_nil)))))), ?_⟩
  refine isi_at "tuple" rfl (.base (.tup ha)) (b := true) (by decide +kernel) ⟨true, rfl, iteT ?_⟩
  refine ⟨.ref a, rfl, a, rfl, ⟨_, .of ha⟩, fun D nD => ?_⟩
  refine lc_map (M := No) (walk_tup (K := K) (a := a) (xs := zs.map V.str)) (by rw [List.length_map]; omega) Jg.no nD (fun i _ y => ∃ z, zs[i]? = some z ∧ y = .bl (nameB (.str z))) (fun _ _ _ _ _ h => h) (fun Hx g _ => .of (g.toSame _ _ ha))
    (fun i x Hx Hx' Kk hi g _ hY hK => ?_) (fun Hx ys g _ eD hlen hq => ?_)
  · obtain ⟨rfl, hx⟩ := hY
    rw [List.getElem?_map] at hx
    cases h1 : zs[i]? with
    | none => rw [h1] at hx; cases hx
    | some c =>
      rw [h1] at hx
      cases hx
      have hc := hp c (List.mem_of_getElem? h1)
      refine ⟨rfl, .str c, rfl, .str c, 0, rfl, .inl hc, fun H2 s2 => hK _ _ (Gw.same s2) Jg.no ⟨c, h1, rfl⟩⟩
  · have e : ys = (zs.map fun z => nameB (.str z)).map V.bl := by
      rw [List.map_map]
      exact list_eq (f := V.bl ∘ fun z : Str => nameB (.str z)) hlen (by rw [List.length_map]) hq
    rw [e] at eD
    refine ⟨D, _, rfl, .of eD, _, rfl, ?_⟩
    have e2 : (zs.map fun z => nameB (.str z)).all id = zs.all fun z => nameB (.str z) := by rw [List.all_map]; rfl
    rw [e2]
    cases hb : zs.all fun z => nameB (.str z) with
    | true =>
      refine iteT ⟨.ref a, rfl, a, zs, rfl, g.toSame _ _ ha, by omega, fun H2 s2 => ?_⟩
      have := q H2 (g.toSame.trans s2)
      unfold namesB at this
      rw [hb, Bool.true_and] at this
      exact this
    | false =>
      refine iteF ?_
      have := q Hx g.toSame
      unfold namesB at this
      rw [hb, Bool.false_and] at this
      exact this
theorem ok_issues {f fS : Addr} {fd fdS : FuncData} {t : Tok} (F : Fun K "is_issues" "is_issues" dIssues f fd) (FS : FnOk P w K mg base CX0 2 fS fdS ["value"] (spTexts namesB)) (kS : PySem.W.keepIn K (.ref fS) = true) (bS : Binds K fdS ["value"] []) (gS : mg "is_set_of_names" = some (.ref fS))
    (ml : mg "len" = none) (mM : mg "MAX_ISSUES" = some (.int 6 t)) : FnOk P w K mg base CX0 3 f fd ["value"] (spTexts issuesB) := by
  refine F.ok scIssues (fun vs H Q E h => ?_) (fun cdv A outer s H vs Q E hr h => ?_)
  · obtain ⟨a, zs, rfl, _⟩ := h
    rfl
  obtain ⟨a, zs, rfl, ha, hl, hp, q⟩ := h
  refine ⟨_, pss_one (ps_ret (pe_and (pe_call FS hr (by rfl) gS kS bS .nil pass0 (pa_cons (pv 0) pa_nil))
    (pe_one (pe_chain op_le op_le pe_int (pe_callB call_len_seq (by rfl) ml PySem.boot_len (pa_cons (pv 0) pa_nil)) (pe_glob (v := .int 6) (by rfl) mM ⟨_, rfl⟩))))), ?_⟩
  refine ⟨.ref a, rfl, a, zs, rfl, ha, hl, hp, fun H1 s1 => ⟨_, rfl, ?_⟩⟩
  have fin : ∀ b, b = issuesB zs → Q (.bl b) H1 := fun b e => by rw [e]; exact q H1 s1
  cases hb : namesB zs with
  | true =>
    refine iteT ⟨.ref a, rfl, a, _, rfl, .inr (.of (s1 _ _ ha)), 1, _, rfl, rfl, _, rfl, ?_⟩
    rw [List.length_map]
    by_cases h1 : (1 : Int) ≤ (zs.length : Int)
    · rw [decide_eq_true h1]
      refine iteT ⟨_, _, rfl, rfl, fin _ ?_⟩
      unfold issuesB
      rw [hb, decide_eq_true (show 1 ≤ zs.length by omega), Bool.true_and, Bool.true_and]
      by_cases h6 : zs.length ≤ 6
      · rw [decide_eq_true h6, decide_eq_true (show (zs.length : Int) ≤ 6 by omega)]
      · rw [decide_eq_false h6, decide_eq_false (show ¬ (zs.length : Int) ≤ 6 by omega)]
    · rw [decide_eq_false h1]
      refine iteF (fin _ ?_)
      unfold issuesB
      rw [decide_eq_false (show ¬ 1 ≤ zs.length by omega), Bool.false_and, Bool.and_false]
  | false =>
    refine iteF (fin _ ?_)
    unfold issuesB
    rw [hb, Bool.false_and]
/-- a dict whose keys are texts -/
def TxtD (H : Hp) (d : Addr) (ks : List Str) : Prop := ∃ kvs : List (Key × V), H d = some (.dK kvs) ∧ kvs.map (·.1) = ks.map Sum.inr
def spKeys : Sp := fun vs H Q _ => ∃ (d : Addr) (ks : List Str), vs = [.ref d] ∧ TxtD H d ks ∧ ks.length < 60 ∧ Plain ks ∧ ∀ H' ys, Same H H' → ys.Perm ks → sortedS ys = true → Q (.bl (issuesB ys)) H'
theorem ok_keys {f fI : Addr} {fd fdI : FuncData} (F : Fun K "has_issues_as_keys" "has_issues_as_keys" dKeys f fd) (FI : FnOk P w K mg base CX0 3 fI fdI ["value"] (spTexts issuesB)) (kI : PySem.W.keepIn K (.ref fI) = true) (bI : Binds K fdI ["value"] []) (gI : mg "is_issues" = some (.ref fI))
    (mi : mg "isinstance" = none) (md : mg "dict" = none) (ms : mg "str" = none) (ma : mg "all" = none) (mt : mg "tuple" = none) (mo : mg "sorted" = none) : FnOk P w K mg base CX0 4 f fd ["value"] spKeys := by
  refine F.ok scKeys (fun vs H Q E h => ?_) (fun cdv A outer s H vs Q E hr h => ?_)
  · obtain ⟨d, ks, rfl, _⟩ := h
    rfl
  obtain ⟨d, ks, rfl, ⟨kvs, hd, hk⟩, hl, hp, q⟩ := h
  refine ⟨_, pss_cons (ps_if (PW.pt (pw_or (pt_not (pt_val (pe_isi (T := "dict") (by rfl) mi (pv 0) (by rfl) md (by decide +kernel))))
      (pw_or1 (pt_not (pt_val (pe_callB (cr_all rfl) (by rfl) ma boot_all (pa_cons (pe_lock
        (pe_lc (te := tCB (rIsi K) (tCons (tVar 1) (tCons (tC (.ty "str")) tNil))) (own := [("key", 1)]) (g := gName 1) (tt := tYes) rfl scKeys.nd (pi_keys (pv 0)) (blkOk_by (N := ["value", "key"]) (sc := defScope dKeys) (by decide +kernel))
          (fun _ _ _ _ _ => pg_name (i := 1) scKeys.nd rfl (Or.inl rfl)) (fun _ _ _ _ _ => pts_nil)
          (fun _ _ _ _ _ => pe_isi (T := "str") (by rfl) mi (pv 1) (by rfl) ms (by decide +kernel)))) pa_nil))))))) (pss_one (ps_ret pe_bl)) pss_nil)
    (pss_one (ps_ret (pe_call FI hr (by rfl) gI kI bI .nil pass0 (pa_cons (pe_callTy call_tuple_of (by rfl) mt boot_tup (pa_cons (pe_callB (call_sortedD rfl) (by rfl) mo (by decide +kernel) (pa_cons (pv 0) pa_nil)) pa_nil)) pa_nil)))), ?_⟩
  have lk : kvs.length = ks.length := by have := congrArg List.length hk; rw [List.length_map, List.length_map] at this; exact this
  refine isi_at "dict" rfl (.base (.dK hd)) (b := true) (by decide +kernel) ⟨true, rfl, iteF ?_⟩
  refine ⟨d, _, hd, ?_, fun od => ?_⟩
  · trivial
  have hf : upd H d (.frz od (.dK kvs)) d = some (.frz od (.dK kvs)) := upd_same
  refine ⟨.ref d, rfl, d, od, rfl, .inl ⟨kvs, hf, fun D nD => ?_⟩⟩
  refine lc_map (M := No) (walk_keys (d := d) (o := od) (kvs := kvs)) (by omega) Jg.no nD (fun i _ y => y = .bl true) (fun _ _ _ _ _ h => h) (fun Hx g _ => g.toSame _ _ hf)
    (fun i x Hx Hx' Kk hi g _ hY hK => ?_) (fun Hx ys g _ eD hlen hq => ?_)
  · obtain ⟨rfl, k, v, hx, rfl⟩ := hY
    have hkx : (kvs.map (·.1))[i]? = some k := by rw [List.getElem?_map, hx]; rfl
    rw [hk, List.getElem?_map] at hkx
    cases h1 : ks[i]? with
    | none => rw [h1] at hkx; cases hkx
    | some c =>
      rw [h1] at hkx
      cases hkx
      exact ⟨rfl, isi_at "str" rfl (.base (.str c)) (b := true) (by decide +kernel) (hK _ _ (Gw.refl _) Jg.no rfl)⟩
  · have e : ys = (List.replicate kvs.length true).map V.bl := list_eq (f := V.bl) hlen (by rw [List.length_replicate]) fun i y hy => by
      have hi : i < kvs.length := by have := (List.getElem?_eq_some_iff.mp hy).1; omega
      exact ⟨true, by rw [List.getElem?_replicate, if_pos hi], hq i y hy⟩
    rw [e] at eD
    have hdD : D ≠ d := (ne_of_none hf nD).symm
    refine ⟨g.toSame _ _ hf, D, _, rfl, .of (by rw [upd_ne hdD]; exact eD), true, ?_, iteF ?_⟩
    · have : (List.replicate kvs.length true).all id = true := by
        rw [List.all_eq_true]
        intro x hx
        exact (List.mem_replicate.mp hx).2
      rw [this]
    have s1 : Same H (upd Hx d (.dK kvs)) := same_lock hd g.toSame
    refine ⟨.ref d, rfl, d, kvs, ks, rfl, .inl upd_same, hk, by omega, fun zs p pm so np => ?_⟩
    refine ⟨p, _, rfl, .inl ⟨.of upd_same, fun l nl => ?_⟩⟩
    have lz : zs.length = ks.length := pm.length_eq
    refine ⟨l, zs, rfl, upd_same, by omega, fun z hz => hp z (pm.mem_iff.mp hz), fun H2 s2 => q H2 zs (s1.trans ((same_new np).trans ((same_new nl).trans s2))) pm so⟩
end
end Ow

set_option Elab.async false
set_option linter.all false
set_option maxRecDepth 100000
set_option maxHeartbeats 4000000
set_option exponentiation.threshold 3000
namespace Ow
open PySem PySem.Spec PyProof.Rows L2
theorem scNeedVoters : FnScope ["voters"] ["voters"] (defScope dNeedVoters) := ⟨rfl, rfl, rfl, by decide +kernel, rfl, by decide +kernel, by decide +kernel⟩
theorem scIsTable : FnScope ["value", "voters"] ["value", "voters"] (defScope dIsTable) := ⟨rfl, rfl, rfl, by decide +kernel, rfl, by decide +kernel, by decide +kernel⟩
theorem scAreTables : FnScope ["value", "voters", "table"] ["value", "voters"] (defScope dAreTables) := ⟨rfl, rfl, rfl, by decide +kernel, rfl, by decide +kernel, by decide +kernel⟩
theorem scFollow : FnScope ["voters", "voter", "values"] ["voters", "voter"] (defScope dFollow) := ⟨rfl, rfl, rfl, by decide +kernel, rfl, by decide +kernel, by decide +kernel⟩
theorem boot_any : bootBuiltins "any" = some (.builtin "any") := by decide +kernel
/-- a table for so many voters -/
structure GoodT (v : Nat) (ns : List Int) : Prop where
  len : ns.length = 2 ^ v
  bit : ∀ n ∈ ns, n = 0 ∨ n = 1
  fst : ns[0]? = some 0
  lst : ns[2 ^ v - 1]? = some 1
theorem GoodT.bits {v : Nat} {ns : List Int} (g : GoodT v ns) : bitsB ns = true := by
  unfold bitsB
  rw [List.all_eq_true]
  intro n hn
  rcases g.bit n hn with h | h <;> rw [h] <;> rfl
theorem GoodT.small {v : Nat} {ns : List Int} (g : GoodT v ns) : ∀ n ∈ ns, n.natAbs < 2 ^ 400 := fun n hn => by
  rcases g.bit n hn with h | h <;> rw [h] <;> decide
theorem pow4 {v : Nat} (h : v ≤ 4) : 2 ^ v ≤ 16 := Nat.pow_le_pow_right (by decide) h
theorem GoodT.le {v : Nat} {ns : List Int} (g : GoodT v ns) (h : v ≤ 4) : ns.length ≤ 16 := by rw [g.len]; exact pow4 h
theorem atI_neg1 {α : Type} {xs : List α} {v : α} (h : xs[xs.length - 1]? = some v) : atI xs (-1) = some v := by
  have hl := (List.getElem?_eq_some_iff.mp h).1
  unfold atI ixN
  rw [if_neg (by decide), if_pos (by omega)]
  show xs[((-1 : Int) + (xs.length : Int)).toNat]? = some v
  rw [show ((-1 : Int) + (xs.length : Int)).toNat = xs.length - 1 by omega]
  exact h
theorem shortB_small {n : Int} (h1 : 0 ≤ n) (h2 : n ≤ 100000) : shortB (.int n) = true := by
  have p : (100000 : Int) < 10 ^ 60 := by decide +kernel
  generalize hz : (10 : Int) ^ 60 = z at p
  show (decide (-((10 : Int) ^ 60) < n) && decide (n < (10 : Int) ^ 60)) = true
  rw [hz, decide_eq_true (show -z < n by omega), decide_eq_true (show n < z by omega)]
  rfl
/-- what one voter says -/
def followN (v i : Nat) : List Int := (rowsN v).map fun r => r.getD i 0
def hangsB (ns : List Int) (st : Nat) : Bool := (List.range ns.length).any fun i => !decide (ns.getD i 0 = ns.getD (i ^^^ st) 0)
theorem xor_lt {v k i : Nat} (hv : v ≤ 4) (hk : k < v) (hi : i < 2 ^ v) : i ^^^ 2 ^ k < 2 ^ v := Nat.xor_lt_two_pow hi (Nat.pow_lt_pow_right (by decide) hk)
section
variable {P : Program} {w : World} {K : PySem.W.Frag} {mg : Str → Option Value} {base : Heap}
def spNV : Sp := fun vs H Q _ => ∃ n : Nat, vs = [.int n] ∧ 1 ≤ n ∧ n ≤ 4 ∧ ∀ H', Same H H' → Q .non H'
theorem ok_needvoters {f fI : Addr} {fd fdI : FuncData} {t : Tok} (F : Fun K "need_voters" "need_voters" dNeedVoters f fd) (FI : FnOk P w K mg base CX0 1 fI fdI ["value"] (spB fun _ => shortB))
    (kI : PySem.W.keepIn K (.ref fI) = true) (bI : Binds K fdI ["value"] []) (gI : mg "is_integer" = some (.ref fI)) (mM : mg "MAX_VOTERS" = some (.int 4 t)) : FnOk P w K mg base CX0 2 f fd ["voters"] spNV := by
  refine F.ok scNeedVoters (fun vs H Q E h => ?_) (fun cdv A outer s H vs Q E hr h => ?_)
  · obtain ⟨n, rfl, _⟩ := h
    rfl
  obtain ⟨n, rfl, h1, h4, q⟩ := h
  refine ⟨_, pss_one (ps_if (PW.pt (pw_or (pt_not (pt_val (pe_call FI hr (by rfl) gI kI bI .nil pass0 (pa_cons (pv 0) pa_nil))))
      (pw_or1 (pt_not (pt_chain op_le op_le pe_int (pv 0) (pe_glob (v := .int 4) (by rfl) mM ⟨_, rfl⟩)))))) (pss_one ps_never) pss_nil), ?_⟩
  refine ⟨.int n, rfl, .int n, 0, rfl, .inl (by show (n : Int).natAbs < 2 ^ 400; exact Nat.lt_of_lt_of_le (by omega : (n : Int).natAbs < 2 ^ 3) (Nat.pow_le_pow_right (by decide) (by decide))), fun H1 s1 => ⟨true, ?_, iteF ?_⟩⟩
  · exact congrArg V.bl (shortB_small (Int.natCast_nonneg n) (by omega))
  refine ⟨.int n, rfl, 1, n, rfl, rfl, _, rfl, ?_⟩
  rw [decide_eq_true (show (1 : Int) ≤ (n : Int) by omega)]
  refine iteT ⟨_, _, rfl, rfl, _, rfl, ?_⟩
  rw [decide_eq_true (show (n : Int) ≤ 4 by omega)]
  exact iteF (q H1 s1)
def spIsT : Sp := fun vs H Q _ => ∃ (a : Addr) (v : Nat) (ns : List Int), vs = [.ref a, .int v] ∧ v ≤ 4 ∧ H a = some (.tup (ns.map V.int)) ∧ GoodT v ns ∧ ∀ H', Same H H' → Q (.bl true) H'
theorem ok_istable {f fH : Addr} {fd fdH : FuncData} (F : Fun K "_is_table" "_is_table" dIsTable f fd) (FH : FnOk P w K mg base CX0 4 fH fdH ["value", "many"] spHV)
    (kH : PySem.W.keepIn K (.ref fH) = true) (bH : Binds K fdH ["value", "many"] []) (gH : mg "has_values" = some (.ref fH)) : FnOk P w K mg base CX0 5 f fd ["value", "voters"] spIsT := by
  refine F.ok scIsTable (fun vs H Q E h => ?_) (fun cdv A outer s H vs Q E hr h => ?_)
  · obtain ⟨a, v, ns, rfl, _⟩ := h
    rfl
  obtain ⟨a, v, ns, rfl, hv, ha, g, q⟩ := h
  refine ⟨_, pss_one (ps_ret (pe_and (pe_call FH hr (by rfl) gH kH bH .nil pass0 (pa_cons (pv 0) (pa_cons (pe_op op_shlN pe_int (pv 1)) pa_nil)))
    (pe_and (pe_cmpR op_eq (pe_ix ix_tup (pv 0) pe_int (fun _ _ => rfl)) pe_int (nomark _))
      (pe_one (pe_cmpR op_eq (pe_ix ix_tup (pv 0) (pe_un un_neg pe_int) (fun _ _ => rfl)) pe_int (nomark _)))))), ?_⟩
  have hl := g.le hv
  have p16 := pow4 hv
  have pos : 0 < 2 ^ v := Nat.pow_pos (by decide)
  refine ⟨.ref a, rfl, .int v, rfl, 1, v, rfl, rfl, shl_ok (n := 1) (by decide) (by omega), a, ns, _, rfl, ha, by omega, g.small, fun H1 s1 => ⟨true, ?_, iteT ?_⟩⟩
  · rw [g.bits, Bool.true_and]
    have e : ((ns.length : Int) = 1 * 2 ^ v) := by
      rw [g.len, Int.one_mul]
      exact (Int.natCast_pow 2 v)
    rw [decide_eq_true e]
  have ha1 := s1 _ _ ha
  refine ⟨.ref a, rfl, a, _, 0, .int 0, rfl, rfl, .of ha1, atI_nat (j := 0) (by rw [List.getElem?_map, g.fst]; rfl), rfl, true, rfl, iteT ?_⟩
  refine ⟨.ref a, rfl, 1, rfl, a, _, -1, .int 1, rfl, rfl, .of ha1, atI_neg1 ?_, rfl, q H1 s1⟩
  rw [List.length_map, g.len, List.getElem?_map, g.lst]
  rfl
def spFollow : Sp := fun vs H Q _ => ∃ v i : Nat, vs = [.int v, .int i] ∧ v ≤ 4 ∧ i < v ∧ ∀ H' p, Same H H' → H' p = some (.tup ((followN v i).map V.int)) → Q (.ref p) H'
theorem ok_follow {f fA : Addr} {fd fdA : FuncData} (F : Fun K "_follow_table" "_follow_table" dFollow f fd) (FA : FnOk P w K mg base CX0 1 fA fdA ["many"] spRowsT)
    (kA : PySem.W.keepIn K (.ref fA) = true) (bA : Binds K fdA ["many"] []) (gA : mg "all_values" = some (.ref fA)) (mt : mg "tuple" = none) : FnOk P w K mg base CX0 2 f fd ["voters", "voter"] spFollow := by
  refine F.ok scFollow (fun vs H Q E h => ?_) (fun cdv A outer s H vs Q E hr h => ?_)
  · obtain ⟨v, i, rfl, _⟩ := h
    rfl
  obtain ⟨v, i, rfl, hv, hi, q⟩ := h
  refine ⟨_, pss_one (ps_ret (pe_callTy call_tuple_of (by rfl) mt boot_tup (pa_cons
      (pe_lc (te := tOp (rIxT K) (tVar 2) (tVar 1)) (own := [("values", 2)]) (g := gName 2) (tt := tYes) rfl scFollow.nd (pi_tup (pe_call FA hr (by rfl) gA kA bA .nil pass0 (pa_cons (pv 0) pa_nil))) (blkOk_by (N := ["voters", "voter", "values"]) (sc := defScope dFollow) (by decide +kernel))
        (fun _ _ _ _ _ => pg_name (i := 2) scFollow.nd rfl (Or.inl rfl)) (fun _ _ _ _ _ => pts_nil)
        (fun _ _ _ _ _ => pe_ix ix_tup (pv 2) (pv 1) (fun _ _ => rfl))) pa_nil))), ?_⟩
  refine ⟨.int v, rfl, v, rfl, by omega, fun H1 p xs s1 hp ax => ⟨p, rfl, ⟨xs, .of hp⟩, fun D nD => ?_⟩⟩
  have lx := ax.len
  rw [rowsN_len] at lx
  have p16 := pow4 hv
  refine lc_map (M := No) (walk_tup (K := K) (a := p) (xs := xs)) (by omega) Jg.no nD (fun j _ y => ∃ r, (rowsN v)[j]? = some r ∧ y = .int (r.getD i 0)) (fun _ _ _ _ _ h => h) (fun Hx g _ => .of (g.toSame _ _ hp))
    (fun j x Hx Hx' Kk hj g _ hY hK => ?_) (fun Hx ys g _ eD hlen hq => ?_)
  · obtain ⟨rfl, hx⟩ := hY
    obtain ⟨r, hr, a, rfl, ha⟩ := ax.get hx
    have lr := rowsN_size v r (List.mem_of_getElem? hr)
    refine ⟨rfl, .ref a, rfl, .int i, rfl, a, _, i, .int (r.getD i 0), rfl, rfl, .of (g.toSame _ _ ha), atI_nat (j := i) ?_, hK _ _ (Gw.refl _) Jg.no ⟨r, hr, rfl⟩⟩
    rw [List.getElem?_map, List.getD_eq_getElem?_getD, List.getElem?_eq_getElem (by omega)]
    rfl
  · have e : ys = (followN v i).map V.int := by
      unfold followN
      rw [List.map_map]
      exact list_eq (f := V.int ∘ fun r : List Int => r.getD i 0) hlen (by rw [rowsN_len, lx]) hq
    rw [e] at eD
    refine ⟨D, _, rfl, .inl ⟨.of eD, fun q1 nq => q _ q1 (s1.trans (g.toSame.trans (same_new nq))) upd_same⟩⟩
end
end Ow

set_option Elab.async false
set_option linter.all false
set_option maxRecDepth 100000
set_option maxHeartbeats 4000000
set_option exponentiation.threshold 3000
namespace Ow
open PySem PySem.Spec PyProof.Rows L2
theorem scInit : FnScope ["self", "voters", "tables", "issue"] ["self", "voters", "tables"] (defScope dInit) := ⟨rfl, rfl, rfl, by decide +kernel, rfl, by decide +kernel, by decide +kernel⟩
theorem scGet : FnScope ["self", "issue"] ["self", "issue"] (defScope dGetitem) := ⟨rfl, rfl, rfl, by decide +kernel, rfl, by decide +kernel, by decide +kernel⟩
/-! ### tables by names -/
def TabR (H : Hp) (tab : Str → List Int) (p : Key × V) (z : Str) : Prop := p.1 = Sum.inr z ∧ IsRow H p.2 (tab z)
def TabD (H : Hp) (d : Addr) (ks : List Str) (tab : Str → List Int) : Prop := ∃ kvs : List (Key × V), H d = some (.dK kvs) ∧ All2 (TabR H tab) kvs ks
theorem TabR.tk {H H' : Hp} {tab : Str → List Int} {kvs : List (Key × V)} {ks : List Str} (t : Tk H H') (h : All2 (TabR H tab) kvs ks) : All2 (TabR H' tab) kvs ks := h.imp fun _ _ q => ⟨q.1, q.2.tk t⟩
theorem tab_keys {H : Hp} {tab : Str → List Int} {kvs : List (Key × V)} {ks : List Str} (h : All2 (TabR H tab) kvs ks) : kvs.map (·.1) = ks.map Sum.inr := by
  induction h with
  | nil => rfl
  | cons r _ ih => rw [List.map_cons, List.map_cons, ih, r.1]
theorem tab_get {H : Hp} {tab : Str → List Int} {kvs : List (Key × V)} {ks : List Str} (h : All2 (TabR H tab) kvs ks) {z : Str} (hz : z ∈ ks) : ∃ x, valV kvs (Sum.inr z) = some x ∧ IsRow H x (tab z) := by
  induction h with
  | nil => cases hz
  | @cons p y ps ys r _ ih =>
    by_cases e : p.1 = (Sum.inr z : Key)
    · have ey : y = z := by have := r.1.symm.trans e; exact Sum.inr.inj this
      exact ⟨p.2, valV_pos e, ey ▸ r.2⟩
    · rw [valV_neg e]
      rcases List.mem_cons.mp hz with rfl | hz
      · exact absurd r.1 e
      · exact ih hz
theorem tab_none {H : Hp} {tab : Str → List Int} {kvs : List (Key × V)} {ks : List Str} (h : All2 (TabR H tab) kvs ks) {z : Str} (hz : z ∉ ks) : valV kvs (Sum.inr z : Key) = none := by
  induction h with
  | nil => rfl
  | @cons p y ps ys r _ ih =>
    have e : ¬ p.1 = (Sum.inr z : Key) := fun e => hz (by have := Sum.inr.inj (r.1.symm.trans e); rw [this]; exact List.mem_cons_self)
    rw [valV_neg e]
    exact ih fun m => hz (List.mem_cons_of_mem _ m)
/-- a rule, made -/
def ruleF (v : Nat) (t d : Addr) : List (Str × V) := [("_voters", .int v), ("_issues", .ref t), ("_tables", .ref d)]
def RuleAt (C : Addr) (H : Hp) (a : Addr) (v : Nat) (ys : List Str) (tab : Str → List Int) : Prop :=
  ∃ dx t d, H a = some (.ins C dx (ruleF v t d)) ∧ H t = some (.tup (ys.map V.str)) ∧ TabD H d ys tab
theorem RuleAt.tk {C : Addr} {H H' : Hp} {a : Addr} {v : Nat} {ys : List Str} {tab : Str → List Int} (t : Tk H H') (h : RuleAt C H a v ys tab) : RuleAt C H' a v ys tab := by
  obtain ⟨dx, t0, d, h1, h2, kvs, h3, h4⟩ := h
  exact ⟨dx, t0, d, t _ _ (fun _ z => nomatch z) h1, t.tup h2, kvs, t _ _ (fun _ z => nomatch z) h3, TabR.tk t h4⟩
structure RuleC (K : PySem.W.Frag) (C : Addr) : Prop where
  cl : Cls K C
  nV : NoAttr K C "_voters"
  nI : NoAttr K C "_issues"
  nT : NoAttr K C "_tables"
theorem yes_of {σ : L2.St} {H : Hp} {A B : Hp → Prop} (h : A H) : tYes σ H (fun b H3 => if b = true then A H3 else B H3) := by
  show if true = true then A H else B H
  rw [if_pos rfl]
  exact h
theorem row_at {H : Hp} {x : V} {ns : List Int} {D : Addr} {k1 k2 : List (Key × V)} (r : IsRow H x ns) (h : H D = some (.dK k1)) : IsRow (upd H D (.dK k2)) x ns := by
  obtain ⟨b, e, hb⟩ := r
  exact ⟨b, e, by rw [upd_ne (ne_of hb h (by intro z; cases z))]; exact hb⟩
theorem row_ins {H : Hp} {x : V} {ns : List Int} {a C dx C' dx' : Addr} {f1 f2 : List (Str × V)} (r : IsRow H x ns) (h : H a = some (.ins C dx f1)) : IsRow (upd H a (.ins C' dx' f2)) x ns := by
  obtain ⟨b, e, hb⟩ := r
  exact ⟨b, e, by rw [upd_ne (ne_of hb h (by intro z; cases z))]; exact hb⟩
theorem nodup_take {ys : List Str} (h : ys.Nodup) {i : Nat} {z : Str} (e : ys[i]? = some z) : z ∉ ys.take i := by
  intro m
  obtain ⟨hi, e⟩ := List.getElem?_eq_some_iff.mp e
  obtain ⟨j, hj, ej⟩ := List.mem_take_iff_getElem.mp m
  exact List.pairwise_iff_getElem.mp h j i (by omega) hi (by omega) (ej.trans e.symm)
def AllOk (v : Nat) (ks : List Str) (tab : Str → List Int) : Prop := (∀ z ∈ ks, GoodT v (tab z)) ∧ ks.length < 60 ∧ ks.Nodup ∧ Plain ks ∧ ∀ ys, ys.Perm ks → sortedS ys = true → issuesB ys = true
section
variable {P : Program} {w : World} {K : PySem.W.Frag} {mg : Str → Option Value} {base : Heap} {C : Addr}
def spAre : Sp := fun vs H Q _ => ∃ (d : Addr) (v : Nat) (ks : List Str) (tab : Str → List Int), vs = [.ref d, .int v] ∧ v ≤ 4 ∧ TabD H d ks tab ∧ AllOk v ks tab ∧ ∀ H', Same H H' → Q (.bl true) H'
theorem ok_aretables {f fK fI : Addr} {fd fdK fdI : FuncData} (F : Fun K "_are_tables" "_are_tables" dAreTables f fd) (FK : FnOk P w K mg base CX0 4 fK fdK ["value"] spKeys)
    (kK : PySem.W.keepIn K (.ref fK) = true) (bK : Binds K fdK ["value"] []) (gK : mg "has_issues_as_keys" = some (.ref fK)) (FI : FnOk P w K mg base CX0 5 fI fdI ["value", "voters"] spIsT)
    (kI : PySem.W.keepIn K (.ref fI) = true) (bI : Binds K fdI ["value", "voters"] []) (gI : mg "_is_table" = some (.ref fI)) (ma : mg "all" = none) : FnOk P w K mg base CX0 6 f fd ["value", "voters"] spAre := by
  refine F.ok scAreTables (fun vs H Q E h => ?_) (fun cdv A outer s H vs Q E hr h => ?_)
  · obtain ⟨d, v, ks, tab, rfl, _⟩ := h
    rfl
  obtain ⟨d, v, ks, tab, rfl, hv, ⟨kvs, hd, hk⟩, ⟨g, hl, nd, hp, hi⟩, q⟩ := h
  refine ⟨_, pss_one (ps_ret (pe_and (pe_call FK (hr.mono (by decide)) (by rfl) gK kK bK .nil pass0 (pa_cons (pv 0) pa_nil))
    (pe_one (pe_callB (cr_all rfl) (by rfl) ma boot_all (pa_cons (pe_lock
      (pe_lc (te := tCall spIsT [] E0 (tCons (tVar 2) (tCons (tVar 1) tNil))) (own := [("table", 2)]) (g := gName 2) (tt := tYes) rfl scAreTables.nd (pi_values (pv 0)) (blkOk_by (N := ["value", "voters", "table"]) (sc := defScope dAreTables) (by decide +kernel))
        (fun _ _ _ _ _ => pg_name (i := 2) scAreTables.nd rfl (Or.inl rfl)) (fun _ _ _ _ _ => pts_nil)
        (fun _ _ _ _ _ => pe_call FI (hr.mono (by decide)) (by rfl) gI kI bI .nil pass0 (pa_cons (pv 2) (pa_cons (pv 1) pa_nil))))) pa_nil))))), ?_⟩
  have lk := hk.len
  refine ⟨.ref d, rfl, d, ks, rfl, ⟨kvs, hd, tab_keys hk⟩, hl, hp, fun H1 ys s1 pm so => ⟨true, congrArg V.bl (hi ys pm so), iteT ?_⟩⟩
  have hd1 := s1 _ _ hd
  refine ⟨d, _, hd1, trivial, fun od => ?_⟩
  have hf : upd H1 d (.frz od (.dK kvs)) d = some (.frz od (.dK kvs)) := upd_same
  refine ⟨.ref d, rfl, d, od, kvs, rfl, hf, fun D nD => ?_⟩
  refine lc_map (M := No) (walk_values (d := d) (o := od) (kvs := kvs)) (by omega) Jg.no nD (fun i _ y => y = .bl true) (fun _ _ _ _ _ h => h) (fun Hx g _ => g.toSame _ _ hf)
    (fun i x Hx Hx' Kk hi g1 _ hY hK => ?_) (fun Hx ys g _ eD hlen hq => ?_)
  · obtain ⟨rfl, k, hx⟩ := hY
    obtain ⟨z, hz, hz1, a, ea, ha⟩ := hk.get hx
    have ea' := ea.symm
    subst ea'
    have ha' : upd H1 d (.frz od (.dK kvs)) a = some (.tup ((tab z).map V.int)) := by
      rw [upd_ne (ne_of hd ha (by intro z; cases z)).symm]
      exact s1 _ _ ha
    exact ⟨rfl, .ref a, rfl, .int v, rfl, a, v, tab z, rfl, hv, g1.toSame _ _ ha', g z (List.mem_of_getElem? hz), fun H2 s2 => hK _ _ (Gw.same s2) Jg.no rfl⟩
  · have e : ys = (List.replicate kvs.length true).map V.bl := list_eq (f := V.bl) hlen (by rw [List.length_replicate]) fun i y hy => by
      have hi : i < kvs.length := by have := (List.getElem?_eq_some_iff.mp hy).1; omega
      exact ⟨true, by rw [List.getElem?_replicate, if_pos hi], hq i y hy⟩
    rw [e] at eD
    have hdD : D ≠ d := (ne_of_none hf nD).symm
    refine ⟨g.toSame _ _ hf, D, _, rfl, .of (by rw [upd_ne hdD]; exact eD), ?_⟩
    have e2 : (List.replicate kvs.length true).all id = true := by
      rw [List.all_eq_true]
      intro x hx
      exact (List.mem_replicate.mp hx).2
    rw [e2]
    exact q _ (s1.trans (same_lock hd1 g.toSame))
/-- Rule.__init__, for right tables -/
def spInit (C : Addr) : Sp := fun vs H Q _ => ∃ (a dx d : Addr) (v : Nat) (ks : List Str) (tab : Str → List Int), vs = [.ref a, .int v, .ref d] ∧ H a = some (.ins C dx []) ∧ 1 ≤ v ∧ v ≤ 4 ∧ TabD H d ks tab ∧ AllOk v ks tab ∧
  ∀ H' ys, Sb a H H' → ys.Perm ks → sortedS ys = true → RuleAt C H' a v ys tab → Q .non H'
theorem ok_init {f fN fA : Addr} {fd fdN fdA : FuncData} (R : RuleC K C) (F : Fun K "__init__" "Rule.__init__" dInit f fd) (FN : FnOk P w K mg base CX0 2 fN fdN ["voters"] spNV)
    (kN : PySem.W.keepIn K (.ref fN) = true) (bN : Binds K fdN ["voters"] []) (gN : mg "need_voters" = some (.ref fN)) (FA : FnOk P w K mg base CX0 6 fA fdA ["value", "voters"] spAre)
    (kA : PySem.W.keepIn K (.ref fA) = true) (bA : Binds K fdA ["value", "voters"] []) (gA : mg "_are_tables" = some (.ref fA)) (mt : mg "tuple" = none) (mo : mg "sorted" = none) : FnOk P w K mg base CX0 7 f fd ["self", "voters", "tables"] (spInit C) := by
  refine F.ok scInit (fun vs H Q E h => ?_) (fun cdv A outer s H vs Q E hr h => ?_)
  · obtain ⟨a, dx, d, v, ks, tab, rfl, _⟩ := h
    rfl
  obtain ⟨a, dx, d, v, ks, tab, rfl, ha, h1, h4, ⟨kvs, hd, hk⟩, ok, q⟩ := h
  refine ⟨_, pss_cons (ps_expr (pe_call FN (hr.mono (by decide)) (by rfl) gN kN bN .nil pass0 (pa_cons (pv 1) pa_nil)))
    (pss_cons (ps_if (pt_not (pt_val (pe_call FA (hr.mono (by decide)) (by rfl) gA kA bA .nil pass0 (pa_cons (pv 2) (pa_cons (pv 1) pa_nil))))) (pss_one ps_never) pss_nil)
    (pss_cons (ps_fld (pv 0) (pv 1) rfl)
    (pss_cons (ps_fld (pv 0) (pe_callTy call_tuple_of (by rfl) mt boot_tup (pa_cons (pe_callB (call_sortedD rfl) (by rfl) mo (by decide +kernel) (pa_cons (pv 2) pa_nil)) pa_nil)) rfl)
    (pss_one (ps_fld (pv 0) (pe_dc (own := [("issue", 3)]) (g := gName 3) (tt := tYes) (tk := tVar 3) (tv := tDGet (tVar 2) (tVar 3)) rfl scInit.nd (pi_tup (pe_fld (pv 0) rfl)) (blkOk_by (N := ["self", "voters", "tables", "issue"]) (sc := defScope dInit) (by decide +kernel))
      (fun _ _ _ _ _ => pg_name (i := 3) scInit.nd rfl (Or.inl rfl)) (fun _ _ _ _ _ => pts_nil) (fun _ _ _ _ _ => pv 3) (fun _ _ _ _ _ => pe_dget (hu_of hr) (pv 2) (pv 3) (fun _ _ => rfl))) rfl))))), ?_⟩
  obtain ⟨g, hl, nd, hp, hi⟩ := ok
  refine ⟨.int v, rfl, v, rfl, h1, h4, fun H1 s1 => ?_⟩
  refine ⟨.ref d, rfl, .int v, rfl, d, v, ks, tab, rfl, h4, ⟨kvs, s1 _ _ hd, TabR.tk (Tk.same s1) hk⟩, ⟨g, hl, nd, hp, hi⟩, fun H2 s2 => ⟨true, rfl, iteF ?_⟩⟩
  have s12 := s1.trans s2
  refine ⟨.int v, rfl, .ref a, rfl, a, C, dx, [], rfl, s12 _ _ ha, R.cl, R.nV, (by decide), ?_⟩
  have hda : d ≠ a := ne_of hd ha (by intro z; cases z)
  have hd3 : upd H2 a (.ins C dx (putF "_voters" (.int v) [])) d = some (.dK kvs) := by
    rw [upd_ne hda]
    exact s12 _ _ hd
  refine ⟨.ref d, rfl, d, kvs, ks, rfl, .inl hd3, tab_keys hk, by omega, fun ys p pm so np => ?_⟩
  have np' : upd H2 a (.ins C dx (putF "_voters" (.int v) [])) p = none := np
  refine ⟨p, _, rfl, .inl ⟨.of upd_same, fun l nl => ?_⟩⟩
  have b2 : Sb a H2 (upd H2 a (.ins C dx (putF "_voters" (.int v) []))) := Sb.at
  have eA : upd (upd (upd H2 a (.ins C dx (putF "_voters" (.int v) []))) p (.lst (ys.map V.str))) l (.tup (ys.map V.str)) a = some (.ins C dx [("_voters", .int v)]) := by
    rw [upd_ne (ne_of_none (by rw [upd_ne (ne_of_none upd_same np')]; exact upd_same) nl), upd_ne (ne_of_none upd_same np')]
    exact upd_same
  refine ⟨.ref a, rfl, a, C, dx, [("_voters", .int v)], rfl, eA, R.cl, R.nI, (by show 1 < 1000; decide), ?_⟩
  have nA : ∀ {b : Addr} {o : HO}, H2 b = some o → b ≠ a → upd (upd (upd H2 a (.ins C dx (putF "_voters" (.int v) []))) p (.lst (ys.map V.str))) l (.tup (ys.map V.str)) b = some o := fun {b o} e n => by
    have e1 : upd H2 a (.ins C dx (putF "_voters" (.int v) [])) b = some o := by
      rw [upd_ne n]
      exact e
    have e2 : upd (upd H2 a (.ins C dx (putF "_voters" (.int v) []))) p (.lst (ys.map V.str)) b = some o := by
      rw [upd_ne (ne_of_none e1 np')]
      exact e1
    rw [upd_ne (ne_of_none e2 nl)]
    exact e2
  have eL : upd (upd (upd H2 a (.ins C dx (putF "_voters" (.int v) []))) p (.lst (ys.map V.str))) l (.tup (ys.map V.str)) l = some (.tup (ys.map V.str)) := upd_same
  generalize upd (upd (upd H2 a (.ins C dx (putF "_voters" (.int v) []))) p (.lst (ys.map V.str))) l (.tup (ys.map V.str)) = H4 at eA nA eL ⊢
  have la : l ≠ a := ne_of eL eA (by intro z; cases z)
  have pf : putF "_issues" (.ref l) [("_voters", V.int v)] = ([("_voters", .int v), ("_issues", .ref l)] : List (Str × V)) := by
    unfold putF
    rw [if_neg (by decide)]
    rfl
  rw [pf]
  have nB : ∀ {b : Addr} {o : HO}, H2 b = some o → b ≠ a → upd H4 a (.ins C dx [("_voters", .int v), ("_issues", .ref l)]) b = some o := fun {b o} e n => by
    rw [upd_ne n]
    exact nA e n
  have eB : upd H4 a (.ins C dx [("_voters", .int v), ("_issues", .ref l)]) a = some (.ins C dx [("_voters", .int v), ("_issues", .ref l)]) := upd_same
  have lB : upd H4 a (.ins C dx [("_voters", .int v), ("_issues", .ref l)]) l = some (.tup (ys.map V.str)) := by
    rw [upd_ne la]
    exact eL
  generalize upd H4 a (.ins C dx [("_voters", .int v), ("_issues", .ref l)]) = H5 at eB nB lB ⊢
  have hdB := nB (s12 _ _ hd) hda
  have hkB : All2 (TabR H5 tab) kvs ks := hk.imp fun x y r => ⟨r.1, by
    obtain ⟨b, e, hb⟩ := r.2
    exact ⟨b, e, nB (s12 _ _ hb) (ne_of hb ha (by intro z; cases z))⟩⟩
  have ly := pm.length_eq
  refine ⟨.ref a, rfl, a, C, dx, _, .ref l, rfl, eB, R.cl, R.nI, rfl, l, rfl, ⟨_, .of lB⟩, fun D nD => ?_⟩
  refine dc_tup (K := K) (a := l) (xs := ys.map V.str) (fun i Hx => Same H5 Hx ∧ ∃ kv2, Hx D = some (.dK kv2) ∧ All2 (TabR Hx tab) kv2 (ys.take i)) ⟨same_new nD, [], upd_same, .nil⟩ (fun i Hx _ h => .of (h.1 _ _ lB)) (fun i x Hx hx h => ?_) (fun Hx h => ?_)
  · obtain ⟨sx, kv2, eD, a2⟩ := h
    rw [List.getElem?_map] at hx
    cases hz : ys[i]? with
    | none => rw [hz] at hx; cases hx
    | some z =>
      rw [hz] at hx
      cases hx
      obtain ⟨x', g1, r1⟩ := tab_get hkB (pm.mem_iff.mp (List.mem_of_getElem? hz))
      have l2 := a2.len
      rw [List.length_take] at l2
      refine ⟨rfl, ?_⟩
      refine yes_of ?_
      refine ⟨.str z, rfl, .ref d, rfl, .str z, rfl, d, x', rfl, ?_, kv2, .inr z, rfl, eD, small60 (by omega), ?_⟩
      · rw [← g1]
        exact DGet.k (k := Sum.inr z) (sx _ _ hdB)
      · rw [putK_new x' (tab_none a2 (nodup_take (pm.nodup_iff.mpr nd) hz))]
        refine ⟨fun b o e => ?_, _, upd_same, ?_⟩
        · rw [upd_ne (ne_of_none e nD)]
          exact sx _ _ e
        · rw [List.take_add_one, hz]
          refine (a2.imp fun _ _ r => ⟨r.1, row_at r.2 eD⟩).app (.cons ⟨rfl, row_at (r1.tk (Tk.same sx)) eD⟩ .nil)
  · obtain ⟨sx, kv2, eD, a2⟩ := h
    rw [List.length_map, List.take_length] at a2
    have aX := sx _ _ eB
    have lX := sx _ _ lB
    have pg : putF "_tables" (.ref D) [("_voters", V.int v), ("_issues", .ref l)] = ruleF v l D := by
      unfold putF
      rw [if_neg (by decide)]
      unfold putF
      rw [if_neg (by decide)]
      rfl
    refine ⟨.ref a, rfl, a, C, dx, _, rfl, aX, R.cl, R.nT, (by show 2 < 1000; decide), ?_⟩
    rw [pg]
    refine q _ ys (fun b o n e => ?_) pm so ⟨dx, l, D, upd_same, ?_, kv2, ?_, a2.imp fun _ _ r => ⟨r.1, row_ins r.2 aX⟩⟩
    · rw [upd_ne n]
      exact sx _ _ (nB (s12 _ _ e) n)
    · rw [upd_ne la]
      exact lX
    · rw [upd_ne (ne_of eD aX (by intro z; cases z))]
      exact eD
end
end Ow

set_option Elab.async false
set_option linter.all false
set_option maxRecDepth 100000
set_option maxHeartbeats 4000000
set_option exponentiation.threshold 3000
namespace Ow
open PySem PySem.Spec PyProof.Rows L2
/-! ### rows as data -/
def rowD (ns : List Int) : PyData := .tuple (ns.map .int)
def rowsD (rs : List (List Int)) : PyData := .tuple (rs.map rowD)
theorem dp_ints {K : PySem.W.Frag} {H : Hp} : ∀ ns : List Int, DpAll K H (ns.map V.int) (ns.map .int)
  | [] => .nil
  | n :: ns => .cons (.int n) (dp_ints ns)
theorem dp_row {K : PySem.W.Frag} {H : Hp} {v : V} {ns : List Int} (h : IsRow H v ns) : Dp K H v (rowD ns) := by
  obtain ⟨a, rfl, h⟩ := h
  exact .tup (.of h) (dp_ints ns)
theorem dp_all {K : PySem.W.Frag} {H : Hp} {xs : List V} {rs : List (List Int)} (h : All2 (IsRow H) xs rs) : DpAll K H xs (rs.map rowD) := by
  induction h with
  | nil => exact .nil
  | cons r _ ih => exact .cons (dp_row r) ih
theorem dp_rows {K : PySem.W.Frag} {H : Hp} {v : V} {rs : List (List Int)} (h : IsRows H v rs) : Dp K H v (rowsD rs) := by
  obtain ⟨a, xs, rfl, h, g⟩ := h
  exact .tup (.of h) (dp_all g)
theorem eqv_ints : ∀ ns ms : List Int, PyData.eqvAll (ns.map .int) (ms.map .int) = decide (ns = ms)
  | [], [] => rfl
  | [], m :: ms => rfl
  | n :: ns, [] => rfl
  | n :: ns, m :: ms => by
    show ((n == m) && PyData.eqvAll (ns.map .int) (ms.map .int)) = _
    rw [eqv_ints ns ms]
    by_cases h : n = m
    · subst h
      by_cases g : ns = ms
      · subst g
        simp
      · simp [g]
    · simp [h]
theorem eqv_row (ns ms : List Int) : PyData.eqv (rowD ns) (rowD ms) = decide (ns = ms) := eqv_ints ns ms
theorem eqv_alls : ∀ rs ts : List (List Int), PyData.eqvAll (rs.map rowD) (ts.map rowD) = decide (rs = ts)
  | [], [] => rfl
  | [], m :: ms => rfl
  | n :: ns, [] => rfl
  | n :: ns, m :: ms => by
    show (PyData.eqv (rowD n) (rowD m) && PyData.eqvAll (ns.map rowD) (ms.map rowD)) = _
    rw [eqv_alls ns ms, eqv_row]
    by_cases h : n = m
    · subst h
      by_cases g : ns = ms
      · subst g
        simp
      · simp [g]
    · simp [h]
theorem eqv_rows (rs ts : List (List Int)) : PyData.eqv (rowsD rs) (rowsD ts) = decide (rs = ts) := eqv_alls rs ts
theorem lay_ints : ∀ ns : List Int, PyData.canLayAll0 (ns.map .int) = true
  | [] => rfl
  | n :: ns => by
    show (true && PyData.canLayAll0 (ns.map .int)) = true
    rw [lay_ints ns]
    rfl
theorem depth_ints : ∀ ns : List Int, PyData.depthAll (ns.map .int) = 0
  | [] => rfl
  | n :: ns => by
    show max 0 (PyData.depthAll (ns.map .int)) = 0
    rw [depth_ints ns]
    rfl
theorem lay_row (ns : List Int) : PyData.canLay0 (rowD ns) = true := lay_ints ns
theorem depth_row (ns : List Int) : PyData.depth (rowD ns) = 1 := by
  show PyData.depthAll (ns.map .int) + 1 = 1
  rw [depth_ints]
theorem shaped_row (ns : List Int) : SeqAt.shaped (rowD ns) = true := by
  unfold SeqAt.shaped
  rw [lay_row, depth_row]
  rfl
theorem lay_alls : ∀ rs : List (List Int), PyData.canLayAll0 (rs.map rowD) = true
  | [] => rfl
  | n :: ns => by
    show (PyData.canLay0 (rowD n) && PyData.canLayAll0 (ns.map rowD)) = true
    rw [lay_alls ns, lay_row]
    rfl
theorem depth_alls : ∀ rs : List (List Int), PyData.depthAll (rs.map rowD) ≤ 1
  | [] => Nat.zero_le _
  | n :: ns => by
    show max (PyData.depth (rowD n)) (PyData.depthAll (ns.map rowD)) ≤ 1
    have := depth_alls ns
    rw [depth_row]
    omega
theorem shaped_rows (rs : List (List Int)) : SeqAt.shaped (rowsD rs) = true := by
  unfold SeqAt.shaped
  have h : PyData.canLay0 (rowsD rs) = true := lay_alls rs
  have g : PyData.depth (rowsD rs) ≤ 64 := by
    show PyData.depthAll (rs.map rowD) + 1 ≤ 64
    have := depth_alls rs
    omega
  rw [h, decide_eq_true g]
  rfl
theorem hu64 {A : Around} {k : Nat} (hr : Room k A) : A.units + 64 < cLine := hr.units
section
variable {P : Program} {w : World} {K : PySem.W.Frag} {mg : Str → Option Value} {base : Heap} {C : Addr}
def spGet (C : Addr) : Sp := fun vs H Q _ => ∃ (a : Addr) (z : Str) (v : Nat) (ys : List Str) (tab : Str → List Int), vs = [.ref a, .str z] ∧ RuleAt C H a v ys tab ∧ z ∈ ys ∧ ∀ H' x, Same H H' → IsRow H' x (tab z) → Q x H'
theorem in_strs {z : Str} : ∀ {ys : List Str}, z ∈ ys → inV (.str z) (ys.map V.str) = true
  | y :: ys, h => by
    unfold inV
    rw [List.map_cons, List.any_cons]
    rcases List.mem_cons.mp h with rfl | h
    · have : eqV (.str z) (.str z) = true := by show (z == z) = true; simp
      rw [this]
      rfl
    · have := in_strs h
      unfold inV at this
      rw [this, Bool.or_true]
theorem flat_strs (ys : List Str) : (ys.map V.str).all flatV = true := by
  rw [List.all_eq_true]
  intro x hx
  obtain ⟨z, _, rfl⟩ := List.mem_map.mp hx
  rfl
theorem ok_get {f : Addr} {fd : FuncData} (R : RuleC K C) (F : Fun K "__getitem__" "Rule.__getitem__" dGetitem f fd) : FnOk P w K mg base CX0 1 f fd ["self", "issue"] (spGet C) := by
  refine F.ok scGet (fun vs H Q E h => ?_) (fun cdv A outer s H vs Q E hr h => ?_)
  · obtain ⟨a, z, v, ys, tab, rfl, _⟩ := h
    rfl
  obtain ⟨a, z, v, ys, tab, rfl, ⟨dx, t, d, ha, ht, kvs, hd, hk⟩, hz, q⟩ := h
  refine ⟨_, pss_cons (ps_if (pt_cmpR op_notIn_seq (pv 1) (pe_fld (pv 0) rfl) (by rfl)) (pss_one ps_never) pss_nil)
    (pss_one (ps_ret (pe_dget (hu_of hr) (pe_fld (pv 0) rfl) (pv 1) (fun _ _ => rfl)))), ?_⟩
  refine ⟨.str z, rfl, .ref a, rfl, a, C, dx, _, .ref t, rfl, ha, R.cl, R.nI, rfl, t, _, rfl, .inr (.of ht), rfl, flat_strs ys, _, rfl, ?_⟩
  rw [in_strs hz]
  refine iteF ?_
  obtain ⟨x, g1, r1⟩ := tab_get hk hz
  refine ⟨.ref a, rfl, a, C, dx, _, .ref d, rfl, ha, R.cl, R.nT, rfl, .str z, rfl, d, x, rfl, ?_, q H x (Same.refl H) r1⟩
  rw [← g1]
  exact DGet.k (k := Sum.inr z) hd
end
end Ow

set_option Elab.async false
set_option linter.all false
set_option maxRecDepth 100000
set_option maxHeartbeats 4000000
set_option exponentiation.threshold 3000
namespace Ow
open PySem PySem.Spec PyProof.Rows L2
theorem scVoterTables : FnScope ["size", "voters", "voter", "table", "votes"] ["size", "voters", "voter"] (defScope dVoterTables) := ⟨rfl, rfl, rfl, by decide +kernel, rfl, by decide +kernel, by decide +kernel⟩
theorem scAnyTable : FnScope ["jug", "voters", "lot", "every", "votes", "some", "voter", "odd"] ["jug", "voters"] (defScope dAnyTable) := ⟨rfl, rfl, rfl, by decide +kernel, rfl, by decide +kernel, by decide +kernel⟩
theorem rowsN_bit : ∀ v, ∀ r ∈ rowsN v, ∀ b ∈ r, b = 0 ∨ b = 1
  | 0, r, hr, b, hb => by rw [List.mem_singleton.mp hr] at hb; cases hb
  | n + 1, r, hr, b, hb => by
    obtain ⟨q, hq, hr⟩ := List.mem_flatMap.mp hr
    have ih := rowsN_bit n q hq
    simp only [List.mem_cons, List.not_mem_nil, or_false] at hr
    rcases hr with rfl | rfl
    · rcases List.mem_append.mp hb with hb | hb
      · exact ih b hb
      · exact .inl (List.mem_singleton.mp hb)
    · rcases List.mem_append.mp hb with hb | hb
      · exact ih b hb
      · exact .inr (List.mem_singleton.mp hb)
theorem rows_first : ∀ v ≤ 4, (rowsN v)[0]? = some (List.replicate v 0) := by decide
theorem rows_last : ∀ v ≤ 4, (rowsN v)[2 ^ v - 1]? = some (List.replicate v 1) := by decide
/-- a table made row by row -/
theorem good_of {v : Nat} (h1 : 1 ≤ v) (h4 : v ≤ 4) {g : List Int → Int} (hb : ∀ r ∈ rowsN v, g r = 0 ∨ g r = 1) (h0 : g (List.replicate v 0) = 0) (hl : g (List.replicate v 1) = 1) : GoodT v ((rowsN v).map g) := by
  refine ⟨by rw [List.length_map, rowsN_len], fun n hn => ?_, ?_, ?_⟩
  · obtain ⟨r, hr, rfl⟩ := List.mem_map.mp hn
    exact hb r hr
  · rw [List.getElem?_map, rows_first v h4]
    show some _ = _
    rw [h0]
  · rw [List.getElem?_map, rows_last v h4]
    show some _ = _
    rw [hl]
theorem follow_good {v i : Nat} (h4 : v ≤ 4) (hi : i < v) : GoodT v (followN v i) := by
  refine good_of (by omega) h4 (fun r hr => ?_) ?_ ?_
  · have lr := rowsN_size v r hr
    rw [List.getD_eq_getElem?_getD, List.getElem?_eq_getElem (by omega)]
    exact rowsN_bit v r hr _ (List.getElem_mem _)
  · rw [List.getD_eq_getElem?_getD, List.getElem?_replicate, if_pos hi]
    rfl
  · rw [List.getD_eq_getElem?_getD, List.getElem?_replicate, if_pos hi]
    rfl
section
variable {P : Program} {w : World} {K : PySem.W.Frag} {mg : Str → Option Value} {base : Heap}
def spVT : Sp := fun vs H Q _ => ∃ n v i : Nat, vs = [.int n, .int v, .int i] ∧ 1 ≤ n ∧ n ≤ 60 ∧ v ≤ 4 ∧ i < v ∧ ∀ H' x, Same H H' → IsRows H' x (List.replicate n (followN v i)) → Q x H'
theorem all_rep {α β : Type} {R : α → β → Prop} {x : α} {y : β} (h : R x y) : ∀ n, All2 R (List.replicate n x) (List.replicate n y)
  | 0 => .nil
  | n + 1 => .cons h (all_rep h n)
theorem rep_flat {α : Type} (x : α) : ∀ n, (List.replicate n [x]).flatten = List.replicate n x
  | 0 => rfl
  | n + 1 => by rw [List.replicate_succ, List.flatten_cons, rep_flat x n]; rfl
theorem ok_votertables {f fA : Addr} {fd fdA : FuncData} (F : Fun K "_law_voter_tables" "_law_voter_tables" dVoterTables f fd) (FA : FnOk P w K mg base CX0 1 fA fdA ["size"] spRowsL)
    (kA : PySem.W.keepIn K (.ref fA) = true) (bA : Binds K fdA ["size"] []) (gA : mg "_law_all_rows" = some (.ref fA)) (mt : mg "tuple" = none) : FnOk P w K mg base CX0 2 f fd ["size", "voters", "voter"] spVT := by
  refine F.ok scVoterTables (fun vs H Q E h => ?_) (fun cdv A outer s H vs Q E hr h => ?_)
  · obtain ⟨n, v, i, rfl, _⟩ := h
    rfl
  obtain ⟨n, v, i, rfl, hn1, hn, hv, hi, q⟩ := h
  refine ⟨_, pss_cons (ps_set (i := 3) scVoterTables.nd rfl (.inl rfl) (pe_callTy call_tuple_of (by rfl) mt boot_tup (pa_cons
      (pe_lc (te := tOp (rIxT K) (tVar 4) (tVar 2)) (own := [("votes", 4)]) (g := gName 4) (tt := tYes) rfl scVoterTables.nd (pi_list (pe_call FA hr (by rfl) gA kA bA .nil pass0 (pa_cons (pv 1) pa_nil))) (blkOk_by (N := ["size", "voters", "voter", "table", "votes"]) (sc := defScope dVoterTables) (by decide +kernel))
        (fun _ _ _ _ _ => pg_name (i := 4) scVoterTables.nd rfl (Or.inl rfl)) (fun _ _ _ _ _ => pts_nil)
        (fun _ _ _ _ _ => pe_ix ix_tup (pv 4) (pv 2) (fun _ _ => rfl))) pa_nil)))
    (pss_one (ps_ret (pe_op op_trep (pe_tup (pa_cons (pv 3) pa_nil)) (pv 0)))), ?_⟩
  refine ⟨.int v, rfl, v, rfl, by omega, fun H1 p xs s1 np hp ax => ⟨p, rfl, ⟨xs, .of hp⟩, fun D nD => ?_⟩⟩
  have lx := ax.len
  rw [rowsN_len] at lx
  have p16 := pow4 hv
  refine lc_map (M := No) (walk_list (K := K) (a := p) (xs := xs)) (by omega) Jg.no nD (fun j _ y => ∃ r, (rowsN v)[j]? = some r ∧ y = .int (r.getD i 0)) (fun _ _ _ _ _ h => h) (fun Hx g _ => .of (g.toSame _ _ hp))
    (fun j x Hx Hx' Kk hj g _ hY hK => ?_) (fun Hx ys g _ eD hlen hq => ?_)
  · obtain ⟨rfl, hx⟩ := hY
    obtain ⟨r, hr, a, rfl, ha⟩ := ax.get hx
    have lr := rowsN_size v r (List.mem_of_getElem? hr)
    refine ⟨rfl, .ref a, rfl, .int i, rfl, a, _, i, .int (r.getD i 0), rfl, rfl, .of (g.toSame _ _ ha), atI_nat (j := i) ?_, hK _ _ (Gw.refl _) Jg.no ⟨r, hr, rfl⟩⟩
    rw [List.getElem?_map, List.getD_eq_getElem?_getD, List.getElem?_eq_getElem (by omega)]
    rfl
  · have e : ys = (followN v i).map V.int := by
      unfold followN
      rw [List.map_map]
      exact list_eq (f := V.int ∘ fun r : List Int => r.getD i 0) hlen (by rw [rowsN_len, lx]) hq
    rw [e] at eD
    refine ⟨D, _, rfl, .inl ⟨.of eD, fun t nt => ?_⟩⟩
    refine ⟨.ref t, rfl, (by show 1 ≤ sizeLine; decide), fun t1 n1 => ⟨.int n, rfl, t1, n, [.ref t], rfl, rfl, upd_same, by simp, by omega, by omega, by show 1 ≤ 1000; decide, fun H2 p2 s2 h2 => ?_⟩⟩
    have sx : Same H H2 := s1.trans (g.toSame.trans ((same_new nt).trans ((same_new n1).trans s2)))
    have ht : H2 t = some (.tup ((followN v i).map V.int)) := s2 _ _ (same_new n1 _ _ upd_same)
    refine q H2 _ sx ⟨p2, _, rfl, h2, ?_⟩
    rw [Int.toNat_natCast, rep_flat]
    exact all_rep ⟨t, rfl, ht⟩ n
end
end Ow

set_option Elab.async false
set_option linter.all false
set_option maxRecDepth 100000
set_option maxHeartbeats 4000000
set_option exponentiation.threshold 3000
namespace Ow
open PySem PySem.Spec PyProof.Rows L2
theorem boot_max' : bootBuiltins "max" = some (.builtin "max") := by decide +kernel
theorem boot_min' : bootBuiltins "min" = some (.builtin "min") := by decide +kernel
theorem boot_sum' : bootBuiltins "sum" = some (.builtin "sum") := by decide +kernel
def natsV (ss : List Nat) : List V := ss.map fun k => V.int (k : Nat)
def picks (r : List Int) (ss : List Nat) : List Int := ss.map fun k => r.getD k 0
theorem picks_rep {v : Nat} {c : Int} {ss : List Nat} (h : ∀ k ∈ ss, k < v) : picks (List.replicate v c) ss = List.replicate ss.length c := by
  unfold picks
  refine List.ext_getElem (by rw [List.length_map, List.length_replicate]) fun i h1 h2 => ?_
  rw [List.getElem_map, List.getElem_replicate, List.getD_eq_getElem?_getD, List.getElem?_replicate, if_pos (h _ (List.getElem_mem _))]
  rfl
theorem picks_bit {v : Nat} {r : List Int} {ss : List Nat} (hr : r ∈ rowsN v) (h : ∀ k ∈ ss, k < v) : ∀ b ∈ picks r ss, b = 0 ∨ b = 1 := by
  intro b hb
  obtain ⟨k, hk, rfl⟩ := List.mem_map.mp hb
  have lr := rowsN_size v r hr
  have := h k hk
  rw [List.getD_eq_getElem?_getD, List.getElem?_eq_getElem (by omega)]
  exact rowsN_bit v r hr _ (List.getElem_mem _)
def someMax (ss : List Nat) (r : List Int) : Int := if (1 : Int) ∈ picks r ss then 1 else 0
def someMin (ss : List Nat) (r : List Int) : Int := if (0 : Int) ∈ picks r ss then 0 else 1
def someSum (ss : List Nat) (r : List Int) : Int := (picks r ss).sum % 2
theorem sum_rep (c : Int) : ∀ n : Nat, (List.replicate n c).sum = n * c
  | 0 => by simp
  | n + 1 => by
    rw [List.replicate_succ, List.sum_cons, sum_rep c n, Int.natCast_succ, Int.add_mul]
    omega
theorem good_max {v : Nat} {ss : List Nat} (h1 : 1 ≤ v) (h4 : v ≤ 4) (ne : ss ≠ []) (hs : ∀ k ∈ ss, k < v) : GoodT v ((rowsN v).map (someMax ss)) := by
  have pos : ss.length ≠ 0 := fun h => ne (List.length_eq_zero_iff.mp h)
  refine good_of h1 h4 (fun r hr => ?_) ?_ ?_
  · unfold someMax
    by_cases h : (1 : Int) ∈ picks r ss
    · rw [if_pos h]; exact .inr rfl
    · rw [if_neg h]; exact .inl rfl
  · unfold someMax
    rw [picks_rep hs, if_neg]
    intro m
    exact absurd (List.mem_replicate.mp m).2 (by decide)
  · unfold someMax
    rw [picks_rep hs, if_pos]
    exact List.mem_replicate.mpr ⟨pos, rfl⟩
theorem good_min {v : Nat} {ss : List Nat} (h1 : 1 ≤ v) (h4 : v ≤ 4) (ne : ss ≠ []) (hs : ∀ k ∈ ss, k < v) : GoodT v ((rowsN v).map (someMin ss)) := by
  have pos : ss.length ≠ 0 := fun h => ne (List.length_eq_zero_iff.mp h)
  refine good_of h1 h4 (fun r hr => ?_) ?_ ?_
  · unfold someMin
    by_cases h : (0 : Int) ∈ picks r ss
    · rw [if_pos h]; exact .inl rfl
    · rw [if_neg h]; exact .inr rfl
  · unfold someMin
    rw [picks_rep hs, if_pos]
    exact List.mem_replicate.mpr ⟨pos, rfl⟩
  · unfold someMin
    rw [picks_rep hs, if_neg]
    intro m
    exact absurd (List.mem_replicate.mp m).2 (by decide)
theorem good_sum {v : Nat} {ss : List Nat} (h1 : 1 ≤ v) (h4 : v ≤ 4) (od : ss.length % 2 = 1) (hs : ∀ k ∈ ss, k < v) : GoodT v ((rowsN v).map (someSum ss)) := by
  refine good_of h1 h4 (fun r hr => ?_) ?_ ?_
  · unfold someSum
    have a := Int.emod_nonneg (picks r ss).sum (show (2 : Int) ≠ 0 by decide)
    have b := Int.emod_lt_of_pos (picks r ss).sum (show (0 : Int) < 2 by decide)
    omega
  · unfold someSum
    rw [picks_rep hs, sum_rep]
    simp
  · unfold someSum
    rw [picks_rep hs, sum_rep]
    omega
theorem good_cut {v : Nat} {ks : List Int} (h1 : 1 ≤ v) (hl : ks.length = 2 ^ v - 2) (hb : ∀ k ∈ ks, k = 0 ∨ k = 1) : GoodT v (0 :: ks ++ [1]) := by
  have p2 : 2 ≤ 2 ^ v := by
    have := Nat.pow_le_pow_right (show 0 < 2 by decide) h1
    simpa using this
  refine ⟨?_, fun n hn => ?_, rfl, ?_⟩
  · rw [List.length_append, List.length_cons, hl]
    simp
    omega
  · rcases List.mem_append.mp hn with hn | hn
    · rcases List.mem_cons.mp hn with rfl | hn
      · exact .inl rfl
      · exact hb n hn
    · exact .inr (List.mem_singleton.mp hn)
  · rw [List.getElem?_append_right (by rw [List.length_cons, hl]; omega), List.length_cons, hl]
    rw [show 2 ^ v - 1 - (2 ^ v - 2 + 1) = 0 by omega]
    rfl
section
variable {P : Program} {w : World} {K : PySem.W.Frag} {mg : Str → Option Value} {base : Heap}
theorem pick_read {x0 x1 x2 x3 x5 x6 x7 : Option V} {u : Nat} {a s : Addr} {r : List Int} {ss : List Nat} {H : Hp} {Q : VK} (hu : ([x0, x1, x2, x3, some (.ref a), x5, x6, x7] : L2.St)[u]? = some (some (.ref s)))
    (hs : H s = some (.tup (natsV ss))) (ha : H a = some (.tup (r.map V.int))) (hk : ∀ k ∈ ss, k < r.length) (hl : ss.length ≤ 60) (q : ∀ H' D, Same H H' → H' D = some (.lst ((picks r ss).map V.int)) → Q (.ref D) H') :
    tLc (iTup K (tVar u)) (gName 6) tYes (tOp (rIxT K) (tVar 4) (tVar 6)) ([(("voter" : Str), 6)].map (·.2)) [x0, x1, x2, x3, some (.ref a), x5, x6, x7] H Q := by
  refine ⟨.ref s, hu, s, rfl, ⟨_, .of hs⟩, fun D nD => ?_⟩
  refine lc_map (M := No) (walk_tup (K := K) (a := s) (xs := natsV ss)) (by unfold natsV; rw [List.length_map]; omega) Jg.no nD (fun j _ y => ∃ k, ss[j]? = some k ∧ y = .int (r.getD k 0)) (fun _ _ _ _ _ h => h) (fun Hx g _ => .of (g.toSame _ _ hs))
    (fun j x Hx Hx' Kk hj g _ hY hK => ?_) (fun Hx ys g _ eD hlen hq => ?_)
  · obtain ⟨rfl, hx⟩ := hY
    unfold natsV at hx
    rw [List.getElem?_map] at hx
    cases h1 : ss[j]? with
    | none => rw [h1] at hx; cases hx
    | some k =>
      rw [h1] at hx
      cases hx
      have kr := hk k (List.mem_of_getElem? h1)
      refine ⟨rfl, .ref a, rfl, .int k, rfl, a, _, k, .int (r.getD k 0), rfl, rfl, .of (g.toSame _ _ ha), atI_nat (j := k) ?_, hK _ _ (Gw.refl _) Jg.no ⟨k, h1, rfl⟩⟩
      rw [List.getElem?_map, List.getD_eq_getElem?_getD, List.getElem?_eq_getElem kr]
      rfl
  · have e : ys = (picks r ss).map V.int := by
      unfold picks
      rw [List.map_map]
      exact list_eq (f := V.int ∘ fun k : Nat => r.getD k 0) hlen (by unfold natsV; rw [List.length_map]) hq
    rw [e] at eD
    exact q Hx D g.toSame eD
end
end Ow

set_option Elab.async false
set_option linter.all false
set_option maxRecDepth 100000
set_option maxHeartbeats 4000000
set_option exponentiation.threshold 3000
namespace Ow
open PySem PySem.Spec PyProof.Rows L2
section
variable {P : Program} {w : World} {K : PySem.W.Frag} {mg : Str → Option Value} {base : Heap}
def IsSome (v : Nat) (H : Hp) (x : V) (ss : List Nat) : Prop := ∃ s, x = .ref s ∧ H s = some (.tup (natsV ss)) ∧ ss ≠ [] ∧ ss.length ≤ 4 ∧ ∀ k ∈ ss, k < v
theorem nats_of {v : Nat} : ∀ {zs : List V}, (∀ z ∈ zs, ∃ k < v, z = .int (k : Nat)) → ∃ ss : List Nat, zs = natsV ss ∧ ∀ k ∈ ss, k < v
  | [], _ => ⟨[], rfl, fun _ h => nomatch h⟩
  | z :: zs, h => by
    obtain ⟨k, hk, rfl⟩ := h z List.mem_cons_self
    obtain ⟨ss, rfl, hs⟩ := nats_of fun y hy => h y (List.mem_cons_of_mem _ hy)
    exact ⟨k :: ss, rfl, fun j hj => by
      rcases List.mem_cons.mp hj with rfl | hj
      · exact hk
      · exact hs j hj⟩
theorem rg_nats (v : Nat) : rgV 0 (v : Int) = natsV (List.range v) := by
  unfold rgV natsV
  rw [show ((v : Int) - 0).toNat = v by omega]
  refine List.map_congr_left fun i _ => ?_
  rw [Int.zero_add]
def spAnyT : Sp := fun vs H Q _ => ∃ (J : Addr) (v : Nat), vs = [.ref J, .int v] ∧ Jug H J ∧ 1 ≤ v ∧ v ≤ 4 ∧ ∀ H' x ns, Sb J H H' → Jug H' J → IsRow H' x ns → GoodT v ns → Q x H'
def rInt1 : List V → Hp → VK → Prop := fun xs H Q => (∃ i, xs = [.int i] ∧ Q (.int i) H) ∨ ∃ k, xs = [.bl k] ∧ Q (.int (if k then 1 else 0)) H
def sMax : Scope := { kind := .function, names := [(".0", .local), ("votes", .cell), ("max", .globalImplicit), ("some", .cell)], isGenerator := false, isCoroutine := false }
def sMin : Scope := { kind := .function, names := [(".0", .local), ("votes", .cell), ("min", .globalImplicit), ("some", .cell)], isGenerator := false, isCoroutine := false }
def sIn : Scope := { kind := .function, names := [(".0", .local), ("voter", .local), ("votes", .free)], isGenerator := false, isCoroutine := false }
def sSum : Scope := { kind := .function, names := [(".0", .local), ("votes", .cell), ("int", .globalImplicit), ("sum", .globalImplicit), ("odd", .cell)], isGenerator := false, isCoroutine := false }
abbrev anyN : List Str := ["jug", "voters", "lot", "every", "votes", "some", "voter", "odd"]
def tOdd (v : Nat) : TE := fun σ H Q => ∃ (s : Addr) (ss : List Nat), σ[5]? = some (some (.ref s)) ∧ H s = some (.tup (natsV ss)) ∧ ss ≠ [] ∧ ss.length ≤ 4 ∧ (∀ k ∈ ss, k < v) ∧
  ∀ H' s' ss', Same H H' → H' s' = some (.tup (natsV ss')) → ss'.length ≤ 4 → ss'.length % 2 = 1 → (∀ k ∈ ss', k < v) → Q (.ref s') H'
theorem ints_of : ∀ {ys : List V}, (∀ y ∈ ys, ∃ m : Int, y = .int m ∧ (m = 0 ∨ m = 1)) → ∃ ks : List Int, ys = ks.map V.int ∧ ∀ k ∈ ks, k = 0 ∨ k = 1
  | [], _ => ⟨[], rfl, fun _ h => nomatch h⟩
  | y :: ys, h => by
    obtain ⟨k, rfl, hk⟩ := h y List.mem_cons_self
    obtain ⟨ks, rfl, hs⟩ := ints_of fun z hz => h z (List.mem_cons_of_mem _ hz)
    exact ⟨k :: ks, rfl, fun j hj => by
      rcases List.mem_cons.mp hj with rfl | hj
      · exact hk
      · exact hs j hj⟩
theorem max_is {v : Nat} {r : List Int} {ss : List Nat} {m : Int} (hr : r ∈ rowsN v) (hs : ∀ k ∈ ss, k < v) (hm : m ∈ picks r ss) (hle : ∀ y, y ∈ picks r ss → y ≤ m) : m = someMax ss r := by
  have b := picks_bit hr hs m hm
  unfold someMax
  by_cases h : (1 : Int) ∈ picks r ss
  · have := hle 1 h
    rw [if_pos h]
    omega
  · rw [if_neg h]
    rcases b with b | b
    · exact b
    · rw [b] at hm
      exact absurd hm h
theorem min_is {v : Nat} {r : List Int} {ss : List Nat} {m : Int} (hr : r ∈ rowsN v) (hs : ∀ k ∈ ss, k < v) (hm : m ∈ picks r ss) (hle : ∀ y, y ∈ picks r ss → m ≤ y) : m = someMin ss r := by
  have b := picks_bit hr hs m hm
  unfold someMin
  by_cases h : (0 : Int) ∈ picks r ss
  · have := hle 0 h
    rw [if_pos h]
    omega
  · rw [if_neg h]
    rcases b with b | b
    · rw [b] at hm
      exact absurd hm h
    · exact b
theorem sum_read {K : PySem.W.Frag} {t : TE} {σ : L2.St} {H : Hp} {Kk : VK} (h : t σ H fun x H1 => rSum K [x] H1 fun y H2 => rInt1 [y] H2 fun z H3 => rI (fun _ j => 0 < j) (fun i j => .int (i % j)) z (.int 2) H3 Kk) :
    tOp (rI (fun _ j => 0 < j) fun i j => .int (i % j)) (tCB rInt1 (tCons (tCB (rSum K) (tCons t tNil)) tNil)) (tC (.int 2)) σ H Kk := h
theorem cut_mid {xs : List V} (h : 2 ≤ xs.length) : (cutV xs (some 1) (some (-1))).length = xs.length - 2 := by
  unfold cutV
  have e1 : HT.sIx xs.length 0 (some 1) = 1 := by
    have := HT.sIx_nat xs.length 0 1
    rw [show ((1 : Nat) : Int) = 1 from rfl] at this
    rw [this]
    omega
  have e2 : HT.sIx xs.length xs.length (some (-1)) = xs.length - 1 := by
    show (if (-1 : Int) < 0 then ((-1 : Int) + (xs.length : Int)).toNat else min (-1 : Int).toNat xs.length) = _
    rw [if_pos (by decide)]
    omega
  simp only [e1, e2]
  rw [List.length_take, List.length_drop]
  omega
theorem ok_anytable {f fD fA fC : Addr} {fd fdD fdA fdC : FuncData} (F : Fun K "_law_any_table" "_law_any_table" dAnyTable f fd)
    (FD : FnOk P w K mg base CX0 1 fD fdD ["jug", "total"] spDip) (kD : PySem.W.keepIn K (.ref fD) = true) (bD : Binds K fdD ["jug", "total"] []) (gD : mg "_law_dip" = some (.ref fD))
    (FA : FnOk P w K mg base CX0 1 fA fdA ["size"] spRowsL) (kA : PySem.W.keepIn K (.ref fA) = true) (bA : Binds K fdA ["size"] []) (gA : mg "_law_all_rows" = some (.ref fA))
    (FC : FnOk P w K mg base CX0 2 fC fdC ["jug", "items"] spChoice) (kC : PySem.W.keepIn K (.ref fC) = true) (bC : Binds K fdC ["jug", "items"] []) (gC : mg "_law_choice" = some (.ref fC))
    (mt : mg "tuple" = none) (mr : mg "range" = none) (mx : mg "max" = none) (mn : mg "min" = none) (mi : mg "int" = none) (ml : mg "len" = none) (msu : mg "sum" = none) : FnOk P w K mg base CX0 3 f fd ["jug", "voters"] spAnyT := by
  refine F.ok scAnyTable (fun vs H Q E h => ?_) (fun cdv A outer s H vs Q E hr h => ?_)
  · obtain ⟨J, v, rfl, _⟩ := h
    rfl
  obtain ⟨J, v, rfl, hJ, h1, h4, q⟩ := h
  refine ⟨_, pss_cons (ps_par (i := 2) (j := 3) (by rfl) scAnyTable.nd rfl rfl (by decide) rfl rfl (pa_cons (pe_call FD (hr.mono (by decide)) (by rfl) gD kD bD .nil pass0 (pa_cons (pv 0) (pa_cons pe_int pa_nil))) (pa_cons (pe_call FA (hr.mono (by decide)) (by rfl) gA kA bA .nil pass0 (pa_cons (pv 1) pa_nil)) pa_nil)) (by rfl))
    (pss_cons (ps_if (pt_cmpR op_lt (pv 2) pe_int (nomark _))
      (pss_one (ps_ret (pe_op op_tcat (pe_op op_tcat (pe_tup (pa_cons pe_int pa_nil)) (pe_callTy call_tuple_of (by rfl) mt boot_tup (pa_cons
        (pe_lc (te := tCall spDip [] E0 (tCons (tVar 0) (tCons (tC (.int 2)) tNil))) (own := [("votes", 4)]) (g := gName 4) (tt := tYes) rfl scAnyTable.nd (pi_list (pe_slice sl_list (pv 3) (po_some pe_int) (po_some (pe_un un_neg pe_int)))) (blkOk_by (N := anyN) (sc := defScope dAnyTable) (by decide +kernel))
          (fun _ _ _ _ _ => pg_name (i := 4) scAnyTable.nd rfl (Or.inl rfl)) (fun _ _ _ _ _ => pts_nil)
          (fun _ _ _ _ _ => pe_call FD (hr.mono (by decide)) (by rfl) gD kD bD .nil pass0 (pa_cons (pv 0) (pa_cons pe_int pa_nil)))) pa_nil))) (pe_tup (pa_cons pe_int pa_nil))))) pss_nil)
    (pss_cons (ps_set (i := 5) scAnyTable.nd rfl (.inr rfl) (pe_call FC (hr.mono (by decide)) (by rfl) gC kC bC .nil pass0 (pa_cons (pv 0) (pa_cons (pe_lst (pa_cons (pe_tup (pa_cons pe_int pa_nil))
        (pa_cons (pe_tupRg rfl (by rfl) mt (prg_1 (by rfl) mr (pv 1))) (pa_cons (pe_step2 (pe_tupRg rfl (by rfl) mt (prg_1 (by rfl) mr (pv 1)))) (pa_cons (pe_tup (pa_cons (pe_op op_sub (pv 1) pe_int) pa_nil)) pa_nil))))) pa_nil))))
    (pss_cons (ps_if (pt_cmpR op_eq (pv 2) pe_int (nomark _))
      (pss_one (ps_ret (pe_callTy call_tuple_of (by rfl) mt boot_tup (pa_cons
        (pe_lc (te := tCB (rMax K) (tCons (tLc (iTup K (tVar 5)) (gName 6) tYes (tOp (rIxT K) (tVar 4) (tVar 6)) ([(("voter" : Str), 6)].map (·.2))) tNil)) (own := [("votes", 4)]) (g := gName 4) (tt := tYes) rfl scAnyTable.nd (pi_list (pv 3)) (blkOk_by (N := anyN) (sc := defScope dAnyTable) (by decide +kernel))
          (fun _ _ _ _ _ => pg_name (i := 4) scAnyTable.nd rfl (Or.inr rfl)) (fun _ _ _ _ _ => pts_nil)
          (fun _ _ _ _ _ => pe_callB (cr_max rfl) (by rfl) mx boot_max' (pa_cons
            (pe_lc (own := [("voter", 6)]) (g := gName 6) (tt := tYes) rfl scAnyTable.nd (pi_tup (pv 5)) (blkOk_by (N := anyN) (sc := sMax) (scope := sIn) (own := [("voter", 6)]) (by decide +kernel))
              (fun _ _ _ _ _ => pg_name (i := 6) scAnyTable.nd rfl (Or.inl rfl)) (fun _ _ _ _ _ => pts_nil)
              (fun _ _ _ _ _ => pe_ix ix_tup (pv 4) (pv 6) (fun _ _ => rfl))) pa_nil))) pa_nil)))) pss_nil)
    (pss_cons (ps_if (pt_cmpR op_eq (pv 2) pe_int (nomark _))
      (pss_one (ps_ret (pe_callTy call_tuple_of (by rfl) mt boot_tup (pa_cons
        (pe_lc (te := tCB (rMin K) (tCons (tLc (iTup K (tVar 5)) (gName 6) tYes (tOp (rIxT K) (tVar 4) (tVar 6)) ([(("voter" : Str), 6)].map (·.2))) tNil)) (own := [("votes", 4)]) (g := gName 4) (tt := tYes) rfl scAnyTable.nd (pi_list (pv 3)) (blkOk_by (N := anyN) (sc := defScope dAnyTable) (by decide +kernel))
          (fun _ _ _ _ _ => pg_name (i := 4) scAnyTable.nd rfl (Or.inr rfl)) (fun _ _ _ _ _ => pts_nil)
          (fun _ _ _ _ _ => pe_callB (cr_min rfl) (by rfl) mn boot_min' (pa_cons
            (pe_lc (own := [("voter", 6)]) (g := gName 6) (tt := tYes) rfl scAnyTable.nd (pi_tup (pv 5)) (blkOk_by (N := anyN) (sc := sMin) (scope := sIn) (own := [("voter", 6)]) (by decide +kernel))
              (fun _ _ _ _ _ => pg_name (i := 6) scAnyTable.nd rfl (Or.inl rfl)) (fun _ _ _ _ _ => pts_nil)
              (fun _ _ _ _ _ => pe_ix ix_tup (pv 4) (pv 6) (fun _ _ => rfl))) pa_nil))) pa_nil)))) pss_nil)
    (pss_cons (ps_set (i := 7) scAnyTable.nd rfl (.inr rfl) (PE.of (t' := tOdd v) (pe_ifExp (pt_cmpR op_eq (pe_op op_mod (pe_callTy call_int1 (by rfl) mi boot_int (pa_cons (pe_callB call_len_seq (by rfl) ml PySem.boot_len (pa_cons (pv 5) pa_nil)) pa_nil)) pe_int) pe_int (nomark _))
        (pv 5) (pe_slice sl_tup (pv 5) (po_some pe_int) po_none)) ?odd))
    (pss_one (ps_ret (pe_callTy call_tuple_of (by rfl) mt boot_tup (pa_cons
        (pe_lc (te := tOp (rI (fun _ j => 0 < j) fun i j => .int (i % j)) (tCB rInt1 (tCons (tCB (rSum K) (tCons (tLc (iTup K (tVar 7)) (gName 6) tYes (tOp (rIxT K) (tVar 4) (tVar 6)) ([(("voter" : Str), 6)].map (·.2))) tNil)) tNil)) (tC (.int 2))) (own := [("votes", 4)]) (g := gName 4) (tt := tYes) rfl scAnyTable.nd (pi_list (pv 3)) (blkOk_by (N := anyN) (sc := defScope dAnyTable) (by decide +kernel))
          (fun _ _ _ _ _ => pg_name (i := 4) scAnyTable.nd rfl (Or.inr rfl)) (fun _ _ _ _ _ => pts_nil)
          (fun _ _ _ _ _ => pe_op op_mod (pe_callTy call_int1 (by rfl) mi boot_int (pa_cons (pe_callB (cr_sum rfl) (by rfl) msu boot_sum' (pa_cons
            (pe_lc (own := [("voter", 6)]) (g := gName 6) (tt := tYes) rfl scAnyTable.nd (pi_tup (pv 7)) (blkOk_by (N := anyN) (sc := sSum) (scope := sIn) (own := [("voter", 6)]) (by decide +kernel))
              (fun _ _ _ _ _ => pg_name (i := 6) scAnyTable.nd rfl (Or.inl rfl)) (fun _ _ _ _ _ => pts_nil)
              (fun _ _ _ _ _ => pe_ix ix_tup (pv 4) (pv 6) (fun _ _ => rfl))) pa_nil)) pa_nil)) pe_int)) pa_nil))))))))), ?red⟩
  case odd =>
    intro σ Hz Qz h
    obtain ⟨s', ss, h5, hs, ne, l4, lt, k⟩ := h
    refine ⟨.ref s', h5, s', _, rfl, .inr (.of hs), .inl ⟨_, rfl, _, _, rfl, rfl, (by show (0 : Int) < 2; decide), rfl, _, rfl, ite2 (fun e => ?_) (fun e => ?_)⟩⟩
    · refine ⟨.ref s', h5, k Hz s' ss (Same.refl Hz) hs l4 ?_ lt⟩
      have e1 := of_decide_eq_true e
      unfold natsV at e1
      rw [List.length_map] at e1
      have := V.int.inj e1
      omega
    · refine ⟨.ref s', h5, 1, rfl, s', natsV ss, rfl, hs, fun H4 b s4 hb => ?_⟩
      rw [cut_tail] at hb
      unfold natsV at hb
      rw [← List.map_tail] at hb
      have e1 : ¬ (V.int (((natsV ss).length : Int) % 2) = V.int 1) := fun z => e (decide_eq_true z)
      unfold natsV at e1
      rw [List.length_map] at e1
      have e2 : ¬ ((ss.length : Int) % 2 = 1) := fun z => e1 (by rw [z])
      have pos := List.length_pos_iff.mpr ne
      refine k H4 b ss.tail s4 hb ?_ ?_ fun j hj => lt j (List.mem_of_mem_tail hj)
      · rw [List.length_tail]; omega
      · rw [List.length_tail]; omega
  case red =>
  refine ⟨.ref J, rfl, J, 5, rfl, by decide, by decide, hJ, fun H1 k sb1 j1 k0 k5 => ⟨.int v, rfl, v, rfl, by omega, fun H2 p xs s2 np hp ax => ⟨_, _, rfl, ?_⟩⟩⟩
  have sb2 : Sb J H H2 := sb1.trans (.same s2)
  have j2 : Jug H2 J := jug_same s2 j1
  have pJ : p ≠ J := jug_none j1 np
  have lx := ax.len
  rw [rowsN_len] at lx
  have p16 := pow4 h4
  have p2 : 2 ≤ 2 ^ v := by
    have := Nat.pow_le_pow_right (show 0 < 2 by decide) h1
    simpa using this
  refine ⟨.int k, rfl, _, _, rfl, rfl, _, rfl, ite2 (fun e => ?_) (fun e => ?_)⟩
  · refine ⟨(by show 1 ≤ sizeLine; decide), fun t1 n1 => ⟨.ref p, rfl, 1, rfl, 1, rfl, -1, rfl, p, xs, rfl, .of (same_new n1 _ _ hp), fun c nc => ⟨c, rfl, ⟨_, .of upd_same⟩, fun D nD => ?_⟩⟩⟩
    have j3 := jug_same (same_new (o := .tup [.int 0]) n1) j2
    have cJ : c ≠ J := jug_none j3 nc
    have j4 := jug_same (same_new (o := .lst (cutV xs (some 1) (some (-1)))) nc) j3
    refine lc_map (M := At J) (walk_list (K := K) (a := c) (xs := cutV xs (some 1) (some (-1)))) (by rw [cut_mid (by omega)]; omega) (Jg.at_ j4) nD (fun i _ y => ∃ m : Int, y = .int m ∧ (m = 0 ∨ m = 1)) (fun _ _ _ _ _ h => h) (fun Hx g _ => .of (g c _ cJ upd_same))
      (fun i x Hx Hx' Kk hi g jx hY hK => ?_) (fun Hx ys g jx eD hlen hq => ?_)
    · obtain ⟨rfl, hx⟩ := hY
      exact ⟨rfl, .ref J, rfl, J, 2, rfl, by decide, by decide, jx.jug, fun H5 m sb5 j5 m0 m2 => hK _ _ sb5.gw (Jg.at_ j5) ⟨m, rfl, by omega⟩⟩
    · obtain ⟨ks, rfl, hb⟩ := ints_of (ys := ys) fun y hy => by
        obtain ⟨i, hi⟩ := List.mem_iff_getElem?.mp hy
        exact hq i y hi
      rw [List.length_map, cut_mid (by omega), lx] at hlen
      refine ⟨D, _, rfl, .inl ⟨.of eD, fun t nt => ?_⟩⟩
      have e1 : Hx t1 = some (.tup [.int 0]) := g.tup (Jg.at_ j4) (same_new nc _ _ upd_same)
      refine ⟨t1, t, [.int 0], _, rfl, rfl, same_new nt _ _ e1, upd_same, ?_, fun H6 u1 s6 hu1 => ?_⟩
      · rw [List.length_map]
        show 1 + ks.length ≤ 5000
        omega
      refine ⟨(by show 1 ≤ sizeLine; decide), fun t2 n2 => ⟨u1, t2, _, _, rfl, rfl, same_new n2 _ _ hu1, upd_same, ?_, fun H7 u2 s7 hu2 => ?_⟩⟩
      · simp
        omega
      have j7 := jug_same (((same_new (o := .tup (ks.map V.int)) nt).trans s6).trans ((same_new (o := .tup [.int 1]) n2).trans s7)) jx.jug
      refine q H7 (.ref u2) (0 :: ks ++ [1]) (sb2.trans ((Sb.same ((same_new n1).trans (same_new nc))).trans (g.sb.trans (Sb.same (((same_new nt).trans s6).trans ((same_new n2).trans s7)))))) j7 ⟨u2, rfl, ?_⟩ (good_cut h1 hlen hb)
      rw [hu2, List.map_append]
      rfl
  · refine ⟨.ref J, rfl, (by show 1 ≤ sizeLine; decide), fun t1 n1 => ⟨.int v, rfl, v, rfl, RgOk.of_le (by omega) (by omega) (by omega) (by omega), fun t2 n2 => ⟨.int v, rfl, v, rfl, RgOk.of_le (by omega) (by omega) (by omega) (by omega), fun t3 n3 => ⟨t3, _, rfl, .of upd_same, fun t4 zs n4 sub len =>
      ⟨.int v, rfl, _, _, rfl, rfl, (by show 1 ≤ sizeLine; decide), fun t5 n5 => ⟨(by show 4 ≤ sizeLine; decide), fun L nL => ?_⟩⟩⟩⟩⟩⟩
    rw [rg_nats] at sub len
    have lz : zs.length ≤ 4 := by
      rw [len]
      unfold natsV
      rw [List.length_map, List.length_range]
      omega
    obtain ⟨s4, rfl, hs4⟩ := nats_of (v := v) (zs := zs) fun z hz => by
      obtain ⟨i, hi, rfl⟩ := List.mem_map.mp (sub z hz)
      exact ⟨i, List.mem_range.mp hi, rfl⟩
    have ne4 : s4 ≠ [] := fun h => by
      rw [h] at len
      unfold natsV at len
      rw [List.length_map, List.length_map, List.length_range] at len
      simp at len
      omega
    have sA := same_new (o := .tup [.int 0]) n1
    have sB := same_new (o := .tup (rgV 0 (v : Int))) n2
    have sC := same_new (o := .tup (rgV 0 (v : Int))) n3
    have sD := same_new (o := .tup (natsV s4)) n4
    have sE := same_new (o := .tup [.int ((v : Int) - 1)]) n5
    have sF := same_new (o := .lst [.ref t1, .ref t2, .ref t4, .ref t5]) nL
    have sBF := sB.trans (sC.trans (sD.trans (sE.trans sF)))
    have jF := jug_same (sA.trans sBF) j2
    have jE := jug_same (sA.trans (sB.trans (sC.trans (sD.trans sE)))) j2
    have e1 := sBF _ _ (upd_same : upd H2 t1 (.tup [.int 0]) t1 = _)
    have e2 := (sC.trans (sD.trans (sE.trans sF))) _ _ (upd_same : upd (upd H2 t1 (.tup [.int 0])) t2 (.tup (rgV 0 (v : Int))) t2 = _)
    have e4 := (sE.trans sF) t4 (.tup (natsV s4)) upd_same
    have e5 := sF t5 (.tup [.int ((v : Int) - 1)]) upd_same
    have pF := (sA.trans sBF) _ _ hp
    have axF := all_tk (Tk.same (sA.trans sBF)) ax
    have sbF : Sb J H _ := sb2.trans (.same (sA.trans sBF))
    have LJ : L ≠ J := jug_none jE nL
    refine ⟨J, L, [.ref t1, .ref t2, .ref t4, .ref t5], rfl, LJ, upd_same, by simp, by show 4 ≤ 1000; decide, jF, fun H3 x sb3 j3 hx => ?_⟩
    have nJ : ∀ {a : Addr} {xs : List V}, upd (upd (upd (upd (upd (upd H2 t1 (.tup [.int 0])) t2 (.tup (rgV 0 (v : Int)))) t3 (.tup (rgV 0 (v : Int)))) t4 (.tup (natsV s4))) t5 (.tup [.int ((v : Int) - 1)])) L (.lst [.ref t1, .ref t2, .ref t4, .ref t5]) a = some (.tup xs) → H3 a = some (.tup xs) := fun {a xs} e => sb3 a _ (jug_tup jF e) e
    have hsome : ∃ s ss, x = .ref s ∧ H3 s = some (.tup (natsV ss)) ∧ ss ≠ [] ∧ ss.length ≤ 4 ∧ ∀ k ∈ ss, k < v := by
      simp only [List.mem_cons, List.not_mem_nil, or_false] at hx
      rcases hx with rfl | rfl | rfl | rfl
      · exact ⟨t1, [0], rfl, nJ e1, by simp, by decide, fun k hk => by rw [List.mem_singleton.mp hk]; omega⟩
      · refine ⟨t2, List.range v, rfl, ?_, fun h => ?_, by rw [List.length_range]; exact h4, fun k hk => List.mem_range.mp hk⟩
        · rw [← rg_nats]
          exact nJ e2
        · have := congrArg List.length h
          rw [List.length_range] at this
          simp at this
          omega
      · refine ⟨t4, s4, rfl, nJ e4, ne4, ?_, hs4⟩
        unfold natsV at lz
        rw [List.length_map] at lz
        exact lz
      · refine ⟨t5, [v - 1], rfl, ?_, by simp, by show 1 ≤ 4; decide, fun k hk => by rw [List.mem_singleton.mp hk]; omega⟩
        have := nJ e5
        rw [show ((v : Int) - 1) = ((v - 1 : Nat) : Int) by omega] at this
        exact this
    have p3 : H3 p = some (.lst xs) := sb3 p _ pJ pF
    have ax3 : All2 (IsRow H3) xs (rowsN v) := all_tk (sb3.gw.tk (Jg.at_ jF)) axF
    have sbH : Sb J H H3 := sbF.trans sb3
    clear nJ e1 e2 e4 e5 axF pF sBF sA sB sC sD sE sF jE sb3
    obtain ⟨so, ss, rfl, hso, ne, l4, hlt⟩ := hsome
    have pos := List.length_pos_iff.mpr ne
    have pl : ∀ r, (picks r ss).length = ss.length := fun r => by unfold picks; rw [List.length_map]
    have rowOk : ∀ {j : Nat} {r : List Int} {ss' : List Nat}, (∀ k ∈ ss', k < v) → (rowsN v)[j]? = some r → ∀ k ∈ ss', k < r.length := fun {j r ss'} h hr k hk => by
      rw [rowsN_size v r (List.mem_of_getElem? hr)]
      exact h k hk
    refine ⟨.int k, rfl, rfl, _, rfl, ite2 (fun e => ?_) (fun e => ?_)⟩
    · refine ⟨.ref p, rfl, p, rfl, ⟨xs, .of p3⟩, fun D nD => ?_⟩
      refine lc_map (M := No) (walk_list (K := K) (a := p) (xs := xs)) (by omega) Jg.no nD (fun j _ y => ∃ r, (rowsN v)[j]? = some r ∧ y = .int (someMax ss r)) (fun _ _ _ _ _ h => h) (fun Hx g _ => .of (g.toSame _ _ p3))
        (fun j x Hx Hx' Kk hj g _ hY hK => ?_) (fun Hx ys g _ eD hlen hq => ?_)
      · obtain ⟨rfl, hx⟩ := hY
        obtain ⟨r, hr, a, rfl, ha⟩ := ax3.get hx
        refine ⟨rfl, ?_⟩
        unfold tCB tCons
        refine pick_read (u := 5) rfl (g.toSame _ _ hso) (g.toSame _ _ ha) (rowOk hlt hr) (by omega) fun H4 D4 s4 e4 => ⟨D4, picks r ss, rfl, .of e4, by rw [pl]; exact pos, fun m hm hle => hK _ _ (Gw.same s4) Jg.no ⟨r, hr, congrArg V.int (max_is (List.mem_of_getElem? hr) hlt hm hle)⟩⟩
      · have ey : ys = ((rowsN v).map (someMax ss)).map V.int := by
          rw [List.map_map]
          exact list_eq (f := V.int ∘ someMax ss) hlen (by rw [rowsN_len, lx]) hq
        rw [ey] at eD
        exact ⟨D, _, rfl, .inl ⟨.of eD, fun t nt => q _ (.ref t) _ (sbH.trans (.same (g.toSame.trans (same_new nt)))) (jug_same (g.toSame.trans (same_new nt)) j3) ⟨t, rfl, upd_same⟩ (good_max h1 h4 ne hlt)⟩⟩
    refine ⟨.int k, rfl, rfl, _, rfl, ite2 (fun e => ?_) (fun e => ?_)⟩
    · refine ⟨.ref p, rfl, p, rfl, ⟨xs, .of p3⟩, fun D nD => ?_⟩
      refine lc_map (M := No) (walk_list (K := K) (a := p) (xs := xs)) (by omega) Jg.no nD (fun j _ y => ∃ r, (rowsN v)[j]? = some r ∧ y = .int (someMin ss r)) (fun _ _ _ _ _ h => h) (fun Hx g _ => .of (g.toSame _ _ p3))
        (fun j x Hx Hx' Kk hj g _ hY hK => ?_) (fun Hx ys g _ eD hlen hq => ?_)
      · obtain ⟨rfl, hx⟩ := hY
        obtain ⟨r, hr, a, rfl, ha⟩ := ax3.get hx
        refine ⟨rfl, ?_⟩
        unfold tCB tCons
        refine pick_read (u := 5) rfl (g.toSame _ _ hso) (g.toSame _ _ ha) (rowOk hlt hr) (by omega) fun H4 D4 s4 e4 => ⟨D4, picks r ss, rfl, .of e4, by rw [pl]; exact pos, fun m hm hle => hK _ _ (Gw.same s4) Jg.no ⟨r, hr, congrArg V.int (min_is (List.mem_of_getElem? hr) hlt hm hle)⟩⟩
      · have ey : ys = ((rowsN v).map (someMin ss)).map V.int := by
          rw [List.map_map]
          exact list_eq (f := V.int ∘ someMin ss) hlen (by rw [rowsN_len, lx]) hq
        rw [ey] at eD
        exact ⟨D, _, rfl, .inl ⟨.of eD, fun t nt => q _ (.ref t) _ (sbH.trans (.same (g.toSame.trans (same_new nt)))) (jug_same (g.toSame.trans (same_new nt)) j3) ⟨t, rfl, upd_same⟩ (good_min h1 h4 ne hlt)⟩⟩
    refine ⟨so, ss, rfl, hso, ne, l4, hlt, fun H4 s' ss' s4 hs' l4' od hlt' => ?_⟩
    have p4 := s4 _ _ p3
    have ax4 := all_tk (Tk.same s4) ax3
    refine ⟨.ref p, rfl, p, rfl, ⟨xs, .of p4⟩, fun D nD => ?_⟩
    refine lc_map (M := No) (walk_list (K := K) (a := p) (xs := xs)) (by omega) Jg.no nD (fun j _ y => ∃ r, (rowsN v)[j]? = some r ∧ y = .int (someSum ss' r)) (fun _ _ _ _ _ h => h) (fun Hx g _ => .of (g.toSame _ _ p4))
      (fun j x Hx Hx' Kk hj g _ hY hK => ?_) (fun Hx ys g _ eD hlen hq => ?_)
    · obtain ⟨rfl, hx⟩ := hY
      obtain ⟨r, hr, a, rfl, ha⟩ := ax4.get hx
      refine ⟨rfl, ?_⟩
      refine sum_read ?_
      refine pick_read (u := 7) rfl (g.toSame _ _ hs') (g.toSame _ _ ha) (rowOk hlt' hr) (by omega) fun H5 D5 s5 e5 => ⟨D5, picks r ss', rfl, .of e5, .inl ⟨_, rfl, _, _, rfl, rfl, (by show (0 : Int) < 2; decide), hK _ _ (Gw.same s5) Jg.no ⟨r, hr, rfl⟩⟩⟩
    · have ey : ys = ((rowsN v).map (someSum ss')).map V.int := by
        rw [List.map_map]
        exact list_eq (f := V.int ∘ someSum ss') hlen (by rw [rowsN_len, lx]) hq
      rw [ey] at eD
      exact ⟨D, _, rfl, .inl ⟨.of eD, fun t nt => q _ (.ref t) _ (sbH.trans (.same (s4.trans (g.toSame.trans (same_new nt))))) (jug_same (s4.trans (g.toSame.trans (same_new nt))) j3) ⟨t, rfl, upd_same⟩ (good_sum h1 h4 od hlt')⟩⟩
end
end Ow

set_option Elab.async false
set_option linter.all false
set_option maxRecDepth 100000
set_option maxHeartbeats 4000000
set_option exponentiation.threshold 3000
namespace Ow
open PySem PySem.Spec PyProof.Rows L2
theorem scAnyTables : FnScope ["jug", "size", "voters", "at"] ["jug", "size", "voters"] (defScope dAnyTables) := ⟨rfl, rfl, rfl, by decide +kernel, rfl, by decide +kernel, by decide +kernel⟩
theorem rows_of {H : Hp} {v : Nat} : ∀ {xs : List V}, (∀ x ∈ xs, ∃ ns, IsRow H x ns ∧ GoodT v ns) → ∃ rs, All2 (IsRow H) xs rs ∧ ∀ r ∈ rs, GoodT v r
  | [], _ => ⟨[], .nil, fun _ h => nomatch h⟩
  | x :: xs, h => by
    obtain ⟨ns, h1, g1⟩ := h x List.mem_cons_self
    obtain ⟨rs, h2, g2⟩ := rows_of fun y hy => h y (List.mem_cons_of_mem _ hy)
    exact ⟨ns :: rs, .cons h1 h2, fun r hr => by
      rcases List.mem_cons.mp hr with rfl | hr
      · exact g1
      · exact g2 r hr⟩
section
variable {P : Program} {w : World} {K : PySem.W.Frag} {mg : Str → Option Value} {base : Heap}
def spAnyTs : Sp := fun vs H Q _ => ∃ (J : Addr) (n v : Nat), vs = [.ref J, .int n, .int v] ∧ Jug H J ∧ 1 ≤ n ∧ n ≤ 60 ∧ 1 ≤ v ∧ v ≤ 4 ∧ ∀ H' x rs, Sb J H H' → Jug H' J → IsRows H' x rs → rs.length = n → (∀ r ∈ rs, GoodT v r) → Q x H'
theorem ok_anytables {f fD fT : Addr} {fd fdD fdT : FuncData} (F : Fun K "_law_any_tables" "_law_any_tables" dAnyTables f fd)
    (FD : FnOk P w K mg base CX0 1 fD fdD ["jug", "total"] spDip) (kD : PySem.W.keepIn K (.ref fD) = true) (bD : Binds K fdD ["jug", "total"] []) (gD : mg "_law_dip" = some (.ref fD))
    (FT : FnOk P w K mg base CX0 3 fT fdT ["jug", "voters"] spAnyT) (kT : PySem.W.keepIn K (.ref fT) = true) (bT : Binds K fdT ["jug", "voters"] []) (gT : mg "_law_any_table" = some (.ref fT))
    (mt : mg "tuple" = none) (mr : mg "range" = none) : FnOk P w K mg base CX0 4 f fd ["jug", "size", "voters"] spAnyTs := by
  refine F.ok scAnyTables (fun vs H Q E h => ?_) (fun cdv A outer s H vs Q E hr h => ?_)
  · obtain ⟨J, n, v, rfl, _⟩ := h
    rfl
  obtain ⟨J, n, v, rfl, hJ, hn1, hn, h1, h4, q⟩ := h
  refine ⟨_, pss_cons (ps_if (pt_cmpR op_eq (pe_call FD (hr.mono (by decide)) (by rfl) gD kD bD .nil pass0 (pa_cons (pv 0) (pa_cons pe_int pa_nil))) pe_int (nomark _))
      (pss_one (ps_ret (pe_op op_trep (pe_tup (pa_cons (pe_call FT (hr.mono (by decide)) (by rfl) gT kT bT .nil pass0 (pa_cons (pv 0) (pa_cons (pv 2) pa_nil))) pa_nil)) (pv 1)))) pss_nil)
    (pss_one (ps_ret (pe_callTy call_tuple_of (by rfl) mt boot_tup (pa_cons
      (pe_lc (te := tCall spAnyT [] E0 (tCons (tVar 0) (tCons (tVar 2) tNil))) (own := [("at", 3)]) (g := gName 3) (tt := tYes) rfl scAnyTables.nd (pi_range1 (by rfl) mr (pa_cons (pv 1) pa_nil)) (blkOk_by (N := ["jug", "size", "voters", "at"]) (sc := defScope dAnyTables) (by decide +kernel))
        (fun _ _ _ _ _ => pg_name (i := 3) scAnyTables.nd rfl (Or.inl rfl)) (fun _ _ _ _ _ => pts_nil)
        (fun _ _ _ _ _ => pe_call FT (hr.mono (by decide)) (by rfl) gT kT bT .nil pass0 (pa_cons (pv 0) (pa_cons (pv 2) pa_nil)))) pa_nil)))), ?_⟩
  refine ⟨.ref J, rfl, J, 3, rfl, by decide, by decide, hJ, fun H1 k sb1 j1 k0 k3 => ⟨rfl, _, rfl, ite2 (fun e => ?_) (fun e => ?_)⟩⟩
  · refine ⟨.ref J, rfl, .int v, rfl, J, v, rfl, j1, h1, h4, fun H2 x ns sb2 j2 hx g => ⟨(by show 1 ≤ sizeLine; decide), fun t nt => ⟨.int n, rfl, t, n, [x], rfl, rfl, upd_same, by simp, by omega, by omega, by show 1 ≤ 1000; decide, fun H3 p s3 hp => ?_⟩⟩⟩
    rw [Int.toNat_natCast, rep_flat] at hp
    have s23 : Same H2 H3 := (same_new nt).trans s3
    refine q H3 (.ref p) (List.replicate n ns) (sb1.trans (sb2.trans (.same s23))) (jug_same s23 j2) ⟨p, _, rfl, hp, all_rep (hx.tk (Tk.same s23)) n⟩ (List.length_replicate ..) fun r hr => ?_
    rw [(List.mem_replicate.mp hr).2]
    exact g
  · refine ⟨.int n, rfl, n, rfl, by omega, by omega, fun D nD => ?_⟩
    refine lc_map (M := At J) (walk_range (lo := 0) (n := n)) (by omega) (Jg.at_ j1) nD (fun i Hy y => ∃ ns, IsRow Hy y ns ∧ GoodT v ns) (fun _ _ _ _ t h => by obtain ⟨ns, h, g⟩ := h; exact ⟨ns, h.tk t, g⟩) (fun Hx _ _ => trivial)
      (fun i x Hx Hx' Kk hi g jx hY hK => ?_) (fun Hx ws g jx eD hlen hq => ?_)
    · obtain ⟨rfl, rfl⟩ := hY
      exact ⟨rfl, .ref J, rfl, .int v, rfl, J, v, rfl, jx.jug, h1, h4, fun H2 x ns sb2 j2 hx g => hK _ _ sb2.gw (Jg.at_ j2) ⟨ns, hx, g⟩⟩
    · obtain ⟨rs, hr, hg⟩ := rows_of (v := v) (xs := ws) fun x hx => by
        obtain ⟨i, hi⟩ := List.mem_iff_getElem?.mp hx
        exact hq i x hi
      have lr := hr.len
      exact ⟨D, _, rfl, .inl ⟨.of eD, fun t nt => q _ (.ref t) rs (sb1.trans (g.sb.trans (.same (same_new nt)))) (jug_same (same_new nt) jx.jug) ⟨t, _, rfl, upd_same, all_tk (Tk.new nt) hr⟩ (by omega) hg⟩⟩
end
end Ow

set_option Elab.async false
set_option linter.all false
set_option maxRecDepth 100000
set_option maxHeartbeats 4000000
namespace Ow
open PySem PySem.Spec PyProof.Rows L2
/-! ### own in, not in, len, str, () -/
section
variable {X : Cx} {CX : CXT} {k : Nat} {f C : Addr} {fd : FuncData} {ps : List Str} {sp : Sp} {E : XK}
def rInO (C : Addr) (sp : Sp) (E : XK) (neg : Bool) : R2 := fun x y H Q => ∃ a dx fs, y = .ref a ∧ H a = some (.ins C dx fs) ∧ sp [.ref a, x] H (fun v H' => ∃ b : Bool, v = .bl b ∧ Q (.bl (if neg then !b else b)) H') E
theorem op_inO (hm : Meth X.K C "__contains__" f) (F : FnOk X.prog X.w X.K X.mg X.base CX k f fd ps sp) (hr : Room k X.A) (hb : Binds X.K fd ps []) (hx : Passes CX X E) : OpR X (compareOp .In) (rInO C sp E false) := by
  intro pins s σ H x y v u Q I rx ry h
  obtain ⟨a, dx, fs, rfl, ha, q⟩ := h
  cases ry
  obtain ⟨mA, J, _⟩ := ins_get I.hok ha
  obtain ⟨od, J, _⟩ := J.look
  obtain ⟨m, hF⟩ := I.fr
  have rr : Vals [V.ref a, x] [Value.ref a, v] := .cons rfl (.cons rx .nil)
  refine PySem.W.in_K hF I.ok.mod.kin J hm.at_ hm.fn (wpAny_mono (run_at (A := X.A) rfl F hr hb hx I rr q) (fun r s' hq => ?_) fun _ _ z => z)
  obtain ⟨z, H', I', rz, b, rfl, q'⟩ := hq
  cases rz
  exact wpAny_truthy_bool ⟨.bl b, H', I', rfl, q'⟩
theorem op_notInO (hm : Meth X.K C "__contains__" f) (F : FnOk X.prog X.w X.K X.mg X.base CX k f fd ps sp) (hr : Room k X.A) (hb : Binds X.K fd ps []) (hx : Passes CX X E) : OpR X (compareOp .NotIn) (rInO C sp E true) := by
  intro pins s σ H x y v u Q I rx ry h
  obtain ⟨a, dx, fs, rfl, ha, q⟩ := h
  cases ry
  obtain ⟨mA, J, _⟩ := ins_get I.hok ha
  obtain ⟨od, J, _⟩ := J.look
  obtain ⟨m, hF⟩ := I.fr
  have rr : Vals [V.ref a, x] [Value.ref a, v] := .cons rfl (.cons rx .nil)
  refine PySem.W.notIn_K hF I.ok.mod.kin J hm.at_ hm.fn (wpAny_mono (run_at (A := X.A) rfl F hr hb hx I rr q) (fun r s' hq => ?_) fun _ _ z => z)
  obtain ⟨z, H', I', rz, b, rfl, q'⟩ := hq
  cases rz
  exact wpAny_truthy_bool ⟨.bl (!b), H', I', rfl, q'⟩
/-- len(o) -/
theorem call_lenO (hm : Meth X.K C "__len__" f) (F : FnOk X.prog X.w X.K X.mg X.base CX k f fd ps sp) (hr : Room (k + 1) X.A) (hb : Binds X.K fd ps []) (hx : Passes CX X E) :
    CallR X (.builtin "len") (fun xs H Q => ∃ a dx fs, xs = [.ref a] ∧ H a = some (.ins C dx fs) ∧ sp [.ref a] H (fun v H' => ∃ n : Int, v = .int n ∧ 0 ≤ n ∧ n < 2 ^ 63 ∧ Q (.int n) H') E) := by
  intro pins s σ H xs us Q I r h
  obtain ⟨a, dx, fs, rfl, ha, q⟩ := h
  obtain ⟨u, rfl, rx⟩ := vals1 r
  cases rx
  obtain ⟨mA, J, _⟩ := ins_get I.hok ha
  obtain ⟨od, J, _⟩ := J.look
  obtain ⟨m, hF⟩ := I.fr
  have rr : Vals [V.ref a] [Value.ref a] := .cons rfl .nil
  refine PySem.W.len_K hF I.ok.mod.kin J hm.at_ hm.fn (wpAny_mono (run_at (A := X.A.in1) rfl F hr.in1 hb hx I rr q) (fun r s' hq => ?_) fun _ _ z => z)
  obtain ⟨z, H', I', rz, n, rfl, h0, h1, q'⟩ := hq
  obtain ⟨t, rfl⟩ := rz
  exact ⟨⟨h0, h1⟩, .int n, H', I'.tok _, ⟨_, rfl⟩, q'⟩
/-- str(o) -/
theorem call_strO (hm : Meth X.K C "__str__" f) (F : FnOk X.prog X.w X.K X.mg X.base CX k f fd ps sp) (hr : Room (k + 2) X.A) (hb : Binds X.K fd ps []) (hx : Passes CX X E) :
    CallR X (.type "str") (fun xs H Q => ∃ a dx fs, xs = [.ref a] ∧ H a = some (.ins C dx fs) ∧ sp [.ref a] H (fun v H' => ∃ z : Str, v = .str z ∧ Q (.str z) H') E) := by
  intro pins s σ H xs us Q I r h
  obtain ⟨a, dx, fs, rfl, ha, q⟩ := h
  obtain ⟨u, rfl, rx⟩ := vals1 r
  cases rx
  obtain ⟨mA, J, _⟩ := ins_get I.hok ha
  obtain ⟨od, J, _⟩ := J.look
  have rr : Vals [V.ref a] [Value.ref a] := .cons rfl .nil
  have hr2 : Room k X.A.in1.in1 := hr.in1.in1
  have hu : X.A.in1.in1.units < cLine := by have := hr2.un; omega
  refine PySem.W.kso_call hu I.kIn J hm.at_ hm.fn (wpAny_mono (run_at (A := X.A.in1.in1) rfl F hr2 hb hx I rr q) (fun r s' hq => ?_) fun _ _ z => z)
  obtain ⟨z, H', I', rz, t, rfl, q'⟩ := hq
  obtain ⟨t', rfl⟩ := rz
  exact ⟨.str t, H', I', ⟨_, rfl⟩, q'⟩
end
end Ow

set_option Elab.async false
set_option linter.all false
set_option maxRecDepth 100000
set_option maxHeartbeats 4000000
namespace Ow
open PySem PySem.Spec PyProof.Rows L2
open PySem.Calls in
theorem callWith_O {M : Model} {A : Around} {E : Value → Shared → Prop} {s : Shared} {K : PySem.W.Frag} {x C : Addr} {first : List Value} {Q : Value → Shared → Prop} {pos : Pos} {args : List (Bool × Sem Value)} {keywords : List (Option Str × Sem Value)}
    (hplain : (args.any (·.1) || keywords.any (·.1.isNone)) = false)
    (h : wpAny M A (evalArgs (.ref x) true args keywords) (fun a s₁ => (∃ ox od, PySem.W.InstAt s₁.heap x ox C od ∧ ox.data = .plain) ∧ wpAny M A (call (.ref x) (first ++ a.pos) a.kw) Q E s₁) E s) : wpAny M A (callWith pos (.ref x) first args keywords) Q E s := by
  unfold callWith
  refine wpAny_bind (wpAny_holding (wpAny_mono h (fun a s₁ h₁ => wpAny_bind (wpAny_standAt ?_)) fun _ _ y => y))
  obtain ⟨⟨ox, od, I, hd⟩, h2⟩ := h₁
  have L := PySem.W.kco_keeper (M := M) I hd
  simp only [hplain]
  refine wpAny_bind (L.here ?_)
  have tail : ∀ {t : Sem Value}, wpAny M A t Q E s₁ → wpAny M A (t >>= fun r => holding [r] point >>= fun _ => pure r) Q E s₁ :=
    fun ht => wpAny_bind (wpAny_mono ht (fun r s₂ hr => wpAny_bind (wpAny_holding (wpAny_point (wpAny_pure hr)))) fun _ _ y => y)
  exact tail (wpAny_operateT h2)
section
variable {X : Cx} {CX : CXT} {k : Nat} {f C : Addr} {fd : FuncData} {ps : List Str} {sp : Sp} {E : XK} {x : Str} {p pos : Pos} {e : Expr} {es : List Expr} {t : TA} {tf : TE}
/-- o(e, ..), o a name that holds an instance of an own class with its own () -/
def tCallO (C : Addr) (sp : Sp) (E : XK) (tf : TE) (t : TA) : TE := fun σ H Q => tf σ H fun y H1 => ∃ a, y = .ref a ∧ t σ H1 fun vs H2 => (∃ dx fs, H2 a = some (.ins C dx fs)) ∧ sp (.ref a :: vs) H2 Q E
theorem pe_callO (hf : PE X (.Name x p) tf) (hm : Meth X.K C "__call__" f) (hfn : PySem.W.fnIn X.K f = true) (F : FnOk X.prog X.w X.K X.mg X.base CX k f fd ps sp) (hr : Room k X.A) (hb : Binds X.K fd ps []) (hx : Passes CX X E) (ha : PA X (e :: es) t)
    (he : starEach (e :: es) X.env = (false, eval e X.env) :: starEach es X.env := by rfl) (hpl : (backTo pos (starEach es X.env)).any (·.1) = false := by rfl) : PE X (.Call (.Name x p) (e :: es) [] pos) (tCallO C sp E tf t) := by
  refine ⟨fun pins s σ H Q I h => ?_⟩
  refine wpAny_Call_Name_kw (thn (hf.run pins s σ H _ I h) fun u s1 ⟨y, H1, I1, r1, a, ey, q1⟩ => ?_)
  subst ey
  obtain rfl : u = Value.ref a := r1
  rw [he]
  refine callWith_O (C := C) (K := X.K) (by show ((false || (backTo pos (starEach es X.env)).any (·.1)) || false) = false; rw [hpl]; rfl) (Calls.evalArgs_plain ?_)
  have hA := ha.run pos pins s1 σ H1 _ I1 q1
  rw [he] at hA
  refine thn hA fun us s2 ⟨vs, H2, I2, r2, ⟨dx, fs, hins⟩, q2⟩ => ?_
  obtain ⟨mA, J, _⟩ := ins_get I2.hok hins
  obtain ⟨od, J, _⟩ := J.look
  refine ⟨⟨_, _, J, rfl⟩, ?_⟩
  have rr : Vals (V.ref a :: vs) (Value.ref a :: us) := .cons rfl r2
  have hl : (Value.ref a :: us).length = ps.length := by rw [← rr.length]; exact F.len _ _ _ _ q2
  have b := hb s2 (Value.ref a :: us) I2.kIn (by rw [List.append_nil]; exact hl)
  rw [List.append_nil] at b
  refine wpAny_call (PySem.W.kco_code I2.kIn J rfl hm.at_ hm.fn hfn (codeAny_mono (F.run X.A X.stack s2 H2 ⟨Value.ref a :: us, []⟩ _ (V.ref a :: vs) Q E hr I2.env0 b rr q2) fun o s' hq => ?_))
  cases o with
  | error e => exact hx pins σ H2 s2 e s' I2 hq
  | ok fl =>
    cases fl with
    | ret u => exact I2.after hq
    | next => exact False.elim hq
    | brk => exact False.elim hq
    | cont => exact False.elim hq
end
end Ow

set_option Elab.async false
set_option linter.all false
set_option maxRecDepth 100000
set_option maxHeartbeats 4000000
namespace Ow
open PySem PySem.Spec PyProof.Rows L2
/-- the signs of a text, each a text -/
def signsV (z : Str) : List V := z.cps.toList.map fun c => .str ⟨#[c]⟩
def rListS : List V → Hp → VK → Prop := fun xs H Q => ∃ z, xs = [.str z] ∧ z.length ≤ 5000 ∧ ∀ p, H p = none → Q (.ref p) (upd H p (.lst (signsV z)))
theorem call_listS {X : Cx} (hc : X.calm = true) : CallR X (.type "list") rListS := by
  intro pins s σ H xs us Q I r h
  obtain ⟨z, rfl, hz, q⟩ := h
  obtain ⟨u, rfl, rx⟩ := vals1 r
  obtain ⟨t, rfl⟩ := rx
  have hsz : z.cps.size ≤ sizeLine := Nat.le_trans hz (by decide)
  refine call_list_str (I.ok.hd hc) z t (fun h' tk acc' c' hk hS hacc => ?_) hsz
  refine ⟨.ref s.heap.objs.size, _, I.laid (t' := tk) hk (Nat.le_refl _) (show ObjOk X.prog X.w _ h' _ (.lst (signsV z)) from ?_), rfl, q _ (I.hok.fresh (Nat.le_refl _))⟩
  refine ⟨by unfold signsV; rw [List.length_map, Array.length_toList]; exact hsz, acc'.toList, c', ?_, by rw [Array.toArray_toList]; exact hS⟩
  refine vals_of_at (by unfold signsV; rw [List.length_map, Array.length_toList, Array.length_toList]; exact hacc.1.symm) fun j x v hx hv => ?_
  obtain ⟨c, u, hc2, rfl⟩ := hacc.2 j v (by rw [Array.getElem?_toList] at hv; exact hv)
  unfold signsV at hx
  rw [List.getElem?_map, Array.getElem?_toList, hc2] at hx
  cases hx
  exact ⟨_, rfl⟩
end Ow

set_option Elab.async false
set_option linter.all false
set_option maxRecDepth 100000
set_option maxHeartbeats 4000000
namespace Ow
open PySem PySem.Spec PyProof.Rows L2
/-- a sign so many times -/
def timesS (c n : Nat) : Str := ⟨(List.replicate n c).toArray⟩
theorem times_fold (c : Nat) : ∀ (n : Nat) (acc : Array Nat), (List.replicate n #[c]).foldl (· ++ ·) acc = acc ++ (List.replicate n c).toArray
  | 0, acc => by simp
  | n + 1, acc => by
    rw [List.replicate_succ, List.foldl_cons, times_fold c n, List.replicate_succ]
    apply Array.toList_inj.mp
    simp
/-- a text of one sign, so many times (two or more) -/
def rRepS : R2 := fun x y H Q => ∃ c n : Nat, x = .str ⟨#[c]⟩ ∧ y = .int (n : Int) ∧ 2 ≤ n ∧ n ≤ 1000 ∧ Q (.str (timesS c n)) H
theorem op_repS {X : Cx} : OpR X (binaryOp .Mult) rRepS := by
  intro pins s σ H x y v u Q I rx ry h
  obtain ⟨c, n, rfl, rfl, h2, h3, q⟩ := h
  obtain ⟨t, rfl⟩ := rx
  obtain ⟨t', rfl⟩ := ry
  have l1 : (⟨#[c]⟩ : Str).length = 1 := rfl
  refine PySem.P.mul_str ?_ (fun _ _ => ?_) (fun _ _ => ?_) ?_
  · rw [decide_eq_false (show ¬ (n : Int) < -(2 ^ 63 : Int) by omega), decide_eq_false (show ¬ (n : Int) ≥ 2 ^ 63 by omega)]
    rfl
  · rw [l1]
    have : (1000 : Int) ≤ (2 ^ 63 - 1) / (n : Int) := by
      rw [Int.le_ediv_iff_mul_le (by omega)]
      omega
    omega
  · rw [l1, Int.toNat_natCast, Nat.one_mul]
    unfold PySem.Builtin.Str.tooLong
    have := small60 (show n ≤ 5000 by omega)
    exact decide_eq_false (by omega)
  · have e1 : ((n : Int) == 1) = false := by
      rw [beq_eq_false_iff_ne]
      omega
    have e2 : ((⟨#[c]⟩ : Str).length == 0) = false := rfl
    rw [if_neg (show ¬ (n : Int) < 1 by omega), e1, e2, if_neg (show ¬ (false || false) = true by decide), Int.toNat_natCast, times_fold]
    have e3 : (#[] ++ (List.replicate n c).toArray : Array Nat) = (List.replicate n c).toArray := by simp
    rw [e3]
    refine ⟨?_, .str (timesS c n), H, I.tok _, ⟨_, rfl⟩, q⟩
    show (List.replicate n c).toArray.size ≤ sizeLine
    rw [List.size_toArray, List.length_replicate]
    exact Nat.le_of_lt (small60 (by omega))
end Ow

set_option Elab.async false
set_option linter.all false
set_option maxRecDepth 100000
set_option maxHeartbeats 4000000
set_option exponentiation.threshold 3000
namespace Ow
open PySem PySem.Spec PyProof.Rows L2
theorem scJumbled : FnScope ["jug", "items", "waits", "turn"] ["jug", "items"] (defScope dJumbled) := ⟨rfl, rfl, rfl, by decide +kernel, rfl, by decide +kernel, by decide +kernel⟩
/-- what a list is made of: a list, or a text's signs -/
def Src (H : Hp) (J : Addr) (x : V) (xs : List V) : Prop := (∃ L, x = .ref L ∧ L ≠ J ∧ H L = some (.lst xs)) ∨ ∃ z : Str, x = .str z ∧ z.length ≤ 60 ∧ xs = signsV z
def rListA (K : PySem.W.Frag) : List V → Hp → VK → Prop := fun xs H Q => (∃ p ys, xs = [.ref p] ∧ (SqL K H p ys ∨ SqT K H p ys) ∧ ∀ l, H l = none → Q (.ref l) (upd H l (.lst ys))) ∨ rListS xs H Q
theorem call_listA {X : Cx} (hc : X.calm = true) : CallR X (.type "list") (rListA X.K) := CallR.or call_list_of (call_listS hc)
theorem Src.call {K : PySem.W.Frag} {H : Hp} {J : Addr} {x : V} {xs : List V} {Q : VK} (h : Src H J x xs) (q : ∀ l, H l = none → Q (.ref l) (upd H l (.lst xs))) : rListA K [x] H Q := by
  rcases h with ⟨L, rfl, _, hL⟩ | ⟨z, rfl, hz, rfl⟩
  · exact .inl ⟨L, xs, rfl, .inl (.of hL), q⟩
  · exact .inr ⟨z, rfl, Nat.le_trans hz (by decide), q⟩
theorem Src.same {H H' : Hp} {J : Addr} {x : V} {xs : List V} (h : Src H J x xs) (s : Same H H') : Src H' J x xs := by
  rcases h with ⟨L, e, n, hL⟩ | h
  · exact .inl ⟨L, e, n, s _ _ hL⟩
  · exact .inr h
theorem perm_erase {α : Type} : ∀ (ws : List α) (k : Nat) (h : k < ws.length), (ws[k] :: ws.eraseIdx k).Perm ws
  | w :: ws, 0, _ => .refl _
  | w :: ws, k + 1, h => by
    show (ws[k]'(Nat.lt_of_succ_lt_succ h) :: w :: ws.eraseIdx k).Perm (w :: ws)
    exact (List.Perm.swap w _ _).trans ((perm_erase ws k (Nat.lt_of_succ_lt_succ h)).cons w)
theorem yes_of' {σ : L2.St} {H : Hp} {A B : Hp → Prop} (h : A H) : tYes σ H (fun b H3 => if b = true then A H3 else B H3) := by
  show if true = true then A H else B H
  rw [if_pos rfl]
  exact h
section
variable {P : Program} {w : World} {K : PySem.W.Frag} {mg : Str → Option Value} {base : Heap}
/-- the items in some order, a new list -/
def spJum : Sp := fun vs H Q _ => ∃ (J : Addr) (x0 : V) (xs : List V), vs = [.ref J, x0] ∧ Jug H J ∧ Src H J x0 xs ∧ xs.length ≤ 60 ∧ ∀ H' p ys, Sb J H H' → Jug H' J → H p = none → H' p = some (.lst ys) → ys.Perm xs → Q (.ref p) H'
theorem ok_jumbled {f fD : Addr} {fd fdD : FuncData} (F : Fun K "_law_jumbled" "_law_jumbled" dJumbled f fd)
    (FD : FnOk P w K mg base CX0 1 fD fdD ["jug", "total"] spDip) (kD : PySem.W.keepIn K (.ref fD) = true) (bD : Binds K fdD ["jug", "total"] []) (gD : mg "_law_dip" = some (.ref fD))
    (mls : mg "list" = none) (ml : mg "len" = none) : FnOk P w K mg base CX0 2 f fd ["jug", "items"] spJum := by
  refine F.ok scJumbled (fun vs H Q E h => ?_) (fun cdv A outer s H vs Q E hr h => ?_)
  · obtain ⟨J, x0, xs, rfl, _⟩ := h
    rfl
  obtain ⟨J, x0, xs, rfl, hJ, hL, hl, q⟩ := h
  refine ⟨_, pss_cons (ps_set (i := 2) scJumbled.nd rfl (.inr rfl) (pe_callTy (call_listA rfl) (by rfl) mls (by decide +kernel) (pa_cons (pv 1) pa_nil)))
    (pss_one (ps_ret (pe_lc (te := tBM K "list" rPopAt (tVar 2) (tCons (tCall spDip [] E0 (tCons (tVar 0) (tCons (tCB (fun xs H Q => ∃ p ys, xs = [.ref p] ∧ (SqL K H p ys ∨ SqT K H p ys) ∧ Q (.int ys.length) H) (tCons (tVar 2) tNil)) tNil))) tNil)) (own := [("turn", 3)]) (g := gName 3) (tt := tYes) rfl scJumbled.nd
      (pi_list (pe_callTy (call_listA rfl) (by rfl) mls (by decide +kernel) (pa_cons (pv 1) pa_nil))) (blkOk_by (N := ["jug", "items", "waits", "turn"]) (sc := defScope dJumbled) (by decide +kernel))
      (fun _ _ _ _ _ => pg_name (i := 3) scJumbled.nd rfl (Or.inl rfl)) (fun _ _ _ _ _ => pts_nil)
      (fun _ _ _ _ _ => pe_bm PySem.F.plainAttrs_list PySem.F.slot_list_pop PySem.F.type_list_pop mt_popAt (pv 2) (pa_cons (pe_call FD hr (by rfl) gD kD bD .nil pass0 (pa_cons (pv 0) (pa_cons (pe_callB call_len_seq (by rfl) ml PySem.boot_len (pa_cons (pv 2) pa_nil)) pa_nil))) pa_nil))))), ?_⟩
  refine ⟨x0, rfl, ?_⟩
  dsimp only [tNil]
  refine hL.call (K := K) fun W nW => ?_
  have sW := same_new (o := .lst xs) nW
  have eW : upd H W (.lst xs) W = some (.lst xs) := upd_same
  have hL1 := hL.same sW
  have j1 := jug_same sW hJ
  have WJ : W ≠ J := jug_none hJ nW
  have keep1 : ∀ b o, H b = some o → b ≠ W := fun b o e => ne_of_none e nW
  generalize upd H W (.lst xs) = H1 at sW eW hL1 j1 ⊢
  refine ⟨x0, rfl, ?_⟩
  dsimp only [tNil]
  refine hL1.call (K := K) fun T nT => ⟨T, rfl, ⟨xs, .of upd_same⟩, fun D nD => ?_⟩
  have sT := same_new (o := .lst xs) nT
  have eW2 := sT _ _ eW
  have TJ : T ≠ J := jug_none j1 nT
  have TW : T ≠ W := (ne_of_none eW nT).symm
  have j2 := jug_same sT j1
  have eT : upd H1 T (.lst xs) T = some (.lst xs) := upd_same
  have keep2 : ∀ b o, H b = some o → upd H1 T (.lst xs) b = some o := fun b o e => sT _ _ (sW _ _ e)
  have nD0 : H D = none := by
    cases e : H D with
    | none => rfl
    | some o => rw [keep2 D o e] at nD; cases nD
  generalize upd H1 T (.lst xs) = H2 at eW2 j2 eT keep2 nD ⊢
  have DJ : D ≠ J := jug_none j2 nD
  have DW : D ≠ W := (ne_of_none eW2 nD).symm
  have DT : D ≠ T := (ne_of_none eT nD).symm
  refine lc_it (walk_list (K := K) (a := T) (xs := xs)) (fun i Hx => (∀ b o, b ≠ J → b ≠ W → b ≠ D → H2 b = some o → Hx b = some o) ∧ Jug Hx J ∧ ∃ ws ys, Hx W = some (.lst ws) ∧ Hx D = some (.lst ys) ∧ (ys ++ ws).Perm xs ∧ ys.length = i)
    ⟨fun b o _ _ n e => by rw [upd_ne n]; exact e, jug_keep j2 DJ, xs, [], by rw [upd_ne DW.symm]; exact eW2, upd_same, .refl _, rfl⟩ (fun i Hx _ h => .of (h.1 _ _ TJ TW DT.symm eT)) (fun i x Hx Hx' hi h hY => ?_) (fun Hx h => ?_)
  · obtain ⟨rfl, hx⟩ := hY
    obtain ⟨kp, jx, ws, ys, ew, ed, pm, ly⟩ := h
    have lw : ys.length + ws.length = xs.length := by rw [← List.length_append]; exact pm.length_eq
    have pos : 0 < ws.length := by omega
    refine ⟨rfl, yes_of' ?_⟩
    refine ⟨.ref W, rfl, .inl ⟨rfl, _, .of ew⟩, .ref J, rfl, .ref W, rfl, W, ws, rfl, .inl (.of ew), J, ws.length, rfl, by omega, ?_, jx, fun H3 k sb3 j3 k0 kl => ?_⟩
    · exact Nat.lt_of_lt_of_le (by omega : ((ws.length : Nat) : Int).natAbs < 2 ^ 6) (Nat.pow_le_pow_right (by decide) (by decide))
    have ew3 := sb3 _ _ WJ ew
    have ed3 := sb3 _ _ DJ ed
    have kn : k.toNat < ws.length := by omega
    refine ⟨W, ws, k, k.toNat, ws[k.toNat], rfl, rfl, ew3, by omega, by omega, seqIndex_of k0 kl, List.getElem?_eq_getElem kn, ys, ?_, small60 (by omega), fun b o n1 n2 n3 e => ?_, ?_, ws.eraseIdx k.toNat, ys ++ [ws[k.toNat]], ?_, upd_same, ?_, by rw [List.length_append, ly]; rfl⟩
    · rw [upd_ne DW]
      exact ed3
    · rw [upd_ne n3, upd_ne n2]
      exact sb3 _ _ n1 (kp b o n1 n2 n3 e)
    · exact jug_keep (jug_keep j3 WJ) DJ
    · rw [upd_ne DW.symm]
      exact upd_same
    · have p1 : (ws[k.toNat] :: ws.eraseIdx k.toNat).Perm ws := perm_erase _ _ kn
      have : (ys ++ [ws[k.toNat]] ++ ws.eraseIdx k.toNat) = ys ++ (ws[k.toNat] :: ws.eraseIdx k.toNat) := by simp
      rw [this]
      exact (List.Perm.append_left ys p1).trans pm
  · obtain ⟨kp, jx, ws, ys, ew, ed, pm, ly⟩ := h
    have lw : ys.length + ws.length = xs.length := by rw [← List.length_append]; exact pm.length_eq
    have e0 : ws = [] := List.length_eq_zero_iff.mp (by omega)
    rw [e0, List.append_nil] at pm
    exact q Hx D ys (fun b o n e => kp b o n (keep1 b o e) (fun z => by rw [z, nD0] at e; cases e) (keep2 b o e)) jx nD0 ed pm
end
end Ow

set_option Elab.async false
set_option linter.all false
set_option maxRecDepth 100000
set_option maxHeartbeats 4000000
set_option exponentiation.threshold 3000
namespace Ow
open PySem PySem.Spec PyProof.Rows L2
theorem scLetter : FnScope ["jug"] ["jug"] (defScope dLetter) := ⟨rfl, rfl, rfl, by decide +kernel, rfl, by decide +kernel, by decide +kernel⟩
abbrev mnN : List Str := ["jug", "much", "body", "lot", "found", "at", "spot", "sign"]
theorem scManyNames : FnScope mnN ["jug", "much"] (defScope dManyNames) := ⟨rfl, rfl, rfl, by decide +kernel, rfl, by decide +kernel, by decide +kernel⟩
def Small (c : Nat) : Prop := 97 ≤ c ∧ c ≤ 122
def oneS (c : Nat) : Str := ⟨#[c]⟩
theorem app_toList (a b : Str) : (a ++ b).cps.toList = a.cps.toList ++ b.cps.toList := by
  show (a.cps ++ b.cps).toList = _
  exact Array.toList_append
theorem join_ones : ∀ cs : List Nat, (Str.join (Str.ofString "") (cs.map oneS)).cps.toList = cs
  | [] => rfl
  | [c] => rfl
  | c :: d :: r => by
    show (oneS c ++ Str.ofString "" ++ Str.join (Str.ofString "") ((d :: r).map oneS)).cps.toList = _
    rw [app_toList, app_toList, join_ones (d :: r)]
    rfl
theorem txt_ones (cs : List Nat) : (Txt.join (Str.ofString "") (cs.map oneS)).cps.toList = cs := by
  have e : Txt.join (Str.ofString "") (cs.map oneS) = Str.join (Str.ofString "") (cs.map oneS) := eq_of_beq (join_closes rfl)
  rw [e]
  exact join_ones cs
theorem cutS_take {z : Str} {i : Nat} (h : i ≤ z.length) : (cutS z none (some (i : Int))).cps.toList = z.cps.toList.take i := by
  unfold cutS
  have e1 : HT.sIx z.length 0 none = 0 := rfl
  have e2 : HT.sIx z.length z.length (some (i : Int)) = i := by
    rw [HT.sIx_nat]
    omega
  simp only [e1, e2]
  rw [List.drop_zero]
  rfl
theorem cutS_drop {z : Str} {i : Nat} (h : i ≤ z.length) : (cutS z (some (i : Int)) none).cps.toList = z.cps.toList.drop i := by
  unfold cutS
  have e1 : HT.sIx z.length 0 (some (i : Int)) = i := by
    rw [HT.sIx_nat]
    omega
  have e2 : HT.sIx z.length z.length none = z.length := rfl
  simp only [e1, e2]
  rw [List.take_of_length_le]
  rw [List.length_drop]
  show z.cps.toList.length - i ≤ z.cps.size - i
  rw [Array.length_toList]
  exact Nat.le_refl _
theorem name_of {z : Str} (h1 : 1 ≤ z.cps.toList.length) (h8 : z.cps.toList.length ≤ 8) (h : ∀ c ∈ z.cps.toList, Small c) : nameB (.str z) = true := by
  rw [Array.length_toList] at h1 h8
  show ((decide (1 ≤ z.length) && decide (z.length ≤ 8)) && z.cps.toList.all signB) = true
  rw [decide_eq_true (show 1 ≤ z.length from h1), decide_eq_true (show z.length ≤ 8 from h8)]
  have : z.cps.toList.all signB = true := List.all_eq_true.mpr fun c hc => by
    obtain ⟨a, b⟩ := h c hc
    unfold signB
    rw [decide_eq_true a, decide_eq_true b]
    rfl
  rw [this]
  rfl
/-- the names by their signs -/
def Nm (pl : Nat) (z : Str) (c : Nat) : Prop := nameB (.str z) = true ∧ z.cps.toList[pl]? = some c
theorem nm_nodup {pl : Nat} : ∀ {zs : List Str} {cs : List Nat}, All2 (Nm pl) zs cs → cs.Nodup → zs.Nodup
  | _, _, .nil, _ => List.nodup_nil
  | z :: zs, c :: cs, .cons h t, nd => by
    have nd' := List.nodup_cons.mp nd
    refine List.nodup_cons.mpr ⟨fun m => ?_, nm_nodup t nd'.2⟩
    obtain ⟨i, hi⟩ := List.mem_iff_getElem?.mp m
    obtain ⟨d, hd, hn⟩ := t.get hi
    have e := hn.2.symm.trans h.2
    cases e
    exact nd'.1 (List.mem_of_getElem? hd)
theorem alpha : (Str.ofString "abcdefghijklmnopqrstuvwxyz").cps.toList = (List.range 26).map (97 + ·) := by decide +kernel
/-- what a list in another order is made of -/
theorem perm_map_inv {α β : Type} {f : α → β} (g : β → α) (hg : ∀ a, g (f a) = a) {ys : List β} {l : List α} (h : ys.Perm (l.map f)) : ∃ cs : List α, ys = cs.map f ∧ cs.Perm l := by
  refine ⟨ys.map g, ?_, ?_⟩
  · rw [List.map_map]
    have : ys.map (f ∘ g) = ys.map id := List.map_congr_left fun y hy => by
      obtain ⟨a, _, rfl⟩ := List.mem_map.mp (h.mem_iff.mp hy)
      show f (g (f a)) = f a
      rw [hg]
    rw [this, List.map_id]
  · have := h.map g
    rw [List.map_map] at this
    have e : l.map (g ∘ f) = l := by
      have : l.map (g ∘ f) = l.map id := List.map_congr_left fun a _ => hg a
      rw [this, List.map_id]
    rw [e] at this
    exact this
def unS : V → Nat
  | .str z => z.cps.toList.headD 0
  | _ => 0
section
variable {P : Program} {w : World} {K : PySem.W.Frag} {mg : Str → Option Value} {base : Heap}
def spLetter : Sp := fun vs H Q _ => ∃ (J : Addr), vs = [.ref J] ∧ Jug H J ∧ ∀ H' c, Sb J H H' → Jug H' J → Small c → Q (.str (oneS c)) H'
theorem ok_letter {f fD : Addr} {fd fdD : FuncData} (F : Fun K "_law_letter" "_law_letter" dLetter f fd) (FD : FnOk P w K mg base CX0 1 fD fdD ["jug", "total"] spDip)
    (kD : PySem.W.keepIn K (.ref fD) = true) (bD : Binds K fdD ["jug", "total"] []) (gD : mg "_law_dip" = some (.ref fD)) : FnOk P w K mg base CX0 2 f fd ["jug"] spLetter := by
  refine F.ok scLetter (fun vs H Q E h => ?_) (fun cdv A outer s H vs Q E hr h => ?_)
  · obtain ⟨J, rfl, _⟩ := h
    rfl
  obtain ⟨J, rfl, hJ, q⟩ := h
  refine ⟨_, pss_one (ps_ret (pe_ix ix_str pe_str (pe_call FD hr (by rfl) gD kD bD .nil pass0 (pa_cons (pv 0) (pa_cons pe_int pa_nil))) (fun _ _ => rfl))), ?_⟩
  refine ⟨.ref J, rfl, J, 26, rfl, by decide, by decide, hJ, fun H' k sb hJ' k0 kn => ?_⟩
  refine ⟨_, k, 97 + k.toNat, rfl, rfl, by decide +kernel, ?_, q _ _ sb hJ' ⟨by omega, by omega⟩⟩
  rw [alpha]
  have e : k = (k.toNat : Int) := by omega
  rw [e]
  refine atI_nat ?_
  rw [List.getElem?_map, List.getElem?_range (by omega)]
  rfl
end
end Ow

set_option Elab.async false
set_option linter.all false
set_option maxRecDepth 100000
set_option maxHeartbeats 4000000
set_option exponentiation.threshold 3000
namespace Ow
open PySem PySem.Spec PyProof.Rows L2
theorem strs_of : ∀ {ys : List V}, (∀ y ∈ ys, ∃ c, y = .str (oneS c) ∧ Small c) → ∃ cs : List Nat, ys = (cs.map oneS).map V.str ∧ ∀ c ∈ cs, Small c
  | [], _ => ⟨[], rfl, fun _ h => nomatch h⟩
  | y :: ys, h => by
    obtain ⟨c, rfl, hc⟩ := h y List.mem_cons_self
    obtain ⟨cs, rfl, hs⟩ := strs_of fun z hz => h z (List.mem_cons_of_mem _ hz)
    exact ⟨c :: cs, rfl, fun j hj => by
      rcases List.mem_cons.mp hj with rfl | hj
      · exact hc
      · exact hs j hj⟩
theorem nat_of {k n : Int} (h0 : 0 ≤ k) (h1 : k < n) : ∃ i : Nat, k = (i : Int) ∧ (i : Int) < n := ⟨k.toNat, by omega, by omega⟩
theorem sum_ones : ∀ cs : List Nat, ((cs.map oneS).map (·.length)).sum = cs.length
  | [] => rfl
  | c :: cs => by
    rw [List.map_cons, List.map_cons, List.sum_cons, sum_ones cs, List.length_cons]
    show 1 + cs.length = _
    omega
theorem cutW_take {xs : List V} {i : Nat} (h : i ≤ xs.length) : cutV xs none (some (i : Int)) = xs.take i := by
  unfold cutV
  have e1 : HT.sIx xs.length 0 none = 0 := rfl
  have e2 : HT.sIx xs.length xs.length (some (i : Int)) = i := by
    rw [HT.sIx_nat]
    omega
  simp only [e1, e2]
  rw [List.drop_zero]
  rfl
section
variable {P : Program} {w : World} {K : PySem.W.Frag} {mg : Str → Option Value} {base : Heap}
def spNames : Sp := fun vs H Q _ => ∃ (J : Addr) (m : Nat), vs = [.ref J, .int m] ∧ Jug H J ∧ m ≤ 20 ∧ ∀ H' p (zs : List Str), Sb J H H' → Jug H' J → H p = none → H' p = some (.lst (zs.map V.str)) → zs.length = m → zs.Nodup → (∀ z ∈ zs, nameB (.str z) = true) → Q (.ref p) H'
theorem ok_manynames {f fD fL fJ : Addr} {fd fdD fdL fdJ : FuncData} (F : Fun K "_law_many_names" "_law_many_names" dManyNames f fd)
    (FD : FnOk P w K mg base CX0 1 fD fdD ["jug", "total"] spDip) (kD : PySem.W.keepIn K (.ref fD) = true) (bD : Binds K fdD ["jug", "total"] []) (gD : mg "_law_dip" = some (.ref fD))
    (FL : FnOk P w K mg base CX0 2 fL fdL ["jug"] spLetter) (kL : PySem.W.keepIn K (.ref fL) = true) (bL : Binds K fdL ["jug"] []) (gL : mg "_law_letter" = some (.ref fL))
    (FJ : FnOk P w K mg base CX0 2 fJ fdJ ["jug", "items"] spJum) (kJ : PySem.W.keepIn K (.ref fJ) = true) (bJ : Binds K fdJ ["jug", "items"] []) (gJ : mg "_law_jumbled" = some (.ref fJ))
    (mr : mg "range" = none) (ml : mg "len" = none) : FnOk P w K mg base CX0 3 f fd ["jug", "much"] spNames := by
  refine F.ok scManyNames (fun vs H Q E h => ?_) (fun cdv A outer s H vs Q E hr h => ?_)
  · obtain ⟨J, m, rfl, _⟩ := h
    rfl
  obtain ⟨J, m, rfl, hJ, hm, q⟩ := h
  refine ⟨_, pss_cons (ps_par3 (i := 2) (j := 3) (l := 4) (by rfl) scManyNames.nd rfl rfl rfl (by decide) (by decide) (by decide) rfl rfl rfl (pa_cons
        (pe_join pe_str (pe_lc (te := tCall spLetter [] E0 (tCons (tVar 0) tNil)) (own := [("at", 5)]) (g := gName 5) (tt := tYes) rfl scManyNames.nd (pi_range1 (by rfl) mr (pa_cons (pe_call FD (hr.mono (by decide)) (by rfl) gD kD bD .nil pass0 (pa_cons (pv 0) (pa_cons pe_int pa_nil))) pa_nil)) (blkOk_by (N := mnN) (sc := defScope dManyNames) (by decide +kernel))
          (fun _ _ _ _ _ => pg_name (i := 5) scManyNames.nd rfl (Or.inl rfl)) (fun _ _ _ _ _ => pts_nil)
          (fun _ _ _ _ _ => pe_call FL hr (by rfl) gL kL bL .nil pass0 (pa_cons (pv 0) pa_nil))))
        (pa_cons (pe_call FD (hr.mono (by decide)) (by rfl) gD kD bD .nil pass0 (pa_cons (pv 0) (pa_cons pe_int pa_nil))) (pa_cons (pe_lst pa_nil) pa_nil))) (by rfl))
    (pss_cons (ps_set (i := 6) scManyNames.nd rfl (.inl rfl) (pe_call FD (hr.mono (by decide)) (by rfl) gD kD bD .nil pass0 (pa_cons (pv 0) (pa_cons (pe_op op_add (pe_callB call_len_str (by rfl) ml PySem.boot_len (pa_cons (pv 2) pa_nil)) pe_int) pa_nil))))
    (pss_cons (ps_for PassesOwn.never rfl (pi_list (pe_slice sl_list (pe_call FJ hr (by rfl) gJ kJ bJ .nil pass0 (pa_cons (pv 0) (pa_cons pe_str pa_nil))) po_none (po_some (pv 1)))) (pg_name (i := 7) scManyNames.nd rfl (.inl rfl))
      (pss_one (ps_if (pt_cmpR op_eq (pv 3) pe_int (nomark _))
        (pss_one (ps_expr (pe_bm PySem.F.plainAttrs_list PySem.F.slot_list_append PySem.F.type_list_append mt_append (pv 4) (pa_cons (pe_op op_add_str (pe_op op_add_str (pe_slice sl_str (pv 2) po_none (po_some (pv 6))) (pv 7)) (pe_slice sl_str (pv 2) (po_some (pv 6)) po_none)) pa_nil))))
        (pss_one (ps_if (pt_cmpR op_eq (pv 3) pe_int (nomark _))
          (pss_one (ps_expr (pe_bm PySem.F.plainAttrs_list PySem.F.slot_list_append PySem.F.type_list_append mt_append (pv 4) (pa_cons (pe_op op_add_str (pv 7) (pe_slice sl_str (pv 2) po_none (po_some (pe_call FD (hr.mono (by decide)) (by rfl) gD kD bD .nil pass0 (pa_cons (pv 0) (pa_cons (pe_op op_add (pe_callB call_len_str (by rfl) ml PySem.boot_len (pa_cons (pv 2) pa_nil)) pe_int) pa_nil)))))) pa_nil))))
          (pss_one (ps_expr (pe_bm PySem.F.plainAttrs_list PySem.F.slot_list_append PySem.F.type_list_append mt_append (pv 4) (pa_cons (pe_slice sl_str (pe_op op_repS (pv 7) pe_int) po_none (po_some (pe_op op_add pe_int (pe_call FD (hr.mono (by decide)) (by rfl) gD kD bD .nil pass0 (pa_cons (pv 0) (pa_cons pe_int pa_nil)))))) pa_nil)))))))))
    (pss_one (ps_ret (pv 4))))), ?_⟩
  refine ⟨⟨_, rfl⟩, .ref J, rfl, J, 8, rfl, by decide, by decide, hJ, fun H1 k sb1 j1 k0 k8 => ?_⟩
  obtain ⟨kn, rfl, hkn⟩ := nat_of k0 k8
  refine ⟨kn, rfl, by omega, by omega, fun D nD => ?_⟩
  refine lc_map (M := At J) (walk_range (lo := 0) (n := kn)) (by omega) (Jg.at_ j1) nD (fun i _ y => ∃ c, y = .str (oneS c) ∧ Small c) (fun _ _ _ _ _ h => h) (fun _ _ _ => trivial)
    (fun i x Hx Hx' Kk hi g jx hY hK => ?_) (fun Hx ys g jx eD hlen hq => ?_)
  · obtain ⟨rfl, rfl⟩ := hY
    exact ⟨rfl, .ref J, rfl, J, rfl, jx.jug, fun H2 c sb2 j2 hc => hK _ _ sb2.gw (Jg.at_ j2) ⟨c, rfl, hc⟩⟩
  obtain ⟨cs, rfl, hcs⟩ := strs_of (ys := ys) fun y hy => by
    obtain ⟨i, hi⟩ := List.mem_iff_getElem?.mp hy
    exact hq i y hi
  rw [List.length_map, List.length_map] at hlen
  have sbx : Sb J H Hx := sb1.trans g.sb
  have jX := jx.jug
  refine ⟨_, D, cs.map oneS, rfl, rfl, .inl (.of eD), ?_, .ref J, rfl, J, 3, rfl, by decide, by decide, jX, fun H2 lot sb2 j2 l0 l3 => ⟨Nat.zero_le _, fun Fo nF => ⟨_, _, _, rfl, ?_⟩⟩⟩
  · rw [sum_ones]
    show cs.length + _ * 0 ≤ 16777216
    omega
  have ebody := txt_ones cs
  generalize Txt.join (Str.ofString "") (cs.map oneS) = body at ebody
  have lbody : body.length = cs.length := by
    show body.cps.size = _
    rw [← Array.length_toList, ebody]
  have FJ' : Fo ≠ J := jug_none j2 nF
  have nF0 : H Fo = none := by
    cases e : H Fo with
    | none => rfl
    | some o => rw [(sbx.trans sb2) Fo o FJ' e] at nF; cases nF
  have s3 := same_new (o := .lst []) nF
  have eF3 : upd H2 Fo (.lst []) Fo = some (.lst []) := upd_same
  have j3 := jug_same s3 j2
  have sb3 : Sb J H (upd H2 Fo (.lst [])) := sbx.trans (sb2.trans (.same s3))
  generalize upd H2 Fo (.lst []) = H3 at s3 eF3 j3 sb3 ⊢
  have small : ∀ n : Nat, n ≤ 60 → n ≤ sizeLine := fun n h => Nat.le_of_lt (small60 (by omega))
  refine ⟨.ref J, rfl, .str body, rfl, body, rfl, small _ (by omega), _, _, rfl, rfl, J, _, rfl, by omega, ?_, j3, fun H4 sp0 sb4 j4 p0 p1 => ?_⟩
  · exact Nat.lt_of_lt_of_le (by omega : ((body.length : Int) + 1).natAbs < 2 ^ 6) (Nat.pow_le_pow_right (by decide) (by decide))
  obtain ⟨spot, rfl, hspot⟩ := nat_of p0 p1
  have eF4 := sb4 _ _ FJ' eF3
  have sbH4 := sb3.trans sb4
  refine ⟨.ref J, rfl, J, .str _, signsV _, rfl, j4, .inr ⟨_, rfl, by decide +kernel, rfl⟩, by decide +kernel, fun H5 p ys sb5 j5 np hp pm => ?_⟩
  have e26 : signsV (Str.ofString "abcdefghijklmnopqrstuvwxyz") = ((List.range 26).map (97 + ·)).map fun c => V.str (oneS c) := by
    unfold signsV
    rw [alpha]
    rfl
  rw [e26] at pm
  obtain ⟨as, rfl, pa⟩ := perm_map_inv unS (fun a => rfl) pm
  have las : as.length = 26 := by rw [pa.length_eq, List.length_map, List.length_range]
  have nda : as.Nodup := pa.nodup_iff.mpr (by decide +kernel)
  have sma : ∀ c ∈ as, Small c := fun c hc => by
    obtain ⟨i, hi, rfl⟩ := List.mem_map.mp (pa.mem_iff.mp hc)
    have := List.mem_range.mp hi
    exact ⟨by omega, by omega⟩
  refine ⟨.int m, rfl, _, rfl, p, _, rfl, .of hp, fun c nc => ⟨c, rfl, ⟨_, .of upd_same⟩, ?_⟩⟩
  rw [cutW_take (by rw [List.length_map]; omega), ← List.map_take]
  have eF5 := sb5 _ _ FJ' eF4
  have sC := same_new (o := .lst ((as.take m).map fun c => V.str (oneS c))) nc
  have eC : upd H5 c (.lst ((as.take m).map fun c => V.str (oneS c))) c = some (.lst ((as.take m).map fun c => V.str (oneS c))) := upd_same
  have cJ : c ≠ J := jug_none j5 nc
  have cF : c ≠ Fo := (ne_of_none eF5 nc).symm
  have eF6 := sC _ _ eF5
  have j6 := jug_same sC j5
  have sb6 : Sb J H _ := sbH4.trans (sb5.trans (.same sC))
  generalize upd H5 c (.lst ((as.take m).map fun c => V.str (oneS c))) = H6 at eC eF6 j6 sb6 ⊢
  have lam : (as.take m).length = m := by rw [List.length_take]; omega
  refine for_list (K := K) (a := c) (xs := (as.take m).map fun c => V.str (oneS c)) (fun i σ Hx => ∃ y7 zs, σ = [some (.ref J), some (.int m), some (.str body), some (.int lot), some (.ref Fo), none, some (.int spot), y7] ∧
      (∀ b o, b ≠ J → b ≠ Fo → H6 b = some o → Hx b = some o) ∧ Jug Hx J ∧ Hx Fo = some (.lst (zs.map V.str)) ∧ All2 (Nm (if lot = 0 then spot else 0)) zs ((as.take m).take i))
    ⟨none, [], rfl, fun _ _ _ _ e => e, j6, eF6, .nil⟩ (fun i σ Hx _ h => ?_) (fun i x σ Hx hx h => ?_) (fun σ Hx h => ?_)
  · obtain ⟨_, _, _, kp, _⟩ := h
    exact .of (kp _ _ cJ cF eC)
  · obtain ⟨y7, zs, rfl, kp, jx, ef, az⟩ := h
    rw [List.getElem?_map] at hx
    cases hc : (as.take m)[i]? with
    | none => rw [hc] at hx; cases hx
    | some a =>
      rw [hc] at hx
      cases hx
      have ha := sma a (List.mem_of_mem_take (List.mem_of_getElem? hc))
      have lz := az.len
      have li : i < (as.take m).length := (List.getElem?_eq_some_iff.mp hc).1
      rw [List.length_take] at lz
      have fin : ∀ (Hy : Hp) (z : Str) (y : Option V), Sb J Hx Hy → Jug Hy J → Nm (if lot = 0 then spot else 0) z a → ∃ (y7 : Option V) (zs' : List Str), ([some (.ref J), some (.int m), some (.str body), some (.int lot), some (.ref Fo), none, some (.int spot), some (.str (oneS a))] : L2.St) = [some (.ref J), some (.int m), some (.str body), some (.int lot), some (.ref Fo), none, some (.int spot), y7] ∧
          (∀ b o, b ≠ J → b ≠ Fo → H6 b = some o → upd Hy Fo (.lst (zs.map V.str ++ [.str z])) b = some o) ∧ Jug (upd Hy Fo (.lst (zs.map V.str ++ [.str z]))) J ∧ upd Hy Fo (.lst (zs.map V.str ++ [.str z])) Fo = some (.lst (zs'.map V.str)) ∧ All2 (Nm (if lot = 0 then spot else 0)) zs' ((as.take m).take (i + 1)) := fun Hy z y sb jy hn => by
        refine ⟨_, zs ++ [z], rfl, fun b o n1 n2 e => ?_, jug_keep jy FJ', ?_, ?_⟩
        · rw [upd_ne n2]
          exact sb b o n1 (kp b o n1 n2 e)
        · rw [upd_same, List.map_append]
          rfl
        · rw [List.take_add_one, hc]
          exact az.app (.cons hn .nil)
      have sl1 : (oneS a).length = 1 := rfl
      refine ⟨.int lot, rfl, rfl, _, rfl, ite2 (fun e0 => ?_) (fun e0 => ?_)⟩
      · have e0 : lot = 0 := V.int.inj (of_decide_eq_true e0)
        have l1 := cutS_length body none (some (spot : Int))
        have l2 := cutS_length body (some (spot : Int)) none
        have t1 := cutS_take (z := body) (i := spot) (by omega)
        have t2 := cutS_drop (z := body) (i := spot) (by omega)
        refine ⟨.ref Fo, rfl, .inl ⟨rfl, _, .of ef⟩, .str body, rfl, .int spot, rfl, _, rfl, body, rfl, small _ (by omega), .str (oneS a), rfl, _, _, rfl, rfl, small _ (by omega), .str body, rfl, .int spot, rfl, _, rfl, body, rfl, small _ (by omega), _, _, rfl, rfl, ?_, Fo, _, _, rfl, rfl, ef, ?_, fin Hx _ none (Sb.refl _ _) jx ?_⟩
        · have : (cutS body none (some (spot : Int)) ++ oneS a).length = (cutS body none (some (spot : Int))).length + 1 := by
            show (_ ++ _ : Array Nat).size = _
            rw [Array.size_append]
            rfl
          exact small _ (by omega)
        · rw [List.length_map]
          exact small60 (by omega)
        · have el : ((cutS body none (some (spot : Int)) ++ oneS a) ++ cutS body (some (spot : Int)) none).cps.toList = cs.take spot ++ [a] ++ cs.drop spot := by
            rw [app_toList, app_toList, t1, t2, ebody]
            rfl
          have ls : (cs.take spot).length = spot := by rw [List.length_take]; omega
          refine ⟨name_of ?_ ?_ ?_, ?_⟩
          · rw [el, List.length_append, List.length_append, ls]
            show 1 ≤ spot + 1 + _
            omega
          · rw [el, List.length_append, List.length_append, ls, List.length_drop]
            show spot + 1 + _ ≤ 8
            omega
          · rw [el]
            intro d hd
            rcases List.mem_append.mp hd with hd | hd
            · rcases List.mem_append.mp hd with hd | hd
              · exact hcs d (List.mem_of_mem_take hd)
              · rw [List.mem_singleton.mp hd]
                exact ha
            · exact hcs d (List.mem_of_mem_drop hd)
          · rw [if_pos e0, el, List.getElem?_append_left (by rw [List.length_append, ls]; show spot < spot + 1; omega), List.getElem?_append_right (by omega), ls, Nat.sub_self]
            rfl
      have e0' : ¬ lot = 0 := fun z => e0 (decide_eq_true (by rw [z]))
      refine ⟨.int lot, rfl, rfl, _, rfl, ite2 (fun e1 => ?_) (fun e1 => ?_)⟩
      · refine ⟨.ref Fo, rfl, .inl ⟨rfl, _, .of ef⟩, .str (oneS a), rfl, .str body, rfl, .ref J, rfl, .str body, rfl, body, rfl, small _ (by omega), _, _, rfl, rfl, J, _, rfl, by omega, ?_, jx, fun Hy r0 sby jy r00 r0l => ?_⟩
        · exact Nat.lt_of_lt_of_le (by omega : ((body.length : Int) + 1).natAbs < 2 ^ 6) (Nat.pow_le_pow_right (by decide) (by decide))
        obtain ⟨r, rfl, hr⟩ := nat_of r00 r0l
        have l1 := cutS_length body none (some (r : Int))
        have t1 := cutS_take (z := body) (i := r) (by omega)
        have efy := sby _ _ FJ' ef
        refine ⟨_, rfl, body, rfl, small _ (by omega), _, _, rfl, rfl, small _ (by omega), Fo, _, _, rfl, rfl, efy, ?_, fin Hy _ none sby jy ?_⟩
        · rw [List.length_map]
          exact small60 (by omega)
        · rw [if_neg e0']
          have el : (oneS a ++ cutS body none (some (r : Int))).cps.toList = a :: cs.take r := by
            rw [app_toList, t1, ebody]
            rfl
          refine ⟨name_of ?_ ?_ ?_, ?_⟩
          · rw [el, List.length_cons]
            omega
          · rw [el, List.length_cons, List.length_take]
            omega
          · rw [el]
            intro d hd
            rcases List.mem_cons.mp hd with rfl | hd
            · exact ha
            · exact hcs d (List.mem_of_mem_take hd)
          · rw [el]
            rfl
      · refine ⟨.ref Fo, rfl, .inl ⟨rfl, _, .of ef⟩, .str (oneS a), rfl, a, 8, rfl, rfl, by decide, by decide, .ref J, rfl, J, 8, rfl, by decide, by decide, jx, fun Hy r0 sby jy r00 r0l => ?_⟩
        obtain ⟨r, rfl, hr⟩ := nat_of r00 r0l
        have efy := sby _ _ FJ' ef
        have l8 : (timesS a 8).length = 8 := rfl
        have er : (1 + (r : Int)) = ((1 + r : Nat) : Int) := by omega
        have t1 := cutS_take (z := timesS a 8) (i := 1 + r) (by omega)
        refine ⟨_, _, rfl, rfl, _, rfl, timesS a 8, rfl, small _ (by omega), Fo, _, _, rfl, rfl, efy, ?_, fin Hy _ none sby jy ?_⟩
        · rw [List.length_map]
          exact small60 (by omega)
        · rw [if_neg e0']
          show Nm 0 (cutS (timesS a 8) none (some (1 + (r : Int)))) a
          rw [er]
          have e8 : (timesS a 8).cps.toList = List.replicate 8 a := rfl
          rw [e8] at t1
          refine ⟨name_of ?_ ?_ ?_, ?_⟩
          · rw [t1, List.length_take, List.length_replicate]
            omega
          · rw [t1, List.length_take, List.length_replicate]
            omega
          · rw [t1]
            intro d hd
            rw [(List.mem_replicate.mp (List.mem_of_mem_take hd)).2]
            exact ha
          · rw [t1, List.getElem?_take_of_lt (by omega)]
            rfl
  · obtain ⟨y7, zs, rfl, kp, jx, ef, az⟩ := h
    rw [List.length_map, lam, List.take_of_length_le (by omega)] at az
    have lz := az.len
    refine ⟨.ref Fo, rfl, q Hx Fo zs (fun b o n e => kp b o n (fun z => by rw [z, nF0] at e; cases e) (sb6 b o n e)) jx nF0 ef (by omega) (nm_nodup az ?_) fun z hz => ?_⟩
    · exact (List.take_sublist m as).nodup nda
    · obtain ⟨d, _, hd⟩ := az.mem hz
      exact hd.1
end
end Ow

set_option Elab.async false
set_option linter.all false
set_option maxRecDepth 100000
set_option maxHeartbeats 4000000
set_option exponentiation.threshold 3000
namespace Ow
open PySem PySem.Spec PyProof.Rows L2
def flipN (r : List Int) (i : Nat) : List Int := (r.take i ++ [1 - r.getD i 0]) ++ r.drop (i + 1)
theorem cut_take {r : List Int} {i : Nat} (h : i ≤ r.length) : cutV (r.map V.int) none (some (i : Int)) = (r.take i).map V.int := by
  unfold cutV
  have e1 : HT.sIx (r.map V.int).length 0 none = 0 := rfl
  have e2 : HT.sIx (r.map V.int).length (r.map V.int).length (some (i : Int)) = i := by
    rw [HT.sIx_nat, List.length_map]
    omega
  simp only [e1, e2]
  rw [List.drop_zero, List.map_take]
  rfl
theorem cut_drop {r : List Int} {i : Nat} (h : i ≤ r.length) : cutV (r.map V.int) (some (i : Int)) none = (r.drop i).map V.int := by
  unfold cutV
  have e1 : HT.sIx (r.map V.int).length 0 (some (i : Int)) = i := by
    rw [HT.sIx_nat, List.length_map]
    omega
  have e2 : HT.sIx (r.map V.int).length (r.map V.int).length none = r.length := by
    show (r.map V.int).length = _
    rw [List.length_map]
  simp only [e1, e2]
  rw [← List.map_drop, List.take_of_length_le]
  rw [List.length_map, List.length_drop]
  omega
theorem getD_at {ns : List Int} {i : Nat} (h : i < ns.length) : ns[i]? = some (ns.getD i 0) := by
  rw [List.getD_eq_getElem?_getD, List.getElem?_eq_getElem h]
  rfl
theorem map_at {ns : List Int} {i : Nat} (h : i < ns.length) : (ns.map V.int)[i]? = some (.int (ns.getD i 0)) := by
  rw [List.getElem?_map, getD_at h]
  rfl
theorem good_flip {v : Nat} {r : List Int} {i : Nat} (g : GoodT v r) (h0 : 0 < i) (h1 : i < 2 ^ v - 1) : GoodT v (flipN r i) := by
  have lr := g.len
  have hi : i < r.length := by omega
  have l1 : (r.take i ++ [1 - r.getD i 0]).length = i + 1 := by
    rw [List.length_append, List.length_take]
    show min i r.length + 1 = i + 1
    omega
  refine ⟨?_, fun n hn => ?_, ?_, ?_⟩
  · unfold flipN
    rw [List.length_append, l1, List.length_drop]
    omega
  · unfold flipN at hn
    rcases List.mem_append.mp hn with hn | hn
    · rcases List.mem_append.mp hn with hn | hn
      · exact g.bit n (List.mem_of_mem_take hn)
      · rw [List.mem_singleton.mp hn]
        rw [List.getD_eq_getElem?_getD, List.getElem?_eq_getElem hi]
        rcases g.bit _ (List.getElem_mem hi) with e | e
        · right
          show 1 - r[i] = 1
          omega
        · left
          show 1 - r[i] = 0
          omega
    · exact g.bit n (List.mem_of_mem_drop hn)
  · unfold flipN
    rw [List.getElem?_append_left (by omega), List.getElem?_append_left (by rw [List.length_take]; omega), List.getElem?_take_of_lt h0]
    exact g.fst
  · unfold flipN
    rw [List.getElem?_append_right (by omega), l1, List.getElem?_drop, show i + 1 + (2 ^ v - 1 - (i + 1)) = 2 ^ v - 1 by omega]
    exact g.lst
theorem cutW_drop {xs : List V} {i : Nat} (h : i ≤ xs.length) : cutV xs (some (i : Int)) none = xs.drop i := by
  unfold cutV
  have e1 : HT.sIx xs.length 0 (some (i : Int)) = i := by
    rw [HT.sIx_nat]
    omega
  have e2 : HT.sIx xs.length xs.length none = xs.length := rfl
  simp only [e1, e2]
  rw [List.take_of_length_le]
  rw [List.length_drop]
  omega
theorem All2.take {α β : Type} {R : α → β → Prop} : ∀ {xs : List α} {ys : List β} (i : Nat), All2 R xs ys → All2 R (xs.take i) (ys.take i)
  | _, _, 0, _ => .nil
  | _, _, _ + 1, .nil => .nil
  | _, _, i + 1, .cons h t => .cons h (All2.take i t)
theorem All2.drop {α β : Type} {R : α → β → Prop} : ∀ {xs : List α} {ys : List β} (i : Nat), All2 R xs ys → All2 R (xs.drop i) (ys.drop i)
  | _, _, 0, h => h
  | _, _, _ + 1, .nil => .nil
  | _, _, i + 1, .cons _ t => All2.drop i t
theorem scNear : FnScope ["jug", "tables", "at", "spot"] ["jug", "tables"] (defScope dNear) := ⟨rfl, rfl, rfl, by decide +kernel, rfl, by decide +kernel, by decide +kernel⟩
section
variable {P : Program} {w : World} {K : PySem.W.Frag} {mg : Str → Option Value} {base : Heap}
def spNear : Sp := fun vs H Q _ => ∃ (J : Addr) (v : Nat) (x : V) (rs : List (List Int)), vs = [.ref J, x] ∧ Jug H J ∧ IsRows H x rs ∧ rs ≠ [] ∧ rs.length ≤ 60 ∧ 1 ≤ v ∧ v ≤ 4 ∧ (∀ r ∈ rs, GoodT v r) ∧ ∀ H' y rs', Sb J H H' → Jug H' J → IsRows H' y rs' → rs'.length = rs.length → (∀ r ∈ rs', GoodT v r) → Q y H'
theorem ok_near {f fD : Addr} {fd fdD : FuncData} (F : Fun K "_law_near" "_law_near" dNear f fd)
    (FD : FnOk P w K mg base CX0 1 fD fdD ["jug", "total"] spDip) (kD : PySem.W.keepIn K (.ref fD) = true) (bD : Binds K fdD ["jug", "total"] []) (gD : mg "_law_dip" = some (.ref fD))
    (ml : mg "len" = none) : FnOk P w K mg base CX0 2 f fd ["jug", "tables"] spNear := by
  refine F.ok scNear (fun vs H Q E h => ?_) (fun cdv A outer s H vs Q E hr h => ?_)
  · obtain ⟨J, v, x, rs, rfl, _⟩ := h
    rfl
  obtain ⟨J, v, x, rs, rfl, hJ, ⟨lt, xs, rfl, hlt, hxs⟩, ne, hl, h1, h4, hg, q⟩ := h
  refine ⟨_, pss_cons (ps_par (i := 2) (j := 3) (by rfl) scNear.nd rfl rfl (by decide) rfl rfl (pa_cons (pe_call FD hr (by rfl) gD kD bD .nil pass0 (pa_cons (pv 0) (pa_cons (pe_callB call_len_seq (by rfl) ml PySem.boot_len (pa_cons (pv 1) pa_nil)) pa_nil)))
        (pa_cons (pe_call FD hr (by rfl) gD kD bD .nil pass0 (pa_cons (pv 0) (pa_cons (pe_callB call_len_seq (by rfl) ml PySem.boot_len (pa_cons (pe_ix ix_tup (pv 1) pe_int (fun _ _ => rfl)) pa_nil)) pa_nil))) pa_nil)) (by rfl))
    (pss_cons (ps_if (PW.pt (pw_or (pt_cmpR op_eq (pv 3) pe_int (nomark _)) (pw_or (pt_cmpR op_eq (pv 3) (pe_op op_sub (pe_callB call_len_seq (by rfl) ml PySem.boot_len (pa_cons (pe_ix ix_tup (pv 1) pe_int (fun _ _ => rfl)) pa_nil)) pe_int) (nomark _))
        (pw_or1 (pt_cmpR op_eq (pe_call FD hr (by rfl) gD kD bD .nil pass0 (pa_cons (pv 0) (pa_cons pe_int pa_nil))) pe_int (nomark _)))))) (pss_one (ps_ret (pv 1))) pss_nil)
    (pss_one (ps_ret (pe_op op_tcat (pe_op op_tcat (pe_slice sl_tup (pv 1) po_none (po_some (pv 2))) (pe_tup (pa_cons
        (pe_op op_tcat (pe_op op_tcat (pe_slice sl_tup (pe_ix ix_tup (pv 1) (pv 2) (fun _ _ => rfl)) po_none (po_some (pv 3))) (pe_tup (pa_cons (pe_op op_sub pe_int (pe_ix ix_tup (pe_ix ix_tup (pv 1) (pv 2) (fun _ _ => rfl)) (pv 3) (fun _ _ => rfl))) pa_nil)))
          (pe_slice sl_tup (pe_ix ix_tup (pv 1) (pv 2) (fun _ _ => rfl)) (po_some (pe_op op_add (pv 3) pe_int)) po_none)) pa_nil)))
        (pe_slice sl_tup (pv 1) (po_some (pe_op op_add (pv 2) pe_int)) po_none))))), ?_⟩
  have lx := hxs.len
  have pos : 0 < rs.length := List.length_pos_iff.mpr ne
  obtain ⟨x0, hx0⟩ : ∃ x0, xs[0]? = some x0 := ⟨xs[0]'(by omega), List.getElem?_eq_getElem _⟩
  obtain ⟨r0, hr0, a0, e0, ha0⟩ := hxs.get hx0
  subst e0
  have g0 := hg r0 (List.mem_of_getElem? hr0)
  have l0 := g0.len
  have p16 := pow4 h4
  have p2 : 2 ≤ 2 ^ v := by
    have := Nat.pow_le_pow_right (show 0 < 2 by decide) h1
    simpa using this
  refine ⟨.ref J, rfl, .ref lt, rfl, lt, xs, rfl, .inr (.of hlt), J, xs.length, rfl, by omega, ?_, hJ, fun H1 at0 sb1 j1 a00 a0l => ?_⟩
  · exact Nat.lt_of_lt_of_le (by omega : ((xs.length : Nat) : Int).natAbs < 2 ^ 6) (Nat.pow_le_pow_right (by decide) (by decide))
  obtain ⟨m, rfl, hm⟩ := nat_of a00 a0l
  have tk1 : Tk H H1 := sb1.gw.tk (Jg.at_ hJ)
  have hlt1 := tk1.tup hlt
  have ha01 := tk1.tup ha0
  refine ⟨.ref J, rfl, .ref lt, rfl, lt, xs, 0, .ref a0, rfl, rfl, .of hlt1, atI_nat (j := 0) hx0, a0, _, rfl, .inr (.of ha01), J, _, rfl, ?_, ?_, j1, fun H2 s0 sb2 j2 s00 s0l => ⟨_, _, rfl, ?_⟩⟩
  · rw [List.length_map]
    omega
  · rw [List.length_map]
    exact Nat.lt_of_lt_of_le (by omega : ((r0.length : Nat) : Int).natAbs < 2 ^ 6) (Nat.pow_le_pow_right (by decide) (by decide))
  rw [List.length_map] at s0l
  obtain ⟨sp, rfl, hsp⟩ := nat_of s00 s0l
  have tk2 : Tk H H2 := tk1.trans (sb2.gw.tk (Jg.at_ j1))
  have sb12 := sb1.trans sb2
  have back : ∀ H3, Sb J H2 H3 → Jug H3 J → Q (.ref lt) H3 := fun H3 sb3 j3 => by
    have tk3 : Tk H H3 := tk2.trans (sb3.gw.tk (Jg.at_ j2))
    exact q H3 (.ref lt) rs (sb12.trans sb3) j3 ⟨lt, xs, rfl, tk3.tup hlt, all_tk tk3 hxs⟩ rfl hg
  refine ⟨.int sp, rfl, rfl, _, rfl, ite2 (fun e => iteT ⟨.ref lt, rfl, back H2 (Sb.refl _ _) j2⟩) (fun e => ?_)⟩
  refine ⟨.int sp, rfl, .ref lt, rfl, lt, xs, 0, .ref a0, rfl, rfl, .of (tk2.tup hlt), atI_nat (j := 0) hx0, a0, _, rfl, .inr (.of (tk2.tup ha0)), _, _, rfl, rfl, rfl, _, rfl, ite2 (fun e2 => iteT ⟨.ref lt, rfl, back H2 (Sb.refl _ _) j2⟩) (fun e2 => ?_)⟩
  refine ⟨.ref J, rfl, J, 2, rfl, by decide, by decide, j2, fun H3 k sb3 j3 _ _ => ⟨rfl, _, rfl, ite2 (fun e3 => ⟨.ref lt, rfl, back H3 sb3 j3⟩) (fun e3 => ?_)⟩⟩
  have n0 : ¬ sp = 0 := fun z => e (decide_eq_true (by rw [z]; rfl))
  have n1 : ¬ ((sp : Int) = ((r0.map V.int).length : Int) - 1) := fun z => e2 (decide_eq_true (by rw [z]))
  rw [List.length_map] at n1
  have tk3 : Tk H H3 := tk2.trans (sb3.gw.tk (Jg.at_ j2))
  have hlt3 := tk3.tup hlt
  have hxs3 := all_tk tk3 hxs
  obtain ⟨x1, hx1⟩ : ∃ x1, xs[m]? = some x1 := ⟨xs[m]'(by omega), List.getElem?_eq_getElem _⟩
  obtain ⟨r1, hr1, a1, e1, ha1⟩ := hxs3.get hx1
  subst e1
  have g1 := hg r1 (List.mem_of_getElem? hr1)
  have l1 := g1.len
  refine ⟨.ref lt, rfl, .int m, rfl, _, rfl, lt, xs, rfl, hlt3, fun Ha b1 t1 hb1 => ?_⟩
  rw [cutW_take (by omega)] at hb1
  refine ⟨.ref lt, rfl, .int m, rfl, lt, xs, m, .ref a1, rfl, rfl, .of (t1 _ _ hlt3), atI_nat hx1, .int sp, rfl, _, rfl, a1, _, rfl, t1 _ _ ha1, fun Hb b2 t2 hb2 => ?_⟩
  rw [cut_take (by omega)] at hb2
  have t12 := t1.trans t2
  refine ⟨.ref lt, rfl, .int m, rfl, lt, xs, m, .ref a1, rfl, rfl, .of (t12 _ _ hlt3), atI_nat hx1, .int sp, rfl, a1, _, _, .int (r1.getD sp 0), rfl, rfl, .of (t12 _ _ ha1), atI_nat (map_at (by omega)), _, _, rfl, rfl, (by show 1 ≤ sizeLine; decide), fun c1 m1 => ?_⟩
  refine ⟨b2, c1, _, _, rfl, rfl, same_new m1 _ _ hb2, upd_same, ?_, fun Hc b3 t3 hb3 => ?_⟩
  · rw [List.length_map, List.length_take]
    show min sp r1.length + 1 ≤ 5000
    omega
  have t13 : Same H3 Hc := t12.trans ((same_new m1).trans t3)
  refine ⟨.ref lt, rfl, .int m, rfl, lt, xs, m, .ref a1, rfl, rfl, .of (t13 _ _ hlt3), atI_nat hx1, .int sp, rfl, _, _, rfl, rfl, _, rfl, a1, _, rfl, t13 _ _ ha1, fun Hd b4 t4 hb4 => ?_⟩
  have ei : ((sp : Int) + 1) = ((sp + 1 : Nat) : Int) := by omega
  rw [ei, cut_drop (by omega)] at hb4
  refine ⟨b3, b4, _, _, rfl, rfl, t4 _ _ hb3, hb4, ?_, fun He b5 t5 hb5 => ⟨(by show 1 ≤ sizeLine; decide), fun c2 m2 => ?_⟩⟩
  · rw [List.length_append, List.length_map, List.length_map, List.length_take, List.length_drop]
    show min sp r1.length + 1 + (r1.length - (sp + 1)) ≤ 5000
    omega
  have t15 : Same H3 He := t13.trans (t4.trans t5)
  have hb1e : He b1 = some (.tup (xs.take m)) := (t2.trans ((same_new m1).trans (t3.trans (t4.trans t5)))) _ _ hb1
  refine ⟨b1, c2, _, _, rfl, rfl, same_new m2 _ _ hb1e, upd_same, ?_, fun Hf b6 t6 hb6 => ?_⟩
  · rw [List.length_take]
    show min m xs.length + 1 ≤ 5000
    omega
  have t16 : Same H3 Hf := t15.trans ((same_new m2).trans t6)
  refine ⟨.ref lt, rfl, .int m, rfl, _, _, rfl, rfl, _, rfl, lt, xs, rfl, t16 _ _ hlt3, fun Hg b7 t7 hb7 => ?_⟩
  have em : ((m : Int) + 1) = ((m + 1 : Nat) : Int) := by omega
  rw [em, cutW_drop (by omega)] at hb7
  refine ⟨b6, b7, _, _, rfl, rfl, t7 _ _ hb6, hb7, ?_, fun Hh b8 t8 hb8 => ?_⟩
  · rw [List.length_append, List.length_take, List.length_drop]
    show min m xs.length + 1 + (xs.length - (m + 1)) ≤ 5000
    omega
  have t18 : Same H3 Hh := t16.trans (t7.trans t8)
  have row5 : IsRow Hh (.ref b5) (flipN r1 sp) := by
    refine ⟨b5, rfl, ?_⟩
    have := ((same_new (o := .tup [.ref b5]) m2).trans (t6.trans (t7.trans t8))) _ _ hb5
    rw [this]
    unfold flipN
    rw [List.map_append, List.map_append]
    rfl
  have hfin : All2 (IsRow Hh) (xs.take m ++ [.ref b5] ++ xs.drop (m + 1)) (rs.take m ++ [flipN r1 sp] ++ rs.drop (m + 1)) := ((All2.take m (all_tk (Tk.same t18) hxs3)).app (.cons row5 .nil)).app (All2.drop (m + 1) (all_tk (Tk.same t18) hxs3))
  refine q Hh (.ref b8) _ (sb12.trans (sb3.trans (.same t18))) (jug_same t18 j3) ⟨b8, _, rfl, hb8, hfin⟩ ?_ fun r hr => ?_
  · rw [List.length_append, List.length_append, List.length_take, List.length_drop]
    show min m rs.length + 1 + (rs.length - (m + 1)) = rs.length
    omega
  · rcases List.mem_append.mp hr with hr | hr
    · rcases List.mem_append.mp hr with hr | hr
      · exact hg r (List.mem_of_mem_take hr)
      · rw [List.mem_singleton.mp hr]
        exact good_flip g1 (by omega) (by omega)
    · exact hg r (List.mem_of_mem_drop hr)
end
end Ow

set_option Elab.async false
set_option linter.all false
set_option maxRecDepth 100000
set_option maxHeartbeats 4000000
set_option exponentiation.threshold 3000
namespace Ow
open PySem PySem.Spec PyProof.Rows L2
/-- the tables by the names -/
def tabOf : List Str → List (List Int) → Str → List Int
  | z :: zs, r :: rs, y => if y = z then r else tabOf zs rs y
  | _, _, _ => []
theorem tab_all : ∀ {zs : List Str} {rs : List (List Int)}, zs.Nodup → zs.length = rs.length → zs.map (tabOf zs rs) = rs
  | [], [], _, _ => rfl
  | [], _ :: _, _, h => nomatch h
  | _ :: _, [], _, h => nomatch h
  | z :: zs, r :: rs, nd, h => by
    have nd' := List.nodup_cons.mp nd
    rw [List.map_cons]
    have e1 : tabOf (z :: zs) (r :: rs) z = r := if_pos rfl
    rw [e1]
    congr 1
    have e2 : zs.map (tabOf (z :: zs) (r :: rs)) = zs.map (tabOf zs rs) := List.map_congr_left fun y hy => if_neg fun e => nd'.1 (by rw [← e]; exact hy)
    rw [e2]
    exact tab_all nd'.2 (Nat.succ.inj h)
theorem tab_at {zs : List Str} {rs : List (List Int)} (nd : zs.Nodup) (h : zs.length = rs.length) {i : Nat} {z : Str} {r : List Int} (hz : zs[i]? = some z) (hr : rs[i]? = some r) : tabOf zs rs z = r := by
  have e := tab_all nd h
  have := congrArg (fun l => l[i]?) e
  simp only [List.getElem?_map, hz, hr] at this
  exact Option.some.inj this
theorem merge_new : ∀ (kvs acc : List (Key × V)), (∀ kv ∈ kvs, valV acc kv.1 = none) → (kvs.map (·.1)).Nodup → mergeK acc kvs = acc ++ kvs
  | [], acc, _, _ => by simp [mergeK]
  | kv :: kvs, acc, h, nd => by
    have nd' := List.nodup_cons.mp nd
    have e : mergeK acc (kv :: kvs) = mergeK (putK acc kv.1 kv.2) kvs := rfl
    rw [e, putK_new kv.2 (h kv List.mem_cons_self), merge_new kvs _ (fun p hp => ?_) nd'.2]
    · simp
    · rw [valV_snoc _ _ _ _ (h kv List.mem_cons_self), if_neg]
      · exact h p (List.mem_cons_of_mem _ hp)
      · intro e
        exact nd'.1 (List.mem_map.mpr ⟨p, hp, e⟩)
theorem paired_of {α β : Type} {F : α → β → Prop} : ∀ {xs : List α} {ys : List β}, All2 F xs ys → Paired F xs ys
  | _, _, .nil => .nil
  | _, _, .cons h t => .cons h (paired_of t)
theorem zip_tab {H : Hp} {tab : Str → List Int} : ∀ {zs : List Str} {xs : List V}, All2 (fun x z => IsRow H x (tab z)) xs zs → All2 (TabR H tab) (List.zipWith (fun z x => ((Sum.inr z : Key), x)) zs xs) zs
  | _, _, .nil => .nil
  | _, _, .cons h t => .cons ⟨rfl, h⟩ (zip_tab t)
theorem ltCps_tri : ∀ a b : List Nat, ltCps a b = false → ltCps b a = false → a = b
  | [], [], _, _ => rfl
  | [], _ :: _, h, _ => nomatch h
  | _ :: _, [], _, h => nomatch h
  | a :: r, b :: t, h, g => by
    unfold ltCps at h g
    have e : a = b := by
      by_cases h1 : a < b
      · simp [h1] at h
      · by_cases h2 : b < a
        · simp [h2] at g
        · omega
    subst e
    simp only [Nat.lt_irrefl, decide_false, Bool.false_or, beq_self_eq_true, Bool.true_and] at h g
    rw [ltCps_tri r t h g]
theorem str_ext {a b : Str} (h : a.cps.toList = b.cps.toList) : a = b := by
  cases a
  cases b
  congr 1
  exact Array.toList_inj.mp h
theorem risingS_all : ∀ (r : List Str) (p : Str), risingS p r = true → ∀ z ∈ r, ltCps z.cps.toList p.cps.toList = false
  | [], _, _, _, h => nomatch h
  | x :: r, p, h, z, hz => by
    unfold risingS at h
    rw [Bool.and_eq_true] at h
    have h1 : ltCps x.cps.toList p.cps.toList = false := by
      have := h.1
      cases q : ltCps x.cps.toList p.cps.toList with
      | true => rw [q] at this; cases this
      | false => rfl
    rcases List.mem_cons.mp hz with rfl | hz
    · exact h1
    · have h2 := risingS_all r x h.2 z hz
      cases q : ltCps x.cps.toList z.cps.toList with
      | false =>
        have e := ltCps_tri _ _ q h2
        rw [← e]
        exact h1
      | true =>
        rw [ltCps_eq] at h1 q ⊢
        exact decide_eq_false fun a3 => of_decide_eq_false h1 (List.lt_trans (of_decide_eq_true q) a3)
/-- a sorted list of texts without repeats is told by what it has -/
theorem sorted_unique : ∀ {ys zs : List Str}, ys.Perm zs → ys.Nodup → sortedS ys = true → sortedS zs = true → ys = zs
  | [], zs, p, _, _, _ => (List.nil_perm.mp p).symm
  | y :: ys, [], p, _, _, _ => absurd p.length_eq (by simp)
  | y :: ys, z :: zs, p, nd, h1, h2 => by
    have e : y = z := by
      have m1 : y ∈ z :: zs := p.mem_iff.mp List.mem_cons_self
      have m2 : z ∈ y :: ys := p.mem_iff.mpr List.mem_cons_self
      rcases List.mem_cons.mp m1 with e | m1
      · exact e
      · rcases List.mem_cons.mp m2 with e | m2
        · exact e.symm
        · exact str_ext (ltCps_tri _ _ (risingS_all zs z h2 y m1) (risingS_all ys y h1 z m2))
    subst e
    have nx : ∀ {p : Str} {l : List Str}, risingS p l = true → sortedS l = true := fun {p l} h => by
      cases l with
      | nil => rfl
      | cons x r =>
        unfold risingS at h
        rw [Bool.and_eq_true] at h
        exact h.2
    rw [sorted_unique (List.Perm.cons_inv p) (List.nodup_cons.mp nd).2 (nx h1) (nx h2)]
end Ow

set_option Elab.async false
set_option linter.all false
set_option maxRecDepth 100000
set_option maxHeartbeats 4000000
set_option exponentiation.threshold 3000
namespace Ow
open PySem PySem.Spec PyProof.Rows L2
theorem scMixed : FnScope ["jug", "voters", "names", "tables"] ["jug", "voters", "names", "tables"] (defScope dMadeMixed) := ⟨rfl, rfl, rfl, by decide +kernel, rfl, by decide +kernel, by decide +kernel⟩
theorem AllOk.perm {v : Nat} {ks zs : List Str} {tab : Str → List Int} (p : ks.Perm zs) (h : AllOk v zs tab) : AllOk v ks tab := by
  obtain ⟨g, l, nd, pl, hi⟩ := h
  exact ⟨fun z hz => g z (p.mem_iff.mp hz), by rw [p.length_eq]; exact l, p.nodup_iff.mpr nd, fun z hz => pl z (p.mem_iff.mp hz), fun ys q => hi ys (q.trans p)⟩
def zof (H : Hp) (a : Addr) : Str := match H a with
  | some (.tup (.str z :: _)) => z
  | _ => ⟨#[]⟩
def xof (H : Hp) (a : Addr) : V := match H a with
  | some (.tup [_, x]) => x
  | _ => .non
theorem all2_map {α β γ : Type} {R : β → γ → Prop} {f : α → β} {g : α → γ} : ∀ {us : List α}, (∀ u ∈ us, R (f u) (g u)) → All2 R (us.map f) (us.map g)
  | [], _ => .nil
  | u :: us, h => .cons (h u List.mem_cons_self) (all2_map fun w hw => h w (List.mem_cons_of_mem _ hw))
theorem all2_id {α β : Type} {R : α → β → Prop} {f : α → β} : ∀ {us : List α}, (∀ u ∈ us, R u (f u)) → All2 R us (us.map f)
  | [], _ => .nil
  | u :: us, h => .cons (h u List.mem_cons_self) (all2_id fun w hw => h w (List.mem_cons_of_mem _ hw))
section
variable {P : Program} {w : World} {K : PySem.W.Frag} {mg : Str → Option Value} {base : Heap} {C : Addr}
def spMixed (C : Addr) : Sp := fun vs H Q _ => ∃ (J : Addr) (v : Nat) (ln lt : Addr) (zs : List Str) (rs : List (List Int)), vs = [.ref J, .int v, .ref ln, .ref lt] ∧ Jug H J ∧ 1 ≤ v ∧ v ≤ 4 ∧ H ln = some (.lst (zs.map V.str)) ∧ IsRows H (.ref lt) rs ∧ zs.length = rs.length ∧ AllOk v zs (tabOf zs rs) ∧
  ∀ H' x ys, Sb J H H' → Jug H' J → H x = none → ys.Perm zs → sortedS ys = true → RuleAt C H' x v ys (tabOf zs rs) → Q (.ref x) H'
theorem ok_mademixed {f fI fJ : Addr} {fd fdI fdJ : FuncData} (F : Fun K "_law_made_mixed" "_law_made_mixed" dMadeMixed f fd) (M : Mk K C fI) (FI : FnOk P w K mg base CX0 7 fI fdI ["self", "voters", "tables"] (spInit C)) (bI : Binds K fdI ["self", "voters", "tables"] []) (gC : mg "Rule" = some (.ref C))
    (FJ : FnOk P w K mg base CX0 2 fJ fdJ ["jug", "items"] spJum) (kJ : PySem.W.keepIn K (.ref fJ) = true) (bJ : Binds K fdJ ["jug", "items"] []) (gJ : mg "_law_jumbled" = some (.ref fJ))
    (md : mg "dict" = none) (mls : mg "list" = none) (mz : mg "zip" = none) : FnOk P w K mg base CX0 9 f fd ["jug", "voters", "names", "tables"] (spMixed C) := by
  refine F.ok scMixed (fun vs H Q E h => ?_) (fun cdv A outer s H vs Q E hr h => ?_)
  · obtain ⟨J, v, ln, lt, zs, rs, rfl, _⟩ := h
    rfl
  obtain ⟨J, v, ln, lt, zs, rs, rfl, hJ, h1, h4, hln, ⟨lt', xs, e0, hlt, hx⟩, hl, ok, q⟩ := h
  cases e0
  refine ⟨_, pss_one (ps_ret (pe_make M FI hr (by rfl) gC bI .nil pass0 (pa_cons (pv 1) (pa_cons (pe_callTy (call_dictP rfl) (by rfl) md (by decide +kernel) (pa_cons (pe_call FJ (hr.mono (by decide)) (by rfl) gJ kJ bJ .nil pass0 (pa_cons (pv 0) (pa_cons (pe_lzip rfl (by rfl) mls (by rfl) mz (by decide +kernel) (pa_cons (pv 2) (pa_cons (pv 3) pa_nil))) pa_nil))) pa_nil)) pa_nil)))), ?_⟩
  have lx := hx.len
  have nd := ok.2.2.1
  have l60 := ok.2.1
  refine ⟨.int v, rfl, .ref J, rfl, .ref ln, rfl, .ref lt, rfl, ln, lt, zs.map V.str, xs, rfl, .inl (.of hln), .inr (.of hlt), fun H1 p ts s1 np hp htl hts => ?_⟩
  rw [List.length_map] at htl
  have j1 := jug_same s1 hJ
  have pJ : p ≠ J := jug_none hJ np
  refine ⟨J, .ref p, ts.map V.ref, rfl, j1, .inl ⟨p, rfl, pJ, hp⟩, by rw [List.length_map]; omega, fun H2 p2 ys2 sb2 j2 np2 hp2 pm => ?_⟩
  obtain ⟨us, rfl, pu⟩ := perm_map_inv (fun y : V => match y with | .ref a => a | _ => 0) (fun a => rfl) pm
  have tk02 : Tk H H2 := (Tk.same s1).trans (sb2.gw.tk (Jg.at_ j1))
  have fu : ∀ u ∈ us, H2 u = some (.tup [.str (zof H1 u), xof H1 u]) ∧ IsRow H2 (xof H1 u) (tabOf zs rs (zof H1 u)) := fun u hu => by
    obtain ⟨j, hj⟩ := List.mem_iff_getElem?.mp (pu.mem_iff.mp hu)
    obtain ⟨y, x, ey, ex, _, et⟩ := hts j u hj
    rw [List.getElem?_map] at ey
    cases ez : zs[j]? with
    | none => rw [ez] at ey; cases ey
    | some z =>
      rw [ez] at ey
      cases ey
      have z1 : zof H1 u = z := by unfold zof; rw [et]
      have x1 : xof H1 u = x := by unfold xof; rw [et]
      obtain ⟨r, er, hr⟩ := hx.get ex
      rw [z1, x1]
      refine ⟨sb2.gw.tup (Jg.at_ j1) et, ?_⟩
      rw [tab_at nd hl ez er]
      exact hr.tk tk02
  have ets : ts.map (zof H1) = zs := by
    refine List.ext_getElem? fun j => ?_
    rw [List.getElem?_map]
    cases ej : ts[j]? with
    | none =>
      have : zs[j]? = none := List.getElem?_eq_none (by have := List.getElem?_eq_none_iff.mp ej; omega)
      rw [this]
      rfl
    | some u =>
      obtain ⟨y, x, ey, ex, _, et⟩ := hts j u ej
      rw [List.getElem?_map] at ey
      cases ez : zs[j]? with
      | none => rw [ez] at ey; cases ey
      | some z =>
        rw [ez] at ey
        cases ey
        have z1 : zof H1 u = z := by unfold zof; rw [et]
        show some (zof H1 u) = some z
        rw [z1]
  have pz : (us.map (zof H1)).Perm zs := by
    have := pu.map (zof H1)
    rw [ets] at this
    exact this
  have okU := ok.perm pz
  have ht : All2 (TabR H2 (tabOf zs rs)) (us.map fun u => ((Sum.inr (zof H1 u) : Key), xof H1 u)) (us.map (zof H1)) := all2_map fun u hu => ⟨rfl, (fu u hu).2⟩
  have hm : mergeK [] (us.map fun u => ((Sum.inr (zof H1 u) : Key), xof H1 u)) = us.map fun u => ((Sum.inr (zof H1 u) : Key), xof H1 u) := by
    rw [merge_new _ [] (fun _ _ => rfl) (by rw [tab_keys ht]; exact List.Pairwise.map _ (fun a b h e => h (Sum.inr.inj e)) okU.2.2.1)]
    rfl
  refine ⟨p2, us, us.map fun u => ((Sum.inr (zof H1 u) : Key), xof H1 u), rfl, .of hp2, paired_of (all2_id fun u hu => .of (fu u hu).1), fun d nD => ?_⟩
  rw [hm]
  intro x dx nx ndx nex
  have sd : Same H2 (upd H2 d (.dK (us.map fun u => ((Sum.inr (zof H1 u) : Key), xof H1 u)))) := same_new nD
  have eD : upd H2 d (.dK (us.map fun u => ((Sum.inr (zof H1 u) : Key), xof H1 u))) d = some (.dK (us.map fun u => ((Sum.inr (zof H1 u) : Key), xof H1 u))) := upd_same
  generalize upd H2 d (.dK (us.map fun u => ((Sum.inr (zof H1 u) : Key), xof H1 u))) = H3 at nx ndx sd eD ⊢
  have sx : Same H3 (upd (upd H3 dx (.own x)) x (.ins C dx [])) := (same_new ndx).trans (same_new (by rw [upd_ne (fun e => nex e.symm)]; exact nx))
  have sbT : Sb J H H3 := (Sb.same s1).trans (sb2.trans (.same sd))
  have jx := jug_same (sd.trans sx) j2
  have xJ : x ≠ J := jug_none (jug_same sd j2) nx
  have nx0 : H x = none := by
    cases e : H x with
    | none => rfl
    | some o => rw [sbT x o xJ e] at nx; cases nx
  refine ⟨x, dx, d, v, us.map (zof H1), tabOf zs rs, rfl, upd_same, h1, h4, ⟨_, sx _ _ eD, TabR.tk (Tk.same (sd.trans sx)) ht⟩, okU, fun H4 ys sb pm2 so hR => ⟨rfl, ?_⟩⟩
  have sb34 : Same H3 H4 := fun b o e => sb b o (fun z => by rw [z, nx] at e; cases e) (sx _ _ e)
  exact q H4 x ys (sbT.trans (.same sb34)) (jug_same sb34 (jug_same sd j2)) nx0 (pm2.trans pz) so hR
end
end Ow

set_option Elab.async false
set_option linter.all false
set_option maxRecDepth 100000
set_option maxHeartbeats 4000000
set_option exponentiation.threshold 3000
namespace Ow
open PySem PySem.Spec PyProof.Rows L2
abbrev voN : List Str := ["tables", "votes", "found", "at", "table", "number", "row"]
theorem scVoted : FnScope voN ["tables", "votes"] (defScope dVoted) := ⟨rfl, rfl, rfl, by decide +kernel, rfl, by decide +kernel, by decide +kernel⟩
/-- the place that some rows tell for an issue -/
def numN (vs : List (List Int)) (at_ : Nat) : Int := vs.foldl (fun n r => 2 * n + r.getD at_ 0) 0
theorem num_step (vs : List (List Int)) (r : List Int) (i : Nat) : numN (vs ++ [r]) i = 2 * numN vs i + r.getD i 0 := by
  unfold numN
  rw [List.foldl_append]
  rfl
def BitsN (n : Nat) (r : List Int) : Prop := r.length = n ∧ ∀ b ∈ r, b = 0 ∨ b = 1
theorem num_from {n i : Nat} (hi : i < n) : ∀ (vs : List (List Int)) (acc : Int) (k : Nat), 0 ≤ acc → acc < 2 ^ k → (∀ r ∈ vs, BitsN n r) → 0 ≤ vs.foldl (fun m r => 2 * m + r.getD i 0) acc ∧ vs.foldl (fun m r => 2 * m + r.getD i 0) acc < 2 ^ (k + vs.length)
  | [], acc, k, h0, h1, _ => ⟨h0, h1⟩
  | r :: vs, acc, k, h0, h1, h => by
    obtain ⟨l, hb⟩ := h r List.mem_cons_self
    have := hb (r.getD i 0) (by rw [List.getD_eq_getElem?_getD, List.getElem?_eq_getElem (by omega)]; exact List.getElem_mem _)
    have e : (2 : Int) ^ (k + 1) = 2 ^ k * 2 := Int.pow_succ _ _
    have ih := num_from hi vs (2 * acc + r.getD i 0) (k + 1) (by omega) (by omega) fun q hq => h q (List.mem_cons_of_mem _ hq)
    rw [List.foldl_cons, List.length_cons, show k + (vs.length + 1) = k + 1 + vs.length by omega]
    exact ih
theorem num_lt {n i : Nat} (hi : i < n) (vs : List (List Int)) (h : ∀ r ∈ vs, BitsN n r) : 0 ≤ numN vs i ∧ numN vs i < 2 ^ vs.length := by
  have := num_from hi vs 0 0 (by decide) (by decide) h
  rw [Nat.zero_add] at this
  exact this
def votedN (rs vs : List (List Int)) : List Int := (List.range rs.length).map fun i => (rs.getD i []).getD (numN vs i).toNat 0
theorem sb_tk {J : Addr} {H H' : Hp} {xs : List V} (s : Sb J H H') (h : H J = some (.lst xs)) : Tk H H' := fun b o n e => s b o (fun z => by
  rw [z, h] at e
  exact n _ (Option.some.inj e).symm) e
section
variable {P : Program} {w : World} {K : PySem.W.Frag} {mg : Str → Option Value} {base : Heap}
def spVoted : Sp := fun vs H Q _ => ∃ (x y : V) (rs us : List (List Int)), vs = [x, y] ∧ IsRows H x rs ∧ IsRows H y us ∧ us.length ≤ 4 ∧ rs.length ≤ 60 ∧ (∀ r ∈ rs, r.length = 2 ^ us.length) ∧ (∀ r ∈ us, BitsN rs.length r) ∧ ∀ H' z, Same H H' → IsRow H' z (votedN rs us) → Q z H'
theorem ok_voted {f : Addr} {fd : FuncData} (F : Fun K "_law_voted" "_law_voted" dVoted f fd) (me : mg "enumerate" = none) (mt : mg "tuple" = none) : FnOk P w K mg base CX0 1 f fd ["tables", "votes"] spVoted := by
  refine F.ok scVoted (fun vs H Q E h => ?_) (fun cdv A outer s H vs Q E hr h => ?_)
  · obtain ⟨x, y, rs, us, rfl, _⟩ := h
    rfl
  obtain ⟨x, y, rs, us, rfl, ⟨lt, xs, rfl, hlt, hxs⟩, ⟨lu, ys, rfl, hlu, hys⟩, lu4, lr60, hr1, hu1, q⟩ := h
  refine ⟨_, pss_cons (ps_set (i := 2) scVoted.nd rfl (.inl rfl) (pe_lst pa_nil))
    (pss_cons (ps_for PassesOwn.never rfl (pi_enumT (by rfl) me (pa_cons (pv 0) pa_nil)) (pg_tup rfl (pgs_cons (pg_name (i := 3) scVoted.nd rfl (.inl rfl)) (pgs_cons (pg_name (i := 4) scVoted.nd rfl (.inl rfl)) pgs_nil)))
      (pss_cons (ps_set (i := 5) scVoted.nd rfl (.inl rfl) pe_int)
      (pss_cons (ps_for PassesOwn.never rfl (pi_tup (pv 1)) (pg_name (i := 6) scVoted.nd rfl (.inl rfl))
        (pss_one (ps_set (i := 5) scVoted.nd rfl (.inl rfl) (pe_op op_add (pe_op op_mul pe_int (pv 5)) (pe_ix ix_tup (pv 6) (pv 3) (fun _ _ => rfl))))))
      (pss_one (ps_expr (pe_bm PySem.F.plainAttrs_list PySem.F.slot_list_append PySem.F.type_list_append mt_append (pv 2) (pa_cons (pe_ix ix_tup (pv 4) (pv 5) (fun _ _ => rfl)) pa_nil)))))))
    (pss_one (ps_ret (pe_callTy call_tuple_of (by rfl) mt boot_tup (pa_cons (pv 2) pa_nil))))), ?_⟩
  refine ⟨Nat.zero_le _, fun fo nf => ?_⟩
  have s1 := same_new (o := .lst []) nf
  have e1 : upd H fo (.lst []) fo = some (.lst []) := upd_same
  have hlt1 := s1 _ _ hlt
  have hlu1 := s1 _ _ hlu
  have hxs1 := all_tk (Tk.same s1) hxs
  have hys1 := all_tk (Tk.same s1) hys
  have nfo : ∀ b o, H b = some o → b ≠ fo := fun b o e => ne_of_none e nf
  generalize upd H fo (.lst []) = H1 at s1 e1 hlt1 hlu1 hxs1 hys1 ⊢
  have lx := hxs.len
  have ly := hys.len
  refine ⟨.ref lt, rfl, lt, xs, rfl, .of hlt1, ?_⟩
  refine for_it (walk_enumT (K := K) (a := lt) (xs := xs)) (fun i σ Hx => ∃ y3 y4 y5 y6, σ = [some (.ref lt), some (.ref lu), some (.ref fo), y3, y4, y5, y6] ∧ Sb fo H1 Hx ∧ Hx fo = some (.lst ((List.range i).map fun i => V.int ((rs.getD i []).getD (numN us i).toNat 0))))
    ⟨none, none, none, none, rfl, Sb.refl _ _, e1⟩ (fun i σ Hx _ h => ?_) (fun i x σ Hx Hx' hi h hY => ?_) (fun σ Hx h => ?_)
  · obtain ⟨_, _, _, _, _, sx, ex⟩ := h
    exact .of ((sb_tk sx e1).tup hlt1)
  · obtain ⟨y3, y4, y5, y6, rfl, sx, ex⟩ := h
    obtain ⟨T, x, y, rfl, nT, rfl, hx, hy⟩ := hY
    cases hx
    have tkx := sb_tk sx e1
    have sT : Same Hx (upd Hx T (.tup [.int i, y])) := same_new nT
    have tkT : Tk H1 (upd Hx T (.tup [.int i, y])) := tkx.trans (Tk.same sT)
    obtain ⟨r, hr, a, rfl, ha⟩ := (all_tk tkT hxs1).get hy
    have hi' : i < rs.length := (List.getElem?_eq_some_iff.mp hr).1
    have hlu2 := tkT.tup hlu1
    have hys2 := all_tk tkT hys1
    have ex2 := sT _ _ ex
    refine ⟨T, [.int i, .ref a], rfl, .of upd_same, rfl, _, _, rfl, _, _, rfl, rfl, ?_⟩
    have sx2 : Sb fo H1 (upd Hx T (.tup [.int i, .ref a])) := sx.trans (.same sT)
    generalize upd Hx T (.tup [.int i, .ref a]) = Hz at ha hlu2 hys2 ex2 sx2 ⊢
    refine ⟨.ref lu, rfl, lu, rfl, ⟨ys, .of hlu2⟩, ?_⟩
    refine for_it (walk_tup (K := K) (a := lu) (xs := ys)) (fun j σ Hy => ∃ y6, σ = [some (.ref lt), some (.ref lu), some (.ref fo), some (.int i), some (.ref a), some (.int (numN (us.take j) i)), y6] ∧ Hy = Hz)
      ⟨y6, rfl, rfl⟩ (fun j σ Hy _ h => ?_) (fun j x σ Hy Hy' hj h hY => ?_) (fun σ Hy h => ?_)
    · obtain ⟨_, _, rfl⟩ := h
      exact .of hlu2
    · obtain ⟨y6, rfl, e⟩ := h
      have e := e.symm
      subst e
      obtain ⟨eH, hx⟩ := hY
      have eH := eH.symm
      subst eH
      obtain ⟨u, hu, b, rfl, hb⟩ := hys2.get hx
      have bu := hu1 u (List.mem_of_getElem? hu)
      refine ⟨.int _, rfl, 2, _, rfl, rfl, .inl ⟨by decide, by decide⟩, .ref b, rfl, .int i, rfl, b, _, i, .int (u.getD i 0), rfl, rfl, .of hb, atI_nat (j := i) ?_, _, _, rfl, rfl, ?_⟩
      · rw [List.getElem?_map, List.getD_eq_getElem?_getD, List.getElem?_eq_getElem (by rw [bu.1]; exact hi')]
        rfl
      · refine ⟨some (.ref b), ?_, rfl⟩
        rw [List.take_add_one, hu]
        show _ = [some (V.ref lt), some (.ref lu), some (.ref fo), some (.int i), some (.ref a), some (.int (numN (us.take j ++ [u]) i)), some (.ref b)]
        rw [num_step]
        rfl
    · obtain ⟨y6, rfl, e⟩ := h
      subst e
      rw [ly, List.take_length]
      obtain ⟨n0, n1⟩ := num_lt hi' us hu1
      have lr : r.length = 2 ^ us.length := hr1 r (List.mem_of_getElem? hr)
      have n2 : (numN us i).toNat < r.length := by
        have : ((2 ^ us.length : Nat) : Int) = (2 : Int) ^ us.length := Int.natCast_pow 2 _
        rw [lr]
        omega
      have er : rs.getD i [] = r := by rw [List.getD_eq_getElem?_getD, hr]; rfl
      refine ⟨.ref fo, rfl, .inl ⟨rfl, _, .of ex2⟩, .ref a, rfl, .int (numN us i), rfl, a, _, _, .int (r.getD (numN us i).toNat 0), rfl, rfl, .of ha, at_of (show numN us i = ((numN us i).toNat : Int) by omega) (map_at n2), fo, _, _, rfl, rfl, ex2, ?_, _, _, _, _, rfl, sx2.trans Sb.at, ?_⟩
      · rw [List.length_map, List.length_range]
        exact small60 (by omega)
      · rw [upd_same, List.range_succ, List.map_append, ← er]
        rfl
  · obtain ⟨y3, y4, y5, y6, rfl, sx, ex⟩ := h
    refine ⟨.ref fo, rfl, fo, _, rfl, .inl ⟨.of ex, fun t nt => q _ (.ref t) (fun b o e => ?_) ⟨t, rfl, ?_⟩⟩⟩
    · exact same_new nt _ _ (sx _ _ (nfo b o e) (s1 _ _ e))
    · rw [upd_same, lx]
      unfold votedN
      rw [List.map_map]
      rfl
end
end Ow

set_option Elab.async false
set_option linter.all false
set_option maxRecDepth 100000
set_option maxHeartbeats 4000000
set_option exponentiation.threshold 3000
namespace Ow
open PySem PySem.Spec PyProof.Rows L2
theorem scPlace : FnScope ["values", "place", "value"] ["values"] (defScope dPlace) := ⟨rfl, rfl, rfl, by decide +kernel, rfl, by decide +kernel, by decide +kernel⟩
theorem scLen : FnScope ["self"] ["self"] (defScope dLen) := ⟨rfl, rfl, rfl, by decide +kernel, rfl, by decide +kernel, by decide +kernel⟩
theorem scContains : FnScope ["self", "value"] ["self", "value"] (defScope dContains) := ⟨rfl, rfl, rfl, by decide +kernel, rfl, by decide +kernel, by decide +kernel⟩
theorem scNeedIssues : FnScope ["issues"] ["issues"] (defScope dNeedIssues) := ⟨rfl, rfl, rfl, by decide +kernel, rfl, by decide +kernel, by decide +kernel⟩
def placeN (ns : List Int) : Int := ns.foldl (fun p n => 2 * p + n) 0
section
variable {P : Program} {w : World} {K : PySem.W.Frag} {mg : Str → Option Value} {base : Heap} {C : Addr}
def spPlace : Sp := fun vs H Q _ => ∃ (x : V) (ns : List Int), vs = [x] ∧ IsRow H x ns ∧ ∀ H', Same H H' → Q (.int (placeN ns)) H'
theorem ok_place {f : Addr} {fd : FuncData} (F : Fun K "place_of" "place_of" dPlace f fd) : FnOk P w K mg base CX0 1 f fd ["values"] spPlace := by
  refine F.ok scPlace (fun vs H Q E h => ?_) (fun cdv A outer s H vs Q E hr h => ?_)
  · obtain ⟨x, ns, rfl, _⟩ := h
    rfl
  obtain ⟨x, ns, rfl, ⟨a, rfl, ha⟩, q⟩ := h
  refine ⟨_, pss_cons (ps_set (i := 1) scPlace.nd rfl (.inl rfl) pe_int)
    (pss_cons (ps_for PassesOwn.never rfl (pi_tup (pv 0)) (pg_name (i := 2) scPlace.nd rfl (.inl rfl))
      (pss_one (ps_set (i := 1) scPlace.nd rfl (.inl rfl) (pe_op op_add (pe_op op_mul pe_int (pv 1)) (pv 2)))))
    (pss_one (ps_ret (pv 1)))), ?_⟩
  refine ⟨.ref a, rfl, a, rfl, ⟨_, .of ha⟩, ?_⟩
  refine for_it (walk_tup (K := K) (a := a) (xs := ns.map V.int)) (fun j σ Hy => ∃ y2, σ = [some (.ref a), some (.int (placeN (ns.take j))), y2] ∧ Hy = H)
    ⟨none, rfl, rfl⟩ (fun j σ Hy _ h => ?_) (fun j x σ Hy Hy' hj h hY => ?_) (fun σ Hy h => ?_)
  · obtain ⟨_, _, rfl⟩ := h
    exact .of ha
  · obtain ⟨y2, rfl, e⟩ := h
    have e := e.symm
    subst e
    obtain ⟨eH, hx⟩ := hY
    have eH := eH.symm
    subst eH
    rw [List.getElem?_map] at hx
    cases h1 : ns[j]? with
    | none => rw [h1] at hx; cases hx
    | some n =>
      rw [h1] at hx
      cases hx
      refine ⟨.int _, rfl, 2, _, rfl, rfl, .inl ⟨by decide, by decide⟩, .int n, rfl, _, _, rfl, rfl, some (.int n), ?_, rfl⟩
      rw [List.take_add_one, h1]
      show _ = [some (V.ref a), some (.int (placeN (ns.take j ++ [n]))), some (.int n)]
      have : placeN (ns.take j ++ [n]) = 2 * placeN (ns.take j) + n := by unfold placeN; rw [List.foldl_append]; rfl
      rw [this]
      rfl
  · obtain ⟨y2, rfl, e⟩ := h
    subst e
    rw [List.length_map, List.take_length]
    exact ⟨.int _, rfl, q _ (Same.refl _)⟩
def spLen (C : Addr) : Sp := fun vs H Q _ => ∃ (a : Addr) (v : Nat) (ys : List Str) (tab : Str → List Int), vs = [.ref a] ∧ RuleAt C H a v ys tab ∧ Q (.int ys.length) H
theorem ok_len {f : Addr} {fd : FuncData} (R : RuleC K C) (F : Fun K "__len__" "Rule.__len__" dLen f fd) (ml : mg "len" = none) : FnOk P w K mg base CX0 1 f fd ["self"] (spLen C) := by
  refine F.ok scLen (fun vs H Q E h => ?_) (fun cdv A outer s H vs Q E hr h => ?_)
  · obtain ⟨a, v, ys, tab, rfl, _⟩ := h
    rfl
  obtain ⟨a, v, ys, tab, rfl, ⟨dx, t, d, ha, ht, _⟩, q⟩ := h
  refine ⟨_, pss_one (ps_ret (pe_callB call_len_seq (by rfl) ml PySem.boot_len (pa_cons (pe_fld (pv 0) rfl) pa_nil))), ?_⟩
  refine ⟨.ref a, rfl, a, C, dx, _, .ref t, rfl, ha, R.cl, R.nI, rfl, t, _, rfl, .inr (.of ht), ?_⟩
  rw [List.length_map]
  exact q
def spNI : Sp := fun vs H Q _ => ∃ (a : Addr) (zs : List Str), vs = [.ref a] ∧ H a = some (.tup (zs.map V.str)) ∧ zs.length ≤ 60 ∧ Plain zs ∧ issuesB zs = true ∧ ∀ H', Same H H' → Q .non H'
theorem ok_needissues {f fI : Addr} {fd fdI : FuncData} (F : Fun K "need_issues" "need_issues" dNeedIssues f fd) (FI : FnOk P w K mg base CX0 3 fI fdI ["value"] (spTexts issuesB))
    (kI : PySem.W.keepIn K (.ref fI) = true) (bI : Binds K fdI ["value"] []) (gI : mg "is_issues" = some (.ref fI)) : FnOk P w K mg base CX0 4 f fd ["issues"] spNI := by
  refine F.ok scNeedIssues (fun vs H Q E h => ?_) (fun cdv A outer s H vs Q E hr h => ?_)
  · obtain ⟨a, zs, rfl, _⟩ := h
    rfl
  obtain ⟨a, zs, rfl, ha, hl, hp, hi, q⟩ := h
  refine ⟨_, pss_one (ps_if (pt_not (pt_val (pe_call FI hr (by rfl) gI kI bI .nil pass0 (pa_cons (pv 0) pa_nil)))) (pss_one ps_never) pss_nil), ?_⟩
  exact ⟨.ref a, rfl, a, zs, rfl, ha, hl, hp, fun H1 s1 => ⟨true, congrArg V.bl hi, iteF (q H1 s1)⟩⟩
end
end Ow

set_option Elab.async false
set_option linter.all false
set_option maxRecDepth 100000
set_option maxHeartbeats 4000000
set_option exponentiation.threshold 3000
namespace Ow
open PySem PySem.Spec PyProof.Rows L2
/-! ### x in t, t a tuple of data -/
section
variable {X : Cx}
def rInT (K : PySem.W.Frag) (neg : Bool) : R2 := fun x y H Q => ∃ d ds, Dp K H x d ∧ Dp K H y (.tuple ds) ∧ SeqAt.shaped d = true ∧ SeqAt.shaped (.list ds) = true ∧ Q (.bl (if neg then !ds.any fun z => PyData.eqv z d else ds.any fun z => PyData.eqv z d)) H
theorem op_inT (hu : X.A.units + 65 < cLine) : OpR X (compareOp .In) (rInT X.K false) := by
  intro pins s σ H x y v u Q I rx ry h
  obtain ⟨d, ds, hd, he, sd, se, q⟩ := h
  obtain ⟨as, r1⟩ := Dp.reads I d x v hd rx
  obtain ⟨bs, r2⟩ := Dp.reads I (.tuple ds) y u he ry
  exact SeqAt.in_tuple_reads r2 r1 (SeqAt.canLay_of_shaped se) (SeqAt.canLay_of_shaped sd) (room_in_shaped sd hu) ⟨.bl _, H, I, rfl, q⟩
theorem op_notInT (hu : X.A.units + 65 < cLine) : OpR X (compareOp .NotIn) (rInT X.K true) := by
  intro pins s σ H x y v u Q I rx ry h
  obtain ⟨d, ds, hd, he, sd, se, q⟩ := h
  obtain ⟨as, r1⟩ := Dp.reads I d x v hd rx
  obtain ⟨bs, r2⟩ := Dp.reads I (.tuple ds) y u he ry
  exact SeqAt.notIn_tuple_reads r2 r1 (SeqAt.canLay_of_shaped se) (SeqAt.canLay_of_shaped sd) (room_in_shaped sd hu) ⟨.bl _, H, I, rfl, q⟩
end
theorem dp_strs {K : PySem.W.Frag} {H : Hp} : ∀ ys : List Str, DpAll K H (ys.map V.str) (ys.map .str)
  | [] => .nil
  | y :: ys => .cons (.str y) (dp_strs ys)
section
variable {P : Program} {w : World} {K : PySem.W.Frag} {mg : Str → Option Value} {base : Heap} {C : Addr}
/-- value in rule, the value data -/
def spContains (K : PySem.W.Frag) (C : Addr) : Sp := fun vs H Q _ => ∃ (a : Addr) (x : V) (d : PyData) (v : Nat) (ys : List Str) (tab : Str → List Int), vs = [.ref a, x] ∧ RuleAt C H a v ys tab ∧ Dp K H x d ∧ SeqAt.shaped d = true ∧ SeqAt.shaped (.list (ys.map .str)) = true ∧ Q (.bl ((ys.map PyData.str).any fun z => PyData.eqv z d)) H
theorem ok_contains {f : Addr} {fd : FuncData} (R : RuleC K C) (F : Fun K "__contains__" "Rule.__contains__" dContains f fd) : FnOk P w K mg base CX0 1 f fd ["self", "value"] (spContains K C) := by
  refine F.ok scContains (fun vs H Q E h => ?_) (fun cdv A outer s H vs Q E hr h => ?_)
  · obtain ⟨a, x, d, v, ys, tab, rfl, _⟩ := h
    rfl
  obtain ⟨a, x, d, v, ys, tab, rfl, ⟨dx, t, d', ha, ht, _⟩, hd, sd, sy, q⟩ := h
  have hu65 : (A.deeper (envOfC "Rule.__contains__" (defScope dContains) s.heap.objs.size f cdv)).units + 65 < cLine := by
    have := hr.un
    omega
  refine ⟨_, pss_one (ps_ret (pe_cmpR (op_inT hu65) (pv 1) (pe_fld (pv 0) rfl) (by rfl))), ?_⟩
  exact ⟨x, rfl, .ref a, rfl, a, C, dx, _, .ref t, rfl, ha, R.cl, R.nI, rfl, d, ys.map .str, hd, .tup (.of ht) (dp_strs ys), sd, sy, q⟩
end
end Ow

set_option Elab.async false
set_option linter.all false
set_option maxRecDepth 100000
set_option maxHeartbeats 4000000
namespace Ow
open PySem PySem.Spec PyProof.Rows L2 ItX
/-! ### own __iter__ that returns iter(t), t a tuple -/
/-- at it an iterator over the tuple at t, at its begin -/
def TItO (t it : Addr) : HO := .ext fun h => h.IsTupleIter it t 0
theorem tItO_ok {P : Program} {w : World} {H : Hp} {h : Heap} {t it : Addr} (e : h.IsTupleIter it t 0) : ObjOk P w H h it (TItO t it) :=
  ⟨e, let ⟨o, e, _⟩ := e; ⟨o, e⟩, fun h1 h2 q k => let ⟨o, e, r⟩ := q; ⟨o, k _ e, r⟩⟩
theorem tItO_get {X : Cx} {pins : List (Addr × Obj)} {σ : L2.St} {H : Hp} {s : Shared} {t it : Addr} (I : Inv X pins σ H s) (e : H it = some (TItO t it)) : s.heap.IsTupleIter it t 0 := (I.hok it _ e).1
section
variable {prog : Program} {w : World} {A : Around} {E : Value → Shared → Prop} {s : Shared} {l : Addr} {items : Array Value}
theorem raw_iterT {Q : Value → Shared → Prop} (hl : s.heap.IsTuple l items) (h : Q (.ref s.heap.objs.size) { s with heap := s.heap.push { cls := .type "tuple_iterator", data := .fields #[.ref l, .int 0 0] } }) : wpAny (model prog w) A (call (.builtin "iter") [.ref l]) Q E s := by
  refine Calls.call_function_entry (by decide +kernel) (by decide +kernel) PySem.W.kdk_entry_iter (PySem.W.kdk_args_iter _) ?_
  unfold Builtin.«iter»
  refine wpAny_bind (m := someArgs "iter" 1 2 _) (wpAny_of_eq (a := [Value.ref l]) (by first | rfl | kernel_rfl!) ?_)
  show wpAny _ _ (pyIter (.ref l) >>= _) _ _ _
  refine wpAny_bind (wpAny_pyIter_tuple hl ?_)
  exact wpAny_pure ⟨_, rfl, h⟩
end
/-- iter(t), t a tuple; n is below it -/
def rIterT (K : PySem.W.Frag) (n : Nat) : List V → Hp → VK → Prop := fun xs H Q => ∃ (l : Addr) (zs : List V), xs = [.ref l] ∧ SqT K H l zs ∧ ∀ it, H it = none → n ≤ it → Q (.ref it) (upd H it (TItO l it))
theorem call_iterT {X : Cx} : CallR X (.builtin "iter") (rIterT X.K X.s_0.heap.objs.size) := by
  intro pins s σ H xs us Q I r h
  obtain ⟨l, zs, rfl, hq, q⟩ := h
  obtain ⟨u, rfl, ru⟩ := vals1 r
  cases ru
  obtain ⟨its, rv, pl, hz⟩ := I.tuple hq
  refine raw_iterT (show s.heap.IsTuple l its.toArray from pl) ?_
  exact ⟨.ref s.heap.objs.size, _, I.laid (t' := s.toks) (fun b u e => Heap.get?_push_of_some _ e) (Nat.le_refl _) (tItO_ok ⟨_, Heap.get?_push_size _ rfl, rfl, rfl⟩), rfl, q _ (I.hok.fresh (Nat.le_refl _)) I.sz⟩
/-- as FnOk, with the number of objects ahead of the call -/
structure FnN (P : Program) (w : World) (K : PySem.W.Frag) (mg : Str → Option Value) (base : Heap) (CX : CXT) (k : Nat) (f : Addr) (fd : FuncData) (ps : List Str) (sp : Nat → Sp) : Prop where
  len : ∀ n vs H Q E, sp n vs H Q E → vs.length = ps.length
  run : ∀ (A : Around) (outer : List Env) (s : Shared) (H : Hp) (args : Args) (us : List Value) (vs : List V) (Q : VK) (E : XK), Room k A → Env0 P w K mg base A outer s H → BindsTo s fd args (ps.zip us) → Vals vs us → sp s.heap.objs.size vs H Q E →
    codeAny (model P w) A (.call (.ref f) args) (CR CX outer P w H s Q E) s
section
variable {P : Program} {w : World} {K : PySem.W.Frag} {mg : Str → Option Value} {base : Heap}
theorem Fun.okN {x qual : Str} {st : Stmt} {f : Addr} {fd : FuncData} {N ps : List Str} {k : Nat} {sp : Nat → Sp} (F : Fun K x qual st f fd) (S : FnScope N ps (defScope st)) (len : ∀ n vs H Q E, sp n vs H Q E → vs.length = ps.length)
    (hbody : ∀ (cdv : Value) (A : Around) (outer : List Env) (s : Shared) (H : Hp) (vs : List V) (Q : VK) (E : XK), Room k (A.deeper (envOfC qual (defScope st) s.heap.objs.size f cdv)) → sp s.heap.objs.size vs H Q E →
      ∃ t, PSs (cxOf CX0 P w K mg base N qual (defScope st) f cdv A outer s H E).nox (defBody st) t ∧ t { nx := fun _ H' => Q .non H', rt := Q } (start N vs) H) : FnN P w K mg base CX0 (k + 1) f fd ps sp := by
  obtain ⟨oc, od, kV, doc, pm, an, cdv, ct, osl, rfl, lk, hcd⟩ := F.ex
  refine ⟨len, fun A outer s H args us vs Q E hr e0 hb r hsp => ?_⟩
  have hl := len _ _ _ _ _ hsp
  have F1 : FnOk P w K mg base CX0 (k + 1) f (PySem.W.fnOf x qual (defArgs st) (defBody st) (defScope st) .none kV doc pm an cdv ct) ps (fun vs' H' Q' E' => False) := fn_of lk hcd S (fun _ _ _ _ z => z.elim) fun _ _ _ _ _ _ _ _ z => z.elim
  have KX : K.In s.heap := e0.mod.kin.keeps fun b o e => (e0.bs b o e).1
  have lim : s.heap.NoLimit := e0.mod.nolimit.keeps fun b o e => (e0.bs b o e).1
  have hkind : ∀ y ∈ ps.zip us, (defScope st).names.lookup y.1 = some .local ∨ ((defScope st).names.lookup y.1 = some .cell ∧ ((cellsFrom (s.heap.objs.size + 1) (defScope st).names []).lookup y.1).isSome = true) := fun ⟨n, v⟩ hy => by
    rcases S.par n (List.of_mem_zip hy).1 with q | q
    · exact .inl q
    · exact .inr ⟨q, PySem.W.cellsFrom_some _ _ _ (.inl q)⟩
  refine codeAny_call_function hr.depth (KX _ _ lk) rfl S.co S.gen rfl (PySem.W.codeRec_of KX hcd) (hb _ _ _ _ ?_)
  refine wpAny_newFunctionEnv_cells S.kind hkind fun env he s1 x => ?_
  subst he
  refine ⟨lim.keeps x.toInCall.keep, codeAny_func ?_⟩
  obtain ⟨t, ht0, hq⟩ := hbody cdv A outer s H vs Q E (hr.deeper _) hsp
  have ht := ht0.nox
  have I : Inv (cxOf CX0 P w K mg base N qual (defScope st) f cdv A outer s H E) [] (start N vs) H s1 := inv_start S hr.hd e0 hl r x
  refine wpAny_mono (ht.run [] s1 (start N vs) H _ I hq) (fun fl s' hs => ?_) fun e s' hs => hs
  have fin : ∀ {σ' : L2.St} {H' : Hp} {v : V} {u : Value}, Inv (cxOf CX0 P w K mg base N qual (defScope st) f cdv A outer s H E) [] σ' H' s' → RelV v u → Q v H' → CE outer P w H s Q u s' :=
    fun {σ' H' v u} J rv q => ⟨v, H', J.os, J.bare, J.base, J.hok, rv, q⟩
  cases fl with
  | ret u =>
    obtain ⟨v, σ', H', J, rv, q⟩ := hs
    exact fin J rv q
  | next =>
    obtain ⟨σ', H', J, q⟩ := hs
    exact fin (v := V.non) (u := Value.none) J rfl q
  | brk =>
    obtain ⟨_, _, _, q⟩ := hs
    exact False.elim q
  | cont =>
    obtain ⟨_, _, _, q⟩ := hs
    exact False.elim q
end
section
variable {X : Cx} {CX : CXT} {k : Nat} {f C : Addr} {fd : FuncData} {ps : List Str} {sp : Nat → Sp} {E : XK}
theorem run_atN {A : Around} (hfr : A.frames = X.A.frames) {pins : List (Addr × Obj)} {σ : L2.St} {H : Hp} {s : Shared} {Q : VK} {us : List Value} {vs : List V} (F : FnN X.prog X.w X.K X.mg X.base CX k f fd ps sp) (hr : Room k A) (hb : Binds X.K fd ps []) (hx : Passes CX X E)
    (I : Inv X pins σ H s) (r : Vals vs us) (h : sp s.heap.objs.size vs H Q E) : wpAny (model X.prog X.w) A (call (.ref f) us) (EP X pins σ Q) X.xe s := by
  have hl : us.length = ps.length := by rw [← r.length]; exact F.len _ _ _ _ _ h
  have b := hb s us I.kIn (by rw [List.append_nil]; exact hl)
  rw [List.append_nil] at b
  have e0 : Env0 X.prog X.w X.K X.mg X.base A X.stack s H := by
    have e := I.env0
    exact ⟨hfr.trans e.frames, e.mod, e.bs, e.bsz, e.funs, e.frf, e.hok, e.bare⟩
  refine wpAny_call (codeAny_mono (F.run A X.stack s H ⟨us, []⟩ us vs Q E hr e0 b r h) fun o s' hq => ?_)
  cases o with
  | error e => exact hx pins σ H s e s' I hq
  | ok fl =>
    cases fl with
    | ret u => exact I.after hq
    | next => exact False.elim hq
    | brk => exact False.elim hq
    | cont => exact False.elim hq
/-- an instance whose __iter__ is iter(t) -/
def iOwn (K : PySem.W.Frag) (C : Addr) (sp : Nat → Sp) (E : XK) (te : TE) : TI := fun σ H R => te σ H fun x H1 => ∃ a dx fs t, x = .ref a ∧ H1 a = some (.ins C dx fs) ∧
  (∀ n, sp n [.ref a] H1 (fun v H2 => ∃ it, n ≤ it ∧ v = .ref it ∧ H1 it = none ∧ H2 = upd H1 it (TItO t it)) E) ∧ R (Itt K t) H1
theorem pi_own {tg l : Expr} {tl : TE} (hl : PE X l tl) (hm : Meth X.K C "__iter__" f) (F : FnN X.prog X.w X.K X.mg X.base CX k f fd ps sp) (hr : Room k X.A) (hb : Binds X.K fd ps []) (hx : Passes CX X E) : PI X tg l (iOwn X.K C sp E tl) := by
  refine ⟨fun pins s σ H R I h => ?_⟩
  refine thn (hl.run pins s σ H _ I h) fun v s1 ⟨x, H1, I1, r1, q1⟩ => ?_
  obtain ⟨a, dx, fs, t, rfl, ha, hsp, q⟩ := q1
  cases r1
  obtain ⟨mA, J, _⟩ := ins_get I1.hok ha
  obtain ⟨od, J, _⟩ := J.look
  obtain ⟨m, hF⟩ := I1.fr
  have rr : Vals [V.ref a] [Value.ref a] := .cons rfl .nil
  refine PySem.W.owit_iter hF I1.ok.mod.kin J hm.at_ hm.fn (wpAny_mono (run_atN (A := X.A) rfl F hr hb hx I1 rr (hsp _)) (fun r s' hq => ?_) fun _ _ z => z)
  obtain ⟨z, H', I', rz, it, hn, rfl, hit, eH⟩ := hq
  cases rz
  have hi : H' it = some (TItO t it) := by rw [eH, upd_same]
  have st := tItO_get I' hi
  have ed : dropH H' it = H1 := by rw [eH]; exact dropH_upd hit
  have Id := inv_drop I' (show H' it = some (.ext _) from hi)
  have fp := inv_fp I' hi (Nat.le_trans I1.sz hn)
  rw [ed] at Id fp
  unfold PySem.W.OwitIt
  refine wpAny_specialOf (name := Str.ofString "__next__") st.typeIs PySem.F.slot_tuple_iterator_next.lookup ?_
  refine ⟨it, [it], _, _, H1, rfl, Id, turn_tuple t it, st, fun b hb => ?_, q⟩
  have e : b = it := by simpa using hb
  rw [e]
  exact fp
end
end Ow

set_option Elab.async false
set_option linter.all false
set_option maxRecDepth 100000
set_option maxHeartbeats 4000000
namespace Ow
open PySem PySem.Spec PyProof.Rows L2
/-! ### own ==, whatever stands to the right; != by it -/
section
variable {prog : Program} {w : World} {A : Around} {E : Value → Shared → Prop} {s : Shared} {K : PySem.W.Frag} {x C L f : Addr} {h₀ : Heap} {m : Str → Option Value} {ox : Obj} {od : Option Obj} {b tb : Value}
theorem cmp_one {op : CmpOp} {Q : Value → Shared → Prop} (hu : A.units < cLine) (X : K.In s.heap) (I : PySem.W.InstAt s.heap x ox C od) (hb : PySem.W.Looks (model prog w) s.heap (typeOf b) tb) (hn : PySem.W.notFirst K C tb = true)
    (one : wpAny (model prog w) A (tryCompare (.ref x) (cmpInfo op).2.1 b) (fun r s' => ∃ v, r = some v ∧ Q v s') E s) : wpAny (model prog w) A (richCompare op (.ref x) b) Q E s := by
  unfold richCompare
  simp only [PySem.oneThing_ref]
  refine wpAny_holding (wpAny_bind (wpAny_cRoomFor hu ?_))
  refine wpAny_bind (I.type.here (wpAny_bind (hb.here ?_)))
  split
  · rename_i q
    have e : PySem.W.subIn K tb (.ref C) = some false := by
      rcases Bool.or_eq_true_iff.mp hn with e | e
      · rw [beq_iff_eq.mp e] at q; simp at q
      · exact beq_iff_eq.mp e
    refine wpAny_bind ((PySem.W.looks_subIn X e).here ?_)
    simp only [Bool.false_eq_true, if_false]
    refine wpAny_bind (wpAny_mono one (fun r s' z => ?_) fun _ _ e => e)
    obtain ⟨v, rfl, hq⟩ := z
    exact wpAny_pure hq
  · refine wpAny_bind (wpAny_pure ?_)
    simp only [Bool.false_eq_true, if_false]
    refine wpAny_bind (wpAny_mono one (fun r s' z => ?_) fun _ _ e => e)
    obtain ⟨v, rfl, hq⟩ := z
    exact wpAny_pure hq
theorem slot_onInst {M : Model} {name : Str} {id : String} {args : List Value} {Q : Option Value → Shared → Prop} (X : K.In s.heap) (I : PySem.W.InstAt s.heap x ox C od) (hs : PySem.W.findIn K (.ref C) name = some (some (.builtin id))) (S : Slot "object" name id)
    (hcall : wpAny M A (call (.builtin id) (.ref x :: args)) (fun v => Q (some v)) E s) : wpAny M A (callSpecialIfBound? (.ref x) name args) Q E s := by
  simp only [callSpecialIfBound?, bindSpecialIfBound?]
  refine wpAny_holding (wpAny_bind (wpAny_bind (wpAny_bind (I.type.here ((PySem.W.looks_findIn X hs).here ?_)))))
  refine wpAny_bind (wpAny_askSetting (wpAny_ite ?_))
  have fin : wpAny M A (call (.builtin id) ([.ref x] ++ args) >>= fun v => pure (some v)) Q E s :=
    wpAny_bind (wpAny_mono hcall (fun v s' h' => wpAny_pure h') fun _ _ h' => h')
  simp only [S.bind]
  split
  · exact wpAny_bind (wpAny_pure (wpAny_pure fin))
  · exact wpAny_tryCatch (wpAny_bind (wpAny_pure (wpAny_pure fin)))
theorem check_onInst {M : Model} {id owner n : String} {rest : List Value} {Q : Unit → Shared → Prop} (hk : builtinKind id = some .slot) (hs : splitId id = some (owner, n)) (ha : argsOk id ⟨.ref x :: rest, []⟩)
    (X : K.In s.heap) (I : PySem.W.InstAt s.heap x ox C od) (hob : PySem.W.subIn K (.ref C) (.type owner) = some true) (hq : Q () s) : wpAny M A (checkBuiltinCall id ⟨.ref x :: rest, []⟩) Q E s := by
  simp only [checkBuiltinCall, hk, hs]
  refine wpAny_bind ?_
  unfold isInstance
  refine wpAny_bind (I.type.here ((PySem.W.looks_subIn X hob).here ?_))
  simp only [Bool.not_true, Bool.false_eq_true, if_false]
  cases hsig : Manifest.signature? id with
  | none => exact wpAny_pure hq
  | some sig =>
    simp only [argsOk, hsig] at ha
    have h2 : Bind.checkArgs id sig ⟨.ref x :: rest, []⟩ = pure () := ha
    show wpAny M A (Bind.checkArgs id sig ⟨.ref x :: rest, []⟩) Q E _
    rw [h2]; exact wpAny_pure hq
/-- object.__ne__, over an own __eq__ -/
theorem ne_entry {Q : Value → Shared → Prop} (hu : A.in1.units < cLine) (X : K.In s.heap) (I : PySem.W.InstAt s.heap x ox C od) (hs : PySem.W.findIn K (.ref C) "__eq__" = some (some (.ref f))) (hf : PySem.W.isFn K (.ref f) = true)
    (hn : PySem.W.findIn K (.ref C) "__ne__" = some (some (.builtin "object.__ne__"))) (hob : PySem.W.subIn K (.ref C) (.type "object") = some true)
    (h : wpAny (model prog w) A.in1 (call (.ref f) [.ref x, b]) (fun v s' => ∃ r : Bool, v = .bool r ∧ Q (.bool (!r)) s') E s) :
    wpAny (model prog w) A (tryCompare (.ref x) "__ne__" b) (fun r s' => ∃ v, r = some v ∧ Q v s') E s := by
  unfold tryCompare
  refine wpAny_bind (slot_onInst X I hn PySem.F.cmp_object.ne (wpAny_call (codeAny_call_builtin PySem.F.cmp_object.ne.plain PySem.F.cmpEntry_ne (check_onInst PySem.F.cmpKind_ne PySem.F.cmpSplit_ne (PySem.F.cmpArgs_ne _ _) X I hob ?_))))
  unfold Builtin.«object.__ne__»
  refine wpAny_bind (wpAny_of_eq (a := (Value.ref x, [b])) (by first | rfl | kernel_rfl!) ?_)
  dsimp only
  refine wpAny_bind (wpAny_cRoomFor hu ?_)
  refine wpAny_bind (PySem.W.ifBound_K X I hs hf (wpAny_mono h (fun v s' hv => ?_) fun _ _ e => e))
  obtain ⟨r, rfl, hq⟩ := hv
  dsimp only
  refine wpAny_bind (wpAny_truthy_bool ?_)
  exact wpAny_pure (wpAny_pure ⟨_, rfl, hq⟩)
end
section
variable {X : Cx} {CX : CXT} {k : Nat} {f C : Addr} {fd : FuncData} {ps : List Str} {sp : Sp} {E : XK}
/-- o == y, o != y: y no instance of a class below -/
def rEqO (K : PySem.W.Frag) (C : Addr) (sp : Sp) (E : XK) (neg : Bool) : R2 := fun x y H Q => ∃ a dx fs t, x = .ref a ∧ H a = some (.ins C dx fs) ∧ TyX K H y t ∧ PySem.W.notFirst K C t = true ∧
  sp [.ref a, y] H (fun v H' => ∃ b : Bool, v = .bl b ∧ Q (.bl (if neg then !b else b)) H') E
theorem op_eqO (hm : Meth X.K C "__eq__" f) (F : FnOk X.prog X.w X.K X.mg X.base CX k f fd ps sp) (hr : Room k X.A) (hb : Binds X.K fd ps []) (hx : Passes CX X E) : OpR X (compareOp .Eq) (rEqO X.K C sp E false) := by
  intro pins s σ H x y v u Q I rx ry h
  obtain ⟨a, dx, fs, t, rfl, ha, ty, hn, q⟩ := h
  cases rx
  obtain ⟨mA, J, _⟩ := ins_get I.hok ha
  obtain ⟨od, J, _⟩ := J.look
  obtain ⟨m, hF⟩ := I.fr
  obtain ⟨PP, Z, hp, _⟩ := kit_of I ry ty
  have rr : Vals [V.ref a, y] [Value.ref a, u] := .cons rfl (.cons ry .nil)
  refine PySem.W.cmp_K (op := .Eq) hr.units0 hF I.ok.mod.kin J (Z.ty _ _ I.kIn hp) hn hm.at_ hm.fn (wpAny_mono (run_at (A := X.A) rfl F hr hb hx I rr q) (fun r s' hq => ?_) fun _ _ z => z)
  obtain ⟨z, H', I', rz, b, rfl, q'⟩ := hq
  cases rz
  exact ⟨.bl b, H', I', rfl, q'⟩
theorem op_neO (hm : Meth X.K C "__eq__" f) (hne : PySem.W.findIn X.K (.ref C) "__ne__" = some (some (.builtin "object.__ne__"))) (hob : PySem.W.subIn X.K (.ref C) (.type "object") = some true)
    (F : FnOk X.prog X.w X.K X.mg X.base CX k f fd ps sp) (hr : Room (k + 1) X.A) (hb : Binds X.K fd ps []) (hx : Passes CX X E) : OpR X (compareOp .NotEq) (rEqO X.K C sp E true) := by
  intro pins s σ H x y v u Q I rx ry h
  obtain ⟨a, dx, fs, t, rfl, ha, ty, hn, q⟩ := h
  cases rx
  obtain ⟨mA, J, _⟩ := ins_get I.hok ha
  obtain ⟨od, J, _⟩ := J.look
  obtain ⟨PP, Z, hp, _⟩ := kit_of I ry ty
  have rr : Vals [V.ref a, y] [Value.ref a, u] := .cons rfl (.cons ry .nil)
  show wpAny _ _ (richCompare .NotEq (.ref a) u) _ _ s
  refine cmp_one (op := .NotEq) hr.units0 I.kIn J (Z.ty _ _ I.kIn hp) hn ?_
  refine ne_entry hr.in1.units0 I.kIn J hm.at_ hm.fn hne hob (wpAny_mono (run_at (A := X.A.in1) rfl F hr.in1 hb hx I rr q) (fun r s' hq => ?_) fun _ _ z => z)
  obtain ⟨z, H', I', rz, b, rfl, q'⟩ := hq
  cases rz
  exact ⟨b, rfl, .bl (!b), H', I', rfl, q'⟩
end
end Ow

set_option Elab.async false
set_option linter.all false
set_option maxRecDepth 100000
set_option maxHeartbeats 4000000
set_option exponentiation.threshold 3000
namespace Ow
open PySem PySem.Spec PyProof.Rows L2
/-! ### == of two dicts of tables with the same keys -/
theorem hits_tab {X : Cx} {pins : List (Addr × Obj)} {σ : L2.St} {H : Hp} {s : Shared} (I : Inv X pins σ H s) {A : Around} (hu : A.in1.units + 64 < cLine) {tab tab' : Str → List Int} {ls : List (Key × V)} {vb : List (Key × Value)} {ys : List Str}
    (rb : KV ls vb) (hb : All2 (TabR H tab') ls ys) {ks : List (Key × V)} {va : List (Key × Value)} (ra : KV ks va) :
    ∀ {zs : List Str}, All2 (TabR H tab) ks zs → (∀ z ∈ zs, z ∈ ys) → PySem.W.KeqHits A.in1 s vb va (zs.all fun z => decide (tab z = tab' z)) := by
  unfold KV at ra
  induction ra with
  | nil =>
    intro zs h _
    cases h
    exact .nil
  | @cons p q ps qs h t ih =>
    intro zs hz sub
    cases hz with
    | @cons _ z _ zs r hz =>
      obtain ⟨h1, h2⟩ := h
      obtain ⟨x, hx, rx⟩ := tab_get hb (sub z List.mem_cons_self)
      have rr : RelO (some x) (valueAt vb (Sum.inr z)) := by rw [← hx]; exact rb.val _
      obtain ⟨y, hy, ry⟩ := rr.some_of
      obtain ⟨k, v⟩ := q
      have h1' : p.1 = k := h1
      rw [← h1', r.1]
      obtain ⟨as, r1⟩ := Dp.reads I (rowD (tab z)) p.2 v (dp_row r.2) h2
      obtain ⟨bs, r2⟩ := Dp.reads I (rowD (tab' z)) x y (dp_row rx) ry
      have eq := PySem.W.keq_at (A := A) r1 r2 (shaped_row _) (shaped_row _) hu
      rw [eqv_row] at eq
      rw [List.all_cons]
      exact .hit hy eq (ih hz fun z' hm => sub z' (List.mem_cons_of_mem _ hm))
def rEqTab : R2 := fun x y H Q => ∃ a b ks tab tab', x = .ref a ∧ y = .ref b ∧ TabD H a ks tab ∧ TabD H b ks tab' ∧ Q (.bl (ks.all fun z => decide (tab z = tab' z))) H
theorem op_eqTab {X : Cx} (hu : X.A.units < cLine) (hu64 : X.A.in1.units + 64 < cLine) : OpR X (compareOp .Eq) rEqTab := by
  intro pins s σ H x y v u Q I rx ry h
  obtain ⟨a, b, zs, tab, tab', rfl, rfl, ⟨ks, ea, ta⟩, ⟨ls, eb, tb⟩, q⟩ := h
  obtain rfl : v = Value.ref a := rx
  obtain rfl : u = Value.ref b := ry
  obtain ⟨_, ya, va, ra, da⟩ := (show ObjOk X.prog X.w H s.heap a (.dK ks) from I.hok a _ ea)
  obtain ⟨_, yb, vb, rb, db⟩ := (show ObjOk X.prog X.w H s.heap b (.dK ls) from I.hok b _ eb)
  have hl : va.length = vb.length := by rw [← ra.length, ← rb.length, ta.len, tb.len]
  exact PySem.W.keq_eq (knd := mixKind X.prog X.w) ya yb da db hu (fun _ => hits_tab I hu64 rb tb ra ta fun z h => h) (fin_bl I q (by simp [hl]))
/-- what isinstance and the comparisons ask of the class -/
def kinds : List String := ["NoneType", "int", "str", "tuple", "list"]
structure RuleI (K : PySem.W.Frag) (C : Addr) : Prop where
  ha : PySem.W.findIn K (.ref C) "__class__" = some (some (.builtin "object.__class__"))
  hn : PySem.W.specialIn K (.builtin "object.__class__") "__get__" = some (some (.builtin "getset_descriptor.__get__"))
  htk : PySem.W.takesIn K (.builtin "object.__class__") = some true
  hm : PySem.W.mroIn K C (.type "object") = some true
  own : PySem.W.kitOne K (.ref C) (.ref C) = some true
  non : ∀ T ∈ kinds, PySem.W.kitOne K (.type T) (.ref C) = some false ∧ PySem.W.notFirst K C (.type T) = true
theorem RuleI.ty {K : PySem.W.Frag} {C : Addr} {H : Hp} {a dx : Addr} {fs : List (Str × V)} (R : RuleI K C) (cl : Cls K C) (h : H a = some (.ins C dx fs)) : TyX K H (.ref a) (.ref C) := .base (.ins h cl R.ha R.hn R.htk R.hm)
theorem notFirst_self {K : PySem.W.Frag} {C : Addr} : PySem.W.notFirst K C (.ref C) = true := by
  unfold PySem.W.notFirst
  simp
theorem scEqR : FnScope ["self", "other"] ["self", "other"] (defScope dEq) := ⟨rfl, rfl, rfl, by decide +kernel, rfl, by decide +kernel, by decide +kernel⟩
theorem scIterR : FnScope ["self"] ["self"] (defScope dIter) := ⟨rfl, rfl, rfl, by decide +kernel, rfl, by decide +kernel, by decide +kernel⟩
section
variable {P : Program} {w : World} {K : PySem.W.Frag} {mg : Str → Option Value} {base : Heap} {C : Addr}
def spIter (C : Addr) : Nat → Sp := fun n vs H Q _ => ∃ (a : Addr) (v : Nat) (dx t d : Addr) (ys : List Str), vs = [.ref a] ∧ H a = some (.ins C dx (ruleF v t d)) ∧ H t = some (.tup (ys.map V.str)) ∧ ∀ it, H it = none → n ≤ it → Q (.ref it) (upd H it (TItO t it))
theorem ok_iter {f : Addr} {fd : FuncData} (R : RuleC K C) (F : Fun K "__iter__" "Rule.__iter__" dIter f fd) (mi : mg "iter" = none) : FnN P w K mg base CX0 1 f fd ["self"] (spIter C) := by
  refine Fun.okN F scIterR (fun n vs H Q E h => ?_) (fun cdv A outer s H vs Q E hr h => ?_)
  · obtain ⟨a, v, dx, t, d, ys, rfl, _⟩ := h
    rfl
  obtain ⟨a, v, dx, t, d, ys, rfl, ha, ht, q⟩ := h
  refine ⟨_, pss_one (ps_ret (pe_callB call_iterT (by rfl) mi PyProof.Rows.boot_iter (pa_cons (pe_fld (pv 0) rfl) pa_nil))), ?_⟩
  exact ⟨.ref a, rfl, a, C, dx, _, .ref t, rfl, ha, R.cl, R.nI, rfl, t, _, rfl, .of ht, q⟩
/-- rule == y: y of another kind, or a rule -/
def spEqR (K : PySem.W.Frag) (C : Addr) : Sp := fun vs H Q _ => ∃ (a : Addr) (y : V) (v : Nat) (ys : List Str) (tab : Str → List Int), vs = [.ref a, y] ∧ RuleAt C H a v ys tab ∧
  ((∃ T ∈ kinds, TyX K H y (.type T) ∧ Q (.bl false) H) ∨
   (∃ (b : Addr) (v' : Nat) (ys' : List Str) (tab' : Str → List Int), y = .ref b ∧ RuleAt C H b v' ys' tab' ∧ ((v ≠ v' ∧ Q (.bl false) H) ∨ (v = v' ∧ ys = ys' ∧ Q (.bl (ys.all fun z => decide (tab z = tab' z))) H))))
theorem ok_eqR {f : Addr} {fd : FuncData} (R : RuleC K C) (RI : RuleI K C) (F : Fun K "__eq__" "Rule.__eq__" dEq f fd) (mi : mg "isinstance" = none) (gR : mg "Rule" = some (.ref C)) : FnOk P w K mg base CX0 2 f fd ["self", "other"] (spEqR K C) := by
  refine F.ok scEqR (fun vs H Q E h => ?_) (fun cdv A outer s H vs Q E hr h => ?_)
  · obtain ⟨a, y, v, ys, tab, rfl, _⟩ := h
    rfl
  obtain ⟨a, y, v, ys, tab, rfl, ⟨dx, t, d, ha, ht, hd⟩, q⟩ := h
  refine ⟨_, pss_one (ps_ret (pe_and (pe_callB call_isi (by rfl) mi boot_isi (pa_cons (pv 1) (pa_cons (pe_glob (by rfl) gR (v := .ref C) rfl) pa_nil)))
    (pe_and (pe_cmpR op_eq (pe_fld (pv 0) rfl) (pe_fld (pv 1) rfl) (by rfl)) (pe_one (pe_cmpR (op_eqTab hr.units0 hr.in1.units) (pe_fld (pv 0) rfl) (pe_fld (pv 1) rfl) (by rfl)))))), ?_⟩
  rcases q with ⟨T, hT, ty, q⟩ | ⟨b, v', ys', tab', rfl, ⟨dx', t', d', hb, ht', hd'⟩, q⟩
  · exact ⟨y, rfl, y, .ref C, .type T, .ref C, false, rfl, .own C, ty, (RI.non T hT).1, false, rfl, iteF q⟩
  · refine ⟨.ref b, rfl, .ref b, .ref C, .ref C, .ref C, true, rfl, .own C, RI.ty R.cl hb, RI.own, true, rfl, iteT ?_⟩
    refine ⟨.ref a, rfl, a, C, dx, _, .int v, rfl, ha, R.cl, R.nV, rfl, .ref b, rfl, b, C, dx', _, .int v', rfl, hb, R.cl, R.nV, rfl, ?_⟩
    rcases q with ⟨hv, q⟩ | ⟨rfl, rfl, q⟩
    · refine ⟨rfl, false, ?_, iteF q⟩
      congr 1
      exact decide_eq_false fun e => hv (Int.ofNat.inj (V.int.inj e))
    · refine ⟨rfl, true, ?_, iteT ?_⟩
      · congr 1
        exact decide_eq_true rfl
      · exact ⟨.ref a, rfl, a, C, dx, _, .ref d, rfl, ha, R.cl, R.nT, rfl, .ref b, rfl, b, C, dx', _, .ref d', rfl, hb, R.cl, R.nT, rfl, d, d', ys, tab, tab', rfl, rfl, hd, hd', q⟩
end
end Ow

set_option Elab.async false
set_option linter.all false
set_option maxRecDepth 100000
set_option maxHeartbeats 4000000
namespace Ow
open PySem PySem.Spec PyProof.Rows
open Sem (wp)
/-! ### zip of any number of tuples of one length -/
/-- a source of a zip: its iterator, the tuple, its items -/
structure ZSrc where
  it : Addr
  l : Addr
  xs : Array Value
abbrev IsTupOf (h : Heap) (T : Addr) (xs : List Value) : Prop := h.get? T = some { cls := .type "tuple", data := .seq xs.toArray }
abbrev itsOf (ps : List ZSrc) : List Value := ps.map fun p => Value.ref p.it
/-- the i-th items -/
abbrev colOf (ps : List ZSrc) (i : Nat) : List Value := ps.map fun p => p.xs.getD i .none
/-- the places lie apart, all below S -/
structure ZA (z TI TO : Addr) (ps : List ZSrc) (S : Addr) : Prop where
  nd : (ps.map (·.it)).Nodup
  TIz : TI ≠ z
  TOz : TO ≠ z
  TITO : TI ≠ TO
  zi : ∀ p ∈ ps, z ≠ p.it ∧ TI ≠ p.it ∧ TO ≠ p.it
  zl : ∀ p ∈ ps, z ≠ p.l ∧ TO ≠ p.l
  il : ∀ p ∈ ps, ∀ q ∈ ps, p.it ≠ q.l
  bz : z < S
  bI : TI < S
  bO : TO < S
  bi : ∀ p ∈ ps, p.it < S
  bl : ∀ p ∈ ps, p.l < S
/-- each iterator stands ahead of turn i -/
def AtI (h : Heap) (i : Nat) (ps : List ZSrc) : Prop := ∀ p ∈ ps, h.IsTupleIter p.it p.l i ∧ h.IsTuple p.l p.xs
def NotIt (ps : List ZSrc) (c : Addr) : Prop := ∀ p ∈ ps, c ≠ p.it
theorem AtI.mono {h h' : Heap} {i : Nat} {ps : List ZSrc} (x : AtI h i ps) (k : ∀ p ∈ ps, ∀ o, (h.get? p.it = some o → h'.get? p.it = some o) ∧ (h.get? p.l = some o → h'.get? p.l = some o)) : AtI h' i ps := fun p hp => by
  obtain ⟨⟨o, e, r⟩, o2, e2, r2⟩ := x p hp
  exact ⟨⟨o, (k p hp o).1 e, r⟩, o2, (k p hp o2).2 e2, r2⟩
section
variable {prog : Program} {w : World} {A : Around} {E : Value → Shared → Prop} {s : Shared} {z TI TO T S : Addr} {ps : List ZSrc} {i N : Nat} {oT : Obj}
theorem src_draws (hh : A.handled = none) (p : ZSrc) (hne : p.l ≠ p.it) : Draws prog w A p.it [p.it, p.l] p.xs.size (fun i v => p.xs[i]? = some v) (fun i h => h.IsTupleIter p.it p.l i ∧ h.IsTuple p.l p.xs) := Draws.tuple hh p.it p.l hne p.xs
theorem updateSeq_tup {T : Addr} {x : Value} {k : Nat} {ys : List Value} {Q : Unit → Shared → Prop} (hT : IsTupOf s.heap T ys) (hl : ys.length ≤ sizeLine)
    (h : ∀ h', IsTupOf h' T (ys.set k x) → Heap.SameBut T s.heap h' → Q () { s with heap := h' }) :
    wpAny (model prog w) A (updateSeq T (·.setIfInBounds k x)) Q E s := by
  refine wpAny_updateSeq hT rfl (h _ ?_ (Heap.SameBut.update ..)) (by rw [List.size_toArray]; exact hl) (by rw [Array.size_setIfInBounds, List.size_toArray]; exact Nat.le_succ_of_le hl)
  unfold IsTupOf
  rw [Heap.get?_update_self _ hT rfl]
  simp [Obj.mapSeq]
/-- the first next: the tuple of its own is filled, a copy is handed out -/
theorem zn_first {Q : Value → Shared → Prop} (hh : A.handled = none) (S0 : ZA z TI TO ps S) (hlen : ps.length ≤ sizeLine) (hz : IsZip s.heap z TI TO .none) (hTI : IsTupOf s.heap TI (itsOf ps)) {ys0 : List Value} (hTO : IsTupOf s.heap TO ys0) (hy0 : ys0.length = ps.length)
    (st : AtI s.heap i ps) (hne : ps ≠ []) (hN : ∀ p ∈ ps, p.xs.size = N) (hlt : i < N)
    (hQ : ∀ h' tk, IsZip h' z TI TO (rawInt s.heap.objs.size) → AtI h' (i + 1) ps → IsTupOf h' s.heap.objs.size (colOf ps i) → h'.objs.size = s.heap.objs.size + 1 →
      (∀ c o, c ≠ z → c ≠ TO → NotIt ps c → s.heap.get? c = some o → h'.get? c = some o) → Q (.ref s.heap.objs.size) { s with heap := h', toks := tk }) :
    wpAny (model prog w) A (Builtin.«zip.__next__» ⟨[.ref z], []⟩) (fun fin s' => ∃ v, fin = .done (.ret v) ∧ Q v s') E s := by
  obtain ⟨hp, g, d, tk0, os⟩ := s
  show wpAny _ _ (field (.ref z) 2 >>= _) _ _ _
  refine wpAny_bind (wpAny_field hz rfl (x := .bool false) rfl ?_)
  show wpAny _ _ (field (.ref z) 3 >>= _) _ _ _
  refine wpAny_bind (wpAny_field hz rfl (x := .ref TI) rfl ?_)
  refine wpAny_bind (wpAny_seqItems hTI rfl ?_)
  have ne : ((itsOf ps).toArray).isEmpty = false := by
    cases ps with
    | nil => exact absurd rfl hne
    | cons p ps => rfl
  dsimp only
  rw [ne]
  simp only [Bool.false_eq_true, if_false]
  show wpAny _ _ (Builtin.SmallTypes.ownedTupleIsFree (.ref z) >>= _) _ _ _
  refine wpAny_bind ?_
  unfold Builtin.SmallTypes.ownedTupleIsFree
  refine wpAny_bind (wpAny_field hz rfl (x := .none) rfl (wpAny_pure ?_))
  simp only [if_true]
  refine wpAny_bind (wpAny_rule ?_)
  refine wpAny_bind (wpAny_field hz rfl (x := .ref TO) rfl ?_)
  refine wpAny_bind (wpAny_setField_rec hz (by simp) fun g0 hz0 hs0 => ?_)
  replace hz0 : IsZip g0 z TI TO .ellipsis := hz0
  replace hs0 : Heap.SameBut z hp g0 := hs0
  refine wpAny_bind ?_
  refine wpAny_forIn_list _ (fun rest b s' => b.1 = none ∧ ∃ dn rs ys g' tk', s' = ⟨g', g, d, tk', os⟩ ∧ ps = dn ++ rs ∧ rest = (itsOf rs).zipIdx dn.length ∧ AtI g' (i + 1) dn ∧ AtI g' i rs ∧ IsTupOf g' TO ys ∧ ys.length = ps.length ∧
    ys.take dn.length = colOf dn i ∧ IsZip g' z TI TO .ellipsis ∧ g'.objs.size = hp.objs.size ∧ ∀ c o, c ≠ z → c ≠ TO → NotIt ps c → hp.get? c = some o → g'.get? c = some o) _ ?turn ?fin _ _ ?start
  case start =>
    refine ⟨rfl, [], ps, ys0, g0, tk0, rfl, rfl, by simp, (fun _ h => nomatch h), ?_, hs0.extBut _ _ S0.TOz hTO, hy0, by simp, hz0, hs0.1, fun c o cz _ _ e => hs0.extBut _ _ cz e⟩
    exact st.mono fun p hp' o => ⟨fun e => hs0.extBut _ _ (S0.zi p hp').1.symm e, fun e => hs0.extBut _ _ (S0.zl p hp').1.symm e⟩
  case turn =>
    rintro ⟨iv, k⟩ rest b s' ⟨hb, dn, rs, ys, g', tk', rfl, eps, er, sd, sr, hT, hyl, hyt, hz', hsz, hk⟩
    cases rs with
    | nil => simp at er
    | cons p rs =>
      have hmem : p ∈ ps := by rw [eps]; exact List.mem_append_right _ List.mem_cons_self
      have hmd : ∀ q ∈ dn, q ∈ ps := fun q h => by rw [eps]; exact List.mem_append_left _ h
      have hmr : ∀ q ∈ rs, q ∈ ps := fun q h => by rw [eps]; exact List.mem_append_right _ (List.mem_cons_of_mem _ h)
      have nd := S0.nd
      rw [eps, List.map_append, List.map_cons] at nd
      have ndd : ∀ q ∈ dn, p.it ≠ q.it := fun q h e => (List.nodup_append.mp nd).2.2 q.it (List.mem_map.mpr ⟨q, h, rfl⟩) p.it List.mem_cons_self e.symm
      have ndr : ∀ q ∈ rs, p.it ≠ q.it := fun q h e => (List.nodup_cons.mp (List.nodup_append.mp nd).2.1).1 (List.mem_map.mpr ⟨q, h, e.symm⟩)
      rw [itsOf, List.map_cons, List.zipIdx_cons] at er
      injection er with e1 e2
      injection e1 with e3 e4
      subst e3 e4
      have D := src_draws (prog := prog) (w := w) (A := A) hh p (fun e => S0.il p hmem p hmem e.symm)
      refine wpAny_bind (wpAny_onRaise ?_)
      show wpAny _ _ (Builtin.SmallTypes.nextOf (.ref p.it) >>= _) _ _ ⟨g', g, d, tk', os⟩
      refine wpAny_bind (D.item i _ _ _ (by rw [hN p hmem]; exact hlt) (sr p List.mem_cons_self) fun x g1 tk1 hx sn hs1 => wpAny_pure ?_)
      replace hs1 : Heap.SameBut p.it g' g1 := hs1
      have hU : IsTupOf g1 TO ys := hs1.extBut _ _ (S0.zi p hmem).2.2 hT
      refine wpAny_bind (wpAny_seqItems (s := ⟨g1, g, d, tk1, os⟩) hU rfl ?_)
      refine wpAny_bind (updateSeq_tup (s := ⟨g1, g, d, tk1, os⟩) hU (by rw [hyl]; exact hlen) fun g2 hT2 hs2 => ?_)
      replace hs2 : Heap.SameBut TO g1 g2 := hs2
      refine wpAny_bind (wpAny_letGo (wpAny_pure ?_))
      have hl1 : dn.length < ys.length := by rw [hyl, eps, List.length_append, List.length_cons]; omega
      have hg : p.xs.getD i Value.none = x := by rw [Array.getD_eq_getD_getElem?, hx]; rfl
      refine ⟨rfl, dn ++ [p], rs, ys.set dn.length x, g2, tk1, rfl, by rw [eps, List.append_assoc]; rfl, by rw [e2, List.length_append]; rfl, ?_, ?_, hT2, by rw [List.length_set]; exact hyl, ?_, ?_, ?_, ?_⟩
      · intro q hq
        rcases List.mem_append.mp hq with hq | hq
        · exact (sd.mono (h' := g2) fun q hq o => ⟨fun e => hs2.extBut _ _ (S0.zi q (hmd q hq)).2.2.symm (hs1.extBut _ _ (ndd q hq).symm e), fun e => hs2.extBut _ _ (S0.zl q (hmd q hq)).2.symm (hs1.extBut _ _ (S0.il p hmem q (hmd q hq)).symm e)⟩) q hq
        · rw [List.mem_singleton.mp hq]
          exact D.over sn hs2 (by simp only [List.mem_cons, List.mem_nil_iff, or_false, not_or]; exact ⟨(S0.zi p hmem).2.2, (S0.zl p hmem).2⟩)
      · exact AtI.mono (h := g') (fun q hq => sr q (List.mem_cons_of_mem _ hq)) fun q hq o => ⟨fun e => hs2.extBut _ _ (S0.zi q (hmr q hq)).2.2.symm (hs1.extBut _ _ (ndr q hq).symm e), fun e => hs2.extBut _ _ (S0.zl q (hmr q hq)).2.symm (hs1.extBut _ _ (S0.il p hmem q (hmr q hq)).symm e)⟩
      · rw [List.length_append, List.length_singleton, colOf, List.map_append, List.map_cons, List.map_nil, hg]
        have : (ys.set dn.length x).take (dn.length + 1) = ys.take dn.length ++ [x] := by
          rw [List.take_add_one, List.take_set_of_le (Nat.le_refl _), List.getElem?_set_self hl1]
          rfl
        rw [this, hyt]
      · exact hs2.extBut _ _ S0.TOz.symm (hs1.extBut _ _ (S0.zi p hmem).1 hz')
      · rw [hs2.1, hs1.1, hsz]
      · exact fun c o cz cT ci e => hs2.extBut _ _ cT (hs1.extBut _ _ (ci p hmem) (hk c o cz cT ci e))
  case fin =>
    rintro b s' ⟨hb, dn, rs, ys, g2, tk2, rfl, eps, er, sd, sr, hT2, hyl, hyt, hzz, hsz, hkk⟩
    have ers : rs = [] := by
      cases rs with
      | nil => rfl
      | cons p rs => simp at er
    subst ers
    rw [List.append_nil] at eps
    subst eps
    rw [← hyl, List.take_length] at hyt
    subst hyt
    obtain ⟨b1, b2⟩ := b
    have hb' : b1 = none := hb
    subst hb'
    dsimp only
    refine wpAny_bind (wpAny_seqItems (s := ⟨g2, g, d, tk2, os⟩) hT2 rfl ?_)
    refine wpAny_bind (wpAny_newTuple ?_)
    have hzlt : z < g2.objs.size := Heap.lt_size hzz
    have el : (colOf ps i).toArray.toList = colOf ps i := rfl
    rw [el]
    show wpAny _ _ (Builtin.SmallTypes.ownedTupleHandOut (.ref z) (.ref g2.objs.size) >>= _) _ _ ⟨g2.push { cls := .type "tuple", data := .seq (colOf ps i).toArray }, g, d, tk2, os⟩
    refine wpAny_bind ?_
    unfold Builtin.SmallTypes.ownedTupleHandOut
    have hz₆ : IsZip (g2.push { cls := .type "tuple", data := .seq (colOf ps i).toArray }) z TI TO .ellipsis := Heap.get?_push_of_some _ hzz
    refine wpAny_bind (wpAny_setField_rec hz₆ (by simp) fun h₇ hz₇ hs₇ => ?_)
    replace hz₇ : IsZip h₇ z TI TO (rawInt g2.objs.size) := hz₇
    refine wpAny_setField_rec hz₇ (by simp) fun h₈ hz₈ hs₈ => ?_
    replace hz₈ : IsZip h₈ z TI TO (rawInt g2.objs.size) := hz₈
    replace hs₇ : Heap.SameBut z (g2.push { cls := .type "tuple", data := .seq (colOf ps i).toArray }) h₇ := hs₇
    replace hs₈ : Heap.SameBut z h₇ h₈ := hs₈
    have up : ∀ c o, c ≠ z → g2.get? c = some o → h₈.get? c = some o := fun c o c1 e => hs₈.extBut _ _ c1 (hs₇.extBut _ _ c1 (Heap.get?_push_of_some _ e))
    have hT₈ : IsTupOf h₈ g2.objs.size (colOf ps i) := hs₈.extBut _ _ (Nat.ne_of_gt hzlt) (hs₇.extBut _ _ (Nat.ne_of_gt hzlt) (Heap.get?_push_size _ rfl))
    have hz8 : h₈.objs.size = g2.objs.size + 1 := by rw [hs₈.1, hs₇.1, Heap.size_push]
    rw [hsz] at hz₈ hT₈ hz8
    refine wpAny_pure ⟨_, rfl, ?_⟩
    show Q (.ref g2.objs.size) ⟨h₈, g, d, tk2, os⟩
    rw [hsz]
    exact hQ h₈ tk2 hz₈ (sd.mono fun p hp' o => ⟨fun e => up _ _ (S0.zi p hp').1.symm e, fun e => up _ _ (S0.zl p hp').1.symm e⟩) hT₈ hz8 fun c o cz cT ci e => up c o cz (hkk c o cz cT ci e)
end
end Ow

set_option Elab.async false
set_option linter.all false
set_option maxRecDepth 100000
set_option maxHeartbeats 4000000
namespace Ow
open PySem PySem.Spec PyProof.Rows
open Sem (wp)
section
variable {prog : Program} {w : World} {A : Around} {E : Value → Shared → Prop} {s : Shared} {z TI TO T S : Addr} {ps : List ZSrc} {i N : Nat} {oT : Obj}
/-- a later next: the tuple that was handed out is still held -/
theorem zn_more {Q : Value → Shared → Prop} (hh : A.handled = none) (S0 : ZA z TI TO ps S) (hlen : ps.length ≤ sizeLine) (hz : ZipO s.heap z TI TO T) (hT : s.heap.get? T = some oT) (hTI : IsTupOf s.heap TI (itsOf ps))
    (st : AtI s.heap i ps) (hne : ps ≠ []) (hN : ∀ p ∈ ps, p.xs.size = N) (hlt : i < N)
    (hQ : ∀ h' tk, ZipO h' z TI TO T → AtI h' (i + 1) ps → IsTupOf h' s.heap.objs.size (colOf ps i) → h'.objs.size = s.heap.objs.size + 1 →
      (∀ c o, c ≠ z → NotIt ps c → s.heap.get? c = some o → h'.get? c = some o) → Q (.ref s.heap.objs.size) { s with heap := h', toks := tk }) :
    wpAny (model prog w) A (Builtin.«zip.__next__» ⟨[.ref z], []⟩) (fun fin s' => ∃ v, fin = .done (.ret v) ∧ Q v s') E s := by
  obtain ⟨hp, g, d, tk0, os⟩ := s
  obtain ⟨fl, hz0⟩ := id hz
  show wpAny _ _ (field (.ref z) 2 >>= _) _ _ _
  refine wpAny_bind (wpAny_field hz0 rfl (x := .bool false) rfl ?_)
  show wpAny _ _ (field (.ref z) 3 >>= _) _ _ _
  refine wpAny_bind (wpAny_field hz0 rfl (x := .ref TI) rfl ?_)
  refine wpAny_bind (wpAny_seqItems hTI rfl ?_)
  have ne : ((itsOf ps).toArray).isEmpty = false := by
    cases ps with
    | nil => exact absurd rfl hne
    | cons p ps => rfl
  dsimp only
  rw [ne]
  simp only [Bool.false_eq_true, if_false]
  show wpAny _ _ (Builtin.SmallTypes.ownedTupleIsFree (.ref z) >>= _) _ _ _
  refine wpAny_bind (zipO_free hz hT fun g0 hz1 hs0 => ?_)
  simp only [Bool.false_eq_true, if_false]
  have hs0' : Heap.SameBut z hp g0 := hs0
  rw [← Array.forIn_toList]
  refine wpAny_bind ?_
  refine wpAny_forIn_list _ (fun rest b s' => b.1 = none ∧ ∃ dn rs g' tk', s' = ⟨g', g, d, tk', os⟩ ∧ ps = dn ++ rs ∧ rest = itsOf rs ∧ AtI g' (i + 1) dn ∧ AtI g' i rs ∧ b.2.toList = colOf dn i ∧
    ZipO g' z TI TO T ∧ g'.objs.size = hp.objs.size ∧ ∀ c o, c ≠ z → NotIt ps c → hp.get? c = some o → g'.get? c = some o) _ ?turn ?fin _ _ ?start
  case start =>
    refine ⟨rfl, [], ps, g0, tk0, rfl, rfl, rfl, (fun _ h => nomatch h), ?_, rfl, hz1, hs0.1, fun c o cz _ e => hs0.extBut _ _ cz e⟩
    exact st.mono fun p hp' o => ⟨fun e => hs0.extBut _ _ (S0.zi p hp').1.symm e, fun e => hs0.extBut _ _ (S0.zl p hp').1.symm e⟩
  case turn =>
    rintro iv rest b s' ⟨hb, dn, rs, g', tk', rfl, eps, er, sd, sr, hbl, hz', hsz, hk⟩
    cases rs with
    | nil => simp at er
    | cons p rs =>
      have hmem : p ∈ ps := by rw [eps]; exact List.mem_append_right _ List.mem_cons_self
      have hmd : ∀ q ∈ dn, q ∈ ps := fun q h => by rw [eps]; exact List.mem_append_left _ h
      have hmr : ∀ q ∈ rs, q ∈ ps := fun q h => by rw [eps]; exact List.mem_append_right _ (List.mem_cons_of_mem _ h)
      have nd := S0.nd
      rw [eps, List.map_append, List.map_cons] at nd
      have ndd : ∀ q ∈ dn, p.it ≠ q.it := fun q h e => (List.nodup_append.mp nd).2.2 q.it (List.mem_map.mpr ⟨q, h, rfl⟩) p.it List.mem_cons_self e.symm
      have ndr : ∀ q ∈ rs, p.it ≠ q.it := fun q h e => (List.nodup_cons.mp (List.nodup_append.mp nd).2.1).1 (List.mem_map.mpr ⟨q, h, e.symm⟩)
      rw [itsOf, List.map_cons] at er
      injection er with e3 e2
      subst e3
      have D := src_draws (prog := prog) (w := w) (A := A) hh p (fun e => S0.il p hmem p hmem e.symm)
      refine wpAny_bind (wpAny_holding ?_)
      show wpAny _ _ (Builtin.SmallTypes.nextOf (.ref p.it) >>= _) _ _ ⟨g', g, d, tk', os⟩
      refine wpAny_bind (D.item i _ _ _ (by rw [hN p hmem]; exact hlt) (sr p List.mem_cons_self) fun x g1 tk1 hx sn hs1 => wpAny_pure ?_)
      replace hs1 : Heap.SameBut p.it g' g1 := hs1
      refine wpAny_pure ?_
      have hg : p.xs.getD i Value.none = x := by rw [Array.getD_eq_getD_getElem?, hx]; rfl
      refine ⟨rfl, dn ++ [p], rs, g1, tk1, rfl, by rw [eps, List.append_assoc]; rfl, e2, ?_, ?_, ?_, ?_, ?_, ?_⟩
      · intro q hq
        rcases List.mem_append.mp hq with hq | hq
        · exact (sd.mono (h' := g1) fun q hq o => ⟨fun e => hs1.extBut _ _ (ndd q hq).symm e, fun e => hs1.extBut _ _ (S0.il p hmem q (hmd q hq)).symm e⟩) q hq
        · rw [List.mem_singleton.mp hq]
          exact sn
      · exact AtI.mono (h := g') (fun q hq => sr q (List.mem_cons_of_mem _ hq)) fun q hq o => ⟨fun e => hs1.extBut _ _ (ndr q hq).symm e, fun e => hs1.extBut _ _ (S0.il p hmem q (hmr q hq)).symm e⟩
      · show (b.2.push x).toList = _
        rw [Array.toList_push, hbl, colOf, colOf, List.map_append, List.map_cons, List.map_nil, hg]
      · obtain ⟨f2, hz2⟩ := hz'
        exact ⟨f2, hs1.extBut _ _ (S0.zi p hmem).1 hz2⟩
      · rw [hs1.1, hsz]
      · exact fun c o cz ci e => hs1.extBut _ _ (ci p hmem) (hk c o cz ci e)
  case fin =>
    rintro b s' ⟨hb, dn, rs, g2, tk2, rfl, eps, er, sd, sr, hbl, hzz, hsz, hkk⟩
    have ers : rs = [] := by
      cases rs with
      | nil => rfl
      | cons p rs => simp at er
    subst ers
    rw [List.append_nil] at eps
    subst eps
    obtain ⟨b1, b2⟩ := b
    have hb' : b1 = none := hb
    subst hb'
    dsimp only
    show wpAny _ _ (newTuple b2.toList >>= _) _ _ ⟨g2, g, d, tk2, os⟩
    rw [show b2.toList = colOf ps i from hbl]
    refine wpAny_bind (wpAny_newTuple ?_ (by rw [colOf, List.length_map]; exact hlen))
    refine wpAny_pure ⟨_, rfl, ?_⟩
    have up : ∀ c o, g2.get? c = some o → (g2.push { cls := .type "tuple", data := .seq (colOf ps i).toArray }).get? c = some o := fun c o e => Heap.get?_push_of_some _ e
    obtain ⟨f2, hz2⟩ := hzz
    have hT8 : IsTupOf (g2.push { cls := .type "tuple", data := .seq (colOf ps i).toArray }) g2.objs.size (colOf ps i) := Heap.get?_push_size _ rfl
    have hz8 : (g2.push { cls := .type "tuple", data := .seq (colOf ps i).toArray }).objs.size = g2.objs.size + 1 := Heap.size_push ..
    rw [hsz] at hT8 hz8
    show Q (.ref g2.objs.size) _
    rw [hsz]
    exact hQ _ tk2 ⟨f2, up _ _ hz2⟩ (sd.mono fun p hp' o => ⟨up _ _, up _ _⟩) hT8 hz8 fun c o cz ci e => up c o (hkk c o cz ci e)
/-- no turn is left -/
theorem zn_endF {Q : Fin → Shared → Prop} (hh : A.handled = none) (S0 : ZA z TI TO ps S) (hz : IsZip s.heap z TI TO .none) (hTI : IsTupOf s.heap TI (itsOf ps)) (st : AtI s.heap N ps) (hne : ps ≠ []) (hN : ∀ p ∈ ps, p.xs.size = N)
    (hE : ∀ h' tk e, (∀ c o, c ≠ z → NotIt ps c → s.heap.get? c = some o → h'.get? c = some o) → (∃ o, h'.get? e = some o ∧ o.cls = .type "StopIteration") → E (.ref e) { s with heap := h', toks := tk }) :
    wpAny (model prog w) A (Builtin.«zip.__next__» ⟨[.ref z], []⟩) Q E s := by
  obtain ⟨hp, g, d, tk0, os⟩ := s
  show wpAny _ _ (field (.ref z) 2 >>= _) _ _ _
  refine wpAny_bind (wpAny_field hz rfl (x := .bool false) rfl ?_)
  show wpAny _ _ (field (.ref z) 3 >>= _) _ _ _
  refine wpAny_bind (wpAny_field hz rfl (x := .ref TI) rfl ?_)
  refine wpAny_bind (wpAny_seqItems hTI rfl ?_)
  cases ps with
  | nil => exact absurd rfl hne
  | cons p ps =>
    dsimp only
    rw [show ((itsOf (p :: ps)).toArray).isEmpty = false from rfl]
    simp only [Bool.false_eq_true, if_false]
    show wpAny _ _ (Builtin.SmallTypes.ownedTupleIsFree (.ref z) >>= _) _ _ _
    refine wpAny_bind ?_
    unfold Builtin.SmallTypes.ownedTupleIsFree
    refine wpAny_bind (wpAny_field hz rfl (x := .none) rfl (wpAny_pure ?_))
    simp only [if_true]
    refine wpAny_bind (wpAny_rule ?_)
    refine wpAny_bind (wpAny_field hz rfl (x := .ref TO) rfl ?_)
    refine wpAny_bind (wpAny_setField_rec hz (by simp) fun g0 hz0 hs0 => ?_)
    replace hz0 : IsZip g0 z TI TO .ellipsis := hz0
    replace hs0 : Heap.SameBut z hp g0 := hs0
    refine wpAny_bind ?_
    have hmem : p ∈ p :: ps := List.mem_cons_self
    have D := src_draws (prog := prog) (w := w) (A := A) hh p (fun e => S0.il p hmem p hmem e.symm)
    simp only [itsOf, List.map_cons, List.zipIdx_cons, List.forIn_cons]
    refine wpAny_bind (wpAny_bind (wpAny_onRaise ?_))
    show wpAny _ _ (Builtin.SmallTypes.nextOf (.ref p.it) >>= _) _ _ ⟨g0, g, d, tk0, os⟩
    have st1 := (st.mono (h' := g0) fun p hp' o => ⟨fun e => hs0.extBut _ _ (S0.zi p hp').1.symm e, fun e => hs0.extBut _ _ (S0.zl p hp').1.symm e⟩) p hmem
    refine wpAny_bind (D.done ⟨g0, g, d, tk0, os⟩ _ _ (by rw [hN p hmem]; exact st1) fun q e hq he => ?_)
    replace hq : Heap.ExtBut p.it g0 q := hq
    obtain ⟨oe, hoe, hce⟩ := he
    replace hoe : q.get? e = some oe := hoe
    have hzq : IsZip q z TI TO .ellipsis := hq _ _ (S0.zi p hmem).1 hz0
    have hez : e ≠ z := fun x => by subst x; rw [hzq] at hoe; cases hoe; simp at hce
    refine wpAny_setField_rec (s := ⟨q, g, d, tk0, os⟩) hzq (by simp) fun q' _ hq' => ?_
    replace hq' : Heap.SameBut z q q' := hq'
    exact hE q' tk0 e (fun c o cz ci x => hq'.extBut _ _ cz (hq _ _ (ci p hmem) (hs0.extBut _ _ cz x))) ⟨oe, hq'.extBut _ _ hez hoe, hce⟩
theorem zn_endM {Q : Fin → Shared → Prop} (hh : A.handled = none) (S0 : ZA z TI TO ps S) (hz : ZipO s.heap z TI TO T) (hT : s.heap.get? T = some oT) (hTI : IsTupOf s.heap TI (itsOf ps)) (st : AtI s.heap N ps) (hne : ps ≠ []) (hN : ∀ p ∈ ps, p.xs.size = N)
    (hE : ∀ h' tk e, (∀ c o, c ≠ z → NotIt ps c → s.heap.get? c = some o → h'.get? c = some o) → (∃ o, h'.get? e = some o ∧ o.cls = .type "StopIteration") → E (.ref e) { s with heap := h', toks := tk }) :
    wpAny (model prog w) A (Builtin.«zip.__next__» ⟨[.ref z], []⟩) Q E s := by
  obtain ⟨hp, g, d, tk0, os⟩ := s
  obtain ⟨fl, hz0⟩ := id hz
  show wpAny _ _ (field (.ref z) 2 >>= _) _ _ _
  refine wpAny_bind (wpAny_field hz0 rfl (x := .bool false) rfl ?_)
  show wpAny _ _ (field (.ref z) 3 >>= _) _ _ _
  refine wpAny_bind (wpAny_field hz0 rfl (x := .ref TI) rfl ?_)
  refine wpAny_bind (wpAny_seqItems hTI rfl ?_)
  cases ps with
  | nil => exact absurd rfl hne
  | cons p ps =>
    dsimp only
    rw [show ((itsOf (p :: ps)).toArray).isEmpty = false from rfl]
    simp only [Bool.false_eq_true, if_false]
    show wpAny _ _ (Builtin.SmallTypes.ownedTupleIsFree (.ref z) >>= _) _ _ _
    refine wpAny_bind (zipO_free hz hT fun g0 hz1 hs0 => ?_)
    simp only [Bool.false_eq_true, if_false]
    have hs0' : Heap.SameBut z hp g0 := hs0
    rw [← Array.forIn_toList]
    have hmem : p ∈ p :: ps := List.mem_cons_self
    have D := src_draws (prog := prog) (w := w) (A := A) hh p (fun e => S0.il p hmem p hmem e.symm)
    simp only [itsOf, List.map_cons, List.forIn_cons]
    refine wpAny_bind (wpAny_bind (wpAny_bind (wpAny_holding ?_)))
    show wpAny _ _ (Builtin.SmallTypes.nextOf (.ref p.it) >>= _) _ _ ⟨g0, g, d, tk0, os⟩
    have st1 := (st.mono (h' := g0) fun p hp' o => ⟨fun e => hs0'.extBut _ _ (S0.zi p hp').1.symm e, fun e => hs0'.extBut _ _ (S0.zl p hp').1.symm e⟩) p hmem
    refine wpAny_bind (D.done ⟨g0, g, d, tk0, os⟩ _ _ (by rw [hN p hmem]; exact st1) fun q e hq he => ?_)
    exact hE q tk0 e (fun c o cz ci x => hq _ _ (ci p hmem) (hs0'.extBut _ _ cz x)) he
/-! ### next(zip), before and behind the first item -/
def ZnS (h : Heap) (z TI TO : Addr) (ps : List ZSrc) (lo : Addr) : Prop := (IsZip h z TI TO .none ∧ ∃ ys, IsTupOf h TO ys ∧ ys.length = ps.length) ∨ ∃ T oT, ZipO h z TI TO T ∧ h.get? T = some oT ∧ lo < T
theorem znS_item {Q : Option Value → Shared → Prop} (hh : A.in1.handled = none) (S0 : ZA z TI TO ps S) (hlen : ps.length ≤ sizeLine) (hz : ZnS s.heap z TI TO ps S) (hlo : S < s.heap.objs.size) (hTI : IsTupOf s.heap TI (itsOf ps))
    (st : AtI s.heap i ps) (hne : ps ≠ []) (hN : ∀ p ∈ ps, p.xs.size = N) (hlt : i < N)
    (hQ : ∀ h' tk, ZnS h' z TI TO ps S → IsTupOf h' TI (itsOf ps) → AtI h' (i + 1) ps → IsTupOf h' s.heap.objs.size (colOf ps i) → h'.objs.size = s.heap.objs.size + 1 →
      (∀ c o, c ≠ z → c ≠ TO → NotIt ps c → s.heap.get? c = some o → h'.get? c = some o) → Q (some (.ref s.heap.objs.size)) { s with heap := h', toks := tk }) :
    wpAny (model prog w) A (pyNext (.ref z)) Q E s := by
  have nTI : NotIt ps TI := fun p hp => (S0.zi p hp).2.1
  rcases hz with ⟨hz, ys, hTO, hyl⟩ | ⟨T, oT, hz, hT, hl⟩
  · have hTy : s.TypeIs (.ref z) "zip" := ⟨_, hz, rfl⟩
    unfold pyNext
    refine wpAny_bind (wpAny_attempt (wpAny_callSpecial?_slot (name := Str.ofString "__next__") hTy PySem.F.slot_zip_next (wpAny_call_entry PySem.F.slot_zip_next hTy PySem.F.entry_zip_next
      (zn_first hh S0 hlen hz hTI hTO hyl st hne hN hlt fun h' tk hz' st' hn hsz hk => wpAny_pure ?_) (PySem.F.args_zip_next_1 _))))
    exact hQ h' tk (.inr ⟨s.heap.objs.size, _, ⟨false, hz'⟩, hn, hlo⟩) (hk _ _ S0.TIz S0.TITO nTI hTI) st' hn hsz hk
  · obtain ⟨fl, hz0⟩ := id hz
    have hTy : s.TypeIs (.ref z) "zip" := ⟨_, hz0, rfl⟩
    unfold pyNext
    refine wpAny_bind (wpAny_attempt (wpAny_callSpecial?_slot (name := Str.ofString "__next__") hTy PySem.F.slot_zip_next (wpAny_call_entry PySem.F.slot_zip_next hTy PySem.F.entry_zip_next
      (zn_more hh S0 hlen hz hT hTI st hne hN hlt fun h' tk hz' st' hn hsz hk => wpAny_pure ?_) (PySem.F.args_zip_next_1 _))))
    have nT : ∀ x, x < S → T ≠ x := fun x hx e => by rw [e] at hl; exact absurd (Nat.lt_trans hl hx) (Nat.lt_irrefl _)
    exact hQ h' tk (.inr ⟨T, oT, hz', hk T oT (nT z S0.bz) (fun p hp => nT p.it (S0.bi p hp)) hT, hl⟩) (hk _ _ S0.TIz nTI hTI) st' hn hsz fun c o cz _ ci e => hk c o cz ci e
theorem znS_end {Q : Option Value → Shared → Prop} (hh : A.in1.handled = none) (S0 : ZA z TI TO ps S) (hz : ZnS s.heap z TI TO ps S) (hTI : IsTupOf s.heap TI (itsOf ps)) (st : AtI s.heap N ps) (hne : ps ≠ []) (hN : ∀ p ∈ ps, p.xs.size = N)
    (hQ : ∀ h' tk, (∀ c o, c ≠ z → NotIt ps c → s.heap.get? c = some o → h'.get? c = some o) → Q none { s with heap := h', toks := tk }) : wpAny (model prog w) A (pyNext (.ref z)) Q E s := by
  rcases hz with ⟨hz, ys, hTO, hyl⟩ | ⟨T, oT, hz, hT, hl⟩
  · have hTy : s.TypeIs (.ref z) "zip" := ⟨_, hz, rfl⟩
    unfold pyNext
    refine wpAny_bind (wpAny_attempt (wpAny_callSpecial?_slot (name := Str.ofString "__next__") hTy PySem.F.slot_zip_next (wpAny_call_entry PySem.F.slot_zip_next hTy PySem.F.entry_zip_next
      (zn_endF hh S0 hz hTI st hne hN fun h' tk e hk he => ?_) (PySem.F.args_zip_next_1 _))))
    obtain ⟨o, ho, hc⟩ := he
    refine wpAny_bind (wpAny_isInstance (T := "StopIteration") (b := true) ⟨o, ho, hc⟩ isSubtype_stop ?_)
    exact wpAny_pure (hQ _ _ hk)
  · obtain ⟨fl, hz0⟩ := id hz
    have hTy : s.TypeIs (.ref z) "zip" := ⟨_, hz0, rfl⟩
    unfold pyNext
    refine wpAny_bind (wpAny_attempt (wpAny_callSpecial?_slot (name := Str.ofString "__next__") hTy PySem.F.slot_zip_next (wpAny_call_entry PySem.F.slot_zip_next hTy PySem.F.entry_zip_next
      (zn_endM hh S0 hz hT hTI st hne hN fun h' tk e hk he => ?_) (PySem.F.args_zip_next_1 _))))
    obtain ⟨o, ho, hc⟩ := he
    refine wpAny_bind (wpAny_isInstance (T := "StopIteration") (b := true) ⟨o, ho, hc⟩ isSubtype_stop ?_)
    exact wpAny_pure (hQ _ _ hk)
end
end Ow

set_option Elab.async false
set_option linter.all false
set_option maxRecDepth 100000
set_option maxHeartbeats 4000000
namespace Ow
open PySem PySem.Spec PyProof.Rows
open Sem (wp)
def srcs : Nat → List (Addr × Array Value) → List ZSrc
  | _, [] => []
  | n, p :: r => ⟨n, p.1, p.2⟩ :: srcs (n + 1) r
theorem srcs_app : ∀ (a : List (Addr × Array Value)) (n : Nat) (p : Addr × Array Value), srcs n (a ++ [p]) = srcs n a ++ [⟨n + a.length, p.1, p.2⟩]
  | [], n, p => rfl
  | q :: a, n, p => by
    show _ :: srcs (n + 1) (a ++ [p]) = _ :: (srcs (n + 1) a ++ _)
    rw [srcs_app a (n + 1) p, List.length_cons, Nat.add_right_comm, Nat.add_assoc n]
theorem srcs_it : ∀ {ls : List (Addr × Array Value)} {n : Nat} {p : ZSrc}, p ∈ srcs n ls → n ≤ p.it ∧ (p.it : Nat) < n + ls.length
  | [], n, p, h => nomatch h
  | q :: a, n, p, h => by
    rcases List.mem_cons.mp h with rfl | h
    · exact ⟨Nat.le_refl _, by rw [List.length_cons]; show n < _; omega⟩
    · obtain ⟨h1, h2⟩ := srcs_it h
      rw [List.length_cons]
      exact ⟨Nat.le_trans (Nat.le_succ n) h1, Nat.lt_of_lt_of_le h2 (by omega)⟩
theorem srcs_src : ∀ {ls : List (Addr × Array Value)} {n : Nat} {p : ZSrc}, p ∈ srcs n ls → (p.l, p.xs) ∈ ls
  | [], n, p, h => nomatch h
  | q :: a, n, p, h => by
    rcases List.mem_cons.mp h with rfl | h
    · exact List.mem_cons_self
    · exact List.mem_cons_of_mem _ (srcs_src h)
theorem srcs_nd : ∀ (ls : List (Addr × Array Value)) (n : Nat), ((srcs n ls).map (·.it)).Nodup
  | [], n => List.nodup_nil
  | q :: a, n => by
    refine List.nodup_cons.mpr ⟨fun h => ?_, srcs_nd a (n + 1)⟩
    obtain ⟨p, hp, e⟩ := List.mem_map.mp h
    have := (srcs_it hp).1
    have e' : n = p.it := e.symm
    rw [← e'] at this
    exact absurd this (Nat.not_succ_le_self n)
theorem srcs_len : ∀ (ls : List (Addr × Array Value)) (n : Nat), (srcs n ls).length = ls.length
  | [], n => rfl
  | q :: a, n => by rw [srcs, List.length_cons, List.length_cons, srcs_len a (n + 1)]
theorem tupIter_new {h : Heap} {l : Addr} : (h.push { cls := .type "tuple_iterator", data := .fields #[.ref l, .int 0 0] }).IsTupleIter h.objs.size l 0 := ⟨_, Heap.get?_push_size _ rfl, rfl, rfl⟩
theorem meets_zipN (ls : List (Addr × Array Value)) :
    Meets (Builtin.«zip.__new__» ⟨.type "zip" :: ls.map (fun p => .ref p.1), []⟩) (fun _ R s => (∀ p ∈ ls, s.heap.IsTuple p.1 p.2) ∧ ls.length ≤ sizeLine ∧
      ∀ h', IsZip h' (s.heap.objs.size + ls.length + 2) (s.heap.objs.size + ls.length) (s.heap.objs.size + ls.length + 1) .none → IsTupOf h' (s.heap.objs.size + ls.length) (itsOf (srcs s.heap.objs.size ls)) →
        (∃ ys, IsTupOf h' (s.heap.objs.size + ls.length + 1) ys ∧ ys.length = ls.length) → AtI h' 0 (srcs s.heap.objs.size ls) → h'.objs.size = s.heap.objs.size + ls.length + 3 → (∀ c o, s.heap.get? c = some o → h'.get? c = some o) →
        R (.ok (.ret (.ref (s.heap.objs.size + ls.length + 2)))) { s with heap := h' }) :=
  .of_wp fun prog w A R s h => by
    obtain ⟨hp, g, d, tk, os⟩ := s
    obtain ⟨hl, hn, h⟩ := h
    have hsub := sub_zip
    wp_walk using wpAny_forIn_list _ (fun rest b s' => ∃ dn rs g', s' = ⟨g', g, d, tk, os⟩ ∧ ls = dn ++ rs ∧ rest = rs.map (fun p => Value.ref p.1) ∧ b.toList = itsOf (srcs hp.objs.size dn) ∧ g'.objs.size = hp.objs.size + dn.length ∧
      AtI g' 0 (srcs hp.objs.size dn) ∧ ∀ c o, hp.get? c = some o → g'.get? c = some o) _
    case turn =>
      rintro iv rest b s' ⟨dn, rs, g', rfl, els, er, hb, hsz, hat, hk⟩
      cases rs with
      | nil => simp at er
      | cons p rs =>
        rw [List.map_cons] at er
        injection er with e1 e2
        subst e1
        have hp' := hl p (by rw [els]; exact List.mem_append_right _ List.mem_cons_self)
        obtain ⟨o, ho, hr⟩ := hp'
        have up : ∀ c o, g'.get? c = some o → (g'.push { cls := .type "tuple_iterator", data := .fields #[.ref p.1, .int 0 0] }).get? c = some o := fun c o e => Heap.get?_push_of_some _ e
        refine wpAny_bind (wpAny_holding (wpAny_pyIter_tuple (s := ⟨g', g, d, tk, os⟩) ⟨o, hk _ _ ho, hr⟩ (wpAny_pure ?_)))
        refine ⟨dn ++ [p], rs, _, rfl, by rw [els, List.append_assoc]; rfl, e2, ?_, ?_, ?_, fun c o e => up c o (hk c o e)⟩
        · rw [Array.toList_push, hb, srcs_app, itsOf, itsOf, List.map_append, List.map_cons, List.map_nil]
          show _ ++ [Value.ref g'.objs.size] = _
          rw [hsz]
        · show (Heap.push _ _).objs.size = _
          rw [Heap.size_push, hsz, List.length_append, List.length_singleton, Nat.add_assoc]
        · rw [srcs_app]
          intro q hq
          rcases List.mem_append.mp hq with hq | hq
          · exact (hat.mono fun q _ o => ⟨up _ _, up _ _⟩) q hq
          · rw [List.mem_singleton.mp hq]
            dsimp only
            rw [← hsz]
            exact ⟨tupIter_new, o, up _ _ (hk _ _ ho), hr⟩
    case fin =>
      rintro b s' ⟨dn, rs, g', rfl, els, er, hb, hsz, hat, hk⟩
      have ers : rs = [] := by
        cases rs with
        | nil => rfl
        | cons p rs => simp at er
      subst ers
      rw [List.append_nil] at els
      subst els
      have h0 : ∀ h' : Heap, IsZip h' (hp.objs.size + ls.length + 2) (hp.objs.size + ls.length) (hp.objs.size + ls.length + 1) .none → IsTupOf h' (hp.objs.size + ls.length) (itsOf (srcs hp.objs.size ls)) →
        (∃ ys, IsTupOf h' (hp.objs.size + ls.length + 1) ys ∧ ys.length = ls.length) → AtI h' 0 (srcs hp.objs.size ls) → h'.objs.size = hp.objs.size + ls.length + 3 → (∀ c o, hp.get? c = some o → h'.get? c = some o) →
        R (.ok (.ret (.ref (hp.objs.size + ls.length + 2)))) ⟨h', g, d, tk, os⟩ := h
      refine wpAny_pure ?_
      rw [hb]
      refine wpAny_bind (wpAny_newTuple ?_ (by rw [itsOf, List.length_map, srcs_len]; exact hn))
      refine wpAny_bind (wpAny_newTuple ?_ (by rw [List.length_map, itsOf, List.length_map, srcs_len]; exact hn))
      show wpAny _ _ (newObj (.type "zip") (.fields #[.none, .bool false, .bool false, .ref g'.objs.size, .ref (g'.push { cls := .type "tuple", data := .seq (itsOf (srcs hp.objs.size ls)).toArray }).objs.size]) >>= _) _ _ _
      refine wpAny_bind (wpAny_newObj_type ?_)
      have z1 : (g'.push { cls := .type "tuple", data := .seq (itsOf (srcs hp.objs.size ls)).toArray }).objs.size = hp.objs.size + ls.length + 1 := by rw [Heap.size_push, hsz]
      have z2 : ((g'.push { cls := .type "tuple", data := .seq (itsOf (srcs hp.objs.size ls)).toArray }).push { cls := .type "tuple", data := .seq ((itsOf (srcs hp.objs.size ls)).map fun _ => Value.none).toArray }).objs.size = hp.objs.size + ls.length + 2 := by rw [Heap.size_push, z1]
      refine wpAny_pure ⟨_, rfl, ?_⟩
      show R (.ok (.ret (.ref (Heap.push _ _).objs.size))) _
      rw [z2]
      have up : ∀ c o, g'.get? c = some o → _ := fun c o e => Heap.get?_push_of_some { cls := .type "zip", data := .fields #[.none, .bool false, .bool false, .ref g'.objs.size, .ref (g'.push { cls := .type "tuple", data := .seq (itsOf (srcs hp.objs.size ls)).toArray }).objs.size] }
        (Heap.get?_push_of_some { cls := .type "tuple", data := .seq ((itsOf (srcs hp.objs.size ls)).map fun _ => Value.none).toArray } (Heap.get?_push_of_some { cls := .type "tuple", data := .seq (itsOf (srcs hp.objs.size ls)).toArray } e))
      refine h0 _ ?_ ?_ ⟨(itsOf (srcs hp.objs.size ls)).map fun _ => Value.none, ?_, by rw [List.length_map, itsOf, List.length_map, srcs_len]⟩ (hat.mono fun q _ o => ⟨up _ _, up _ _⟩) ?_ fun c o e => up c o (hk c o e)
      · have e3 := Heap.get?_push_size ((g'.push { cls := .type "tuple", data := .seq (itsOf (srcs hp.objs.size ls)).toArray }).push { cls := .type "tuple", data := .seq ((itsOf (srcs hp.objs.size ls)).map fun _ => Value.none).toArray }) (o := { cls := .type "zip", data := .fields #[.none, .bool false, .bool false, .ref g'.objs.size, .ref (g'.push { cls := .type "tuple", data := .seq (itsOf (srcs hp.objs.size ls)).toArray }).objs.size] }) rfl
        rw [z2] at e3
        refine Eq.trans e3 ?_
        rw [z1, hsz]
      · have e1 := Heap.get?_push_size g' (o := { cls := .type "tuple", data := .seq (itsOf (srcs hp.objs.size ls)).toArray }) rfl
        rw [hsz] at e1
        exact Heap.get?_push_of_some _ (Heap.get?_push_of_some _ e1)
      · have e2 := Heap.get?_push_size (g'.push { cls := .type "tuple", data := .seq (itsOf (srcs hp.objs.size ls)).toArray }) (o := { cls := .type "tuple", data := .seq ((itsOf (srcs hp.objs.size ls)).map fun _ => Value.none).toArray }) rfl
        rw [z1] at e2
        exact Heap.get?_push_of_some _ e2
      · show (Heap.push _ _).objs.size = _
        rw [Heap.size_push, z2]
    case h => exact ⟨[], ls, hp, rfl, rfl, rfl, rfl, rfl, (fun _ h => nomatch h), fun _ _ e => e⟩
end Ow

set_option Elab.async false
set_option linter.all false
set_option maxRecDepth 100000
set_option maxHeartbeats 4000000
namespace Ow
open PySem PySem.Spec PyProof.Rows
open Sem (wp)
theorem tc_zipN (args : List Value) : checkTypeCall "zip" ⟨args, []⟩ = pure () := by kernel_rfl
theorem nc_zipN : ∀ (args : List Value), args.length ≤ 6 → checkBuiltinCall "zip.__new__" ⟨.type "zip" :: args, []⟩ = pure ()
  | [], _ => by kernel_rfl
  | [_], _ => by kernel_rfl
  | [_, _], _ => by kernel_rfl
  | [_, _, _], _ => by kernel_rfl
  | [_, _, _, _], _ => by kernel_rfl
  | [_, _, _, _, _], _ => by kernel_rfl
  | [_, _, _, _, _, _], _ => by kernel_rfl
  | _ :: _ :: _ :: _ :: _ :: _ :: _ :: _, h => by simp at h
theorem ao_zipN (o : Value) (args : List Value) : argsOk "object.__init__" ⟨o :: args, []⟩ := by
  unfold argsOk; rw [signature?_of (id := "object.__init__") (n := ['_', '_', 't', 'i', 'n', 'i', '_', '_']) (o := ['t', 'c', 'e', 'j', 'b', 'o']) (by kernel_rfl) PySem.F.owner_object]; kernel_rfl
section
variable {prog : Program} {w : World} {A : Around} {E : Value → Shared → Prop} {s : Shared}
theorem call_zipN {ls : List (Addr × Array Value)} {Q : Value → Shared → Prop} (hl : ∀ p ∈ ls, s.heap.IsTuple p.1 p.2) (hn : ls.length ≤ 6)
    (h : ∀ h', IsZip h' (s.heap.objs.size + ls.length + 2) (s.heap.objs.size + ls.length) (s.heap.objs.size + ls.length + 1) .none → IsTupOf h' (s.heap.objs.size + ls.length) (itsOf (srcs s.heap.objs.size ls)) →
      (∃ ys, IsTupOf h' (s.heap.objs.size + ls.length + 1) ys ∧ ys.length = ls.length) → AtI h' 0 (srcs s.heap.objs.size ls) → h'.objs.size = s.heap.objs.size + ls.length + 3 → (∀ c o, s.heap.get? c = some o → h'.get? c = some o) →
      Q (.ref (s.heap.objs.size + ls.length + 2)) { s with heap := h' }) :
    wpAny (model prog w) A (call (.type "zip") (ls.map fun p => .ref p.1)) Q E s := by
  refine callType_new PySem.F.called_zip (by decide) (tc_zipN _) (nc_zipN _ (by rw [List.length_map]; exact hn)) (fun obj => ao_zipN obj _) PySem.F.entry_zip_new (meets_zipN ls) ⟨hl, Nat.le_trans hn (by rw [sizeLine_eq]; decide), fun h' a b c d e f => ?_⟩
  show _ ∧ _
  exact ⟨⟨_, a, rfl⟩, h h' a b c d e f⟩
end
/-! ### list(zip(..)) -/
/-- the columns made so far -/
structure ZC (ps : List ZSrc) (lo : Addr) (h : Heap) (as : List Addr) : Prop where
  rise : as.Pairwise (· < ·)
  above : ∀ a ∈ as, lo < a
  cols : ∀ (j : Nat) (a : Addr), as[j]? = some a → IsTupOf h a (colOf ps j)
theorem ZC.there {ps : List ZSrc} {lo : Addr} {h : Heap} {as : List Addr} (g : ZC ps lo h as) {a : Addr} (ha : a ∈ as) : a < h.objs.size := by
  obtain ⟨j, hj⟩ := List.mem_iff_getElem?.mp ha
  exact Heap.lt_size (g.cols j a hj)
section
variable {prog : Program} {w : World} {A : Around} {s : Shared} {R : Result → Shared → Prop} {z TI TO S : Addr} {ps : List ZSrc} {N : Nat}
theorem znS_keep {h h' : Heap} (S0 : ZA z TI TO ps S) (x : ZnS h z TI TO ps S) (k : ∀ b o, b ≠ S → h.get? b = some o → h'.get? b = some o) : ZnS h' z TI TO ps S := by
  rcases x with ⟨hz, ys, hTO, hl⟩ | ⟨T, oT, ⟨fl, hz⟩, hT, hl⟩
  · exact .inl ⟨k _ _ (Nat.ne_of_lt S0.bz) hz, ys, k _ _ (Nat.ne_of_lt S0.bO) hTO, hl⟩
  · exact .inr ⟨T, oT, ⟨fl, k _ _ (Nat.ne_of_lt S0.bz) hz⟩, k _ _ (Nat.ne_of_gt hl) hT, hl⟩
theorem atI_keep {h h' : Heap} {i : Nat} (S0 : ZA z TI TO ps S) (x : AtI h i ps) (k : ∀ b o, b ≠ S → h.get? b = some o → h'.get? b = some o) : AtI h' i ps :=
  x.mono fun p hp o => ⟨k _ _ (Nat.ne_of_lt (S0.bi p hp)), k _ _ (Nat.ne_of_lt (S0.bl p hp))⟩
theorem zn_loop (hh : A.handled = none) (S0 : ZA z TI TO ps S) (hlen : ps.length ≤ sizeLine) (hne : ps ≠ []) (hN : ∀ p ∈ ps, p.xs.size = N) (hn : N ≤ sizeLine) (res : Value) {h₁ : Heap}
    (hR : ∀ h' tk acc c as, (∀ b o, b ≠ S → b ≠ z → b ≠ TO → NotIt ps b → h₁.get? b = some o → h'.get? b = some o) → h'.get? S = some { cls := .type "list", dict := none, data := .seq acc c, slots := #[] } → as.length = N → ZC ps S h' as →
      acc.toList = as.map Value.ref → R (.ok (.ret res)) { s with heap := h', toks := tk }) :
    ∀ (k i : Nat) (h : Heap) (tk c : Nat) (acc : Array Value) (as : List Addr), N - i = k → i ≤ N → ZnS h z TI TO ps S → IsTupOf h TI (itsOf ps) → AtI h i ps → (∀ b o, b ≠ S → b ≠ z → b ≠ TO → NotIt ps b → h₁.get? b = some o → h.get? b = some o) →
      h.get? S = some { cls := .type "list", dict := none, data := .seq acc c, slots := #[] } → acc.toList = as.map Value.ref → as.length = i → ZC ps S h as →
      codeAny (model prog w) A (.builtin "list.extend.loop" ⟨[.ref S, .ref z, res], []⟩) R { s with heap := h, toks := tk } := by
  have nS : NotIt ps S := fun p hp => Nat.ne_of_gt (S0.bi p hp)
  have na : ∀ {a : Addr}, S < a → NotIt ps a := fun ha p hp => Nat.ne_of_gt (Nat.lt_trans (S0.bi p hp) ha)
  intro k
  induction k with
  | zero =>
    intro i h tk c acc as hk hi hz hI hat hkeep hS hacc hal hG
    have hin : i = N := by omega
    subst hin
    refine codeAny_builtin PySem.F.entry_extend_loop ?_
    rw [Around.under_plainId PySem.F.plain_extend_loop _]
    show wpAny _ A.in1 (pyNext (.ref z) >>= _) _ _ _
    refine wpAny_bind (znS_end (s := { s with heap := h, toks := tk }) (A := A.in1) hh S0 hz hI hat hne hN fun h' tk' he => ?_)
    refine wpAny_pure (hR h' tk' acc c as (fun b o n1 n2 n3 n4 e => he b o n2 n4 (hkeep b o n1 n2 n3 n4 e)) (he S _ (Nat.ne_of_gt S0.bz) nS hS) hal ⟨hG.rise, hG.above, fun j a hj => ?_⟩ hacc)
    have ha := hG.above a (List.mem_of_getElem? hj)
    exact he a _ (Nat.ne_of_gt (Nat.lt_trans S0.bz ha)) (na ha) (hG.cols j a hj)
  | succ k ih =>
    intro i h tk c acc as hk hi hz hI hat hkeep hS hacc hal hG
    have hlt : i < N := by omega
    have hsz : acc.size = i := by rw [← Array.length_toList, hacc, List.length_map, hal]
    have hSl : S < h.objs.size := Heap.lt_size hS
    refine codeAny_builtin PySem.F.entry_extend_loop ?_
    rw [Around.under_plainId PySem.F.plain_extend_loop _]
    show wpAny _ A.in1 (pyNext (.ref z) >>= _) _ _ _
    refine wpAny_bind (znS_item (s := { s with heap := h, toks := tk }) (A := A.in1) (i := i) hh S0 hlen hz hSl hI hat hne hN hlt fun h' tk' hz' hI' hat' hT hsz' hkp => ?_)
    dsimp only at hT hsz' hkp ⊢
    have hS' := hkp S _ (Nat.ne_of_gt S0.bz) (Nat.ne_of_gt S0.bO) nS hS
    have up : ∀ b o, b ≠ S → h'.get? b = some o → (h'.update S (Obj.mapSeq (·.push (Value.ref h.objs.size)))).get? b = some o := fun b o hb e => (Heap.get?_update_other _ _ (Ne.symm hb)).trans e
    show wpAny _ A.in1 (updateSeq S (·.push (Value.ref h.objs.size)) >>= _) _ _ _
    refine wpAny_bind ?_
    refine wpAny_updateSeq hS' rfl (wpAny_pure ⟨plainId_quiet PySem.F.plain_extend_loop _, ih (i + 1) _ tk' _ (acc.push (Value.ref h.objs.size)) (as ++ [h.objs.size]) (by omega) hlt (znS_keep S0 hz' up) (up _ _ (Nat.ne_of_lt S0.bI) hI') (atI_keep S0 hat' up)
      (fun b o n1 n2 n3 n4 e => up b o n1 (hkp b o n2 n3 n4 (hkeep b o n1 n2 n3 n4 e))) (Heap.get?_update_self _ hS' rfl) (by rw [Array.toList_push, hacc, List.map_append]; rfl) (by rw [List.length_append, hal]; rfl) ⟨?_, ?_, ?_⟩⟩) (by rw [hsz]; omega) (by show (acc.push (Value.ref h.objs.size)).size ≤ sizeLine + 1; rw [Array.size_push, hsz]; omega)
    · refine List.pairwise_append.mpr ⟨hG.rise, List.pairwise_singleton _ _, fun a ha b hb => ?_⟩
      rw [List.mem_singleton.mp hb]
      exact hG.there ha
    · intro a ha
      rcases List.mem_append.mp ha with ha | ha
      · exact hG.above a ha
      · rw [List.mem_singleton.mp ha]; exact hSl
    · intro j b hj
      rcases Nat.lt_trichotomy j as.length with q | q | q
      · rw [List.getElem?_append_left q] at hj
        have hb := hG.above b (List.mem_of_getElem? hj)
        exact up b _ (Nat.ne_of_gt hb) (hkp b _ (Nat.ne_of_gt (Nat.lt_trans S0.bz hb)) (Nat.ne_of_gt (Nat.lt_trans S0.bO hb)) (na hb) (hG.cols j b hj))
      · subst q
        have hb : h.objs.size = b := by simpa using hj
        subst hb
        rw [hal]
        exact up _ _ (Nat.ne_of_gt hSl) hT
      · have hnone : (as ++ [h.objs.size])[j]? = none := List.getElem?_eq_none (by rw [List.length_append, List.length_singleton]; omega)
        rw [hnone] at hj; cases hj
end
section
variable {prog : Program} {w : World} {A : Around} {E : Value → Shared → Prop} {s : Shared} {z TI TO : Addr} {ps : List ZSrc} {N : Nat}
theorem zn_extend {R : Result → Shared → Prop} {S : Addr} (hh : A.handled = none) (S0 : ZA z TI TO ps S) (hlen : ps.length ≤ sizeLine) (hne : ps ≠ []) (hN : ∀ p ∈ ps, p.xs.size = N) (hn : N ≤ sizeLine) (hz : IsZip s.heap z TI TO .none) {ys0 : List Value} (hTO : IsTupOf s.heap TO ys0) (hy0 : ys0.length = ps.length)
    (hI : IsTupOf s.heap TI (itsOf ps)) (hat : AtI s.heap 0 ps) (res : Value) (c₀ : Nat) (hS : s.heap.get? S = some { cls := .type "list", data := .seq #[] c₀ })
    (hR : ∀ h' tk acc c as, (∀ b o, b ≠ S → b ≠ z → b ≠ TO → NotIt ps b → s.heap.get? b = some o → h'.get? b = some o) → h'.get? S = some { cls := .type "list", dict := none, data := .seq acc c, slots := #[] } → as.length = N → ZC ps S h' as →
      acc.toList = as.map Value.ref → R (.ok (.ret res)) { s with heap := h', toks := tk }) :
    wpAny (model prog w) A.in1 (Builtin.List.listExtendWith (.ref S) (.ref z) res)
      (fun fin s' => match fin with | .done f => R (.ok f) s' | .again c' => c'.quiet = true ∧ codeAny (model prog w) A c' R s') (fun e s' => R (.error e) s') s := by
  have hTy : s.TypeIs (.ref z) "zip" := ⟨_, hz, rfl⟩
  have key : ∀ (h : Heap) (c₁ tk : Nat), (∀ b o, b ≠ S → s.heap.get? b = some o → h.get? b = some o) → h.get? S = some { cls := .type "list", data := .seq #[] c₁ } →
      codeAny (model prog w) A (.builtin "list.extend.loop" ⟨[.ref S, .ref z, res], []⟩) R { s with heap := h, toks := tk } := by
    intro h c₁ tk hk hS₁
    exact zn_loop (s := s) (h₁ := s.heap) hh S0 hlen hne hN hn res (fun h' tk' acc c as hk' hS' hl hG hacc => hR h' tk' acc c as hk' hS' hl hG hacc) N 0 h tk c₁ #[] [] (Nat.sub_zero _) (Nat.zero_le _) (znS_keep S0 (.inl ⟨hz, ys0, hTO, hy0⟩) hk) (hk _ _ (Nat.ne_of_lt S0.bI) hI) (atI_keep S0 hat hk)
      (fun b o n1 _ _ _ e => hk b o n1 e) hS₁ rfl rfl ⟨List.Pairwise.nil, (fun _ ha => nomatch ha), (fun j a hj => by simp at hj)⟩
  unfold Builtin.List.listExtendWith
  refine wpAny_bind (wpAny_typeOf (T := "zip") hTy ?_)
  have hSz : S ≠ z := Nat.ne_of_gt S0.bz
  have h1 : Builtin.List.listSameRef (.ref S) (.ref z) = false := by simp [Builtin.List.listSameRef, hSz]
  have h2 : (Value.type "zip" == Value.type "list") = false := by decide
  have h3 : (Value.type "zip" == Value.type "tuple") = false := by decide
  simp only [h1, h2, h3, Bool.or_false, Bool.false_eq_true, if_false]
  refine wpAny_bind (wpAny_pyIter_zip hz ?_)
  refine wpAny_bind (wpAny_holding (zip_hint hTy ?_))
  refine wpAny_ite_split (fun _ => ?_) (fun _ => wpAny_pure ⟨plainId_quiet PySem.F.plain_extend_loop _, key _ c₀ _ (fun b o _ e => e) hS⟩)
  refine wpAny_bind (wpAny_rule ?_)
  refine wpAny_bind ?_
  show wpAny _ _ (updateSeq S (·.push .none) >>= fun _ => updateSeq S (·.pop)) _ _ _
  refine wpAny_bind (wpAny_updateSeq hS rfl ?_)
  have hS₂ := Heap.get?_update_self (Obj.mapSeq (·.push Value.none)) hS rfl
  refine wpAny_updateSeq (hz := by seq_fits) hS₂ rfl ?_
  have hS₃ := Heap.get?_update_self (Obj.mapSeq (·.pop)) hS₂ rfl
  refine wpAny_pure ⟨plainId_quiet PySem.F.plain_extend_loop _, key _ _ _ (fun b o hb e => ?_) hS₃⟩
  exact (Heap.get?_update_other _ _ (Ne.symm hb)).trans ((Heap.get?_update_other _ _ (Ne.symm hb)).trans e)
theorem zn_init {R : Result → Shared → Prop} {S : Addr} (hh : A.handled = none) (S0 : ZA z TI TO ps S) (hlen : ps.length ≤ sizeLine) (hne : ps ≠ []) (hN : ∀ p ∈ ps, p.xs.size = N) (hn : N ≤ sizeLine) (hz : IsZip s.heap z TI TO .none) {ys0 : List Value} (hTO : IsTupOf s.heap TO ys0) (hy0 : ys0.length = ps.length)
    (hI : IsTupOf s.heap TI (itsOf ps)) (hat : AtI s.heap 0 ps) (hS : s.heap.get? S = some { cls := .type "list", data := .seq #[] })
    (hR : ∀ h' tk acc c as, (∀ b o, b ≠ S → b ≠ z → b ≠ TO → NotIt ps b → s.heap.get? b = some o → h'.get? b = some o) → h'.get? S = some { cls := .type "list", dict := none, data := .seq acc c, slots := #[] } → as.length = N → ZC ps S h' as →
      acc.toList = as.map Value.ref → R (.ok (.ret .none)) { s with heap := h', toks := tk }) :
    wpAny (model prog w) A.in1 (Builtin.«list.__init__» ⟨[.ref S, .ref z], []⟩)
      (fun fin s' => match fin with | .done f => R (.ok f) s' | .again c' => c'.quiet = true ∧ codeAny (model prog w) A c' R s') (fun e s' => R (.error e) s') s := by
  show wpAny _ _ (do let old ← Builtin.List.listItems (.ref S); Builtin.List.listUpdate (.ref S) (fun _ => #[]); letGo old.toList.reverse; Builtin.List.listExtendWith (.ref S) (.ref z) .none) _ _ s
  refine wpAny_bind ?_
  unfold Builtin.List.listItems
  refine wpAny_bind (wpAny_seqItems hS rfl (wpAny_pure ?_))
  show wpAny _ _ (updateSeq S (fun _ => #[]) >>= fun _ => letGo (#[] : Array Value).toList.reverse >>= fun _ => Builtin.List.listExtendWith (.ref S) (.ref z) .none) _ _ s
  refine wpAny_bind (wpAny_updateSeq hS rfl ?_)
  have hS₂ := Heap.get?_update_self (Obj.mapSeq (fun _ => (#[] : Array Value))) hS rfl
  have oth : ∀ b o, b ≠ S → s.heap.get? b = some o → (s.heap.update S (Obj.mapSeq (fun _ => (#[] : Array Value)))).get? b = some o := fun b o hb e => (Heap.get?_update_other _ _ (Ne.symm hb)).trans e
  refine wpAny_bind (wpAny_letGo ?_)
  refine zn_extend hh S0 hlen hne hN hn (oth _ _ (Nat.ne_of_lt S0.bz) hz) (oth _ _ (Nat.ne_of_lt S0.bO) hTO) hy0 (oth _ _ (Nat.ne_of_lt S0.bI) hI) (atI_keep S0 hat oth) .none _ hS₂ fun h' tk acc c as hk hS' hl hG hacc => ?_
  exact hR h' tk acc c as (fun b o n1 n2 n3 n4 e => hk b o n1 n2 n3 n4 (oth b o n1 e)) hS' hl hG hacc
theorem call_list_zipN {Q : Value → Shared → Prop} (hh : A.handled = none) (S0 : ZA z TI TO ps s.heap.objs.size) (hlen : ps.length ≤ sizeLine) (hne : ps ≠ []) (hN : ∀ p ∈ ps, p.xs.size = N) (hn : N ≤ sizeLine) (hz : IsZip s.heap z TI TO .none) {ys0 : List Value} (hTO : IsTupOf s.heap TO ys0) (hy0 : ys0.length = ps.length)
    (hI : IsTupOf s.heap TI (itsOf ps)) (hat : AtI s.heap 0 ps)
    (hQ : ∀ h' tk acc c as, (∀ b o, b ≠ z → b ≠ TO → NotIt ps b → s.heap.get? b = some o → h'.get? b = some o) → h'.get? s.heap.objs.size = some { cls := .type "list", dict := none, data := .seq acc c, slots := #[] } → as.length = N → ZC ps s.heap.objs.size h' as →
      acc.toList = as.map Value.ref → Q (.ref s.heap.objs.size) { s with heap := h', toks := tk }) :
    wpAny (model prog w) A (call (.type "list") [.ref z]) Q E s := by
  refine callType_codes (Q₁ := fun obj s₁ => obj = .ref s.heap.objs.size ∧ s₁ = { s with heap := s.heap.push { cls := .type "list", data := .seq #[] } }) PySem.F.called_list (PySem.F.typeCall_list_1 _) PySem.F.entry_list_init (code_list_new _ ⟨rfl, rfl⟩) fun obj s₁ h₁ => ?_
  obtain ⟨rfl, rfl⟩ := h₁
  have hS : (s.heap.push { cls := .type "list", data := .seq #[] }).get? s.heap.objs.size = some { cls := .type "list", data := .seq #[] } := Heap.get?_push_size _ rfl
  have ps' : ∀ b o, s.heap.get? b = some o → (s.heap.push { cls := .type "list", data := .seq #[] }).get? b = some o := fun b o e => Heap.get?_push_of_some _ e
  refine ⟨⟨_, hS, rfl⟩, PySem.F.args_list_init_2 _ _, zn_init (A := A.in1) hh S0 hlen hne hN hn (ps' _ _ hz) (ps' _ _ hTO) hy0 (ps' _ _ hI) (hat.mono fun p _ o => ⟨ps' _ _, ps' _ _⟩) hS fun h' tk acc c as hk hS' hl hG hacc => ?_⟩
  exact ⟨rfl, hQ h' tk acc c as (fun b o n1 n2 n3 e => hk b o (Nat.ne_of_lt (Heap.lt_size e)) n1 n2 n3 (ps' b o e)) hS' hl hG hacc⟩
end
end Ow

set_option Elab.async false
set_option linter.all false
set_option maxRecDepth 100000
set_option maxHeartbeats 4000000
namespace Ow
open PySem PySem.Spec PyProof.Rows L2
/-- tuples tracked at their addresses -/
def putC : Hp → List Addr → List (List V) → Hp
  | H, a :: as, p :: ps => putC (upd H a (.tup p)) as ps
  | H, _, _ => H
theorem putC_off {b : Addr} : ∀ (as : List Addr) (ps : List (List V)) (H : Hp), b ∉ as → putC H as ps b = H b
  | [], _, _, _ => rfl
  | _ :: _, [], _, _ => rfl
  | a :: as, p :: ps, H, h => by
    show putC (upd H a (.tup p)) as ps b = H b
    rw [putC_off as ps _ (fun z => h (List.mem_cons_of_mem _ z)), upd_ne (fun z => h (by rw [z]; exact List.mem_cons_self))]
theorem putC_at : ∀ (as : List Addr) (ps : List (List V)) (H : Hp), as.length = ps.length → as.Nodup → ∀ (j : Nat) (t : Addr), as[j]? = some t → ∃ p, ps[j]? = some p ∧ putC H as ps t = some (.tup p)
  | [], [], _, _, _, j, t, e => by simp at e
  | [], _ :: _, _, h, _, _, _, _ => by cases h
  | _ :: _, [], _, h, _, _, _, _ => by cases h
  | a :: as, p :: ps, H, h, hn, j, t, e => by
    have hn' := List.nodup_cons.mp hn
    cases j with
    | zero =>
      have e1 : a = t := by simpa using e
      subst e1
      refine ⟨p, rfl, ?_⟩
      show putC (upd H a (.tup p)) as ps a = some (.tup p)
      rw [putC_off as ps _ hn'.1, upd_same]
    | succ j => exact putC_at as ps (upd H a (.tup p)) (Nat.succ.inj h) hn'.2 j t (by simpa using e)
/-- the j-th column -/
def colV (rows : List (List V)) (j : Nat) : List V := rows.map fun r => r.getD j .non
theorem vals_col {ps : List ZSrc} {rows : List (List V)} {N j : Nat} (h : All2 (fun (p : ZSrc) r => Vals r p.xs.toList) ps rows) (hN : ∀ p ∈ ps, p.xs.size = N) (hj : j < N) : Vals (colV rows j) (colOf ps j) := by
  induction h with
  | nil => exact .nil
  | @cons p r ps rs hr _ ih =>
    refine .cons ?_ (ih fun q hq => hN q (List.mem_cons_of_mem _ hq))
    have hs := hN p List.mem_cons_self
    have hl := hr.length
    have hl : r.length = N := by rw [← hs, ← Array.length_toList]; exact hl
    obtain ⟨v, hv⟩ : ∃ v, r[j]? = some v := ⟨_, List.getElem?_eq_getElem (by rw [hl]; exact hj)⟩
    obtain ⟨u, hu, ru⟩ := hr.get hv
    rw [Array.getElem?_toList] at hu
    dsimp only
    rw [List.getD_eq_getElem?_getD, hv, Array.getD_eq_getD_getElem?, hu]
    exact ru
section
variable {X : Cx} {pins : List (Addr × Obj)} {σ : L2.St} {H : Hp} {s : Shared}
theorem zn_laid {h' : Heap} {tk c : Nat} {acc : Array Value} {as : List Addr} {ps : List ZSrc} {rows : List (List V)} {N : Nat} {S : Addr} (I : Inv X pins σ H s) (hSs : s.heap.objs.size ≤ S) (hz : N ≤ sizeLine) (hlen : ps.length ≤ sizeLine) (hr : All2 (fun (p : ZSrc) r => Vals r p.xs.toList) ps rows) (hN : ∀ p ∈ ps, p.xs.size = N)
    (hk : ∀ b o, s.heap.get? b = some o → h'.get? b = some o) (hS : h'.get? S = some { cls := .type "list", dict := none, data := .seq acc c, slots := #[] }) (hl : as.length = N) (hG : ZC ps S h' as) (hacc : acc.toList = as.map Value.ref) :
    ∃ H' : Hp, Same H H' ∧ H S = none ∧ H' S = some (.lst (as.map V.ref)) ∧ (∀ (j : Nat) (t : Addr), as[j]? = some t → H t = none ∧ H' t = some (.tup (colV rows j))) ∧ Inv X pins σ H' { s with heap := h', toks := tk } := by
  have hSn : S ∉ as := fun z => Nat.lt_irrefl _ (hG.above _ z)
  have nd : as.Nodup := List.Pairwise.imp (fun {a b} (h : a < b) => Nat.ne_of_lt h) hG.rise
  have above : ∀ t ∈ as, s.heap.objs.size ≤ t := fun t ht => Nat.le_of_lt (Nat.lt_of_le_of_lt hSs (hG.above t ht))
  have new : ∀ t ∈ as, H t = none := fun t ht => I.hok.fresh (above t ht)
  have newS : H S = none := I.hok.fresh hSs
  have lz : ((List.range N).map (colV rows)).length = as.length := by rw [List.length_map, List.length_range, hl]
  have atP : ∀ (j : Nat) (t : Addr), as[j]? = some t → putC (upd H S (.lst (as.map V.ref))) as ((List.range N).map (colV rows)) t = some (.tup (colV rows j)) ∧ j < N := fun j t e => by
    obtain ⟨p, e1, e2⟩ := putC_at as ((List.range N).map (colV rows)) (upd H S (.lst (as.map V.ref))) lz.symm nd j t e
    have hj : j < N := by rw [← hl]; exact (List.getElem?_eq_some_iff.mp e).1
    rw [List.getElem?_map, List.getElem?_range hj] at e1
    cases e1
    exact ⟨e2, hj⟩
  have off : ∀ b, b ∉ as → b ≠ S → putC (upd H S (.lst (as.map V.ref))) as ((List.range N).map (colV rows)) b = H b := fun b h1 h2 => by rw [putC_off as _ _ h1, upd_ne h2]
  have low : ∀ b o, s.heap.get? b = some o → b ∉ as ∧ b ≠ S := fun b o e => ⟨fun z => absurd (Heap.lt_size e) (Nat.not_lt.mpr (above b z)), fun z => absurd (Heap.lt_size e) (Nat.not_lt.mpr (by rw [z]; exact hSs))⟩
  have kp : ∀ b u, H b = some u → (putC (upd H S (.lst (as.map V.ref))) as ((List.range N).map (colV rows))) b = some u := fun b u e => by
    rw [off b (fun z => by rw [new b z] at e; cases e) (fun z => by rw [z, newS] at e; cases e)]
    exact e
  have eS : putC (upd H S (.lst (as.map V.ref))) as ((List.range N).map (colV rows)) S = some (.lst (as.map V.ref)) := by rw [putC_off as _ _ hSn, upd_same]
  refine ⟨_, kp, newS, eS, fun j t e => ⟨new t (List.mem_of_getElem? e), (atP j t e).1⟩, ?_⟩
  refine I.call' (ch := []) rfl ⟨fun b o q _ _ _ => hk b o q, fun b o q _ _ _ => ⟨o.slots, hk b o q⟩, fun b o q n _ => ?_, fun b o q _ => ⟨o, hk b o q⟩, fun b xs q => kp b _ q, fun b o u q => kp b _ q, fun b ps q => ⟨#[], by rw [kp b _ q]; simp⟩⟩ (fun b u q => ?_) I.bare fun b z => by simp at z
  · obtain ⟨z1, z2⟩ := low b o q
    rw [off b z1 z2]
    exact n
  · by_cases hb : b ∈ as
    · obtain ⟨j, hj⟩ := List.mem_iff_getElem?.mp hb
      obtain ⟨e2, hjN⟩ := atP j b hj
      rw [e2] at q
      cases q
      have vc := vals_col hr hN hjN
      have lr := hr.len
      exact ⟨by show (colV rows j).length ≤ sizeLine; rw [colV, List.length_map, ← lr]; exact hlen, colOf ps j, vc, ⟨_, hG.cols j b hj, rfl, _, rfl⟩⟩
    · by_cases hb2 : b = S
      · rw [hb2] at q ⊢
        rw [eS] at q
        cases q
        refine ⟨by rw [List.length_map]; omega, acc.toList, c, by rw [hacc]; exact vals_addrs as, ?_⟩
        rw [Array.toArray_toList]
        exact hS
      · rw [off b hb hb2] at q
        exact (I.hok b u q).stay (fun d v _ y => hk d v y) (fun d y => kp d _ y) fun d xs y => kp d _ y
/-- the rows, each a tuple of N items -/
def RowsV (K : PySem.W.Frag) (H : Hp) (N : Nat) (rs : List V) (rows : List (List V)) : Prop := All2 (fun v ys => ∃ b, v = .ref b ∧ SqT K H b ys ∧ ys.length = N) rs rows
theorem rows_src {N : Nat} {rs : List V} {rows : List (List V)} (I : Inv X pins σ H s) (h : RowsV X.K H N rs rows) : ∀ {us : List Value}, Vals rs us →
    ∃ ls : List (Addr × Array Value), us = ls.map (fun p => Value.ref p.1) ∧ (∀ p ∈ ls, s.heap.IsTuple p.1 p.2 ∧ p.2.size = N) ∧ All2 (fun (p : Addr × Array Value) r => Vals r p.2.toList) ls rows := by
  unfold RowsV at h
  induction h with
  | nil =>
    intro us r
    cases r
    exact ⟨[], rfl, (fun _ h => nomatch h), .nil⟩
  | @cons v ys vs yss hv _ ih =>
    intro us r
    cases r with
    | @cons _ u _ us r rr =>
      obtain ⟨b, rfl, hq, hl⟩ := hv
      cases r
      obtain ⟨ls, e, h1, h2⟩ := ih rr
      obtain ⟨its, rv, pl, hz⟩ := I.tuple hq
      refine ⟨(b, its.toArray) :: ls, by rw [e]; rfl, fun p hp => ?_, .cons (by simpa using rv) h2⟩
      rcases List.mem_cons.mp hp with rfl | hp
      · exact ⟨pl, by rw [List.size_toArray, ← rv.length, hl]⟩
      · exact h1 p hp
theorem src_all2 : ∀ {ls : List (Addr × Array Value)} {rows : List (List V)} (n : Nat), All2 (fun (p : Addr × Array Value) r => Vals r p.2.toList) ls rows → All2 (fun (p : ZSrc) r => Vals r p.xs.toList) (srcs n ls) rows
  | [], [], _, _ => .nil
  | p :: ls, r :: rs, n, .cons h t => .cons h (src_all2 (n + 1) t)
theorem za_of {n : Nat} {ls : List (Addr × Array Value)} (h : ∀ p ∈ ls, (p.1 : Nat) < n) : ZA (n + ls.length + 2) (n + ls.length) (n + ls.length + 1) (srcs n ls) (n + ls.length + 3) := by
  have hi : ∀ p ∈ srcs n ls, n ≤ p.it ∧ (p.it : Nat) < n + ls.length := fun p hp => srcs_it hp
  have hl : ∀ p ∈ srcs n ls, (p.l : Nat) < n := fun p hp => h _ (srcs_src hp)
  have a1 : ∀ {x : Nat} {k : Nat}, x < n + ls.length → n + ls.length + k ≠ x := fun {x k} hx => Nat.ne_of_gt (Nat.lt_of_lt_of_le hx (Nat.le_add_right _ _))
  have a2 : ∀ {x : Nat} {k : Nat}, x < n → n + ls.length + k ≠ x := fun {x k} hx => Nat.ne_of_gt (Nat.lt_of_lt_of_le hx (Nat.le_trans (Nat.le_add_right _ _) (Nat.le_add_right _ _)))
  refine ⟨srcs_nd ls n, ?_, ?_, ?_, fun p hp => ⟨a1 (hi p hp).2, a1 (k := 0) (hi p hp).2, a1 (hi p hp).2⟩, fun p hp => ⟨a2 (hl p hp), a2 (hl p hp)⟩, fun p hp q hq e => ?_, ?_, ?_, ?_, fun p hp => Nat.lt_of_lt_of_le (hi p hp).2 (Nat.le_add_right _ _), fun p hp => Nat.lt_of_lt_of_le (hl p hp) (Nat.le_trans (Nat.le_add_right _ _) (Nat.le_add_right _ _))⟩
  · show (n + ls.length : Nat) ≠ n + ls.length + 2; omega
  · show (n + ls.length + 1 : Nat) ≠ n + ls.length + 2; omega
  · show (n + ls.length : Nat) ≠ n + ls.length + 1; omega
  · exact absurd (Nat.lt_of_le_of_lt (hi p hp).1 (by rw [e]; exact hl q hq)) (Nat.lt_irrefl _)
  · show (n + ls.length + 2 : Nat) < n + ls.length + 3; omega
  · show (n + ls.length : Nat) < n + ls.length + 3; omega
  · show (n + ls.length + 1 : Nat) < n + ls.length + 3; omega
/-- list(zip( *e)) -/
def tLZipS (K : PySem.W.Frag) (te : TE) : TE := fun σ H Q => te σ H fun x H1 => ∃ a rs N rows, x = .ref a ∧ (SqT K H1 a rs ∨ SqL K H1 a rs) ∧ rs ≠ [] ∧ rs.length ≤ 6 ∧ N ≤ sizeLine ∧ RowsV K H1 N rs rows ∧
  ∀ (H' : Hp) (p : Addr) (ts : List Addr), Same H1 H' → H1 p = none → H' p = some (.lst (ts.map V.ref)) → ts.length = N → (∀ (j : Nat) (t : Addr), ts[j]? = some t → H1 t = none ∧ H' t = some (.tup (colV rows j))) → Q (.ref p) H'
theorem pe_lzipS {e : Expr} {te : TE} {p p2 p3 pos pos2 : Pos} (hc : X.calm = true) (hg : Gl X "list") (hm : X.mg "list" = none) (hg2 : Gl X "zip") (hm2 : X.mg "zip" = none) (hv : bootBuiltins "list" = some (.type "list")) (ha : PE X e te)
    (hs : starEach [.Call (.Name "zip" p2) [.Starred e p3] [] pos2] X.env = (false, eval (.Call (.Name "zip" p2) [.Starred e p3] [] pos2) X.env) :: starEach [] X.env := by rfl)
    (hs2 : starEach [.Starred e p3] X.env = [(true, eval e X.env)] := by rfl) :
    PE X (.Call (.Name "list" p) [.Call (.Name "zip" p2) [.Starred e p3] [] pos2] [] pos) (tLZipS X.K te) := by
  refine ⟨fun pins s σ H Q I hq => ?_⟩
  refine wpAny_Call_Name_kw (ld_blt I hg hm hv ?_)
  refine PyProof.Rows.callWith_type1 ?_ hs rfl
  rw [hs]
  show wpAny _ _ (spliced ((false, eval (.Call (.Name "zip" p2) [.Starred e p3] [] pos2) X.env) :: backTo pos (starEach [] X.env))) _ _ s
  refine Calls.spliced_cons ?_
  refine wpAny_Call_Name_kw (ld_blt I hg2 hm2 PyProof.Rows.boot_zip ?_)
  rw [hs2]
  refine PySem.W.ks_call (P := fun _ => True) rfl (fun _ _ => ⟨.machine, .inr (.inl rfl), PySem.W.Looks.of_pure rfl⟩) (PySem.W.ks_lone (thn (ha.run pins s σ H _ I hq) fun v s1 ⟨y, H1, I1, ry, q1⟩ => ?_))
  obtain ⟨a, rs, N, rows, rfl, hrs, hne, hlen, hN, hrows, q⟩ := q1
  obtain rfl : v = Value.ref a := ry
  refine StX.star_any I1 hrs fun us s2 I2 rv => ⟨True.intro, ?_⟩
  obtain ⟨ls, rfl, h1, h2⟩ := rows_src I2 hrows rv
  have ll : ls.length = rs.length := by have := rv.length; rw [List.length_map] at this; exact this.symm
  show wpAny _ _ (call (.type "zip") ([] ++ ls.map fun p => Value.ref p.1)) _ _ s2
  rw [List.nil_append]
  refine call_zipN (fun p hp => (h1 p hp).1) (by rw [ll]; exact hlen) fun h' hz hI hO hat hsz hk => ?_
  have I3 : Inv X pins σ H1 { s2 with heap := h' } := I2.kept (t' := s2.toks) hk
  refine Calls.spliced_nil ?_
  have lt : ∀ p ∈ ls, (p.1 : Nat) < s2.heap.objs.size := fun p hp => by
    obtain ⟨o, ho, _⟩ := (h1 p hp).1
    exact Heap.lt_size ho
  have S0 := za_of lt
  rw [← hsz] at S0
  obtain ⟨ys0, hTO, hy0⟩ := hO
  have hne' : srcs s2.heap.objs.size ls ≠ [] := fun e => hne (by
    have := srcs_len ls s2.heap.objs.size
    rw [e] at this
    exact List.eq_nil_of_length_eq_zero (by rw [← ll, ← this]; rfl))
  have hN' : ∀ p ∈ srcs s2.heap.objs.size ls, p.xs.size = N := fun p hp => (h1 _ (srcs_src hp)).2
  have hle : (srcs s2.heap.objs.size ls).length ≤ sizeLine := by rw [srcs_len, ll]; exact Nat.le_trans hlen (by rw [sizeLine_eq]; decide)
  refine call_list_zipN (s := { s2 with heap := h' }) (ps := srcs s2.heap.objs.size ls) (N := N) (I2.ok.hd hc) S0 hle hne' hN' hN hz hTO (by rw [hy0, srcs_len]) hI hat fun h3 tk acc c as hk2 hS hl hG hacc => ?_
  have hk3 : ∀ b o, s2.heap.get? b = some o → h3.get? b = some o := fun b o e => by
    have hb : (b : Nat) < s2.heap.objs.size := Heap.lt_size e
    have hb' : (b : Nat) < s2.heap.objs.size + ls.length := Nat.lt_of_lt_of_le hb (Nat.le_add_right _ _)
    exact hk2 b o (Nat.ne_of_lt (Nat.lt_of_lt_of_le hb' (Nat.le_add_right _ _))) (Nat.ne_of_lt (Nat.lt_of_lt_of_le hb' (Nat.le_add_right _ _))) (fun p hp => Nat.ne_of_lt (Nat.lt_of_lt_of_le hb (srcs_it hp).1)) (hk b o e)
  have hSs : s2.heap.objs.size ≤ h'.objs.size := by rw [hsz]; exact Nat.le_trans (Nat.le_add_right _ _) (Nat.le_add_right _ _)
  obtain ⟨H', k1', k2', k3', k4', J⟩ := zn_laid (tk := tk) (S := h'.objs.size) I2 hSs hN hle (src_all2 _ h2) hN' hk3 hS hl hG hacc
  exact ⟨.ref _, H', J, rfl, q H' _ as k1' k2' k3' hl k4'⟩
end
end Ow

set_option Elab.async false
set_option linter.all false
set_option maxRecDepth 100000
set_option maxHeartbeats 4000000
namespace Ow
open PySem PySem.Spec PyProof.Rows L2
/-! ### for x, y in zip(a, b): each a list or a tuple -/
def SqV (k : SqK) (K : PySem.W.Frag) (H : Hp) (a : Addr) (xs : List V) : Prop := match k with
  | .lst => SqL K H a xs
  | .tup => SqT K H a xs
section
variable {X : Cx} {pins : List (Addr × Obj)} {σ : L2.St} {H : Hp} {s : Shared} {k : SqK} {a : Addr} {xs ys : List V}
theorem sqV_is (I : Inv X pins σ H s) (h : SqV k X.K H a xs) : ∃ its : List Value, k.Is s.heap a its.toArray ∧ Vals xs its ∧ xs.length ≤ sizeLine := by
  cases k with
  | lst =>
    obtain ⟨its, rv, pl, hz⟩ := I.list h
    exact ⟨its, pl.isList, rv, hz⟩
  | tup =>
    obtain ⟨its, rv, pl, hz⟩ := I.tuple h
    exact ⟨its, pl, rv, hz⟩
theorem sqV_inj (I : Inv X pins σ H s) (h : SqV k X.K H a xs) (g : SqV k X.K H a ys) : xs = ys := by
  cases k with
  | lst => exact I.list_inj h g
  | tup => exact I.tuple_inj h g
end
/-- the two as they stand at each turn, the items in new pairs -/
def ItzK (K : PySem.W.Frag) (k1 k2 : SqK) (a b : Addr) : It :=
  ⟨fun i H => ∃ (xs ys : List V) (x y : V), SqV k1 K H a xs ∧ SqV k2 K H b ys ∧ xs[i]? = some x ∧ ys[i]? = some y,
    fun i H v H' => ∃ T x y, v = .ref T ∧ H T = none ∧ H' = upd H T (.tup [x, y]) ∧ (∀ xs, SqV k1 K H a xs → xs[i]? = some x) ∧ ∀ ys, SqV k2 K H b ys → ys[i]? = some y,
    fun i H => ∃ xs ys : List V, SqV k1 K H a xs ∧ SqV k2 K H b ys ∧ i = min xs.length ys.length⟩
theorem turn_zipK {P : Program} {w : World} {K : PySem.W.Frag} {elts : List Expr} {kk : Nat} {tpos : Pos} {k1 k2 : SqK} {a b z TI TO i1 i2 : Addr} (D : ZipSep2 z TI TO i1 i2 [i1, a] [i2, b]) (na : a ≠ i1) (nb : b ≠ i2) :
    Turn P w K (.Tuple elts kk tpos) (ItzK K k1 k2 a b) [z, TI, TO, i1, i2] z (fun i h => IsZip h z TI TO .none ∧ IsTupOf2 h TI (.ref i1) (.ref i2) ∧ (∃ x y, IsTupOf2 h TO x y) ∧ k1.It h i1 a i ∧ k2.It h i2 b i) where
  mem := by simp
  obj := fun i h st c hc => by
    obtain ⟨hz, hTI, ⟨x, y, hTO⟩, h1, h2⟩ := st
    have e' : c = z ∨ c = TI ∨ c = TO ∨ c = i1 ∨ c = i2 := by simpa using hc
    have ob : ∀ {k : SqK} {i1 a : Addr}, k.It h i1 a i → ∃ o, h.get? i1 = some o ∧ ∀ v, o.data ≠ .cell v := fun {k i1 a} h1 => by
      cases k with
      | lst => obtain ⟨o1, e1, _, d1⟩ := h1; exact ⟨o1, e1, fun v q => by rw [d1] at q; cases q⟩
      | tup => obtain ⟨o1, e1, _, d1⟩ := h1; exact ⟨o1, e1, fun v q => by rw [d1] at q; cases q⟩
    rcases e' with q | q | q | q | q
    · rw [q]; exact ⟨_, hz, fun v q => nomatch q⟩
    · rw [q]; exact ⟨_, hTI, fun v q => nomatch q⟩
    · rw [q]; exact ⟨_, hTO, fun v q => nomatch q⟩
    · rw [q]; exact ob h1
    · rw [q]; exact ob h2
  keep := fun i h h' st k => by
    obtain ⟨hz, hTI, ⟨x, y, hTO⟩, h1, h2⟩ := st
    exact ⟨k z (by simp) _ hz, k TI (by simp) _ hTI, ⟨x, y, k TO (by simp) _ hTO⟩, h1.keep fun o q => k i1 (by simp) o q, h2.keep fun o q => k i2 (by simp) o q⟩
  item := by
    intro X hP hw hK hc i pins s σ H E I hf st hg
    subst hP hw hK
    obtain ⟨hz, hTI, ⟨x0, y0, hTO⟩, h1, h2⟩ := st
    obtain ⟨xs, ys, x, y, hqx, hqy, hx, hy⟩ := hg
    obtain ⟨its, p, rv, _⟩ := sqV_is I hqx
    obtain ⟨its2, p2, rv2, _⟩ := sqV_is I hqy
    obtain ⟨u, hu, ru⟩ := rv.get hx
    obtain ⟨u2, hu2, ru2⟩ := rv2.get hy
    have hzl : z < s.heap.objs.size := Heap.lt_size hz
    have hh := I.ok.hd hc
    have D1 : Draws X.prog X.w X.A.in1 i1 [i1, a] its.toArray.size (fun i v => its.toArray[i]? = some v) (fun i h => k1.It h i1 a i ∧ k1.Is h a its.toArray) := SqK.draws (A := X.A.in1) hh i1 a na _
    have D2 : Draws X.prog X.w X.A.in1 i2 [i2, b] its2.toArray.size (fun i v => its2.toArray[i]? = some v) (fun i h => k2.It h i2 b i ∧ k2.Is h b its2.toArray) := SqK.draws (A := X.A.in1) hh i2 b nb _
    have l1 : i < its.toArray.size := by rw [List.size_toArray]; exact (List.getElem?_eq_some_iff.mp hu).1
    have l2 : i < its2.toArray.size := by rw [List.size_toArray]; exact (List.getElem?_eq_some_iff.mp hu2).1
    refine wpAny_pyNext_zipD2_item D D1 D2 hz hTI hTO ⟨h1, p⟩ ⟨h2, p2⟩ l1 l2 fun x1 x2 h' tk e1 e2 z' TO' h1' h2' hT hsz hk => ?_
    obtain rfl : u = x1 := by rw [List.getElem?_toArray, hu] at e1; exact Option.some.inj e1
    obtain rfl : u2 = x2 := by rw [List.getElem?_toArray, hu2] at e2; exact Option.some.inj e2
    refine ⟨_, rfl, wpAny_letOwnedTupleGo_zip (s := { s with heap := h', toks := tk }) z' fun h'' z'' sb => ?_⟩
    have hT2 : h''.get? s.heap.objs.size = some { cls := .type "tuple", data := .seq #[u, u2] } := (sb.2 _ (Nat.ne_of_gt hzl)).trans hT
    have new : ObjOk X.prog X.w (upd H s.heap.objs.size (.tup [x, y])) h'' s.heap.objs.size (.tup [x, y]) :=
      ⟨by show 2 ≤ sizeLine; decide, [u, u2], .cons ru (.cons ru2 .nil), ⟨_, hT2, rfl, _, rfl⟩⟩
    have I1 : Inv X pins σ (upd H s.heap.objs.size (.tup [x, y])) { s with heap := h'', toks := tk } :=
      I.turnedNew (t' := tk) (ch := [z, TI, TO, i1, i2]) (fun c o hb q => (sb.2 c (fun q' => hb (by simp [q']))).trans (hk c o (fun q' => hb (by simp [q'])) (fun q' => hb (by simp [q'])) (fun q' => hb (by simp [q'])) (fun q' => hb (by simp [q'])) q)) hf (Nat.le_refl _) new
    refine ⟨.ref s.heap.objs.size, _, I1, rfl, ⟨_, x, y, rfl, I.hok.fresh (Nat.le_refl _), rfl, fun l hl => by rw [sqV_inj I hl hqx]; exact hx, fun l hl => by rw [sqV_inj I hl hqy]; exact hy⟩, ⟨z'', ?_, ⟨u, u2, ?_⟩, ?_, ?_⟩, fun c hcm => ?_⟩
    · exact (sb.2 _ D.TIz).trans (hk _ _ D.TIz D.TITO D.TIi1 D.TIi2 hTI)
    · exact (sb.2 _ D.TOz).trans TO'
    · exact h1'.1.keep fun o q => (sb.2 _ D.zi1.symm).trans q
    · exact h2'.1.keep fun o q => (sb.2 _ D.zi2.symm).trans q
    · have il : ∀ {k : SqK} {j b : Addr}, k.It s.heap j b i → j < s.heap.objs.size := fun {k j b} h => by
        cases k with
        | lst => obtain ⟨_, e1, _⟩ := h; exact Heap.lt_size e1
        | tup => obtain ⟨_, e1, _⟩ := h; exact Heap.lt_size e1
      have hlt : c < s.heap.objs.size := by
        have e' : c = z ∨ c = TI ∨ c = TO ∨ c = i1 ∨ c = i2 := by simpa using hcm
        rcases e' with q | q | q | q | q
        · rw [q]; exact hzl
        · rw [q]; exact Heap.lt_size hTI
        · rw [q]; exact Heap.lt_size hTO
        · rw [q]; exact il h1
        · rw [q]; exact il h2
      rw [upd_ne (Nat.ne_of_lt hlt)]
      exact (hf c hcm).1
  done := by
    intro X hP hw hK hc i pins s σ H E I hf st hg
    subst hP hw hK
    obtain ⟨hz, hTI, ⟨x0, y0, hTO⟩, h1, h2⟩ := st
    obtain ⟨xs, ys, hqx, hqy, hend⟩ := hg
    obtain ⟨its, p, rv, _⟩ := sqV_is I hqx
    obtain ⟨its2, p2, rv2, _⟩ := sqV_is I hqy
    have l1 := rv.length
    have l2 := rv2.length
    have hh := I.ok.hd hc
    have D1 : Draws X.prog X.w X.A.in1 i1 [i1, a] its.toArray.size (fun i v => its.toArray[i]? = some v) (fun i h => k1.It h i1 a i ∧ k1.Is h a its.toArray) := SqK.draws (A := X.A.in1) hh i1 a na _
    have D2 : Draws X.prog X.w X.A.in1 i2 [i2, b] its2.toArray.size (fun i v => its2.toArray[i]? = some v) (fun i h => k2.It h i2 b i ∧ k2.Is h b its2.toArray) := SqK.draws (A := X.A.in1) hh i2 b nb _
    exact wpAny_pyNext_zipD2_end D D1 D2 hz hTI hTO ⟨h1, p⟩ ⟨h2, p2⟩ (by rw [List.size_toArray]; omega) (by rw [List.size_toArray]; omega) (by rw [List.size_toArray, List.size_toArray]; omega) fun h' tk hk => ⟨rfl, I.turnedL (t' := tk) (ch := [z, TI, TO, i1, i2]) (fun c o hb q =>
      hk c o (fun q' => hb (by simp [q'])) (fun q' => hb (by simp [q'])) (fun q' => hb (by simp [q'])) (fun q' => hb (by simp [q'])) q) hf⟩
  self := fun A i s Q E st h => wpAny_pyIter_zip st.1 h
def iZipK (K : PySem.W.Frag) (ta : TA) : TI := fun σ H R => ta σ H fun vs H1 => ∃ k1 k2 a b xs ys, vs = [.ref a, .ref b] ∧ SqV k1 K H1 a xs ∧ SqV k2 K H1 b ys ∧ R (ItzK K k1 k2 a b) H1
theorem pi_zipK {X : Cx} {e e2 : Expr} {ta : TA} {p pos tpos : Pos} {elts : List Expr} {kk : Nat} (hg : Gl X "zip") (hm : X.mg "zip" = none) (ha : PA X [e, e2] ta)
    (hs : starEach [e, e2] X.env = (false, eval e X.env) :: starEach [e2] X.env := by rfl) (hpl : (backTo pos (starEach [e2] X.env)).any (·.1) = false := by rfl) :
    PI X (.Tuple elts kk tpos) (.Call (.Name "zip" p) [e, e2] [] pos) (iZipK X.K ta) := by
  refine ⟨fun pins s σ H R I h => ?_⟩
  refine Call_ (ld_blt I hg hm PyProof.Rows.boot_zip (PyProof.Rows.callWith_type1 (thn (ha.run pos pins s σ H _ I h) fun us s1 ⟨vs, H1, I1, r1, q1⟩ => ?_) hs hpl))
  obtain ⟨k1, k2, a, b, xs, ys, ex, hqx, hqy, q⟩ := q1
  subst ex
  cases r1 with
  | cons r rr =>
    cases rr with
    | cons r' rr =>
      cases rr
      cases r
      cases r'
      obtain ⟨its, p1, rv, _⟩ := sqV_is I1 hqx
      obtain ⟨its2, p2, rv2, _⟩ := sqV_is I1 hqy
      have la := p1.lt
      have lb := p2.lt
      refine call_zipK p1 p2 fun h' hz hTI hTO h1 h2 hsz hk => wpAny_pyIter_zip hz ?_
      have I2 : Inv X pins σ H1 { s1 with heap := h' } := I1.kept (t' := s1.toks) hk
      have Z := zp_of s1.heap.objs.size a b la lb
      refine ⟨s1.heap.objs.size + 4, [s1.heap.objs.size + 4, s1.heap.objs.size + 2, s1.heap.objs.size + 3, s1.heap.objs.size, s1.heap.objs.size + 1], _, _, H1, rfl, I2, turn_zipK (k1 := k1) (k2 := k2) Z.sep Z.n1 Z.n2, ⟨hz, hTI, ⟨_, _, hTO⟩, h1, h2⟩, fun c hcm => ?_, q⟩
      have e' : c = s1.heap.objs.size + 4 ∨ c = s1.heap.objs.size + 2 ∨ c = s1.heap.objs.size + 3 ∨ c = s1.heap.objs.size ∨ c = s1.heap.objs.size + 1 := by simpa using hcm
      have hle : s1.heap.objs.size ≤ c := by
        rcases e' with z | z | z | z | z
        · rw [z]; exact Nat.le_add_right _ _
        · rw [z]; exact Nat.le_add_right _ _
        · rw [z]; exact Nat.le_add_right _ _
        · rw [z]; exact Nat.le_refl _
        · rw [z]; exact Nat.le_add_right _ _
      exact I1.fpOk hle (I1.hok.fresh hle)
theorem walk_zipK {K : PySem.W.Frag} {k1 k2 : SqK} {a b : Addr} {xs ys : List V} : Walk (ItzK K k1 k2 a b) (min xs.length ys.length) (fun H => SqV k1 K H a xs ∧ SqV k2 K H b ys) (YPair (fun i => xs[i]?) (fun i => ys[i]?)) := by
  refine ⟨fun i _ hi q => ?_, fun _ q => ⟨xs, ys, q.1, q.2, rfl⟩, fun i H v H' _ q y => ?_⟩
  · have h1 : i < xs.length := by omega
    have h2 : i < ys.length := by omega
    exact ⟨xs, ys, xs[i], ys[i], q.1, q.2, by simp [h1], by simp [h2]⟩
  · obtain ⟨T, x, z, h1, h2, h3, h4, h5⟩ := y
    exact ⟨T, x, z, h1, h2, h3, h4 xs q.1, h5 ys q.2⟩
end Ow

set_option Elab.async false
set_option linter.all false
set_option maxRecDepth 100000
set_option maxHeartbeats 4000000
set_option exponentiation.threshold 3000
namespace Ow
open PySem PySem.Spec PyProof.Rows L2
/-- the class has its own [] -/
structure RuleG (P : Program) (w : World) (K : PySem.W.Frag) (mg : Str → Option Value) (base : Heap) (C g : Addr) (gd : FuncData) : Prop where
  hn : PySem.W.noSeq K C = true
  hm : Meth K C "__getitem__" g
  fn : PySem.W.fnIn K g = true
  F : FnOk P w K mg base CX0 1 g gd ["self", "issue"] (spGet C)
  b : Binds K gd ["self", "issue"] []
theorem scPV : FnScope ["self"] ["self"] (defScope dPVoters) := ⟨rfl, rfl, rfl, by decide +kernel, rfl, by decide +kernel, by decide +kernel⟩
theorem scPI : FnScope ["self"] ["self"] (defScope dPIssues) := ⟨rfl, rfl, rfl, by decide +kernel, rfl, by decide +kernel, by decide +kernel⟩
theorem scStrR : FnScope ["self"] ["self"] (defScope dStr) := ⟨rfl, rfl, rfl, by decide +kernel, rfl, by decide +kernel, by decide +kernel⟩
theorem scAreV : FnScope ["self", "value", "values"] ["self", "value"] (defScope dAreVotes) := ⟨rfl, rfl, rfl, by decide +kernel, rfl, by decide +kernel, by decide +kernel⟩
theorem scCallR : FnScope ["self", "votes", "columns", "issue", "column"] ["self", "votes"] (defScope dCall) := ⟨rfl, rfl, rfl, by decide +kernel, rfl, by decide +kernel, by decide +kernel⟩
theorem scOfV : FnScope ["cls", "issues", "voters", "voter", "table", "issue"] ["cls", "issues", "voters", "voter"] (defScope dOfVoter) := ⟨rfl, rfl, rfl, by decide +kernel, rfl, by decide +kernel, by decide +kernel⟩
def rLenS (K : PySem.W.Frag) : List V → Hp → VK → Prop := fun xs H Q => ∃ p ys, xs = [.ref p] ∧ (SqL K H p ys ∨ SqT K H p ys) ∧ Q (.int ys.length) H
theorem place_num (us : List (List Int)) (i : Nat) : placeN (us.map fun r => r.getD i 0) = numN us i := by
  unfold placeN numN
  rw [List.foldl_map]
theorem bitsB_of {n : Nat} {r : List Int} (h : BitsN n r) : bitsB r = true := by
  unfold bitsB
  rw [List.all_eq_true]
  intro x hx
  rcases h.2 x hx with e | e
  · rw [e]; rfl
  · rw [e]; rfl
section
variable {P : Program} {w : World} {K : PySem.W.Frag} {mg : Str → Option Value} {base : Heap} {C : Addr}
theorem ok_pvoters {f : Addr} {fd : FuncData} (R : RuleC K C) (F : Fun K "voters" "Rule.voters" dPVoters f fd) : FnOk P w K mg base CX0 1 f fd ["self"] (getSp C "_voters") := by
  refine F.ok scPV (fun vs H Q E h => ?_) (fun cdv A outer s H vs Q E hr h => ?_)
  · obtain ⟨a, dx, fs, v, rfl, _⟩ := h
    rfl
  obtain ⟨a, dx, fs, v, rfl, ea, l, q⟩ := h
  refine ⟨_, pss_one (ps_ret (pe_fld (pv 0) rfl)), ?_⟩
  exact ⟨.ref a, rfl, a, C, dx, fs, v, rfl, ea, R.cl, R.nV, l, q⟩
theorem ok_pissues {f : Addr} {fd : FuncData} (R : RuleC K C) (F : Fun K "issues" "Rule.issues" dPIssues f fd) : FnOk P w K mg base CX0 1 f fd ["self"] (getSp C "_issues") := by
  refine F.ok scPI (fun vs H Q E h => ?_) (fun cdv A outer s H vs Q E hr h => ?_)
  · obtain ⟨a, dx, fs, v, rfl, _⟩ := h
    rfl
  obtain ⟨a, dx, fs, v, rfl, ea, l, q⟩ := h
  refine ⟨_, pss_one (ps_ret (pe_fld (pv 0) rfl)), ?_⟩
  exact ⟨.ref a, rfl, a, C, dx, fs, v, rfl, ea, R.cl, R.nI, l, q⟩
def spAreV (C : Addr) : Sp := fun vs H Q _ => ∃ (a : Addr) (y : V) (v : Nat) (ys : List Str) (tab : Str → List Int) (us : List (List Int)), vs = [.ref a, y] ∧ RuleAt C H a v ys tab ∧ IsRows H y us ∧ us.length = v ∧ v ≤ 4 ∧ ys.length ≤ 60 ∧ (∀ r ∈ us, BitsN ys.length r) ∧
  ∀ H', Same H H' → Q (.bl true) H'
theorem ok_arevotes {f fV : Addr} {fd fdV : FuncData} (R : RuleC K C) (F : Fun K "_are_votes" "Rule._are_votes" dAreVotes f fd) (FV : FnOk P w K mg base CX0 4 fV fdV ["value", "many"] spHV) (kV : PySem.W.keepIn K (.ref fV) = true) (bV : Binds K fdV ["value", "many"] []) (gV : mg "has_values" = some (.ref fV))
    (mi : mg "isinstance" = none) (mt : mg "tuple" = none) (ml : mg "len" = none) (ma : mg "all" = none) : FnOk P w K mg base CX0 5 f fd ["self", "value"] (spAreV C) := by
  refine F.ok scAreV (fun vs H Q E h => ?_) (fun cdv A outer s H vs Q E hr h => ?_)
  · obtain ⟨a, y, v, ys, tab, us, rfl, _⟩ := h
    rfl
  obtain ⟨a, y, v, ys, tab, us, rfl, ⟨dx, t, d, ha, ht, hd⟩, ⟨lu, xs, rfl, hlu, hxs⟩, lv, hv, l60, hb, q⟩ := h
  refine ⟨_, pss_cons (ps_if (PW.pt (pw_or (pt_not (pt_val (pe_isi (by rfl) mi (pv 1) (by rfl) mt boot_tup)))
      (pw_or1 (pt_cmpR op_ne (pe_callB call_len_seq (by rfl) ml PySem.boot_len (pa_cons (pv 1) pa_nil)) (pe_fld (pv 0) rfl) (by rfl))))) (pss_one (ps_ret pe_bl)) pss_nil)
    (pss_one (ps_ret (pe_callB (cr_all rfl) (by rfl) ma boot_all (pa_cons
      (pe_lc (te := tCall spHV [] E0 (tCons (tVar 2) (tCons (tCB (rLenS K) (tCons (tFld K (tVar 0) "_issues") tNil)) tNil))) (own := [("values", 2)]) (g := gName 2) (tt := tYes) rfl scAreV.nd (pi_tup (pv 1)) (blkOk_by (N := ["self", "value", "values"]) (sc := defScope dAreVotes) (by decide +kernel))
        (fun _ _ _ _ _ => pg_name (i := 2) scAreV.nd rfl (Or.inl rfl)) (fun _ _ _ _ _ => pts_nil)
        (fun _ _ _ _ _ => pe_call FV hr (by rfl) gV kV bV .nil pass0 (pa_cons (pv 2) (pa_cons (pe_callB call_len_seq (by rfl) ml PySem.boot_len (pa_cons (pe_fld (pv 0) rfl) pa_nil)) pa_nil)))) pa_nil)))), ?_⟩
  have lx := hxs.len
  refine ⟨.ref lu, rfl, .ref lu, .ty "tuple", .type "tuple", .type "tuple", true, rfl, .ty _, .base (.tup hlu), kit_ty (by decide +kernel), true, rfl, iteF ?_⟩
  refine ⟨.ref lu, rfl, lu, xs, rfl, .inr (.of hlu), .ref a, rfl, a, C, dx, _, .int v, rfl, ha, R.cl, R.nV, rfl, rfl, false, ?_, iteF ?_⟩
  · rw [lx, lv]
    congr 1
    simp
  refine ⟨.ref lu, rfl, lu, rfl, ⟨xs, .of hlu⟩, fun D nD => ?_⟩
  refine lc_map (M := No) (walk_tup (K := K) (a := lu) (xs := xs)) (by omega) Jg.no nD (fun _ _ y => y = .bl true) (fun _ _ _ _ _ h => h) (fun Hx g _ => .of (g.toSame _ _ hlu)) (fun i x Hx Hx' Kk hi g _ hY hK => ?_) (fun Hx zs g _ eD hlen hq => ?_)
  · obtain ⟨rfl, hx⟩ := hY
    obtain ⟨r, hr', b, rfl, hb'⟩ := hxs.get hx
    have br := hb r (List.mem_of_getElem? hr')
    have sx := g.toSame
    refine ⟨rfl, .ref b, rfl, .ref a, rfl, a, C, dx, _, .ref t, rfl, sx _ _ ha, R.cl, R.nI, rfl, t, _, rfl, .inr (.of (sx _ _ ht)), b, r, ((ys.map V.str).length : Int), rfl, sx _ _ hb', by rw [br.1]; exact l60, fun n hn => ?_, fun H2 s2 => hK _ _ (Gw.same s2) Jg.no ?_⟩
    · rcases br.2 n hn with e | e
      · rw [e]; decide
      · rw [e]; exact Nat.one_lt_two_pow (by decide)
    · rw [bitsB_of br, br.1, List.length_map]
      simp
  · have e : zs = (List.replicate xs.length true).map V.bl := by
      refine List.ext_getElem? fun i => ?_
      rw [List.getElem?_map]
      cases hz : zs[i]? with
      | none =>
        have := List.getElem?_eq_none_iff.mp hz
        rw [List.getElem?_eq_none (by rw [List.length_replicate]; omega)]
        rfl
      | some y =>
        have hi := (List.getElem?_eq_some_iff.mp hz).1
        rw [List.getElem?_replicate, if_pos (by omega), hq i y hz]
        rfl
    rw [e] at eD
    refine ⟨D, _, rfl, .of eD, ?_⟩
    have e2 : (List.replicate xs.length true).all id = true := by
      rw [List.all_eq_true]
      intro x hx
      exact (List.mem_replicate.mp hx).2
    rw [e2]
    exact q _ g.toSame
theorem rowsV_of {H : Hp} {N : Nat} {xs : List V} {us : List (List Int)} (h : All2 (IsRow H) xs us) (hb : ∀ r ∈ us, r.length = N) : RowsV K H N xs (us.map fun u => u.map V.int) := by
  unfold RowsV
  induction h with
  | nil => exact .nil
  | @cons x u xs us hx _ ih =>
    obtain ⟨a, e, ha⟩ := hx
    exact .cons ⟨a, e, .of ha, by rw [List.length_map]; exact hb u List.mem_cons_self⟩ (ih fun r hr => hb r (List.mem_cons_of_mem _ hr))
theorem colV_ints {us : List (List Int)} {N j : Nat} (hb : ∀ r ∈ us, r.length = N) (hj : j < N) : colV (us.map fun u => u.map V.int) j = (us.map fun r => r.getD j 0).map V.int := by
  unfold colV
  rw [List.map_map, List.map_map]
  refine List.map_congr_left fun r hr => ?_
  have hl := hb r hr
  show (r.map V.int).getD j .non = V.int (r.getD j 0)
  rw [List.getD_eq_getElem?_getD, List.getElem?_map, List.getD_eq_getElem?_getD, List.getElem?_eq_getElem (by omega)]
  rfl
def spCallR (C : Addr) : Sp := fun vs H Q _ => ∃ (a : Addr) (y : V) (v : Nat) (ys : List Str) (tab : Str → List Int) (us : List (List Int)), vs = [.ref a, y] ∧ RuleAt C H a v ys tab ∧ IsRows H y us ∧ us.length = v ∧ 1 ≤ v ∧ v ≤ 4 ∧ ys.length ≤ 60 ∧ (∀ r ∈ us, BitsN ys.length r) ∧ (∀ z ∈ ys, (tab z).length = 2 ^ v) ∧
  ∀ H' x, Same H H' → IsRow H' x (votedN (ys.map tab) us) → Q x H'
theorem ok_callR {f fV fP g : Addr} {fd fdV fdP gd : FuncData} (R : RuleC K C) (G : RuleG P w K mg base C g gd) (F : Fun K "__call__" "Rule.__call__" dCall f fd) (mV : Meth K C "_are_votes" fV) (FV : FnOk P w K mg base CX0 5 fV fdV ["self", "value"] (spAreV C)) (bV : Binds K fdV ["self", "value"] [])
    (FP : FnOk P w K mg base CX0 1 fP fdP ["values"] spPlace) (kP : PySem.W.keepIn K (.ref fP) = true) (bP : Binds K fdP ["values"] []) (gP : mg "place_of" = some (.ref fP))
    (mt : mg "tuple" = none) (mls : mg "list" = none) (mz : mg "zip" = none) : FnOk P w K mg base CX0 6 f fd ["self", "votes"] (spCallR C) := by
  refine F.ok scCallR (fun vs H Q E h => ?_) (fun cdv A outer s H vs Q E hr h => ?_)
  · obtain ⟨a, y, v, ys, tab, us, rfl, _⟩ := h
    rfl
  obtain ⟨a, y, v, ys, tab, us, rfl, hR, ⟨lu, xs, rfl, hlu, hxs⟩, lv, h1, h4, l60, hb, hT, q⟩ := h
  refine ⟨_, pss_cons (ps_if (pt_not (pt_val (pe_meth (pv 0) R.cl mV FV (hr.mono (by decide)) bV .nil pass0 (pa_cons (pv 1) pa_nil)))) (pss_one ps_never) pss_nil)
    (pss_cons (ps_set (i := 2) scCallR.nd rfl (.inl rfl) (pe_lzipS rfl (by rfl) mls (by rfl) mz (by decide +kernel) (pv 1)))
    (pss_one (ps_ret (pe_callTy call_tuple_of (by rfl) mt boot_tup (pa_cons
      (pe_lc (te := tOp (rIxT K) (tIxO C (spGet C) E0 (tVar 0) (tVar 3)) (tCall spPlace [] E0 (tCons (tVar 4) tNil))) (own := [("issue", 3), ("column", 4)]) (g := gTup K 2 (gCons (gName 3) (gCons (gName 4) gNil))) (tt := tYes) rfl scCallR.nd
        (pi_zipK (by rfl) mz (pa_cons (pe_fld (pv 0) rfl) (pa_cons (pv 2) pa_nil))) (blkOk_by (N := ["self", "votes", "columns", "issue", "column"]) (sc := defScope dCall) (by decide +kernel))
        (fun _ _ _ _ _ => pg_tup rfl (pgs_cons (pg_name (i := 3) scCallR.nd rfl (Or.inl rfl)) (pgs_cons (pg_name (i := 4) scCallR.nd rfl (Or.inl rfl)) pgs_nil))) (fun _ _ _ _ _ => pts_nil)
        (fun _ _ _ _ _ => pe_ix ix_tup (pe_ixO (pv 0) (pv 3) G.hn G.hm G.fn G.F (hr.mono (by decide)) G.b pass0) (pe_call FP (hr.mono (by decide)) (by rfl) gP kP bP .nil pass0 (pa_cons (pv 4) pa_nil)) (fun _ _ => rfl))) pa_nil))))), ?_⟩
  obtain ⟨dx, t, d, ha, ht, hd⟩ := id hR
  have lx := hxs.len
  have hbl : ∀ r ∈ us, r.length = ys.length := fun r hr => (hb r hr).1
  refine ⟨.ref a, rfl, a, dx, _, rfl, ha, rfl, .ref lu, rfl, a, .ref lu, v, ys, tab, us, rfl, hR, ⟨lu, xs, rfl, hlu, hxs⟩, lv, h4, l60, hb, fun H1 s1 => ⟨true, rfl, iteF ?_⟩⟩
  refine ⟨.ref lu, rfl, lu, xs, ys.length, us.map fun u => u.map V.int, rfl, .inl (.of (s1 _ _ hlu)), fun e => by rw [e] at lx; simp at lx; omega, by omega, (by rw [sizeLine_eq]; exact Nat.le_trans l60 (by decide)), rowsV_of (all_tk (Tk.same s1) hxs) hbl, fun H2 p ts s2 np hp htl hts => ?_⟩
  have s12 := s1.trans s2
  refine ⟨.ref a, rfl, a, C, dx, _, .ref t, rfl, s12 _ _ ha, R.cl, R.nI, rfl, .ref p, rfl, .tup, .lst, t, p, ys.map V.str, ts.map V.ref, rfl, .of (s12 _ _ ht), .of hp, fun D nD => ?_⟩
  have ln : min (ys.map V.str).length (ts.map V.ref).length = ys.length := by rw [List.length_map, List.length_map, htl, Nat.min_self]
  refine lc_map (M := No) (walk_zipK (K := K) (k1 := .tup) (k2 := .lst) (a := t) (b := p) (xs := ys.map V.str) (ys := ts.map V.ref)) (by omega) Jg.no nD (fun i _ y => ∃ z, ys[i]? = some z ∧ y = .int ((tab z).getD (numN us i).toNat 0)) (fun _ _ _ _ _ h => h) (fun Hx g _ => ⟨.of (g.toSame _ _ (s12 _ _ ht)), .of (g.toSame _ _ hp)⟩)
    (fun i x Hx Hx' Kk hi g _ hY hK => ?_) (fun Hx zs g _ eD hlen hq => ?_)
  · obtain ⟨T, x, y, rfl, nT, rfl, hx, hy⟩ := hY
    have hx : (ys.map V.str)[i]? = some x := hx
    have hy : (ts.map V.ref)[i]? = some y := hy
    rw [ln] at hi
    rw [List.getElem?_map] at hx hy
    cases hz : ys[i]? with
    | none => rw [hz] at hx; cases hx
    | some z =>
      rw [hz] at hx
      cases hx
      cases htt : ts[i]? with
      | none => rw [htt] at hy; cases hy
      | some tt =>
        rw [htt] at hy
        cases hy
        obtain ⟨_, htp⟩ := hts i tt htt
        rw [colV_ints hbl hi] at htp
        have sT : Same Hx (upd Hx T (.tup [.str z, .ref tt])) := same_new nT
        have sy := g.toSame.trans sT
        have sz := s12.trans sy
        have mz := List.mem_of_getElem? hz
        refine ⟨T, [.str z, .ref tt], rfl, .of upd_same, rfl, _, _, rfl, _, _, rfl, rfl, rfl, .ref a, rfl, .str z, rfl, a, dx, _, rfl, sz _ _ ha, a, z, v, ys, tab, rfl, hR.tk (Tk.same sz), mz, fun H3 x s3 hx => ?_⟩
        refine ⟨.ref tt, rfl, .ref tt, us.map fun r => r.getD i 0, rfl, ⟨tt, rfl, s3 _ _ (sy _ _ htp)⟩, fun H4 s4 => ?_⟩
        obtain ⟨b, rfl, hb'⟩ := hx
        rw [place_num]
        obtain ⟨n0, n1⟩ := num_lt hi us hb
        have lt := hT z mz
        have n2 : (numN us i).toNat < (tab z).length := by
          have : ((2 ^ us.length : Nat) : Int) = (2 : Int) ^ us.length := Int.natCast_pow 2 _
          rw [lt, ← lv]
          omega
        exact ⟨b, _, _, .int ((tab z).getD (numN us i).toNat 0), rfl, rfl, .of (s4 _ _ hb'), at_of (show numN us i = ((numN us i).toNat : Int) by omega) (map_at n2), hK _ _ (Gw.same (sT.trans (s3.trans s4))) Jg.no ⟨z, hz, rfl⟩⟩
  · have e : zs = (votedN (ys.map tab) us).map V.int := by
      unfold votedN
      rw [List.map_map]
      refine list_eq (f := V.int ∘ fun i : Nat => ((ys.map tab).getD i []).getD (numN us i).toNat 0) (hlen.trans ln) (by rw [List.length_range, List.length_map]) fun i y hy => ?_
      have hi : i < ys.length := by have := (List.getElem?_eq_some_iff.mp hy).1; omega
      obtain ⟨z, hz, e⟩ := hq i y hy
      refine ⟨i, List.getElem?_range (by rw [List.length_map]; exact hi), ?_⟩
      rw [e]
      show V.int _ = V.int (((ys.map tab).getD i []).getD (numN us i).toNat 0)
      rw [List.getD_eq_getElem?_getD (l := ys.map tab), List.getElem?_map, hz]
      rfl
    rw [e] at eD
    exact ⟨D, _, rfl, .inl ⟨.of eD, fun q1 nq => q _ (.ref q1) (s12.trans (g.toSame.trans (same_new nq))) ⟨q1, rfl, upd_same⟩⟩⟩
end
end Ow

set_option Elab.async false
set_option linter.all false
set_option maxRecDepth 100000
set_option maxHeartbeats 4000000
set_option exponentiation.threshold 3000
namespace Ow
open PySem PySem.Spec PyProof.Rows L2
/-! ### cls(..), cls a parameter that holds the class -/
section
variable {X : Cx} {CX : CXT} {k : Nat} {C f : Addr} {fd : FuncData} {ps : List Str} {ds : List Value} {dvs : List V} {sp : Sp} {E : XK} {x : Str} {p pos : Pos} {e : Expr} {es : List Expr} {t : TA} {tf : TE}
def tMakeV (C : Addr) (sp : Sp) (dvs : List V) (E : XK) (tf : TE) (t : TA) : TE := fun σ H Q => tf σ H fun y H1 => y = .ref C ∧ tMake C sp dvs E t σ H1 Q
theorem pe_makeV (M : Mk X.K C f) (hf : PE X (.Name x p) tf) (F : FnOk X.prog X.w X.K X.mg X.base CX k f fd ps sp) (hr : Room (k + 1) X.A) (hb : Binds X.K fd ps ds) (hd : Vals dvs ds) (hx : Passes CX X E)
    (ha : PA X (e :: es) t) (he : starEach (e :: es) X.env = (false, eval e X.env) :: starEach es X.env := by rfl) (hpl : (backTo pos (starEach es X.env)).any (·.1) = false := by rfl) :
    PE X (.Call (.Name x p) (e :: es) [] pos) (tMakeV C sp dvs E tf t) := by
  refine ⟨fun pins s σ H Q I h => ?_⟩
  refine wpAny_Call_Name_kw (thn (hf.run pins s σ H _ I h) fun u s1 ⟨y, H1, I1, r1, ey, q1⟩ => ?_)
  subst ey
  obtain rfl : u = Value.ref C := r1
  refine PySem.W.callWith_K (h₀ := X.base) I1.ok.mod.kin M.kp (thn (ha.run pos pins s1 σ H1 _ I1 q1) fun us s2 ⟨vs, H2, I2, r, q⟩ => ⟨I2.kIn, ?_⟩) he hpl
  exact run_make M F hr hb hd hx I2 r q
end
/-! ### str(rule) -/
def rs1 : Str := Str.empty ++ ("rule of " : Str)
def rs2 (v : Nat) : Str := rs1 ++ (toString (v : Int) : Str)
def rs3 (v : Nat) : Str := rs2 v ++ (" voters, " : Str)
def rs4 (v n : Nat) : Str := rs3 v ++ (toString (n : Int) : Str)
def ruleStr (v n : Nat) : Str := rs4 v n ++ (" issues" : Str)
theorem rs_len : ∀ v < 5, ∀ n < 61, (rs2 v).length ≤ 100 ∧ (rs3 v).length ≤ 100 ∧ (rs4 v n).length ≤ 100 ∧ (ruleStr v n).length ≤ 100 := by decide +kernel
section
variable {P : Program} {w : World} {K : PySem.W.Frag} {mg : Str → Option Value} {base : Heap} {C : Addr}
def spStrR (C : Addr) : Sp := fun vs H Q _ => ∃ (a : Addr) (v : Nat) (ys : List Str) (tab : Str → List Int), vs = [.ref a] ∧ RuleAt C H a v ys tab ∧ v ≤ 4 ∧ ys.length ≤ 60 ∧ Q (.str (ruleStr v ys.length)) H
theorem ok_strR {f : Addr} {fd : FuncData} (R : RuleC K C) (F : Fun K "__str__" "Rule.__str__" dStr f fd) (ml : mg "len" = none) : FnOk P w K mg base CX0 1 f fd ["self"] (spStrR C) := by
  refine F.ok scStrR (fun vs H Q E h => ?_) (fun cdv A outer s H vs Q E hr h => ?_)
  · obtain ⟨a, v, ys, tab, rfl, _⟩ := h
    rfl
  obtain ⟨a, v, ys, tab, rfl, ⟨dx, t, d, ha, ht, hd⟩, hv, hl, q⟩ := h
  refine ⟨_, pss_one (ps_ret (pe_joined (.cons pe_str (.cons (pe_fmt (pe_fld (pv 0) rfl)) (.cons pe_str (.cons (pe_fmt (pe_callB call_len_seq (by rfl) ml PySem.boot_len (pa_cons (pe_fld (pv 0) rfl) pa_nil))) (.cons pe_str .nil))))))), ?_⟩
  obtain ⟨l2, l3, l4, l5⟩ := rs_len v (by omega) ys.length (by omega)
  have up : ∀ {n : Nat}, n ≤ 100 → n ≤ sizeLine := fun h => by rw [sizeLine_eq]; exact Nat.le_trans h (by decide)
  have lg : ∀ n : Nat, n < 61 → (n : Int).natAbs.log2 < 1920 := fun n h => by
    show (n : Nat).log2 < 1920
    exact Nat.lt_of_le_of_lt (Nat.log2_le_self n) (by omega)
  refine ⟨_, rfl, up (by decide), ?_⟩
  refine ⟨.ref a, rfl, a, C, dx, _, .int v, rfl, ha, R.cl, R.nV, rfl, .inr ⟨v, rfl, lg v (by omega), _, rfl, up l2, ?_⟩⟩
  refine ⟨_, rfl, up l3, ?_⟩
  refine ⟨.ref a, rfl, a, C, dx, _, .ref t, rfl, ha, R.cl, R.nI, rfl, t, _, rfl, .inr (.of ht), .inr ⟨((ys.map V.str).length : Int), rfl, lg _ (by rw [List.length_map]; omega), _, rfl, ?_, ?_⟩⟩
  · rw [List.length_map]; exact up l4
  refine ⟨_, rfl, ?_, ?_⟩
  · rw [List.length_map]; exact up l5
  · rw [List.length_map]; exact q
/-- Rule.of_voter, rightly called -/
def spOfV (C : Addr) : Sp := fun vs H Q _ => ∃ (a : Addr) (v i : Nat) (zs : List Str), vs = [.ref C, .ref a, .int v, .int i] ∧ H a = some (.tup (zs.map V.str)) ∧ 1 ≤ v ∧ v ≤ 4 ∧ i < v ∧ AllOk v zs (fun _ => followN v i) ∧ issuesB zs = true ∧
  ∀ H' x ys, Same H H' → H x = none → ys.Perm zs → sortedS ys = true → RuleAt C H' x v ys (fun _ => followN v i) → Q (.ref x) H'
theorem ok_ofvoter {f fI fN fV fT fM : Addr} {fd fdI fdN fdV fdT fdM : FuncData} (F : Fun K "of_voter" "Rule.of_voter" dOfVoter f fd) (FN : FnOk P w K mg base CX0 4 fN fdN ["issues"] spNI) (kN : PySem.W.keepIn K (.ref fN) = true) (bN : Binds K fdN ["issues"] []) (gN : mg "need_issues" = some (.ref fN))
    (FV : FnOk P w K mg base CX0 2 fV fdV ["voters"] spNV) (kV : PySem.W.keepIn K (.ref fV) = true) (bV : Binds K fdV ["voters"] []) (gV : mg "need_voters" = some (.ref fV))
    (FI : FnOk P w K mg base CX0 1 fI fdI ["value"] (spB fun _ => shortB)) (kI : PySem.W.keepIn K (.ref fI) = true) (bI : Binds K fdI ["value"] []) (gI : mg "is_integer" = some (.ref fI))
    (FT : FnOk P w K mg base CX0 2 fT fdT ["voters", "voter"] spFollow) (kT : PySem.W.keepIn K (.ref fT) = true) (bT : Binds K fdT ["voters", "voter"] []) (gT : mg "_follow_table" = some (.ref fT))
    (M : Mk K C fM) (FM : FnOk P w K mg base CX0 7 fM fdM ["self", "voters", "tables"] (spInit C)) (bM : Binds K fdM ["self", "voters", "tables"] []) : FnOk P w K mg base CX0 9 f fd ["cls", "issues", "voters", "voter"] (spOfV C) := by
  refine F.ok scOfV (fun vs H Q E h => ?_) (fun cdv A outer s H vs Q E hr h => ?_)
  · obtain ⟨a, v, i, zs, rfl, _⟩ := h
    rfl
  obtain ⟨a, v, i, zs, rfl, ha, h1, h4, hi, ok, hB, q⟩ := h
  refine ⟨_, pss_cons (ps_expr (pe_call FN (hr.mono (by decide)) (by rfl) gN kN bN .nil pass0 (pa_cons (pv 1) pa_nil)))
    (pss_cons (ps_expr (pe_call FV (hr.mono (by decide)) (by rfl) gV kV bV .nil pass0 (pa_cons (pv 2) pa_nil)))
    (pss_cons (ps_if (PW.pt (pw_or (pt_not (pt_val (pe_call FI (hr.mono (by decide)) (by rfl) gI kI bI .nil pass0 (pa_cons (pv 3) pa_nil))))
      (pw_or1 (pt_not (pt_chain op_le op_lt pe_int (pv 3) (pv 2)))))) (pss_one ps_never) pss_nil)
    (pss_cons (ps_set (i := 4) scOfV.nd rfl (.inr rfl) (pe_call FT (hr.mono (by decide)) (by rfl) gT kT bT .nil pass0 (pa_cons (pv 2) (pa_cons (pv 3) pa_nil))))
    (pss_one (ps_ret (pe_makeV M (pv 0) FM hr bM .nil pass0 (pa_cons (pv 2) (pa_cons
      (pe_dc (own := [("issue", 5)]) (g := gName 5) (tt := tYes) (tk := tVar 5) (tv := tVar 4) rfl scOfV.nd (pi_tup (pv 1)) (blkOk_by (N := ["cls", "issues", "voters", "voter", "table", "issue"]) (sc := defScope dOfVoter) (by decide +kernel))
        (fun _ _ _ _ _ => pg_name (i := 5) scOfV.nd rfl (Or.inl rfl)) (fun _ _ _ _ _ => pts_nil) (fun _ _ _ _ _ => pv 5) (fun _ _ _ _ _ => pv 4)) pa_nil)))))))), ?_⟩
  obtain ⟨g, hl, nd, hp, hio⟩ := id ok
  refine ⟨.ref a, rfl, a, zs, rfl, ha, by omega, hp, hB, fun H1 s1 => ?_⟩
  refine ⟨.int v, rfl, v, rfl, h1, h4, fun H2 s2 => ?_⟩
  refine ⟨.int i, rfl, .int i, 0, rfl, .inl (by show (i : Int).natAbs < 2 ^ 400; exact Nat.lt_of_lt_of_le (by omega : (i : Int).natAbs < 2 ^ 3) (Nat.pow_le_pow_right (by decide) (by decide))), fun H3 s3 => ⟨true, ?_, iteF ?_⟩⟩
  · exact congrArg V.bl (shortB_small (Int.natCast_nonneg i) (by omega))
  refine ⟨.int i, rfl, 0, i, rfl, rfl, _, rfl, ?_⟩
  rw [decide_eq_true (show (0 : Int) ≤ (i : Int) by omega)]
  refine iteT ⟨.int v, rfl, _, _, rfl, rfl, _, rfl, ?_⟩
  rw [decide_eq_true (show (i : Int) < (v : Int) by omega)]
  refine iteF ?_
  refine ⟨.int v, rfl, .int i, rfl, v, i, rfl, h4, hi, fun H4 p s4 hpt => ?_⟩
  have s14 := s1.trans (s2.trans (s3.trans s4))
  have ha4 := s14 _ _ ha
  refine ⟨.ref C, rfl, rfl, .int v, rfl, .ref a, rfl, a, rfl, ⟨_, .of ha4⟩, fun D nD => ?_⟩
  refine dc_tup (K := K) (a := a) (xs := zs.map V.str) (fun j Hx => Same H4 Hx ∧ ∃ kv2, Hx D = some (.dK kv2) ∧ All2 (TabR Hx (fun _ => followN v i)) kv2 (zs.take j)) ⟨same_new nD, [], upd_same, .nil⟩ (fun j Hx _ h => .of (h.1 _ _ ha4)) (fun j x Hx hx h => ?_) (fun Hx h => ?_)
  · obtain ⟨sx, kv2, eD, a2⟩ := h
    rw [List.getElem?_map] at hx
    cases hz : zs[j]? with
    | none => rw [hz] at hx; cases hx
    | some z =>
      rw [hz] at hx
      cases hx
      have l2 := a2.len
      rw [List.length_take] at l2
      refine ⟨rfl, ?_⟩
      refine yes_of ?_
      refine ⟨.str z, rfl, .ref p, rfl, kv2, .inr z, rfl, eD, small60 (by omega), ?_⟩
      rw [putK_new (.ref p) (tab_none a2 (nodup_take nd hz))]
      refine ⟨fun b o e => ?_, _, upd_same, ?_⟩
      · rw [upd_ne (ne_of_none e nD)]
        exact sx _ _ e
      · rw [List.take_add_one, hz]
        exact (a2.imp fun _ _ r => ⟨r.1, row_at r.2 eD⟩).app (.cons ⟨rfl, row_at ⟨p, rfl, sx _ _ hpt⟩ eD⟩ .nil)
  · obtain ⟨sx, kv2, eD, a2⟩ := h
    rw [List.length_map, List.take_length] at a2
    intro x dx nx ndx nex
    have sn : Same Hx (upd (upd Hx dx (.own x)) x (.ins C dx [])) := (same_new ndx).trans (same_new (by rw [upd_ne (fun e => nex e.symm)]; exact nx))
    have nx0 : H x = none := by
      cases e : H x with
      | none => rfl
      | some o => rw [sx _ _ (s14 _ _ e)] at nx; cases nx
    refine ⟨x, dx, D, v, zs, _, rfl, upd_same, h1, h4, ⟨_, sn _ _ eD, TabR.tk (Tk.same sn) a2⟩, ok, fun H5 ys sb pm so hR => ⟨rfl, ?_⟩⟩
    have s5 : Same Hx H5 := fun b o e => sb b o (fun z => by rw [z, nx] at e; cases e) (sn _ _ e)
    exact q H5 x ys (s14.trans (sx.trans s5)) nx0 pm so hR
end
end Ow

set_option Elab.async false
set_option linter.all false
set_option maxRecDepth 100000
set_option maxHeartbeats 4000000
set_option exponentiation.threshold 3000
namespace Ow
open PySem PySem.Spec PyProof.Rows
open PySem.SeqAt
/-! ### a text is no dict -/
def DictA (h : Heap) (a : Addr) : Prop := ∃ o es ep, h.get? a = some o ∧ o.cls = .type "dict" ∧ o.data = .dict es ep
theorem str_eq_dict (x : Str) (t : Tok) (a : Addr) : Meets (Builtin.«str.__eq__» ⟨[.str x t, .ref a], []⟩) (fun _ R s => DictA s.heap a ∧ R (.ok (.ret .notImplemented)) s) :=
  .of_wp fun prog w A R s h => by
    obtain ⟨hp, g, d, tk, os⟩ := s
    obtain ⟨⟨⟨c, dd, dt, sl⟩, es, ep, ho, hc, hd⟩, h⟩ := h
    simp only at hc hd
    subst hc hd
    wp_walk using wpAny_loadPart' ho, wpAny_load ho
    exact ⟨_, rfl, h⟩
section
variable {A : Around} {s : Shared}
theorem rcAt_str_dict {a : Addr} (x : Str) (t : Tok) (hA : DictA s.heap a) (hu : A.units < cLine) : RcAt A s (.str x t) (.ref a) false := fun prog w E Q h => by
  have ha : s.TypeIs (.ref a) "dict" := let ⟨o, _, _, e, c, _⟩ := hA; ⟨o, e, c⟩
  refine rc_eq_decline_or (k := false) (typeIs_str s x t) ha (by decide) PySem.F.sub_dict_str PySem.F.slot_str_eq PySem.F.slot_dict_eq_refl
    (fun _ hq => call_meets PySem.F.slot_str_eq (typeIs_str s x t) PySem.F.entry_str_eq (PySem.F.args_str_eq_2 _ _) (str_eq_dict x t a) ⟨hA, hq⟩)
    (fun Q' hq => wpAny_call_entry PySem.F.slot_dict_eq_refl ha PySem.F.entry_dict_eq ?_ (PySem.F.args_dict_eq_2 _ _))
    (fun _ hq => wpAny_of_eq (rfl : isSame (.str x t) (.ref a) = pure false) hq) (.inr hu) h
  show wpAny _ _ (Builtin.Dict.dictSlotArgs "__eq__" ⟨[.ref a, .str x t], []⟩ >>= _) _ _ s
  refine wpAny_bind ?_
  unfold Builtin.Dict.dictSlotArgs
  refine wpAny_bind (wpAny_notOrdered_dict ha ?_)
  show wpAny _ _ (pure (Value.ref a, Value.str x t)) _ _ s
  refine wpAny_pure ?_
  refine wpAny_bind (wpAny_isInstance (T := "str") (typeIs_str s x t) PySem.F.sub_str_dict ?_)
  simp only [Bool.not_false, if_true]
  refine wpAny_bind (wpAny_rule ?_)
  exact wpAny_pure ⟨_, rfl, hq⟩
theorem eqAt_str_dict {a : Addr} (x : Str) (t : Tok) (ha : DictA s.heap a) (hu : A.units < cLine) : EqAt A s (.str x t) (.ref a) false := fun prog w E Q h => by
  unfold eqBool
  refine wpAny_holding ?_
  refine wpAny_ite_split (fun hab => absurd (eq_of_beq hab) nofun) (fun _ => ?_)
  exact wpAny_bind (rcAt_str_dict x t ha hu prog w E _ (wpAny_truthy_bool h))
end
end Ow
namespace Ow
open PySem PySem.Spec PyProof.Rows L2
/-- what x in (texts) says: x data, or a dict -/
def InAns (K : PySem.W.Frag) (H : Hp) (x : V) (ys : List Str) (b : Bool) : Prop :=
  (∃ d, Dp K H x d ∧ SeqAt.shaped d = true ∧ b = (ys.map PyData.str).any fun z => PyData.eqv z d) ∨ (∃ a kvs, x = .ref a ∧ H a = some (.dK kvs) ∧ b = false)
section
variable {X : Cx}
def rInA (K : PySem.W.Frag) : R2 := fun x y H Q => ∃ (t : Addr) (ys : List Str) (b : Bool), y = .ref t ∧ SqT K H t (ys.map V.str) ∧ SeqAt.shaped (.list (ys.map .str)) = true ∧ InAns K H x ys b ∧ Q (.bl b) H
theorem op_inA (hu : X.A.units + 65 < cLine) : OpR X (compareOp .In) (rInA X.K) := by
  intro pins s σ H x y v u Q I rx ry h
  obtain ⟨t, ys, b, rfl, ht, sy, ha, q⟩ := h
  cases ry
  rcases ha with ⟨d, hd, sd, rfl⟩ | ⟨a, kvs, rfl, hk, rfl⟩
  · obtain ⟨as, r1⟩ := Dp.reads I d x v hd rx
    obtain ⟨bs, r2⟩ := Dp.reads I (.tuple (ys.map .str)) (.ref t) (.ref t) (.tup ht (dp_strs ys)) rfl
    exact SeqAt.in_tuple_reads r2 r1 (SeqAt.canLay_of_shaped sy) (SeqAt.canLay_of_shaped sd) (room_in_shaped sd hu) ⟨.bl _, H, I, rfl, q⟩
  · obtain rfl : v = Value.ref a := rx
    obtain ⟨its, rv, pl, hz⟩ := I.tuple ht
    obtain ⟨_, _, vs, _, o, es, ep, h1, h2, h3, _⟩ := (show ObjOk X.prog X.w H s.heap a (.dK kvs) from I.hok a _ hk)
    have ty : DictA s.heap a := ⟨o, es, ep, h1, h2.1, h3⟩
    refine SeqAt.in_tupleAt (fun _ => false) (show s.heap.IsTuple t its.toArray from pl) (fun z hz => ?_) ?_
    · have hz' : z ∈ its := by simpa using hz
      obtain ⟨i, hi⟩ := List.mem_iff_getElem?.mp hz'
      have hl := rv.length
      have hi' := (List.getElem?_eq_some_iff.mp hi).1
      obtain ⟨y, hy⟩ : ∃ y, (ys.map V.str)[i]? = some y := ⟨_, List.getElem?_eq_getElem (by omega)⟩
      obtain ⟨u2, hu2, ru⟩ := rv.get hy
      rw [hi] at hu2
      cases hu2
      rw [List.getElem?_map] at hy
      cases e : ys[i]? with
      | none => rw [e] at hy; cases hy
      | some x =>
        rw [e] at hy
        cases hy
        obtain ⟨tk, rfl⟩ := ru
        exact eqAt_str_dict x tk ty (by show X.A.units + 1 < cLine; omega)
    · have e : its.toArray.any (fun _ => false) = false := by simp
      rw [e]
      exact ⟨.bl false, H, I, rfl, q⟩
end
section
variable {P : Program} {w : World} {K : PySem.W.Frag} {mg : Str → Option Value} {base : Heap} {C : Addr}
def spContA (K : PySem.W.Frag) (C : Addr) : Sp := fun vs H Q _ => ∃ (a : Addr) (x : V) (v : Nat) (ys : List Str) (tab : Str → List Int) (b : Bool), vs = [.ref a, x] ∧ RuleAt C H a v ys tab ∧ SeqAt.shaped (.list (ys.map .str)) = true ∧ InAns K H x ys b ∧ Q (.bl b) H
theorem ok_contA {f : Addr} {fd : FuncData} (R : RuleC K C) (F : Fun K "__contains__" "Rule.__contains__" dContains f fd) : FnOk P w K mg base CX0 1 f fd ["self", "value"] (spContA K C) := by
  refine F.ok scContains (fun vs H Q E h => ?_) (fun cdv A outer s H vs Q E hr h => ?_)
  · obtain ⟨a, x, v, ys, tab, b, rfl, _⟩ := h
    rfl
  obtain ⟨a, x, v, ys, tab, b, rfl, ⟨dx, t, d', ha, ht, _⟩, sy, hi, q⟩ := h
  have hu65 : (A.deeper (envOfC "Rule.__contains__" (defScope dContains) s.heap.objs.size f cdv)).units + 65 < cLine := by
    have := hr.un
    omega
  refine ⟨_, pss_one (ps_ret (pe_cmpR (op_inA hu65) (pv 1) (pe_fld (pv 0) rfl) (by rfl))), ?_⟩
  exact ⟨x, rfl, .ref a, rfl, a, C, dx, _, .ref t, rfl, ha, R.cl, R.nI, rfl, t, ys, b, rfl, .of ht, sy, hi, q⟩
end
end Ow

set_option Elab.async false
set_option linter.all false
set_option maxRecDepth 100000
set_option maxHeartbeats 4000000
set_option exponentiation.threshold 3000
namespace Ow
open PySem PySem.Spec PyProof.Rows L2
theorem scSpare : FnScope ["names", "some", "name"] ["names"] (defScope dSpare) := ⟨rfl, rfl, rfl, by decide +kernel, rfl, by decide +kernel, by decide +kernel⟩
/-- a list without repeats is no longer than one that has all of it -/
theorem nodup_len {α : Type} [DecidableEq α] : ∀ (l D : List α), l.Nodup → (∀ x ∈ l, x ∈ D) → l.length ≤ D.length
  | [], D, _, _ => Nat.zero_le _
  | x :: l, D, nd, h => by
    have nd' := List.nodup_cons.mp nd
    have hx := h x List.mem_cons_self
    have ih := nodup_len l (D.erase x) nd'.2 fun y hy => (List.mem_erase_of_ne (fun e => nd'.1 (by rw [← e]; exact hy))).mpr (h y (List.mem_cons_of_mem _ hy))
    rw [List.length_erase_of_mem hx] at ih
    have := List.length_pos_of_mem hx
    rw [List.length_cons]
    omega
def spareL : List Str := [timesS 122 8, timesS 122 7, timesS 121 8, timesS 121 7, timesS 120 8, timesS 119 8, timesS 118 8, timesS 117 8, timesS 116 8]
theorem spare_nodup : spareL.Nodup := by decide +kernel
theorem spare_some {zs : List Str} (h : zs.length ≤ 6) : ∃ z, (spareL.filter fun z => !zs.contains z)[0]? = some z ∧ z ∈ spareL ∧ z ∉ zs := by
  cases e : spareL.filter fun z => !zs.contains z with
  | nil =>
    have := nodup_len spareL zs spare_nodup fun x hx => by
      have q := List.filter_eq_nil_iff.mp e x hx
      simpa using q
    have l9 : spareL.length = 9 := rfl
    omega
  | cons z r =>
    have m : z ∈ spareL.filter fun z => !zs.contains z := by rw [e]; exact List.mem_cons_self
    obtain ⟨m1, m2⟩ := List.mem_filter.mp m
    exact ⟨z, rfl, m1, by simpa using m2⟩
theorem inV_contains (z : Str) : ∀ zs : List Str, inV (.str z) (zs.map V.str) = zs.contains z
  | [] => rfl
  | y :: zs => by
    have ih := inV_contains z zs
    unfold inV at ih ⊢
    rw [List.map_cons, List.any_cons, List.contains_cons, ih]
    congr 1
    show (y == z) = (z == y)
    exact BEq.comm
section
variable {P : Program} {w : World} {K : PySem.W.Frag} {mg : Str → Option Value} {base : Heap} {C : Addr}
def spSpare : Sp := fun vs H Q _ => ∃ (ln : Addr) (zs : List Str), vs = [.ref ln] ∧ H ln = some (.lst (zs.map V.str)) ∧ zs.length ≤ 6 ∧ ∀ H' z, Same H H' → z ∈ spareL → z ∉ zs → Q (.str z) H'
theorem ok_spare {f : Addr} {fd : FuncData} (F : Fun K "_law_spare" "_law_spare" dSpare f fd) : FnOk P w K mg base CX0 1 f fd ["names"] spSpare := by
  refine F.ok scSpare (fun vs H Q E h => ?_) (fun cdv A outer s H vs Q E hr h => ?_)
  · obtain ⟨ln, zs, rfl, _⟩ := h
    rfl
  obtain ⟨ln, zs, rfl, hln, hl, q⟩ := h
  refine ⟨_, pss_cons (ps_set (i := 1) scSpare.nd rfl (.inl rfl) (pe_lst (pa_cons (pe_op op_repS pe_str pe_int) (pa_cons (pe_op op_repS pe_str pe_int) (pa_cons (pe_op op_repS pe_str pe_int) (pa_cons (pe_op op_repS pe_str pe_int) (pa_cons (pe_op op_repS pe_str pe_int)
      (pa_cons (pe_op op_repS pe_str pe_int) (pa_cons (pe_op op_repS pe_str pe_int) (pa_cons (pe_op op_repS pe_str pe_int) (pa_cons (pe_op op_repS pe_str pe_int) pa_nil)))))))))))
    (pss_one (ps_ret (pe_ix ix_list (pe_lc (te := tVar 2) (own := [("name", 2)]) (g := gName 2) (tt := tTest (tOp (rIn K true) (tVar 2) (tVar 0))) rfl scSpare.nd (pi_list (pv 1)) (blkOk_by (N := ["names", "some", "name"]) (sc := defScope dSpare) (by decide +kernel))
      (fun _ _ _ _ _ => pg_name (i := 2) scSpare.nd rfl (Or.inl rfl)) (fun _ _ _ _ _ => pts_one (pt_cmpR op_notIn_seq (pv 2) (pv 0) (by rfl))) (fun _ _ _ _ _ => pv 2)) pe_int (fun _ _ => rfl)))), ?_⟩
  refine ⟨122, 8, by rfl, rfl, by decide, by decide, 122, 7, by rfl, rfl, by decide, by decide, 121, 8, by rfl, rfl, by decide, by decide, 121, 7, by rfl, rfl, by decide, by decide, 120, 8, by rfl, rfl, by decide, by decide,
    119, 8, by rfl, rfl, by decide, by decide, 118, 8, by rfl, rfl, by decide, by decide, 117, 8, by rfl, rfl, by decide, by decide, 116, 8, by rfl, rfl, by decide, by decide, (by show 9 ≤ sizeLine; decide), fun so nso => ?_⟩
  have s1 : Same H (upd H so (.lst (spareL.map V.str))) := same_new nso
  have e1 : upd H so (.lst (spareL.map V.str)) so = some (.lst (spareL.map V.str)) := upd_same
  change _
  refine ⟨.ref so, rfl, so, rfl, ⟨_, .of e1⟩, fun D nD => ?_⟩
  have nD' : upd H so (.lst (spareL.map V.str)) D = none := nD
  refine lc_it (walk_list (K := K) (a := so) (xs := spareL.map V.str)) (fun i Hy => Same (upd H so (.lst (spareL.map V.str))) Hy ∧ Hy D = some (.lst (((spareL.take i).filter fun z => !zs.contains z).map V.str)))
    ⟨same_new nD, upd_same⟩ (fun i Hy _ h => .of (h.1 _ _ e1)) (fun i x Hy Hy' hi h hY => ?_) (fun Hy h => ?_)
  · obtain ⟨sy, eD⟩ := h
    obtain ⟨rfl, hx⟩ := hY
    rw [List.getElem?_map] at hx
    cases hz : spareL[i]? with
    | none => rw [hz] at hx; cases hx
    | some z =>
      rw [hz] at hx
      cases hx
      have sz := s1.trans sy
      have et : spareL.take (i + 1) = spareL.take i ++ [z] := by rw [List.take_add_one, hz]; rfl
      refine ⟨rfl, .str z, rfl, .ref ln, rfl, ln, _, rfl, .inl (.of (sz _ _ hln)), rfl, flat_strs zs, _, rfl, ?_⟩
      rw [inV_contains]
      cases hb : zs.contains z with
      | false =>
        refine iteT ⟨.str z, rfl, _, eD, ?_, fun b o e => ?_, ?_⟩
        · rw [List.length_map]
          refine small60 (Nat.le_trans (List.length_filter_le _ _) ?_)
          rw [List.length_take]
          have : spareL.length = 9 := rfl
          omega
        · rw [upd_ne (ne_of_none e nD)]
          exact sy _ _ e
        · rw [upd_same, et, List.filter_append, List.map_append]
          congr 3
          rw [List.filter_cons, hb]
          rfl
      | true =>
        refine iteF ⟨sy, ?_⟩
        rw [eD, et, List.filter_append]
        congr 3
        rw [List.filter_cons, hb]
        simp
  · obtain ⟨sy, eD⟩ := h
    rw [List.length_map, List.take_length] at eD
    obtain ⟨z, h0, m1, m2⟩ := spare_some hl
    exact ⟨D, _, 0, .str z, rfl, rfl, .of eD, atI_nat (j := 0) (by rw [List.getElem?_map, h0]; rfl), q _ z (s1.trans sy) m1 m2⟩
end
end Ow

set_option Elab.async false
set_option linter.all false
set_option maxRecDepth 100000
set_option maxHeartbeats 4000000
set_option exponentiation.threshold 3000
namespace Ow
open PySem PySem.Spec PyProof.Rows L2
/-! ### data whose text fits -/
structure Fit (d : PyData) (k w : Nat) : Prop where
  sh : d.showable = true
  nd : d.hasDict = false
  dp : d.depth ≤ k
  ln : d.shown.length ≤ w
theorem Fit.mono {d : PyData} {k w k' w' : Nat} (h : Fit d k w) (hk : k ≤ k') (hw : w ≤ w') : Fit d k' w' := ⟨h.sh, h.nd, Nat.le_trans h.dp hk, Nat.le_trans h.ln hw⟩
theorem shAll (ds : List PyData) : PyData.shownAll ds = ds.map PyData.shown := by
  induction ds with
  | nil => rfl
  | cons d ds ih => rw [List.map_cons, ← ih]; rfl
theorem sumLe {α : Type} {f : α → Nat} {c : Nat} : ∀ {xs : List α}, (∀ x ∈ xs, f x ≤ c) → (xs.map f).sum ≤ c * xs.length
  | [], _ => by simp
  | x :: xs, h => by
    rw [List.map_cons, List.sum_cons, List.length_cons, Nat.mul_succ]
    have a := h x List.mem_cons_self
    have b := sumLe (xs := xs) fun y hy => h y (List.mem_cons_of_mem _ hy)
    omega
theorem fitAll {k w : Nat} : ∀ {ds : List PyData}, (∀ d ∈ ds, Fit d k w) → PyData.showableAll ds = true ∧ PyData.hasDictAll ds = false ∧ PyData.depthAll ds ≤ k
  | [], _ => ⟨rfl, rfl, Nat.zero_le _⟩
  | d :: ds, h => by
    obtain ⟨a, b, c⟩ := fitAll fun e he => h e (List.mem_cons_of_mem _ he)
    have hd := h d List.mem_cons_self
    refine ⟨?_, ?_, ?_⟩
    · show (PyData.showable d && PyData.showableAll ds) = true
      rw [hd.sh, a]
      rfl
    · show (PyData.hasDict d || PyData.hasDictAll ds) = false
      rw [hd.nd, b]
      rfl
    · show max (PyData.depth d) (PyData.depthAll ds) ≤ k
      have := hd.dp
      omega
theorem Fit.list {ds : List PyData} {k w : Nat} (h : ∀ d ∈ ds, Fit d k w) : Fit (.list ds) (k + 1) ((w + 2) * ds.length + 3) := by
  obtain ⟨a, b, c⟩ := fitAll h
  refine ⟨a, b, Nat.succ_le_succ c, ?_⟩
  have e : (PyData.list ds).shown = listText (PyData.shownAll ds) := rfl
  rw [e, shAll]
  have := listText_len_le (ds.map PyData.shown)
  rw [List.map_map, List.length_map] at this
  have s := sumLe (f := (fun s : Str => s.length) ∘ PyData.shown) (c := w) (xs := ds) fun d hd => (h d hd).ln
  have m : (w + 2) * ds.length = w * ds.length + 2 * ds.length := Nat.add_mul _ _ _
  omega
theorem Fit.tuple {ds : List PyData} {k w : Nat} (h : ∀ d ∈ ds, Fit d k w) : Fit (.tuple ds) (k + 1) ((w + 2) * ds.length + 3) := by
  obtain ⟨a, b, c⟩ := fitAll h
  refine ⟨a, b, Nat.succ_le_succ c, ?_⟩
  have e : (PyData.tuple ds).shown = tupleText (PyData.shownAll ds) := rfl
  rw [e, shAll]
  have := tupleText_len_le (ds.map PyData.shown)
  rw [List.map_map, List.length_map] at this
  have s := sumLe (f := (fun s : Str => s.length) ∘ PyData.shown) (c := w) (xs := ds) fun d hd => (h d hd).ln
  have m : (w + 2) * ds.length = w * ds.length + 2 * ds.length := Nat.add_mul _ _ _
  omega
theorem small_fit : ∀ i < 60, (PyData.int ((i : Nat) : Int)).showable = true ∧ (PyData.int ((i : Nat) : Int)).shown.length ≤ 2 := by decide +kernel
theorem Fit.nat {i : Nat} (h : i < 60) : Fit (.int (i : Int)) 0 2 := ⟨(small_fit i h).1, rfl, Nat.le_refl _, (small_fit i h).2⟩
theorem Fit.bit {i : Int} (h : i = 0 ∨ i = 1) : Fit (.int i) 0 2 := by
  rcases h with rfl | rfl
  · exact Fit.nat (i := 0) (by decide)
  · exact Fit.nat (i := 1) (by decide)
theorem Fit.bool (b : Bool) : Fit (.bool b) 0 5 := ⟨rfl, rfl, Nat.zero_le _, by cases b <;> decide +kernel⟩
theorem Fit.str {z : Str} (h : z.length ≤ 8 ∧ ∀ c ∈ z.cps.toList, c < 128) : Fit (.str z) 0 82 := by
  refine ⟨rfl, rfl, Nat.zero_le _, ?_⟩
  have e : (PyData.str z).shown = reprText z := rfl
  rw [e]
  have := PySem.StrLaws.reprText_len z fun c hc => Nat.lt_of_lt_of_le (h.2 c hc) (by decide)
  omega
theorem name_fit {z : Str} (h : nameB (.str z) = true) : z.length ≤ 8 ∧ ∀ c ∈ z.cps.toList, c < 128 := by
  unfold nameB at h
  rw [Bool.and_eq_true, Bool.and_eq_true] at h
  refine ⟨of_decide_eq_true h.1.2, fun c hc => ?_⟩
  have := List.all_eq_true.mp h.2 c hc
  unfold signB at this
  rw [Bool.and_eq_true] at this
  have h2 := of_decide_eq_true this.2
  omega
theorem row_fit {r : List Int} {n : Nat} (hl : r.length ≤ n) (hb : ∀ b ∈ r, b = 0 ∨ b = 1) : Fit (rowD r) 1 (4 * n + 3) := by
  refine (Fit.tuple (ds := r.map PyData.int) (k := 0) (w := 2) fun d hd => ?_).mono (Nat.le_refl _) (by rw [List.length_map]; omega)
  obtain ⟨b, hb', rfl⟩ := List.mem_map.mp hd
  exact Fit.bit (hb b hb')
end Ow

set_option Elab.async false
set_option linter.all false
set_option maxRecDepth 100000
set_option maxHeartbeats 4000000
set_option exponentiation.threshold 3000
namespace Ow
open PySem PySem.Spec PyProof.Rows L2
structure RuleP (P : Program) (w : World) (K : PySem.W.Frag) (mg : Str → Option Value) (base : Heap) (C : Addr) (nm fld : Str) (p g : Addr) (gd : FuncData) : Prop where
  hp : PropOf K C nm p g
  F : FnOk P w K mg base CX0 1 g gd ["self"] (getSp C fld)
  b : Binds K gd ["self"] []
theorem scIsR : FnScope ["made", "voters", "names", "tables", "name"] ["made", "voters", "names", "tables"] (defScope dIsTheRule) := ⟨rfl, rfl, rfl, by decide +kernel, rfl, by decide +kernel, by decide +kernel⟩
/-- the data that is told of a rule -/
def ruleData (v : Nat) (zs : List Str) (rs : List (List Int)) : PyData := .list [.int (v : Int), .tuple (zs.map .str), .list (rs.map rowD)]
theorem rule_fit {v : Nat} {zs : List Str} {rs : List (List Int)} (hv : v ≤ 4) (hl : zs.length ≤ 6) (hn : ∀ z ∈ zs, nameB (.str z) = true) (hr : rs.length ≤ 6) (hg : ∀ r ∈ rs, GoodT v r) : Fit (ruleData v zs rs) 3 2000 := by
  have f1 : Fit (.int (v : Int)) 2 600 := (Fit.nat (by omega)).mono (by decide) (by decide)
  have f2 : Fit (.tuple (zs.map .str)) 2 600 := (Fit.tuple (k := 0) (w := 82) fun d hd => by
    obtain ⟨z, hz, rfl⟩ := List.mem_map.mp hd
    exact Fit.str (name_fit (hn z hz))).mono (by decide) (by rw [List.length_map]; omega)
  have f3 : Fit (.list (rs.map rowD)) 2 600 := (Fit.list (k := 1) (w := 67) fun d hd => by
    obtain ⟨r, hr', rfl⟩ := List.mem_map.mp hd
    have g := hg r hr'
    refine row_fit (n := 16) ?_ fun b hb => ?_
    · rw [g.len]; exact pow4 hv
    · have := g.bits
      unfold bitsB at this
      have q := List.all_eq_true.mp this b hb
      rw [Bool.or_eq_true] at q
      exact q.imp of_decide_eq_true of_decide_eq_true).mono (by decide) (by rw [List.length_map]; omega)
  refine (Fit.list (k := 2) (w := 600) fun d hd => ?_).mono (Nat.le_refl _) (by show _ * 3 + 3 ≤ 2000; decide)
  rcases List.mem_cons.mp hd with rfl | hd
  · exact f1
  rcases List.mem_cons.mp hd with rfl | hd
  · exact f2
  rw [List.mem_singleton.mp hd]
  exact f3
theorem Fit.told {d : PyData} {k w : Nat} (h : Fit d k w) (hk : k ≤ 40) (hw : w ≤ 5000) (hi : ∀ i, d ≠ .int i) : d.showable = true ∧ d.hasDict = false ∧ d.depth ≤ 40 ∧ d.shown.length ≤ sizeLine ∧ (∀ i : Int, d = .int i → i.natAbs.log2 < 1920) :=
  ⟨h.sh, h.nd, Nat.le_trans h.dp hk, Nat.le_of_lt (small60 (Nat.le_trans h.ln hw)), fun i e => absurd e (hi i)⟩
section
variable {P : Program} {w : World} {K : PySem.W.Frag} {mg : Str → Option Value} {base : Heap} {C : Addr}
def spIsR (C : Addr) : Sp := fun vs H Q _ => ∃ (a ln lt : Addr) (v : Nat) (zs : List Str) (rs : List (List Int)) (tab : Str → List Int), vs = [.ref a, .int v, .ref ln, .ref lt] ∧ RuleAt C H a v zs tab ∧ H ln = some (.lst (zs.map V.str)) ∧ IsRows H (.ref lt) rs ∧ zs.map tab = rs ∧ v ≤ 4 ∧ zs.length ≤ 6 ∧
  (∀ z ∈ zs, nameB (.str z) = true) ∧ (∀ r ∈ rs, GoodT v r) ∧ ∀ H', Same H H' → Q (.bl true) H'
theorem ok_istherule {f g pv1 gv pi1 gi : Addr} {fd gd gdv gdi : FuncData} (R : RuleC K C) (G : RuleG P w K mg base C g gd) (PV : RuleP P w K mg base C "voters" "_voters" pv1 gv gdv) (PI : RuleP P w K mg base C "issues" "_issues" pi1 gi gdi)
    (F : Fun K "_law_is_the_rule" "_law_is_the_rule" dIsTheRule f fd) (mp : mg "repr" = none) (mt : mg "tuple" = none) (mls : mg "list" = none) : FnG P w K mg base 3 f fd ["made", "voters", "names", "tables"] (spIsR C) := by
  refine okG F scIsR (fun vs H Q E h => ?_) (fun cdv A outer s H vs Q E gB hr h => ?_)
  · obtain ⟨a, ln, lt, v, zs, rs, tab, rfl, _⟩ := h
    rfl
  obtain ⟨a, ln, lt, v, zs, rs, tab, rfl, hR, hln, ⟨lt', xs, e0, hlt, hxs⟩, hm, hv, hl, hn, hg, q⟩ := h
  cases e0
  refine ⟨_, pss_one (ps_ret (pe_cmpR op_eq
    (pe_callB (call_repr gB hr.units) (by rfl) mp boot_repr (pa_cons (pe_lst (pa_cons (pe_prop (pv 0) R.cl PV.hp PV.F (hr.mono (by decide)) PV.b .nil pass0 (by rfl)) (pa_cons (pe_prop (pv 0) R.cl PI.hp PI.F (hr.mono (by decide)) PI.b .nil pass0 (by rfl))
      (pa_cons (pe_lc (te := tIxO C (spGet C) E0 (tVar 0) (tVar 4)) (own := [("name", 4)]) (g := gName 4) (tt := tYes) rfl scIsR.nd (pi_list (pv 2)) (blkOk_by (N := ["made", "voters", "names", "tables", "name"]) (sc := defScope dIsTheRule) (by decide +kernel))
        (fun _ _ _ _ _ => pg_name (i := 4) scIsR.nd rfl (Or.inl rfl)) (fun _ _ _ _ _ => pts_nil)
        (fun _ _ _ _ _ => pe_ixO (pv 0) (pv 4) G.hn G.hm G.fn G.F (hr.mono (by decide)) G.b pass0)) pa_nil)))) pa_nil))
    (pe_callB (call_repr gB hr.units) (by rfl) mp boot_repr (pa_cons (pe_lst (pa_cons (pv 1) (pa_cons (pe_callTy call_tuple_of (by rfl) mt boot_tup (pa_cons (pv 2) pa_nil)) (pa_cons (pe_callTy call_list_of (by rfl) mls (by decide +kernel) (pa_cons (pv 3) pa_nil)) pa_nil)))) pa_nil)) (nomark _))), ?_⟩
  obtain ⟨dx, t, d, ha, ht, hd⟩ := id hR
  have lx := hxs.len
  have lr : rs.length = zs.length := by rw [← hm, List.length_map]
  obtain ⟨t1, t2, t3, t4, t5⟩ := (rule_fit hv hl hn (by omega) hg).told (by decide) (by decide) fun i => by unfold ruleData; intro z; cases z
  refine ⟨.ref a, rfl, a, dx, _, rfl, ha, a, dx, _, .int v, rfl, ha, rfl, .ref a, rfl, a, dx, _, rfl, ha, a, dx, _, .ref t, rfl, ha, rfl, .ref ln, rfl, ln, rfl, ⟨_, .of hln⟩, fun D nD => ?_⟩
  refine lc_map (M := No) (walk_list (K := K) (a := ln) (xs := zs.map V.str)) (by rw [List.length_map]; omega) Jg.no nD (fun i Hz y => ∃ z, zs[i]? = some z ∧ IsRow Hz y (tab z)) (fun _ _ _ _ tk ⟨z, e, r⟩ => ⟨z, e, r.tk tk⟩) (fun Hx g _ => .of (g.toSame _ _ hln))
    (fun i x Hx Hx' Kk hi g _ hY hK => ?_) (fun Hx ys g _ eD hlen hq => ?_)
  · obtain ⟨rfl, hx⟩ := hY
    rw [List.getElem?_map] at hx
    cases hz : zs[i]? with
    | none => rw [hz] at hx; cases hx
    | some z =>
      rw [hz] at hx
      cases hx
      have sx := g.toSame
      exact ⟨rfl, .ref a, rfl, .str z, rfl, a, dx, _, rfl, sx _ _ ha, a, z, v, zs, tab, rfl, hR.tk (Tk.same sx), List.mem_of_getElem? hz, fun H2 x s2 hx => hK _ _ (Gw.same s2) Jg.no ⟨z, hz, hx⟩⟩
  · have sx := g.toSame
    have hrows : All2 (IsRow Hx) ys rs := by
      refine All2.of_get (by rw [hlen, List.length_map, lr]) fun i y r hy hr' => ?_
      obtain ⟨z, hz, hrow⟩ := hq i y hy
      rw [← hm, List.getElem?_map, hz] at hr'
      cases hr'
      exact hrow
    refine ⟨(by show 3 ≤ sizeLine; decide), fun L nL => ?_⟩
    have sL : Same Hx (upd Hx L (.lst [.int v, .ref t, .ref D])) := same_new nL
    have eL : upd Hx L (.lst [.int v, .ref t, .ref D]) L = some (.lst [.int v, .ref t, .ref D]) := upd_same
    have nL' := nL
    generalize upd Hx L (.lst [.int v, .ref t, .ref D]) = Hy at sL eL ⊢
    have sy := sx.trans sL
    refine ⟨.ref L, ruleData v zs rs, rfl, .lst (.of eL) (.cons (.int _) (.cons (.tup (.of (sy _ _ ht)) (dp_strs zs)) (.cons (.lst (.of (sL _ _ eD)) (dp_all (all_tk (Tk.same sL) hrows))) .nil))), t1, t2, t3, t4, t5, ?_⟩
    refine ⟨.int v, rfl, .ref ln, rfl, ln, _, rfl, .inl ⟨.of (sy _ _ hln), fun l nl => ?_⟩⟩
    have sl : Same Hy (upd Hy l (.tup (zs.map V.str))) := same_new nl
    have el : upd Hy l (.tup (zs.map V.str)) l = some (.tup (zs.map V.str)) := upd_same
    generalize upd Hy l (.tup (zs.map V.str)) = Hz at sl el ⊢
    refine ⟨.ref lt, rfl, lt, xs, rfl, .inr (.of (sl _ _ (sy _ _ hlt))), fun l2 nl2 => ?_⟩
    have s2 : Same Hz (upd Hz l2 (.lst xs)) := same_new nl2
    have el2 : upd Hz l2 (.lst xs) l2 = some (.lst xs) := upd_same
    generalize upd Hz l2 (.lst xs) = Hw at s2 el2 ⊢
    refine ⟨(by show 3 ≤ sizeLine; decide), fun L2 nL2 => ?_⟩
    have s3 : Same Hw (upd Hw L2 (.lst [.int v, .ref l, .ref l2])) := same_new nL2
    have e3 : upd Hw L2 (.lst [.int v, .ref l, .ref l2]) L2 = some (.lst [.int v, .ref l, .ref l2]) := upd_same
    generalize upd Hw L2 (.lst [.int v, .ref l, .ref l2]) = Hv at s3 e3 ⊢
    have sAll := sy.trans (sl.trans (s2.trans s3))
    refine ⟨.ref L2, ruleData v zs rs, rfl, .lst (.of e3) (.cons (.int _) (.cons (.tup (.of (s3 _ _ (s2 _ _ el))) (dp_strs zs)) (.cons (.lst (.of (s3 _ _ el2)) (dp_all (all_tk (Tk.same sAll) hxs))) .nil))), t1, t2, t3, t4, t5, rfl, ?_⟩
    rw [decide_eq_true rfl]
    exact q Hv sAll
end
end Ow

set_option Elab.async false
set_option linter.all false
set_option maxRecDepth 100000
set_option maxHeartbeats 4000000
set_option exponentiation.threshold 3000
namespace Ow
open PySem PySem.Spec PyProof.Rows L2
abbrev arN : List Str := ["made", "voters", "names", "tables", "text", "odd", "name", "value"]
theorem scAllR : FnScope arN ["made", "voters", "names", "tables"] (defScope dAllRight) := ⟨rfl, rfl, rfl, by decide +kernel, rfl, by decide +kernel, by decide +kernel⟩
/-- the class's own words -/
structure RuleO (P : Program) (w : World) (K : PySem.W.Frag) (mg : Str → Option Value) (base : Heap) (C fC fL fS fI : Addr) (dC dL dS dI : FuncData) : Prop where
  mC : Meth K C "__contains__" fC
  FC : FnOk P w K mg base CX0 1 fC dC ["self", "value"] (spContA K C)
  bC : Binds K dC ["self", "value"] []
  mL : Meth K C "__len__" fL
  FL : FnOk P w K mg base CX0 1 fL dL ["self"] (spLen C)
  bL : Binds K dL ["self"] []
  mS : Meth K C "__str__" fS
  FS : FnOk P w K mg base CX0 1 fS dS ["self"] (spStrR C)
  bS : Binds K dS ["self"] []
  mI : Meth K C "__iter__" fI
  FI : FnN P w K mg base CX0 1 fI dI ["self"] (spIter C)
  bI : Binds K dI ["self"] []
theorem names_shaped {zs : List Str} (h : ∀ z ∈ zs, nameB (.str z) = true) : SeqAt.shaped (.list (zs.map .str)) = true := by
  unfold SeqAt.shaped
  have h1 : PyData.canLay0 (.list (zs.map .str)) = true := by
    show PyData.canLayAll0 (zs.map .str) = true
    induction zs with
    | nil => rfl
    | cons z zs ih =>
      show (PyData.canLay0 (.str z) && PyData.canLayAll0 (zs.map .str)) = true
      rw [ih fun y hy => h y (List.mem_cons_of_mem _ hy), Bool.and_true]
      show PyData.strOk z = true
      unfold PyData.strOk
      rw [← Array.all_toList, List.all_eq_true]
      intro c hc
      have := (name_fit (h z List.mem_cons_self)).2 c hc
      exact decide_eq_true (by omega)
  have h2 : PyData.depth (.list (zs.map .str)) ≤ 64 := by
    show PyData.depthAll (zs.map .str) + 1 ≤ 64
    have : PyData.depthAll (zs.map .str) = 0 := by
      clear h h1
      induction zs with
      | nil => rfl
      | cons z zs ih =>
        show max 0 (PyData.depthAll (zs.map .str)) = 0
        rw [ih]
        rfl
    omega
  rw [h1, decide_eq_true h2]
  rfl
/-- a text that is not among the names is not in the rule -/
theorem any_none {zs : List Str} {d : PyData} (h : ∀ z ∈ zs, PyData.eqv (.str z) d = false) : (zs.map PyData.str).any (fun z => PyData.eqv z d) = false := by
  rw [List.any_map, List.any_eq_false]
  intro z hz
  rw [Function.comp, h z hz]
  decide
theorem any_one {zs : List Str} {z : Str} (h : z ∈ zs) : (zs.map PyData.str).any (fun y => PyData.eqv y (.str z)) = true := by
  rw [List.any_map, List.any_eq_true]
  refine ⟨z, h, ?_⟩
  show PyData.eqv (.str z) (.str z) = true
  show (z == z) = true
  simp
def textStr (v n : Nat) : Str := ((((("rule of " : Str) ++ (toString (v : Int) : Str)) ++ (" voters, " : Str)) ++ (toString (n : Int) : Str)) ++ (" issues" : Str))
theorem text_eq (v n : Nat) : textStr v n = ruleStr v n := by
  have e : rs1 = ("rule of " : Str) := by decide +kernel
  unfold ruleStr rs4 rs3 rs2
  rw [e]
  rfl
theorem text_len : ∀ v : Nat, v < 5 → ∀ n : Nat, n < 61 → ("rule of " : Str).length + (toString (v : Int) : Str).length ≤ 200 ∧ (("rule of " : Str) ++ (toString (v : Int) : Str)).length + (" voters, " : Str).length ≤ 200 ∧
    ((("rule of " : Str) ++ (toString (v : Int) : Str)) ++ (" voters, " : Str)).length + (toString (n : Int) : Str).length ≤ 200 ∧ (((("rule of " : Str) ++ (toString (v : Int) : Str)) ++ (" voters, " : Str)) ++ (toString (n : Int) : Str)).length + (" issues" : Str).length ≤ 200 := by decide +kernel
theorem name_neA {z : Str} (h : nameB (.str z) = true) : (z == ("A" : Str)) = false := by
  rw [beq_eq_false_iff_ne]
  intro e
  rw [e] at h
  exact absurd h (by decide +kernel)
theorem name_ne0 {z : Str} (h : nameB (.str z) = true) : (z == ("" : Str)) = false := by
  rw [beq_eq_false_iff_ne]
  intro e
  rw [e] at h
  exact absurd h (by decide +kernel)
theorem spare_data : ∀ z ∈ spareL, SeqAt.shaped (.str z) = true := by decide +kernel
theorem odd_no {K : PySem.W.Frag} {H : Hp} {zs : List Str} {zp z0 : Str} {ln T e D : Addr} (hn : ∀ z ∈ zs, nameB (.str z) = true) (hp1 : zp ∈ spareL) (hp2 : zp ∉ zs) (h0 : z0 ∈ zs) (hln : H ln = some (.lst (zs.map V.str))) (hT : H T = some (.tup [.str z0])) (he : H e = some (.lst [])) (hD : H D = some (.dK [])) :
    ∀ x ∈ [V.non, .int 0, .str "", .ref ln, .str zp, .str "A", .ref T, .ref e, .ref D, .bl true], InAns K H x zs false := by
  intro x hx
  have sT : SeqAt.shaped (.tuple [.str z0]) = true := names_shaped (zs := [z0]) fun z hz => by rw [List.mem_singleton.mp hz]; exact hn z0 h0
  rcases List.mem_cons.mp hx with rfl | hx
  · exact .inl ⟨.none, .non, rfl, (any_none fun z _ => rfl).symm⟩
  rcases List.mem_cons.mp hx with rfl | hx
  · exact .inl ⟨.int 0, .int 0, rfl, (any_none fun z _ => rfl).symm⟩
  rcases List.mem_cons.mp hx with rfl | hx
  · exact .inl ⟨.str "", .str _, by decide +kernel, (any_none (d := .str "") fun z hz => name_ne0 (hn z hz)).symm⟩
  rcases List.mem_cons.mp hx with rfl | hx
  · exact .inl ⟨.list (zs.map .str), .lst (.of hln) (dp_strs zs), names_shaped hn, (any_none fun z _ => rfl).symm⟩
  rcases List.mem_cons.mp hx with rfl | hx
  · exact .inl ⟨.str zp, .str _, spare_data zp hp1, (any_none fun z hz => by
      show (z == zp) = false
      rw [beq_eq_false_iff_ne]
      intro q
      exact hp2 (by rw [← q]; exact hz)).symm⟩
  rcases List.mem_cons.mp hx with rfl | hx
  · exact .inl ⟨.str "A", .str _, by decide +kernel, (any_none (d := .str "A") fun z hz => name_neA (hn z hz)).symm⟩
  rcases List.mem_cons.mp hx with rfl | hx
  · exact .inl ⟨.tuple [.str z0], .tup (.of hT) (.cons (.str z0) .nil), sT, (any_none fun z _ => rfl).symm⟩
  rcases List.mem_cons.mp hx with rfl | hx
  · exact .inl ⟨.list [], .lst (.of he) .nil, rfl, (any_none fun z _ => rfl).symm⟩
  rcases List.mem_cons.mp hx with rfl | hx
  · exact .inr ⟨D, [], rfl, hD, rfl⟩
  rw [List.mem_singleton.mp hx]
  exact .inl ⟨.bool true, .bl true, rfl, (any_none fun z _ => rfl).symm⟩
section
variable {P : Program} {w : World} {K : PySem.W.Frag} {mg : Str → Option Value} {base : Heap} {C : Addr}
def spAllR (C : Addr) : Sp := fun vs H Q _ => ∃ (a ln lt : Addr) (v : Nat) (zs : List Str) (rs : List (List Int)) (tab : Str → List Int), vs = [.ref a, .int v, .ref ln, .ref lt] ∧ RuleAt C H a v zs tab ∧ H ln = some (.lst (zs.map V.str)) ∧ IsRows H (.ref lt) rs ∧ zs.map tab = rs ∧ v ≤ 4 ∧ zs.length ≤ 6 ∧ zs ≠ [] ∧
  (∀ z ∈ zs, nameB (.str z) = true) ∧ (∀ r ∈ rs, GoodT v r) ∧ ∀ H', Same H H' → Q (.bl true) H'
end
end Ow

set_option Elab.async false
set_option linter.all false
set_option maxRecDepth 100000
set_option maxHeartbeats 4000000
set_option exponentiation.threshold 3000
namespace Ow
open PySem PySem.Spec PyProof.Rows L2
section
variable {P : Program} {w : World} {K : PySem.W.Frag} {mg : Str → Option Value} {base : Heap} {C : Addr}
theorem names_shaped1 {z : Str} (h : nameB (.str z) = true) : SeqAt.shaped (.str z) = true := by
  have e := names_shaped (zs := [z]) fun y hy => by rw [List.mem_singleton.mp hy]; exact h
  unfold SeqAt.shaped at e ⊢
  rw [Bool.and_eq_true] at e
  have e1 : (PyData.canLay0 (.str z) && true) = true := e.1
  rw [Bool.and_true] at e1
  rw [e1]
  rfl
theorem eqv_strs : ∀ zs : List Str, PyData.eqv (.list (zs.map .str)) (.list (zs.map .str)) = true := fun zs => by
  show PyData.eqvAll (zs.map .str) (zs.map .str) = true
  induction zs with
  | nil => rfl
  | cons z zs ih =>
    show ((z == z) && PyData.eqvAll (zs.map .str) (zs.map .str)) = true
    rw [ih]
    simp
/-- the text that is due -/
def tText : TE := fun σ H Q => ∃ (v : Nat) (ln : Addr) (zs : List Str), σ[1]? = some (some (.int v)) ∧ σ[2]? = some (some (.ref ln)) ∧ H ln = some (.lst (zs.map V.str)) ∧ v < 5 ∧ zs.length < 61 ∧ ∀ tx : Str, tx = ruleStr v zs.length → Q (.str tx) H
theorem ok_allright {f fR fP fC fL fS fI : Addr} {fd fdR fdP dC dL dS dI : FuncData} (R : RuleC K C) (O : RuleO P w K mg base C fC fL fS fI dC dL dS dI)
    (F : Fun K "_law_all_right" "_law_all_right" dAllRight f fd) (FR : FnG P w K mg base 3 fR fdR ["made", "voters", "names", "tables"] (spIsR C)) (kR : PySem.W.keepIn K (.ref fR) = true) (bR : Binds K fdR ["made", "voters", "names", "tables"] []) (gR : mg "_law_is_the_rule" = some (.ref fR))
    (FP : FnOk P w K mg base CX0 1 fP fdP ["names"] spSpare) (kP : PySem.W.keepIn K (.ref fP) = true) (bP : Binds K fdP ["names"] []) (gP : mg "_law_spare" = some (.ref fP))
    (ms : mg "str" = none) (ml : mg "len" = none) (mls : mg "list" = none) : FnG P w K mg base 4 f fd ["made", "voters", "names", "tables"] (spAllR C) := by
  refine okG F scAllR (fun vs H Q E h => ?_) (fun cdv A outer s H vs Q E gB hr h => ?_)
  · obtain ⟨a, ln, lt, v, zs, rs, tab, rfl, _⟩ := h
    rfl
  obtain ⟨a, ln, lt, v, zs, rs, tab, rfl, hR, hln, hlt, hm, hv, hl, hz0, hn, hg, q⟩ := h
  refine ⟨_, pss_cons (ps_set (i := 4) scAllR.nd rfl (.inl rfl) (PE.of (t' := tText) (pe_op op_add_str (pe_op op_add_str (pe_op op_add_str (pe_op op_add_str pe_str (pe_callTy call_str_int (by rfl) ms (by decide +kernel) (pa_cons (pv 1) pa_nil))) pe_str) (pe_callTy call_str_int (by rfl) ms (by decide +kernel) (pa_cons (pe_callB call_len_seq (by rfl) ml PySem.boot_len (pa_cons (pv 2) pa_nil)) pa_nil))) pe_str) ?txt))
    (pss_cons (ps_if (PW.pt (pw_or (pt_not (pt_val (pe_callG FR gB hr (by rfl) gR kR bR (pa_cons (pv 0) (pa_cons (pv 1) (pa_cons (pv 2) (pa_cons (pv 3) pa_nil)))))))
        (pw_or (pt_cmpR op_ne (pe_callB (call_lenO O.mL O.FL (hr.mono (by decide)) O.bL pass0) (by rfl) ml PySem.boot_len (pa_cons (pv 0) pa_nil)) (pe_callB call_len_seq (by rfl) ml PySem.boot_len (pa_cons (pv 2) pa_nil)) (nomark _))
          (pw_or1 (pt_cmpR op_ne (pe_callTy (call_strO O.mS O.FS (hr.mono (by decide)) O.bS pass0) (by rfl) ms (by decide +kernel) (pa_cons (pv 0) pa_nil)) (pv 4) (nomark _)))))) (pss_one (ps_ret pe_bl)) pss_nil)
    (pss_cons (ps_set (i := 5) scAllR.nd rfl (.inl rfl) (pe_lst (pa_cons pe_non (pa_cons pe_int (pa_cons pe_str (pa_cons (pv 2) (pa_cons (pe_call FP (hr.mono (by decide)) (by rfl) gP kP bP .nil pass0 (pa_cons (pv 2) pa_nil)) (pa_cons pe_str (pa_cons (pe_tup (pa_cons (pe_ix ix_list (pv 2) pe_int (fun _ _ => rfl)) pa_nil)) (pa_cons (pe_lst pa_nil) (pa_cons pe_dnewK (pa_cons pe_bl pa_nil))))))))))))
    (pss_cons (ps_if (PW.pt (pw_or (pt_cmpR (op_neD (hu64 hr)) (pe_lc (te := tVar 6) (own := [("name", 6)]) (g := gName 6) (tt := tYes) rfl scAllR.nd (pi_own (pv 0) O.mI O.FI (hr.mono (by decide)) O.bI pass0) (blkOk_by (N := arN) (sc := defScope dAllRight) (by decide +kernel))
            (fun _ _ _ _ _ => pg_name (i := 6) scAllR.nd rfl (Or.inl rfl)) (fun _ _ _ _ _ => pts_nil) (fun _ _ _ _ _ => pv 6))
          (pe_callTy call_list_of (by rfl) mls (by decide +kernel) (pa_cons (pv 2) pa_nil)) (nomark _))
        (pw_or1 (pt_cmpR (op_neD (hu64 hr)) (pe_lc (te := tVar 6) (own := [("name", 6)]) (g := gName 6) (tt := tTest (tOp (rInO C (spContA K C) E0 true) (tVar 6) (tVar 0))) rfl scAllR.nd (pi_list (pv 2)) (blkOk_by (N := arN) (sc := defScope dAllRight) (by decide +kernel))
            (fun _ _ _ _ _ => pg_name (i := 6) scAllR.nd rfl (Or.inl rfl)) (fun _ _ _ _ _ => pts_one (pt_cmpR (op_notInO O.mC O.FC (hr.mono (by decide)) O.bC pass0) (pv 6) (pv 0) (by rfl))) (fun _ _ _ _ _ => pv 6)) (pe_lst pa_nil) (nomark _))))) (pss_one (ps_ret pe_bl)) pss_nil)
    (pss_one (ps_ret (pe_cmpR (op_eqD (hu64 hr)) (pe_lc (te := tVar 7) (own := [("value", 7)]) (g := gName 7) (tt := tTest (tOp (rInO C (spContA K C) E0 false) (tVar 7) (tVar 0))) rfl scAllR.nd (pi_list (pv 5)) (blkOk_by (N := arN) (sc := defScope dAllRight) (by decide +kernel))
            (fun _ _ _ _ _ => pg_name (i := 7) scAllR.nd rfl (Or.inl rfl)) (fun _ _ _ _ _ => pts_one (pt_cmpR (op_inO O.mC O.FC (hr.mono (by decide)) O.bC pass0) (pv 7) (pv 0) (by rfl))) (fun _ _ _ _ _ => pv 7)) (pe_lst pa_nil) (nomark _))))))), ?red⟩
  case txt =>
    intro σ Hx Qx h
    obtain ⟨v, ln, zs, e1, e2, hln, hv, hl, k⟩ := h
    obtain ⟨l1, l2, l3, l4⟩ := text_len v hv (zs.map V.str).length (by rw [List.length_map]; exact hl)
    have up : ∀ {n : Nat}, n ≤ 200 → n ≤ sizeLine := fun h => by rw [sizeLine_eq]; exact Nat.le_trans h (by decide)
    have lg : ∀ n : Nat, n < 61 → (n : Int).natAbs.log2 < 1920 := fun n h => by
      show (n : Nat).log2 < 1920
      exact Nat.lt_of_le_of_lt (Nat.log2_le_self n) (by omega)
    refine ⟨.int v, e1, (v : Int), rfl, lg v (by omega), _, _, rfl, rfl, up l1, _, _, rfl, rfl, up l2, .ref ln, e2, ln, _, rfl, .inl (.of hln), _, rfl, lg _ (by rw [List.length_map]; omega), _, _, rfl, rfl, up l3, _, _, rfl, rfl, up l4, ?_⟩
    refine k (textStr v (zs.map V.str).length) ?_
    rw [text_eq, List.length_map]
  case red =>
  obtain ⟨dx, t, d, ha, ht, hd⟩ := id hR
  refine ⟨v, ln, zs, rfl, rfl, hln, by omega, by omega, fun tx etx => ?_⟩
  refine ⟨.ref a, rfl, .int v, rfl, .ref ln, rfl, .ref lt, rfl, a, ln, lt, v, zs, rs, tab, rfl, hR, hln, hlt, hm, hv, hl, hn, hg, fun H1 s1 => ⟨true, rfl, iteF ?_⟩⟩
  have hR1 := hR.tk (Tk.same s1)
  have ha1 := s1 _ _ ha
  have hln1 := s1 _ _ hln
  refine ⟨.ref a, rfl, a, dx, _, rfl, ha1, a, v, zs, tab, rfl, hR1, _, rfl, Int.natCast_nonneg _, by omega, .ref ln, rfl, ln, _, rfl, .inl (.of hln1), rfl, false, ?_, iteF ?_⟩
  · rw [List.length_map]
    congr 1
    simp
  refine ⟨.ref a, rfl, a, dx, _, rfl, ha1, a, v, zs, tab, rfl, hR1, hv, by omega, _, rfl, .str tx, rfl, rfl, false, ?_, iteF ?_⟩
  · rw [← etx, decide_eq_true rfl]
    rfl
  cases zs with
  | nil => exact absurd rfl hz0
  | cons z0 zr =>
  refine ⟨.ref ln, rfl, .ref ln, rfl, ln, z0 :: zr, rfl, hln1, hl, fun H2 zp s2 hp1 hp2 => ?_⟩
  have hln2 := s2 _ _ hln1
  refine ⟨.ref ln, rfl, ln, _, 0, .str z0, rfl, rfl, .of hln2, atI_nat (j := 0) rfl, (by show 1 ≤ sizeLine; decide), fun T nT => ⟨Nat.zero_le _, fun e ne D nD => ⟨(by show 10 ≤ sizeLine; decide), fun od nod => ?_⟩⟩⟩
  have sT : Same H2 (upd H2 T (.tup [.str z0])) := same_new nT
  have sE := sT.trans (same_new (o := .lst []) ne)
  have sD := sE.trans (same_new (o := .dK []) nD)
  have sO := sD.trans (same_new (o := .lst [V.non, .int 0, .str "", .ref ln, .str zp, .str "A", .ref T, .ref e, .ref D, .bl true]) nod)
  have hT : upd (upd (upd (upd H2 T (.tup [.str z0])) e (.lst [])) D (.dK [])) od (.lst [V.non, .int 0, .str "", .ref ln, .str zp, .str "A", .ref T, .ref e, .ref D, .bl true]) T = some (.tup [.str z0]) :=
    same_new nod _ _ (same_new nD _ _ (same_new ne _ _ upd_same))
  have he : upd (upd (upd (upd H2 T (.tup [.str z0])) e (.lst [])) D (.dK [])) od (.lst [V.non, .int 0, .str "", .ref ln, .str zp, .str "A", .ref T, .ref e, .ref D, .bl true]) e = some (.lst []) :=
    same_new nod _ _ (same_new nD _ _ upd_same)
  have hD : upd (upd (upd (upd H2 T (.tup [.str z0])) e (.lst [])) D (.dK [])) od (.lst [V.non, .int 0, .str "", .ref ln, .str zp, .str "A", .ref T, .ref e, .ref D, .bl true]) D = some (.dK []) :=
    same_new nod _ _ upd_same
  have hod : upd (upd (upd (upd H2 T (.tup [.str z0])) e (.lst [])) D (.dK [])) od (.lst [V.non, .int 0, .str "", .ref ln, .str zp, .str "A", .ref T, .ref e, .ref D, .bl true]) od = some (.lst [V.non, .int 0, .str "", .ref ln, .str zp, .str "A", .ref T, .ref e, .ref D, .bl true]) := upd_same
  have sH : Same H (upd (upd (upd (upd H2 T (.tup [.str z0])) e (.lst [])) D (.dK [])) od (.lst [V.non, .int 0, .str "", .ref ln, .str zp, .str "A", .ref T, .ref e, .ref D, .bl true])) := s1.trans (s2.trans sO)
  generalize upd (upd (upd (upd H2 T (.tup [.str z0])) e (.lst [])) D (.dK [])) od (.lst [V.non, .int 0, .str "", .ref ln, .str zp, .str "A", .ref T, .ref e, .ref D, .bl true]) = H3 at hT he hD hod sH ⊢
  have ha3 := sH _ _ ha
  have ht3 := sH _ _ ht
  have hln3 := sH _ _ hln
  have hR3 := hR.tk (Tk.same sH)
  have shz := names_shaped hn
  refine ⟨.ref a, rfl, a, dx, _, t, rfl, ha3, fun n => ⟨a, v, dx, t, d, z0 :: zr, rfl, ha3, ht3, fun it hit hn => ⟨it, hn, rfl, hit, rfl⟩⟩, fun L nL => ?_⟩
  refine lc_map (M := No) (walk_tup (K := K) (a := t) (xs := (z0 :: zr).map V.str)) (by rw [List.length_map]; omega) Jg.no nL (fun i _ y => ((z0 :: zr).map V.str)[i]? = some y) (fun _ _ _ _ _ h => h) (fun Hx g _ => .of (g.toSame _ _ ht3))
    (fun i x Hx Hx' Kk hi g _ hY hK => ?_) (fun H4 ys g _ eL hlen hq => ?_)
  · obtain ⟨rfl, hx⟩ := hY
    exact ⟨rfl, x, rfl, hK _ _ (Gw.refl _) Jg.no hx⟩
  have s34 := g.toSame
  have eys : ys = (z0 :: zr).map V.str := List.ext_getElem? fun i => by
    cases hy : ys[i]? with
    | none => rw [List.getElem?_eq_none (by have := List.getElem?_eq_none_iff.mp hy; omega)]
    | some y => exact (hq i y hy).symm
  rw [eys] at eL
  refine ⟨.ref ln, rfl, ln, _, rfl, .inl (.of (s34 _ _ hln3)), fun l nl => ?_⟩
  have s45 : Same H4 (upd H4 l (.lst ((z0 :: zr).map V.str))) := same_new nl
  have el : upd H4 l (.lst ((z0 :: zr).map V.str)) l = some (.lst ((z0 :: zr).map V.str)) := upd_same
  generalize upd H4 l (.lst ((z0 :: zr).map V.str)) = H5 at s45 el ⊢
  have s35 := s34.trans s45
  refine ⟨.list ((z0 :: zr).map .str), .list ((z0 :: zr).map .str), .lst (.of (s45 _ _ eL)) (dp_strs _), .lst (.of el) (dp_strs _), shz, shz, false, by rw [eqv_strs]; rfl, iteF ?_⟩
  refine ⟨.ref ln, rfl, ln, rfl, ⟨_, .of (s35 _ _ hln3)⟩, fun L2 nL2 => ?_⟩
  refine lc_it (walk_list (K := K) (a := ln) (xs := (z0 :: zr).map V.str)) (fun i Hy => Same H5 Hy ∧ Hy L2 = some (.lst [])) ⟨same_new nL2, upd_same⟩ (fun i Hy _ h => .of (h.1 _ _ (s35 _ _ hln3))) (fun i x Hy Hy' hi h hY => ?_) (fun H6 h => ?_)
  · obtain ⟨sy, eD⟩ := h
    obtain ⟨rfl, hx⟩ := hY
    rw [List.getElem?_map] at hx
    cases hz : (z0 :: zr)[i]? with
    | none => rw [hz] at hx; cases hx
    | some z =>
      rw [hz] at hx
      cases hx
      have s3y := s35.trans sy
      have mz := List.mem_of_getElem? hz
      exact ⟨rfl, .str z, rfl, .ref a, rfl, a, dx, _, rfl, s3y _ _ ha3, a, .str z, v, z0 :: zr, tab, true, rfl, hR3.tk (Tk.same s3y), shz, .inl ⟨.str z, .str z, names_shaped1 (hn z mz), (any_one mz).symm⟩, true, rfl, false, rfl, iteF ⟨sy, eD⟩⟩
  obtain ⟨s56, eL2⟩ := h
  refine ⟨Nat.zero_le _, fun e2 ne2 => ?_⟩
  have s67 : Same H6 (upd H6 e2 (.lst [])) := same_new ne2
  have ee2 : upd H6 e2 (.lst []) e2 = some (.lst []) := upd_same
  generalize upd H6 e2 (.lst []) = H7 at s67 ee2 ⊢
  have s37 := s35.trans (s56.trans s67)
  refine ⟨.list [], .list [], .lst (.of (s67 _ _ eL2)) .nil, .lst (.of ee2) .nil, rfl, rfl, false, rfl, iteF ?_⟩
  refine ⟨.ref od, rfl, od, rfl, ⟨_, .of (s37 _ _ hod)⟩, fun L3 nL3 => ?_⟩
  refine lc_it (walk_list (K := K) (a := od) (xs := [V.non, .int 0, .str "", .ref ln, .str zp, .str "A", .ref T, .ref e, .ref D, .bl true])) (fun i Hy => Same H7 Hy ∧ Hy L3 = some (.lst [])) ⟨same_new nL3, upd_same⟩ (fun i Hy _ h => .of (h.1 _ _ (s37 _ _ hod))) (fun i x Hy Hy' hi h hY => ?_) (fun H8 h => ?_)
  · obtain ⟨sy, eD⟩ := h
    obtain ⟨rfl, hx⟩ := hY
    have s3y := s37.trans sy
    have no := odd_no (K := K) hn hp1 hp2 List.mem_cons_self (s3y _ _ hln3) (s3y _ _ hT) (s3y _ _ he) (s3y _ _ hD) x (List.mem_of_getElem? hx)
    exact ⟨rfl, x, rfl, .ref a, rfl, a, dx, _, rfl, s3y _ _ ha3, a, x, v, z0 :: zr, tab, false, rfl, hR3.tk (Tk.same s3y), shz, no, false, rfl, false, rfl, iteF ⟨sy, eD⟩⟩
  obtain ⟨s78, eL3⟩ := h
  refine ⟨Nat.zero_le _, fun e3 ne3 => ?_⟩
  have s89 : Same H8 (upd H8 e3 (.lst [])) := same_new ne3
  exact ⟨.list [], .list [], .lst (.of (s89 _ _ eL3)) .nil, .lst (.of upd_same) .nil, rfl, rfl, q _ (sH.trans (s37.trans (s78.trans s89)))⟩
end
end Ow

set_option Elab.async false
set_option linter.all false
set_option maxRecDepth 100000
set_option maxHeartbeats 4000000
set_option exponentiation.threshold 3000
namespace Ow
open PySem PySem.Spec PyProof.Rows L2
abbrev ceN : List Str := ["jug", "voters", "size", "names", "tables", "near", "one", "two", "twin", "turn", "value", "voter", "alone", "votes", "name", "person"]
theorem scCell : FnScope ceN ["jug"] (defScope dCell) := ⟨rfl, rfl, rfl, by decide +kernel, rfl, by decide +kernel, by decide +kernel⟩
def sPer : Scope := { kind := .function, names := [(".0", .local), ("person", .local), ("tuple", .globalImplicit), ("jug", .cell), ("names", .cell)], isGenerator := false, isCoroutine := false }
def sNam : Scope := { kind := .function, names := [(".0", .local), ("name", .local), ("_law_dip", .globalImplicit), ("jug", .free)], isGenerator := false, isCoroutine := false }
/-! ### sorted names -/
theorem asc_from : ∀ (r : List Str) (p : Str), (p :: r).Nodup → risingS p r = true → ascB (p :: r) = true
  | [], p, _, _ => rfl
  | x :: r, p, nd, h => by
    have nd' := List.nodup_cons.mp nd
    unfold risingS at h
    rw [Bool.and_eq_true] at h
    have ih := asc_from r x nd'.2 h.2
    show (ltS p x && ascB (x :: r)) = true
    rw [ih, Bool.and_true]
    unfold ltS
    rw [lt_meets]
    cases e : ltCps p.cps.toList x.cps.toList with
    | true => rfl
    | false =>
      have h1 : ltCps x.cps.toList p.cps.toList = false := by
        have := h.1
        cases q : ltCps x.cps.toList p.cps.toList with
        | true => rw [q] at this; cases this
        | false => rfl
      exact absurd (by rw [str_ext (ltCps_tri _ _ e h1)]; exact List.mem_cons_self : p ∈ x :: r) nd'.1
theorem asc_of : ∀ {ys : List Str}, ys.Nodup → sortedS ys = true → ascB ys = true
  | [], _, _ => rfl
  | y :: ys, nd, h => asc_from ys y nd h
theorem issues_of {zs ys : List Str} (pm : ys.Perm zs) (so : sortedS ys = true) (nd : zs.Nodup) (h1 : 1 ≤ zs.length) (h6 : zs.length ≤ 6) (hn : ∀ z ∈ zs, nameB (.str z) = true) : issuesB ys = true := by
  have l := pm.length_eq
  unfold issuesB namesB
  rw [asc_of (pm.nodup_iff.mpr nd) so, decide_eq_true (by omega), decide_eq_true (by omega)]
  have : (ys.all fun z => nameB (.str z)) = true := List.all_eq_true.mpr fun z hz => hn z (pm.mem_iff.mp hz)
  rw [this]
  rfl
/-- names as they are drawn, sorted -/
structure NamesOk (n : Nat) (zs : List Str) : Prop where
  len : zs.length = n
  h1 : 1 ≤ n
  h6 : n ≤ 6
  nd : zs.Nodup
  so : sortedS zs = true
  nm : ∀ z ∈ zs, nameB (.str z) = true
structure TabsOk (v n : Nat) (rs : List (List Int)) : Prop where
  len : rs.length = n
  g : ∀ r ∈ rs, GoodT v r
theorem NamesOk.all {v n : Nat} {zs : List Str} (h : NamesOk n zs) {tab : Str → List Int} (hg : ∀ z ∈ zs, GoodT v (tab z)) : AllOk v zs tab :=
  ⟨hg, by have := h.len; have := h.h6; omega, h.nd, fun z hz => by have := name_fit (h.nm z hz); exact ⟨by omega, this.2⟩, fun ys pm so => issues_of pm so h.nd (by have := h.len; have := h.h1; omega) (by have := h.len; have := h.h6; omega) h.nm⟩
theorem NamesOk.tab {v n : Nat} {zs : List Str} {rs : List (List Int)} (h : NamesOk n zs) (g : TabsOk v n rs) : zs.map (tabOf zs rs) = rs := tab_all h.nd (by rw [h.len, g.len])
theorem NamesOk.good {v n : Nat} {zs : List Str} {rs : List (List Int)} (h : NamesOk n zs) (g : TabsOk v n rs) : ∀ z ∈ zs, GoodT v (tabOf zs rs z) := fun z hz => by
  have : tabOf zs rs z ∈ zs.map (tabOf zs rs) := List.mem_map.mpr ⟨z, hz, rfl⟩
  rw [h.tab g] at this
  exact g.g _ this
/-- what stands behind the setup -/
structure CellF (C J : Addr) (v n : Nat) (zs : List Str) (rs us : List (List Int)) (ln lt lu o1 o2 o3 : Addr) (H : Hp) : Prop where
  jug : Jug H J
  hln : H ln = some (.lst (zs.map V.str))
  hlt : IsRows H (.ref lt) rs
  hlu : IsRows H (.ref lu) us
  r1 : RuleAt C H o1 v zs (tabOf zs rs)
  r2 : RuleAt C H o2 v zs (tabOf zs us)
  r3 : RuleAt C H o3 v zs (tabOf zs rs)
theorem CellF.tk {C J : Addr} {v n : Nat} {zs : List Str} {rs us : List (List Int)} {ln lt lu o1 o2 o3 : Addr} {H H' : Hp} (h : CellF C J v n zs rs us ln lt lu o1 o2 o3 H) (s : Sb J H H') (j : Jug H' J) (lnJ : ln ≠ J) : CellF C J v n zs rs us ln lt lu o1 o2 o3 H' := by
  obtain ⟨a, b, c, hj⟩ := id h.jug
  have tk := sb_tk s hj
  exact ⟨j, s _ _ lnJ h.hln, h.hlt.tk tk, h.hlu.tk tk, h.r1.tk tk, h.r2.tk tk, h.r3.tk tk⟩
end Ow

set_option Elab.async false
set_option linter.all false
set_option maxRecDepth 100000
set_option maxHeartbeats 4000000
set_option exponentiation.threshold 3000
namespace Ow
open PySem PySem.Spec PyProof.Rows L2
/-- the rule's own comparisons and its call -/
structure RuleQ (P : Program) (w : World) (K : PySem.W.Frag) (mg : Str → Option Value) (base : Heap) (C fE fC : Addr) (dE dC : FuncData) : Prop where
  mE : Meth K C "__eq__" fE
  FE : FnOk P w K mg base CX0 2 fE dE ["self", "other"] (spEqR K C)
  bE : Binds K dE ["self", "other"] []
  hne : PySem.W.findIn K (.ref C) "__ne__" = some (some (.builtin "object.__ne__"))
  hob : PySem.W.subIn K (.ref C) (.type "object") = some true
  mC : Meth K C "__call__" fC
  hC : PySem.W.fnIn K fC = true
  FC : FnOk P w K mg base CX0 6 fC dC ["self", "votes"] (spCallR C)
  bC : Binds K dC ["self", "votes"] []
theorem all_tabs {v n : Nat} {zs : List Str} {rs us : List (List Int)} (h : NamesOk n zs) (g : TabsOk v n rs) (g' : TabsOk v n us) : (zs.all fun z => decide (tabOf zs rs z = tabOf zs us z)) = decide (rs = us) := by
  rw [Bool.eq_iff_iff, List.all_eq_true, decide_eq_true_iff]
  constructor
  · intro q
    rw [← h.tab g, ← h.tab g']
    exact List.map_congr_left fun z hz => of_decide_eq_true (q z hz)
  · intro e z _
    rw [e]
    exact decide_eq_true rfl
abbrev stC (J : Addr) (v n : Nat) (ln lt lu o1 o2 o3 : Addr) (y9 y10 y11 y12 y13 y14 y15 : Option V) : L2.St := [some (.ref J), some (.int v), some (.int n), some (.ref ln), some (.ref lt), some (.ref lu), some (.ref o1), some (.ref o2), some (.ref o3), y9, y10, y11, y12, y13, y14, y15]
def tLoop1 (C : Addr) : TS := fun D σ H => ∃ (J : Addr) (v n : Nat) (zs : List Str) (rs us : List (List Int)) (ln lt lu o1 o2 o3 : Addr) (y9 y10 y11 y12 y13 y14 y15 : Option V), NamesOk n zs ∧ TabsOk v n rs ∧ TabsOk v n us ∧ 1 ≤ v ∧ v ≤ 4 ∧ ln ≠ J ∧ σ = stC J v n ln lt lu o1 o2 o3 y9 y10 y11 y12 y13 y14 y15 ∧
  CellF C J v n zs rs us ln lt lu o1 o2 o3 H ∧ ∀ H' z9 z10, Same H H' → D.nx (stC J v n ln lt lu o1 o2 o3 z9 z10 y11 y12 y13 y14 y15) H'
theorem PS.of2 {X : Cx} {st : Stmt} {t t' : TS} (h : PS X st t) (k : ∀ D σ H, t' D σ H → t D σ H) : PS X st t' :=
  ⟨fun pins s σ H D I q => h.run pins s σ H D I (k D σ H q)⟩
theorem CellF.same {C J : Addr} {v n : Nat} {zs : List Str} {rs us : List (List Int)} {ln lt lu o1 o2 o3 : Addr} {H H' : Hp} (h : CellF C J v n zs rs us ln lt lu o1 o2 o3 H) (s : Same H H') : CellF C J v n zs rs us ln lt lu o1 o2 o3 H' :=
  ⟨jug_same s h.jug, s _ _ h.hln, h.hlt.tk (Tk.same s), h.hlu.tk (Tk.same s), h.r1.tk (Tk.same s), h.r2.tk (Tk.same s), h.r3.tk (Tk.same s)⟩
theorem eq_rules {K : PySem.W.Frag} {C a b : Addr} {v : Nat} {zs : List Str} {tab tab' : Str → List Int} {e neg : Bool} {H : Hp} {Qv : VK} (R : RuleC K C) (RI : RuleI K C) (ra : RuleAt C H a v zs tab) (rb : RuleAt C H b v zs tab')
    (he : (zs.all fun z => decide (tab z = tab' z)) = e) (q : Qv (.bl (if neg then !e else e)) H) : rEqO K C (spEqR K C) E0 neg (.ref a) (.ref b) H Qv := by
  obtain ⟨dx, t, d, ha, _⟩ := id ra
  obtain ⟨dx', t', d', hb, _⟩ := id rb
  exact ⟨a, dx, _, .ref C, rfl, ha, RI.ty R.cl hb, notFirst_self, a, .ref b, v, zs, tab, rfl, ra, .inr ⟨b, v, zs, tab', rfl, rb, .inr ⟨rfl, rfl, e, congrArg V.bl he, q⟩⟩⟩
theorem eq_other {K : PySem.W.Frag} {C a : Addr} {x : V} {v : Nat} {zs : List Str} {tab : Str → List Int} {neg : Bool} {H : Hp} {Qv : VK} {T : String} (RI : RuleI K C) (ra : RuleAt C H a v zs tab) (hT : T ∈ kinds) (ty : TyX K H x (.type T))
    (q : Qv (.bl (if neg then true else false)) H) : rEqO K C (spEqR K C) E0 neg (.ref a) x H Qv := by
  obtain ⟨dx, t, d, ha, _⟩ := id ra
  exact ⟨a, dx, _, .type T, rfl, ha, ty, (RI.non T hT).2, a, x, v, zs, tab, rfl, ra, .inl ⟨T, hT, ty, false, rfl, q⟩⟩
theorem four_fit (a b c d : Bool) : Fit (.list [.bool a, .bool b, .bool c, .bool d]) 1 60 := (Fit.list (k := 0) (w := 5) fun x hx => by
  rcases List.mem_cons.mp hx with rfl | hx
  · exact Fit.bool _
  rcases List.mem_cons.mp hx with rfl | hx
  · exact Fit.bool _
  rcases List.mem_cons.mp hx with rfl | hx
  · exact Fit.bool _
  rw [List.mem_singleton.mp hx]
  exact Fit.bool _).mono (Nat.le_refl _) (by show 7 * 4 + 3 ≤ 60; decide)
def stmtC (i : Nat) : Stmt := (defBody dCell).getD i (.Pass ⟨0, 0, 0, 0⟩)
section
variable {P : Program} {w : World} {K : PySem.W.Frag} {mg : Str → Option Value} {base : Heap} {C : Addr}
abbrev cxC (P : Program) (w : World) (K : PySem.W.Frag) (mg : Str → Option Value) (base : Heap) (f : Addr) (cdv : Value) (A : Around) (outer : List Env) (s : Shared) (H : Hp) (E : XK) : Cx := (cxOf CX0 P w K mg base ceN "_law_cell_right" (defScope dCell) f cdv A outer s H E).nox
theorem ps_loop1 {fE fC fA fCo fL fS fI : Addr} {dE dC fdA dCo dL dS dI : FuncData} (R : RuleC K C) (RI : RuleI K C) (Q : RuleQ P w K mg base C fE fC dE dC) (O : RuleO P w K mg base C fCo fL fS fI dCo dL dS dI)
    (FA : FnG P w K mg base 4 fA fdA ["made", "voters", "names", "tables"] (spAllR C)) (kA : PySem.W.keepIn K (.ref fA) = true) (bA : Binds K fdA ["made", "voters", "names", "tables"] []) (gA : mg "_law_all_right" = some (.ref fA))
    (mr : mg "range" = none) (mp : mg "repr" = none) (ms : mg "str" = none)
    {f : Addr} {cdv : Value} {A : Around} {outer : List Env} {s : Shared} {H : Hp} {E : XK} (gB : A.guards = some []) (hr : Room 9 (A.deeper (envOfC "_law_cell_right" (defScope dCell) s.heap.objs.size f cdv))) :
    PS (cxC P w K mg base f cdv A outer s H E) (stmtC 6) (tLoop1 C) := by
  refine PS.of2 (ps_for PassesOwn.never rfl (pi_range1 (by rfl) mr (pa_cons pe_int pa_nil)) (pg_name (i := 9) scCell.nd rfl (.inl rfl))
    (pss_cons (ps_if (PW.pt (pw_or (pt_not (pt_val (pe_callG FA gB (hr.mono (by decide)) (by rfl) gA kA bA (pa_cons (pv 6) (pa_cons (pv 1) (pa_cons (pv 3) (pa_cons (pv 4) pa_nil)))))))
        (pw_or (pt_not (pt_val (pe_callG FA gB (hr.mono (by decide)) (by rfl) gA kA bA (pa_cons (pv 7) (pa_cons (pv 1) (pa_cons (pv 3) (pa_cons (pv 5) pa_nil)))))))
          (pw_or1 (pt_cmpR (op_neO Q.mE Q.hne Q.hob Q.FE (hr.mono (by decide)) Q.bE pass0) (pv 6) (pv 8) (by rfl)))))) (pss_one (ps_ret pe_bl)) pss_nil)
    (pss_cons (ps_if (pt_cmpR op_ne
        (pe_callB (call_repr gB hr.units) (by rfl) mp boot_repr (pa_cons (pe_lst (pa_cons (pe_cmpR (op_eqO Q.mE Q.FE (hr.mono (by decide)) Q.bE pass0) (pv 6) (pv 7) (by rfl)) (pa_cons (pe_cmpR (op_eqO Q.mE Q.FE (hr.mono (by decide)) Q.bE pass0) (pv 7) (pv 6) (by rfl))
          (pa_cons (pe_not (pe_cmpR (op_neO Q.mE Q.hne Q.hob Q.FE (hr.mono (by decide)) Q.bE pass0) (pv 6) (pv 7) (by rfl))) (pa_cons (pe_not (pe_cmpR (op_neO Q.mE Q.hne Q.hob Q.FE (hr.mono (by decide)) Q.bE pass0) (pv 7) (pv 6) (by rfl))) pa_nil))))) pa_nil))
        (pe_callB (call_repr gB hr.units) (by rfl) mp boot_repr (pa_cons (pe_op op_rep (pe_lst (pa_cons (pe_cmpR (op_eqD (hu64 hr)) (pv 4) (pv 5) (nomark _)) pa_nil)) pe_int) pa_nil)) (nomark _)) (pss_one (ps_ret pe_bl)) pss_nil)
    (pss_one (ps_if (pt_cmpR (op_neD (hu64 hr))
        (pe_lc (te := tVar 10) (own := [("value", 10)]) (g := gName 10) (tt := tOr (tTest (tOp (rEqO K C (spEqR K C) E0 false) (tVar 6) (tVar 10))) (tNot (tTest (tOp (rEqO K C (spEqR K C) E0 true) (tVar 6) (tVar 10))))) rfl scCell.nd
          (pi_list (pe_lst (pa_cons pe_non (pa_cons pe_int (pa_cons (pv 4) (pa_cons (pv 3) (pa_cons (pe_callTy (call_strO O.mS O.FS (hr.mono (by decide)) O.bS pass0) (by rfl) ms (by decide +kernel) (pa_cons (pv 6) pa_nil)) (pa_cons (pe_lst (pa_cons (pv 6) pa_nil)) pa_nil)))))))) (blkOk_by (N := ceN) (sc := defScope dCell) (by decide +kernel))
          (fun _ _ _ _ _ => pg_name (i := 10) scCell.nd rfl (Or.inl rfl))
          (fun _ _ _ _ _ => pts_one (PW.pt (pw_or (pt_cmpR (op_eqO Q.mE Q.FE (hr.mono (by decide)) Q.bE pass0) (pv 6) (pv 10) (by rfl)) (pw_or1 (pt_not (pt_cmpR (op_neO Q.mE Q.hne Q.hob Q.FE (hr.mono (by decide)) Q.bE pass0) (pv 6) (pv 10) (by rfl)))))))
          (fun _ _ _ _ _ => pv 10)) (pe_lst pa_nil) (nomark _)) (pss_one (ps_ret pe_bl)) pss_nil))))) ?red
  case red =>
  intro D σ Hx h
  obtain ⟨J, v, n, zs, rs, us, ln, lt, lu, o1, o2, o3, y9, y10, y11, y12, y13, y14, y15, hz, g1, g2, h1, h4, hlnJ, rfl, F, k⟩ := h
  have z6 : zs.length ≤ 6 := by have := hz.len; have := hz.h6; omega
  have zn : zs ≠ [] := fun e => by
    have l := hz.len
    have := hz.h1
    rw [e, List.length_nil] at l
    omega
  refine ⟨2, rfl, by decide, by decide, ?_⟩
  refine for_range (lo := 0) (n := 2) (fun i σ Hy => ∃ z9 z10, σ = stC J v n ln lt lu o1 o2 o3 z9 z10 y11 y12 y13 y14 y15 ∧ Same Hx Hy) ⟨y9, y10, rfl, Same.refl _⟩ (fun i σ Hy hi hP => ?_) (fun σ Hy hP => ?_)
  · obtain ⟨z9, z10, rfl, sy⟩ := hP
    have F1 := F.same sy
    refine ⟨.ref o1, rfl, .int v, rfl, .ref ln, rfl, .ref lt, rfl, o1, ln, lt, v, zs, rs, tabOf zs rs, rfl, F1.r1, F1.hln, F1.hlt, hz.tab g1, h4, z6, zn, hz.nm, g1.g, fun H1 s1 => ⟨true, rfl, iteF ?_⟩⟩
    have F2 := F1.same s1
    refine ⟨.ref o2, rfl, .int v, rfl, .ref ln, rfl, .ref lu, rfl, o2, ln, lu, v, zs, us, tabOf zs us, rfl, F2.r2, F2.hln, F2.hlu, hz.tab g2, h4, z6, zn, hz.nm, g2.g, fun H2 s2 => ⟨true, rfl, iteF ?_⟩⟩
    have F3 := F2.same s2
    refine ⟨.ref o1, rfl, .ref o3, rfl, eq_rules R RI F3.r1 F3.r3 (e := true) (by rw [all_tabs hz g1 g1]; exact decide_eq_true rfl) ⟨false, rfl, iteF ?_⟩⟩
    have e12 := all_tabs hz g1 g2
    have e21 : (zs.all fun z => decide (tabOf zs us z = tabOf zs rs z)) = decide (rs = us) := by
      rw [all_tabs hz g2 g1]
      exact decide_eq_decide.mpr ⟨Eq.symm, Eq.symm⟩
    generalize hee : decide (rs = us) = e at e12 e21
    refine ⟨.ref o1, rfl, .ref o2, rfl, eq_rules R RI F3.r1 F3.r2 e12 ⟨.ref o2, rfl, .ref o1, rfl, eq_rules R RI F3.r2 F3.r1 e21 ⟨.ref o1, rfl, .ref o2, rfl, eq_rules R RI F3.r1 F3.r2 e12 ⟨_, rfl, .ref o2, rfl, .ref o1, rfl, eq_rules R RI F3.r2 F3.r1 e21 ⟨_, rfl, (by show 4 ≤ sizeLine; decide), fun L nL => ?_⟩⟩⟩⟩⟩
    have sL : Same H2 (upd H2 L (.lst [.bl (if false = true then !e else e), .bl (if false = true then !e else e), .bl (!(if true = true then !e else e)), .bl (!(if true = true then !e else e))])) := same_new nL
    have eL : upd H2 L (.lst [.bl (if false = true then !e else e), .bl (if false = true then !e else e), .bl (!(if true = true then !e else e)), .bl (!(if true = true then !e else e))]) L = some (.lst [.bl (if false = true then !e else e), .bl (if false = true then !e else e), .bl (!(if true = true then !e else e)), .bl (!(if true = true then !e else e))]) := upd_same
    change _
    obtain ⟨t1, t2, t3, t4, t5⟩ := (four_fit e e (!!e) (!!e)).told (by decide) (by decide) fun i z => nomatch z
    refine ⟨.ref L, .list [.bool e, .bool e, .bool (!!e), .bool (!!e)], rfl, .lst (.of eL) (.cons (.bl _) (.cons (.bl _) (.cons (.bl _) (.cons (.bl _) .nil)))), t1, t2, t3, t4, t5, ?_⟩
    have F4 := F3.same sL
    refine ⟨.ref lt, rfl, .ref lu, rfl, rowsD rs, rowsD us, dp_rows F4.hlt, dp_rows F4.hlu, shaped_rows _, shaped_rows _, (by show 1 ≤ sizeLine; decide), fun L2 nL2 => ?_⟩
    rw [eqv_rows, hee]
    have s2' := same_new (o := .lst [.bl e]) nL2
    have e2 : upd (upd H2 L (.lst [.bl (if false = true then !e else e), .bl (if false = true then !e else e), .bl (!(if true = true then !e else e)), .bl (!(if true = true then !e else e))])) L2 (.lst [.bl e]) L2 = some (.lst [.bl e]) := upd_same
    refine ⟨L2, 4, [.bl e], rfl, rfl, e2, by decide, by decide, (by show 1 * 4 ≤ sizeLine; decide), fun L3 nL3 => ?_⟩
    have e3 : ∀ {Hz : Hp}, upd Hz L3 (.lst (List.replicate (Int.toNat 4) [V.bl e]).flatten) L3 = some (.lst [.bl e, .bl e, .bl e, .bl e]) := upd_same
    have s3' : Same _ (upd (upd (upd H2 L (.lst [.bl (if false = true then !e else e), .bl (if false = true then !e else e), .bl (!(if true = true then !e else e)), .bl (!(if true = true then !e else e))])) L2 (.lst [.bl e])) L3 (.lst (List.replicate (Int.toNat 4) [V.bl e]).flatten)) := same_new nL3
    obtain ⟨w1, w2, w3, w4, w5⟩ := (four_fit e e e e).told (by decide) (by decide) fun i z => nomatch z
    refine ⟨.ref L3, .list [.bool e, .bool e, .bool e, .bool e], rfl, .lst (.of e3) (.cons (.bl _) (.cons (.bl _) (.cons (.bl _) (.cons (.bl _) .nil)))), w1, w2, w3, w4, w5, rfl, false, ?_, iteF ?_⟩
    · rw [Bool.not_not, decide_eq_true rfl]
      rfl
    have F5 := (F4.same s2').same s3'
    have s25 := sL.trans (s2'.trans s3')
    change _
    generalize upd (upd (upd H2 L (.lst [.bl (if false = true then !e else e), .bl (if false = true then !e else e), .bl (!(if true = true then !e else e)), .bl (!(if true = true then !e else e))])) L2 (.lst [.bl e])) L3 (.lst (List.replicate (Int.toNat 4) [V.bl e]).flatten) = H5 at F5 s25 ⊢
    obtain ⟨dx, t, d, ho1, _⟩ := id F5.r1
    obtain ⟨tt, xs, ett, htt, _⟩ := id F5.hlt
    cases ett
    refine ⟨.ref lt, rfl, .ref ln, rfl, .ref o1, rfl, o1, dx, _, rfl, ho1, o1, v, zs, tabOf zs rs, rfl, F5.r1, h4, by omega, _, rfl, .ref o1, rfl, (by show 1 ≤ sizeLine; decide), fun M1 nM1 => ⟨(by show 6 ≤ sizeLine; decide), fun M2 nM2 => ?_⟩⟩
    have sM1 := same_new (o := .lst [.ref o1]) nM1
    have sM2 := sM1.trans (same_new (o := .lst [V.non, .int 0, .ref lt, .ref ln, .str (ruleStr v zs.length), .ref M1]) nM2)
    have eM1 : upd (upd H5 M1 (.lst [.ref o1])) M2 (.lst [V.non, .int 0, .ref lt, .ref ln, .str (ruleStr v zs.length), .ref M1]) M1 = some (.lst [.ref o1]) := same_new nM2 _ _ upd_same
    have eM2 : upd (upd H5 M1 (.lst [.ref o1])) M2 (.lst [V.non, .int 0, .ref lt, .ref ln, .str (ruleStr v zs.length), .ref M1]) M2 = some (.lst [V.non, .int 0, .ref lt, .ref ln, .str (ruleStr v zs.length), .ref M1]) := upd_same
    have F6 := F5.same sM2
    have htt6 := sM2 _ _ htt
    have s56 := s25.trans sM2
    generalize upd (upd H5 M1 (.lst [.ref o1])) M2 (.lst [V.non, .int 0, .ref lt, .ref ln, .str (ruleStr v zs.length), .ref M1]) = H6 at eM1 eM2 F6 htt6 s56 ⊢
    refine ⟨M2, rfl, ⟨_, .of eM2⟩, fun Lc nLc => ?_⟩
    refine lc_it (walk_list (K := K) (a := M2) (xs := [V.non, .int 0, .ref lt, .ref ln, .str (ruleStr v zs.length), .ref M1])) (fun i Hy => Same H6 Hy ∧ Hy Lc = some (.lst [])) ⟨same_new nLc, upd_same⟩ (fun i Hy _ h => .of (h.1 _ _ eM2)) (fun i x Hy Hy' hi h hY => ?_) (fun H7 h => ?_)
    · obtain ⟨sz, eD⟩ := h
      obtain ⟨rfl, hx⟩ := hY
      have F7 := F6.same sz
      have ty : ∃ T ∈ kinds, TyX K Hy' x (.type T) := by
        have m := List.mem_of_getElem? hx
        rcases List.mem_cons.mp m with rfl | m
        · exact ⟨"NoneType", by decide, .base .non⟩
        rcases List.mem_cons.mp m with rfl | m
        · exact ⟨"int", by decide, .base (.int 0)⟩
        rcases List.mem_cons.mp m with rfl | m
        · exact ⟨"tuple", by decide, .base (.tup (sz _ _ htt6))⟩
        rcases List.mem_cons.mp m with rfl | m
        · exact ⟨"list", by decide, .base (.lst F7.hln)⟩
        rcases List.mem_cons.mp m with rfl | m
        · exact ⟨"str", by decide, .base (.str _)⟩
        rw [List.mem_singleton.mp m]
        exact ⟨"list", by decide, .base (.lst (sz _ _ eM1))⟩
      obtain ⟨T, hT, tx⟩ := ty
      refine ⟨rfl, .ref o1, rfl, x, rfl, eq_other RI F7.r1 hT tx ⟨false, rfl, iteF ?_⟩⟩
      exact ⟨.ref o1, rfl, x, rfl, eq_other RI F7.r1 hT tx ⟨true, rfl, iteF ⟨sz, eD⟩⟩⟩
    obtain ⟨s67, eLc⟩ := h
    refine ⟨Nat.zero_le _, fun e4 ne4 => ?_⟩
    have s78 : Same H7 (upd H7 e4 (.lst [])) := same_new ne4
    exact ⟨.list [], .list [], .lst (.of (s78 _ _ eLc)) .nil, .lst (.of upd_same) .nil, rfl, rfl, false, rfl, iteF ⟨_, _, rfl, sy.trans (s1.trans (s2.trans (s56.trans (s67.trans s78))))⟩⟩
  · obtain ⟨z9, z10, rfl, sy⟩ := hP
    exact k Hy z9 z10 sy
end
end Ow

set_option Elab.async false
set_option linter.all false
set_option maxRecDepth 100000
set_option maxHeartbeats 4000000
set_option exponentiation.threshold 3000
namespace Ow
open PySem PySem.Spec PyProof.Rows L2
/-! ### what a voter's table says -/
theorem rows_at : ∀ v < 5, ∀ r ∈ rowsN v, (rowsN v)[(placeN r).toNat]? = some r := by decide +kernel
theorem bits_mem : ∀ (v : Nat) (r : List Int), r.length = v → (∀ b ∈ r, b = 0 ∨ b = 1) → r ∈ rowsN v
  | 0, r, hl, _ => by
    rw [List.eq_nil_of_length_eq_zero hl]
    exact List.mem_singleton.mpr rfl
  | v + 1, r, hl, hb => by
    have hne : r ≠ [] := fun e => by rw [e] at hl; simp at hl
    have e := List.dropLast_concat_getLast hne
    have ih := bits_mem v r.dropLast (by rw [List.length_dropLast, hl]; rfl) fun b h => hb b ((List.dropLast_sublist _).subset h)
    refine List.mem_flatMap.mpr ⟨r.dropLast, ih, ?_⟩
    rcases hb _ (List.getLast_mem hne) with q | q
    · rw [q] at e
      rw [← e]
      simp
    · rw [q] at e
      rw [← e]
      simp
theorem follow_says {v i : Nat} (hv : v < 5) {bits : List Int} (hl : bits.length = v) (hb : ∀ b ∈ bits, b = 0 ∨ b = 1) : (followN v i).getD (placeN bits).toNat 0 = bits.getD i 0 := by
  have h := rows_at v hv bits (bits_mem v bits hl hb)
  unfold followN
  rw [List.getD_eq_getElem?_getD, List.getElem?_map, h]
  rfl
theorem voted_follow {v i n : Nat} (hv : v < 5) {us : List (List Int)} (hu : us.length = v) (hb : ∀ r ∈ us, BitsN n r) {u : List Int} (hi : us[i]? = some u) : votedN (List.replicate n (followN v i)) us = u := by
  have bu := hb u (List.mem_of_getElem? hi)
  refine List.ext_getElem? fun k => ?_
  unfold votedN
  rw [List.length_replicate, List.getElem?_map]
  by_cases hk : k < n
  · rw [List.getElem?_range hk]
    show some (((List.replicate n (followN v i)).getD k []).getD (numN us k).toNat 0) = _
    rw [List.getD_eq_getElem?_getD (l := List.replicate n (followN v i)), List.getElem?_replicate, if_pos hk]
    show some ((followN v i).getD (numN us k).toNat 0) = _
    rw [← place_num, follow_says hv (by rw [List.length_map]; exact hu) fun b hb' => ?_]
    · rw [List.getD_eq_getElem?_getD, List.getElem?_map, hi, List.getElem?_eq_getElem (by rw [bu.1]; exact hk)]
      show some (u.getD k 0) = _
      rw [List.getD_eq_getElem?_getD, List.getElem?_eq_getElem (by rw [bu.1]; exact hk)]
      rfl
    · obtain ⟨r, hr, rfl⟩ := List.mem_map.mp hb'
      have br := hb r hr
      rw [List.getD_eq_getElem?_getD, List.getElem?_eq_getElem (by rw [br.1]; exact hk)]
      exact br.2 _ (List.getElem_mem _)
  · rw [List.getElem?_eq_none (by rw [List.length_range]; omega), List.getElem?_eq_none (by rw [bu.1]; omega)]
    rfl
theorem getD_bit {r : List Int} (h : ∀ b ∈ r, b = 0 ∨ b = 1) (k : Nat) : r.getD k 0 = 0 ∨ r.getD k 0 = 1 := by
  rw [List.getD_eq_getElem?_getD]
  cases e : r[k]? with
  | none => exact .inl rfl
  | some b => exact h b (List.mem_of_getElem? e)
theorem voted_bits {v : Nat} {rs us : List (List Int)} (h : ∀ r ∈ rs, GoodT v r) : BitsN rs.length (votedN rs us) := by
  refine ⟨by unfold votedN; rw [List.length_map, List.length_range], fun b hb => ?_⟩
  unfold votedN at hb
  obtain ⟨i, hi, rfl⟩ := List.mem_map.mp hb
  rw [List.getD_eq_getElem?_getD (l := rs)]
  cases e : rs[i]? with
  | none => exact .inl rfl
  | some r => exact getD_bit (h r (List.mem_of_getElem? e)).bit _
theorem three_fit {a b c : List Int} (ha : BitsN a.length a) (hb : BitsN b.length b) (hc : BitsN c.length c) (la : a.length ≤ 60) (lb : b.length ≤ 60) (lc : c.length ≤ 60) : Fit (.list [rowD a, rowD b, rowD c]) 2 1000 := (Fit.list (k := 1) (w := 243) fun x hx => by
  rcases List.mem_cons.mp hx with rfl | hx
  · exact row_fit la ha.2
  rcases List.mem_cons.mp hx with rfl | hx
  · exact row_fit lb hb.2
  rw [List.mem_singleton.mp hx]
  exact row_fit lc hc.2).mono (Nat.le_refl _) (by show 245 * 3 + 3 ≤ 1000; decide)
theorem rows_ex {H : Hp} {B : List Int → Prop} : ∀ {ys : List V}, (∀ y ∈ ys, ∃ r, IsRow H y r ∧ B r) → ∃ us : List (List Int), All2 (IsRow H) ys us ∧ ∀ r ∈ us, B r
  | [], _ => ⟨[], .nil, fun _ h => nomatch h⟩
  | y :: ys, h => by
    obtain ⟨r, hr, hb⟩ := h y List.mem_cons_self
    obtain ⟨us, hu, hbs⟩ := rows_ex fun z hz => h z (List.mem_cons_of_mem _ hz)
    exact ⟨r :: us, .cons hr hu, fun q hq => by
      rcases List.mem_cons.mp hq with rfl | hq
      · exact hb
      · exact hbs q hq⟩
theorem bits_ex : ∀ {ys : List V}, (∀ y ∈ ys, ∃ b : Int, (b = 0 ∨ b = 1) ∧ y = .int b) → ∃ r : List Int, ys = r.map V.int ∧ ∀ b ∈ r, b = 0 ∨ b = 1
  | [], _ => ⟨[], rfl, fun _ h => nomatch h⟩
  | y :: ys, h => by
    obtain ⟨b, hb, rfl⟩ := h y List.mem_cons_self
    obtain ⟨r, rfl, hr⟩ := bits_ex fun z hz => h z (List.mem_cons_of_mem _ hz)
    exact ⟨b :: r, rfl, fun q hq => by
      rcases List.mem_cons.mp hq with rfl | hq
      · exact hb
      · exact hr q hq⟩
theorem follow_len (v i : Nat) : (followN v i).length = 2 ^ v := by unfold followN; rw [List.length_map, rowsN_len]
def rTupOf (K : PySem.W.Frag) : List V → Hp → VK → Prop := fun xs H Q => ∃ p ys, xs = [.ref p] ∧ ((SqL K H p ys ∧ ∀ l, H l = none → Q (.ref l) (upd H l (.tup ys))) ∨ (SqT K H p ys ∧ Q (.ref p) H))
def tLoop2 (C : Addr) : TS := fun D σ H => ∃ (J : Addr) (v n i : Nat) (zs : List Str) (rs us : List (List Int)) (ln lt lu o1 o2 o3 o4 : Addr) (y9 y10 y13 y14 y15 : Option V), NamesOk n zs ∧ TabsOk v n rs ∧ TabsOk v n us ∧ 1 ≤ v ∧ v ≤ 4 ∧ i < v ∧ ln ≠ J ∧ σ = stC J v n ln lt lu o1 o2 o3 y9 y10 (some (.int i)) (some (.ref o4)) y13 y14 y15 ∧
  CellF C J v n zs rs us ln lt lu o1 o2 o3 H ∧ RuleAt C H o4 v zs (fun _ => followN v i) ∧ ∀ H' z9 z13 z14 z15, Sb J H H' → CellF C J v n zs rs us ln lt lu o1 o2 o3 H' → RuleAt C H' o4 v zs (fun _ => followN v i) → D.nx (stC J v n ln lt lu o1 o2 o3 z9 y10 (some (.int i)) (some (.ref o4)) z13 z14 z15) H'
section
variable {P : Program} {w : World} {K : PySem.W.Frag} {mg : Str → Option Value} {base : Heap} {C : Addr}
theorem ps_loop2 {fE fC fD fV : Addr} {dE dC fdD fdV : FuncData} (R : RuleC K C) (Q : RuleQ P w K mg base C fE fC dE dC)
    (FD : FnOk P w K mg base CX0 1 fD fdD ["jug", "total"] spDip) (kD : PySem.W.keepIn K (.ref fD) = true) (bD : Binds K fdD ["jug", "total"] []) (gD : mg "_law_dip" = some (.ref fD))
    (FV : FnOk P w K mg base CX0 1 fV fdV ["tables", "votes"] spVoted) (kV : PySem.W.keepIn K (.ref fV) = true) (bV : Binds K fdV ["tables", "votes"] []) (gV : mg "_law_voted" = some (.ref fV))
    (mr : mg "range" = none) (mp : mg "repr" = none) (mt : mg "tuple" = none)
    {f : Addr} {cdv : Value} {A : Around} {outer : List Env} {s : Shared} {H : Hp} {E : XK} (gB : A.guards = some []) (hr : Room 9 (A.deeper (envOfC "_law_cell_right" (defScope dCell) s.heap.objs.size f cdv))) :
    PS (cxC P w K mg base f cdv A outer s H E) (stmtC 9) (tLoop2 C) := by
  refine PS.of2 (ps_for PassesOwn.never rfl (pi_range1 (by rfl) mr (pa_cons pe_int pa_nil)) (pg_name (i := 9) scCell.nd rfl (.inl rfl))
    (pss_cons (ps_set (i := 13) scCell.nd rfl (.inl rfl) (pe_callTy call_tuple_of (by rfl) mt boot_tup (pa_cons
      (pe_lc (te := tCB (rTupOf K) (tCons (tLc (iList K (tVar 3)) (gName 14) tYes (tCall spDip [] E0 (tCons (tVar 0) (tCons (tC (.int 2)) tNil))) ([(("name" : Str), 14)].map (·.2))) tNil)) (own := [("person", 15)]) (g := gName 15) (tt := tYes) rfl scCell.nd (pi_range1 (by rfl) mr (pa_cons (pv 1) pa_nil)) (blkOk_by (N := ceN) (sc := defScope dCell) (by decide +kernel))
        (fun _ _ _ _ _ => pg_name (i := 15) scCell.nd rfl (Or.inl rfl)) (fun _ _ _ _ _ => pts_nil)
        (fun _ _ _ _ _ => pe_callTy call_tuple_of (by rfl) mt boot_tup (pa_cons
          (pe_lc (own := [("name", 14)]) (g := gName 14) (tt := tYes) rfl scCell.nd (pi_list (pv 3)) (blkOk_by (N := ceN) (sc := sPer) (scope := sNam) (own := [("name", 14)]) (by decide +kernel))
            (fun _ _ _ _ _ => pg_name (i := 14) scCell.nd rfl (Or.inl rfl)) (fun _ _ _ _ _ => pts_nil)
            (fun _ _ _ _ _ => pe_call FD (hr.mono (by decide)) (by rfl) gD kD bD .nil pass0 (pa_cons (pv 0) (pa_cons pe_int pa_nil)))) pa_nil))) pa_nil)))
    (pss_one (ps_if (pt_cmpR op_ne
        (pe_callB (call_repr gB hr.units) (by rfl) mp boot_repr (pa_cons (pe_lst (pa_cons (pe_callO (pv 6) Q.mC Q.hC Q.FC (hr.mono (by decide)) Q.bC pass0 (pa_cons (pv 13) pa_nil)) (pa_cons (pe_callO (pv 7) Q.mC Q.hC Q.FC (hr.mono (by decide)) Q.bC pass0 (pa_cons (pv 13) pa_nil))
          (pa_cons (pe_callO (pv 12) Q.mC Q.hC Q.FC (hr.mono (by decide)) Q.bC pass0 (pa_cons (pv 13) pa_nil)) pa_nil)))) pa_nil))
        (pe_callB (call_repr gB hr.units) (by rfl) mp boot_repr (pa_cons (pe_lst (pa_cons (pe_call FV (hr.mono (by decide)) (by rfl) gV kV bV .nil pass0 (pa_cons (pv 4) (pa_cons (pv 13) pa_nil))) (pa_cons (pe_call FV (hr.mono (by decide)) (by rfl) gV kV bV .nil pass0 (pa_cons (pv 5) (pa_cons (pv 13) pa_nil)))
          (pa_cons (pe_ix ix_tup (pv 13) (pv 11) (fun _ _ => rfl)) pa_nil)))) pa_nil)) (nomark _)) (pss_one (ps_ret pe_bl)) pss_nil)))) ?red
  case red =>
  intro D σ Hx h
  obtain ⟨J, v, n, i, zs, rs, us, ln, lt, lu, o1, o2, o3, o4, y9, y10, y13, y14, y15, hz, g1, g2, h1, h4, hi, hlnJ, rfl, F, r4, k⟩ := h
  have z6 : zs.length ≤ 6 := by have := hz.len; have := hz.h6; omega
  refine ⟨6, rfl, by decide, by decide, ?_⟩
  refine for_range (lo := 0) (n := 6) (fun _ σ Hy => ∃ z9 z13 z14 z15, σ = stC J v n ln lt lu o1 o2 o3 z9 y10 (some (.int i)) (some (.ref o4)) z13 z14 z15 ∧ Sb J Hx Hy ∧ CellF C J v n zs rs us ln lt lu o1 o2 o3 Hy ∧ RuleAt C Hy o4 v zs (fun _ => followN v i))
    ⟨y9, y13, y14, y15, rfl, Sb.refl _ _, F, r4⟩ (fun t σ Hy _ hP => ?_) (fun σ Hy hP => ?_)
  · obtain ⟨z9, z13, z14, z15, rfl, sx, F1, r41⟩ := hP
    refine ⟨.int v, rfl, v, rfl, by omega, by omega, fun D1 nD1 => ?_⟩
    refine lc_map (M := At J) (walk_range (lo := 0) (n := v)) (by omega) (Jg.at_ F1.jug) nD1 (fun _ Hz y => ∃ r, IsRow Hz y r ∧ BitsN n r) (fun _ _ _ _ tk ⟨r, a, b⟩ => ⟨r, a.tk tk, b⟩) (fun _ _ _ => trivial)
      (fun j x Hw Hw' Kk hj g jg hY hK => ?_) (fun Hw ys g jg eD hlen hq => ?_)
    · obtain ⟨rfl, rfl⟩ := hY
      have hln' := g ln _ hlnJ F1.hln
      refine ⟨rfl, .ref ln, rfl, ln, rfl, ⟨_, .of hln'⟩, fun D2 nD2 => ?_⟩
      refine lc_map (M := At J) (walk_list (K := K) (a := ln) (xs := zs.map V.str)) (by rw [List.length_map]; omega) jg nD2 (fun _ _ y => ∃ b : Int, (b = 0 ∨ b = 1) ∧ y = .int b) (fun _ _ _ _ _ h => h) (fun Hz g2 _ => .of (g2 ln _ hlnJ hln'))
        (fun j2 x2 Hz Hz' Kk2 hj2 g2 jg2 hY2 hK2 => ?_) (fun Hz ws g2 jg2 eD2 hlen2 hq2 => ?_)
      · obtain ⟨rfl, _⟩ := hY2
        exact ⟨rfl, .ref J, rfl, J, 2, rfl, by decide, by decide, jg2.jug, fun H2 k2 sb2 j2 k0 k1 => hK2 _ _ sb2.gw (Jg.at_ j2) ⟨k2, by omega, rfl⟩⟩
      · obtain ⟨r, rfl, hr⟩ := bits_ex (ys := ws) fun y hy => by
          obtain ⟨j, hj⟩ := List.mem_iff_getElem?.mp hy
          exact hq2 j y hj
        rw [List.length_map, List.length_map, hz.len] at hlen2
        exact ⟨D2, _, rfl, .inl ⟨.of eD2, fun l nl => hK _ _ (g2.trans (Gw.new nl)) (jg2.new nl) ⟨r, ⟨l, rfl, upd_same⟩, hlen2, hr⟩⟩⟩
    · obtain ⟨us2, hrows, hbits⟩ := rows_ex (B := BitsN n) (ys := ys) fun y hy => by
        obtain ⟨j, hj⟩ := List.mem_iff_getElem?.mp hy
        exact hq j y hj
      refine ⟨D1, _, rfl, .inl ⟨.of eD, fun tv ntv => ?_⟩⟩
      have lus : us2.length = v := by rw [← hrows.len, hlen]
      have sw : Sb J Hy Hw := fun b o n e => g b o n e
      have stv : Same Hw (upd Hw tv (.tup ys)) := same_new ntv
      have htv : upd Hw tv (.tup ys) tv = some (.tup ys) := upd_same
      have hrows2 := all_tk (Tk.same stv) hrows
      have sb2 : Sb J Hy (upd Hw tv (.tup ys)) := sw.trans (.same stv)
      have j2 := jug_same stv jg.jug
      generalize upd Hw tv (.tup ys) = H2 at stv htv hrows2 sb2 j2 ⊢
      have F2 := F1.tk sb2 j2 hlnJ
      obtain ⟨ja, jb, jc, hj⟩ := id F1.jug
      have r42 := r41.tk (sb_tk sb2 hj)
      have hvotes : IsRows H2 (.ref tv) us2 := ⟨tv, ys, rfl, htv, hrows2⟩
      have hb' : ∀ r ∈ us2, BitsN zs.length r := by rw [hz.len]; exact hbits
      obtain ⟨dx1, t1, d1, ho1, _⟩ := id F2.r1
      refine ⟨.ref o1, rfl, o1, rfl, .ref tv, rfl, ⟨dx1, _, ho1⟩, o1, .ref tv, v, zs, tabOf zs rs, us2, rfl, F2.r1, hvotes, lus, h1, h4, by omega, hb', fun z hz' => (hz.good g1 z hz').len, fun H3 x1 s3 hx1 => ?_⟩
      have F3 := F2.same s3
      have r43 := r42.tk (Tk.same s3)
      obtain ⟨dx2, t2, d2, ho2, _⟩ := id F3.r2
      refine ⟨.ref o2, rfl, o2, rfl, .ref tv, rfl, ⟨dx2, _, ho2⟩, o2, .ref tv, v, zs, tabOf zs us, us2, rfl, F3.r2, hvotes.tk (Tk.same s3), lus, h1, h4, by omega, hb', fun z hz' => (hz.good g2 z hz').len, fun H4 x2 s4 hx2 => ?_⟩
      have s24 := s3.trans s4
      have r44 := r43.tk (Tk.same s4)
      obtain ⟨dx4, t4, d4, ho4, _⟩ := id r44
      refine ⟨.ref o4, rfl, o4, rfl, .ref tv, rfl, ⟨dx4, _, ho4⟩, o4, .ref tv, v, zs, _, us2, rfl, r44, hvotes.tk (Tk.same s24), lus, h1, h4, by omega, hb', fun z _ => follow_len v i, fun H5 x3 s5 hx3 => ?_⟩
      have s25 := s24.trans s5
      obtain ⟨u, hu⟩ : ∃ u, us2[i]? = some u := ⟨_, List.getElem?_eq_getElem (by omega)⟩
      have e3 : zs.map (fun _ => followN v i) = List.replicate n (followN v i) := by
        rw [← hz.len]
        exact List.map_const' ..
      rw [hz.tab g1] at hx1
      rw [hz.tab g2] at hx2
      rw [e3, voted_follow (by omega) lus hbits hu] at hx3
      have bu := hbits u (List.mem_of_getElem? hu)
      have b1 := voted_bits (us := us2) g1.g
      have b2 := voted_bits (us := us2) g2.g
      have n6 := hz.h6
      have ln1 := b1.1
      have ln2 := b2.1
      have lr1 := g1.len
      have lr2 := g2.len
      obtain ⟨q1, q2, q3, q4, q5⟩ := (three_fit (a := votedN rs us2) (b := votedN us us2) (c := u) ⟨rfl, b1.2⟩ ⟨rfl, b2.2⟩ ⟨rfl, bu.2⟩ (by omega) (by omega) (by have := bu.1; omega)).told (by decide) (by decide) fun i z => nomatch z
      refine ⟨(by show 3 ≤ sizeLine; decide), fun L nL => ?_⟩
      have sL : Same H5 (upd H5 L (.lst [x1, x2, x3])) := same_new nL
      have eL : upd H5 L (.lst [x1, x2, x3]) L = some (.lst [x1, x2, x3]) := upd_same
      generalize upd H5 L (.lst [x1, x2, x3]) = H6 at sL eL ⊢
      have s26 := s25.trans sL
      refine ⟨.ref L, .list [rowD (votedN rs us2), rowD (votedN us us2), rowD u], rfl, .lst (.of eL) (.cons (dp_row (hx1.tk (Tk.same (s4.trans (s5.trans sL))))) (.cons (dp_row (hx2.tk (Tk.same (s5.trans sL)))) (.cons (dp_row (hx3.tk (Tk.same sL))) .nil))), q1, q2, q3, q4, q5, ?_⟩
      have F6 := F2.same s26
      have hv6 := hvotes.tk (Tk.same s26)
      refine ⟨.ref lt, rfl, .ref tv, rfl, .ref lt, .ref tv, rs, us2, rfl, F6.hlt, hv6, by omega, by omega, fun r hr' => by rw [lus]; exact (g1.g r hr').len, by rw [lr1]; exact hbits, fun H7 w1 s7 hw1 => ?_⟩
      have F7 := F6.same s7
      refine ⟨.ref lu, rfl, .ref tv, rfl, .ref lu, .ref tv, us, us2, rfl, F7.hlu, hv6.tk (Tk.same s7), by omega, by omega, fun r hr' => by rw [lus]; exact (g2.g r hr').len, by rw [lr2]; exact hbits, fun H8 w2 s8 hw2 => ?_⟩
      have s28 := s26.trans (s7.trans s8)
      have hrows8 := all_tk (Tk.same s28) hrows2
      obtain ⟨w3, hw3e, hw3⟩ := hrows8.get' hu
      refine ⟨.ref tv, rfl, .int i, rfl, tv, ys, i, w3, rfl, rfl, .of (s28 _ _ htv), atI_nat (j := i) hw3e, (by show 3 ≤ sizeLine; decide), fun L2 nL2 => ?_⟩
      have sL2 : Same H8 (upd H8 L2 (.lst [w1, w2, w3])) := same_new nL2
      have eL2 : upd H8 L2 (.lst [w1, w2, w3]) L2 = some (.lst [w1, w2, w3]) := upd_same
      generalize upd H8 L2 (.lst [w1, w2, w3]) = H9 at sL2 eL2 ⊢
      refine ⟨.ref L2, .list [rowD (votedN rs us2), rowD (votedN us us2), rowD u], rfl, .lst (.of eL2) (.cons (dp_row (hw1.tk (Tk.same (s8.trans sL2)))) (.cons (dp_row (hw2.tk (Tk.same sL2))) (.cons (dp_row (hw3.tk (Tk.same sL2))) .nil))), q1, q2, q3, q4, q5, rfl, false, ?_, iteF ?_⟩
      · rw [decide_eq_true rfl]
        rfl
      have s29 := s28.trans sL2
      exact ⟨_, _, _, _, rfl, sx.trans (sb2.trans (.same s29)), F2.same s29, r42.tk (Tk.same s29)⟩
  · obtain ⟨z9, z13, z14, z15, rfl, sx, F1, r41⟩ := hP
    exact k Hy z9 z13 z14 z15 sx F1 r41
end
end Ow

set_option Elab.async false
set_option linter.all false
set_option maxRecDepth 100000
set_option maxHeartbeats 4000000
set_option exponentiation.threshold 3000
namespace Ow
open PySem PySem.Spec PyProof.Rows L2
def spCell2 : Sp := fun vs H Q _ => ∃ J : Addr, vs = [.ref J] ∧ Jug H J ∧ ∀ H', Sb J H H' → Q (.bl true) H'
theorem tkJ {J : Addr} {H H' : Hp} (s : Sb J H H') (j : Jug H J) : Tk H H' := by
  obtain ⟨a, b, c, e⟩ := j
  exact sb_tk s e
theorem NamesOk.ne {n : Nat} {zs : List Str} (h : NamesOk n zs) : zs ≠ [] := fun e => by
  have l := h.len
  have := h.h1
  rw [e, List.length_nil] at l
  omega
theorem par_read {i j : Nat} {ta tb : TE} {r : TS} {D : Ends} {σ : L2.St} {H : Hp} (h : ta σ H fun x H1 => tb σ H1 fun y H2 => ∃ v w, [x, y] = [v, w] ∧ r D ((σ.set i (some v)).set j (some w)) H2) :
    tSeq (tPar i j (tCons ta (tCons tb tNil))) r D σ H := h
section
variable {P : Program} {w : World} {K : PySem.W.Frag} {mg : Str → Option Value} {base : Heap} {C : Addr}
theorem ok_cell {f fE fC fA fCo fL fS fI fD fN fT fR fM fV fO fW po : Addr} {mc : Value} {fd dE dC fdA dCo dL dS dI fdD fdN fdT fdR fdM fdV fdO fdW : FuncData} (R : RuleC K C) (RI : RuleI K C) (Q : RuleQ P w K mg base C fE fC dE dC) (O : RuleO P w K mg base C fCo fL fS fI dCo dL dS dI)
    (F : Fun K "_law_cell_right" "_law_cell_right" dCell f fd)
    (FA : FnG P w K mg base 4 fA fdA ["made", "voters", "names", "tables"] (spAllR C)) (kA : PySem.W.keepIn K (.ref fA) = true) (bA : Binds K fdA ["made", "voters", "names", "tables"] []) (gA : mg "_law_all_right" = some (.ref fA))
    (FD : FnOk P w K mg base CX0 1 fD fdD ["jug", "total"] spDip) (kD : PySem.W.keepIn K (.ref fD) = true) (bD : Binds K fdD ["jug", "total"] []) (gD : mg "_law_dip" = some (.ref fD))
    (FN : FnOk P w K mg base CX0 3 fN fdN ["jug", "much"] spNames) (kN : PySem.W.keepIn K (.ref fN) = true) (bN : Binds K fdN ["jug", "much"] []) (gN : mg "_law_many_names" = some (.ref fN))
    (FT : FnOk P w K mg base CX0 4 fT fdT ["jug", "size", "voters"] spAnyTs) (kT : PySem.W.keepIn K (.ref fT) = true) (bT : Binds K fdT ["jug", "size", "voters"] []) (gT : mg "_law_any_tables" = some (.ref fT))
    (FR : FnOk P w K mg base CX0 2 fR fdR ["jug", "tables"] spNear) (kR : PySem.W.keepIn K (.ref fR) = true) (bR : Binds K fdR ["jug", "tables"] []) (gR : mg "_law_near" = some (.ref fR))
    (FM : FnOk P w K mg base CX0 9 fM fdM ["jug", "voters", "names", "tables"] (spMixed C)) (kM : PySem.W.keepIn K (.ref fM) = true) (bM : Binds K fdM ["jug", "voters", "names", "tables"] []) (gM : mg "_law_made_mixed" = some (.ref fM))
    (FV : FnOk P w K mg base CX0 1 fV fdV ["tables", "votes"] spVoted) (kV : PySem.W.keepIn K (.ref fV) = true) (bV : Binds K fdV ["tables", "votes"] []) (gV : mg "_law_voted" = some (.ref fV))
    (FO : FnOk P w K mg base CX0 9 fO fdO ["cls", "issues", "voters", "voter"] (spOfV C)) (bO : Binds K fdO ["cls", "issues", "voters", "voter"] []) (cr : ClX.CRead K C mc) (cm : ClX.CMet K C mc "of_voter" po fO) (gC : mg "Rule" = some (.ref C))
    (FW : FnOk P w K mg base CX0 2 fW fdW ["size", "voters", "voter"] spVT) (kW : PySem.W.keepIn K (.ref fW) = true) (bW : Binds K fdW ["size", "voters", "voter"] []) (gW : mg "_law_voter_tables" = some (.ref fW))
    (mr : mg "range" = none) (mp : mg "repr" = none) (ms : mg "str" = none) (mt : mg "tuple" = none) (mo : mg "sorted" = none) : FnG P w K mg base 10 f fd ["jug"] spCell2 := by
  refine okG F scCell (fun vs H Q E h => ?_) (fun cdv A outer s H vs Qk E gB hr h => ?_)
  · obtain ⟨J, rfl, _⟩ := h
    rfl
  obtain ⟨J, rfl, hJ, q⟩ := h
  have L1 : PS (cxC P w K mg base f cdv A outer s H E) (stmtC 6) (tLoop1 C) := ps_loop1 R RI Q O FA kA bA gA mr mp ms gB hr
  have L2 : PS (cxC P w K mg base f cdv A outer s H E) (stmtC 9) (tLoop2 C) := ps_loop2 R Q FD kD bD gD FV kV bV gV mr mp mt gB hr
  refine ⟨_, pss_cons (ps_par (i := 1) (j := 2) (by rfl) scCell.nd rfl rfl (by decide) rfl rfl
        (pa_cons (pe_op op_add pe_int (pe_call FD (hr.mono (by decide)) (by rfl) gD kD bD .nil pass0 (pa_cons (pv 0) (pa_cons pe_int pa_nil)))) (pa_cons (pe_op op_add pe_int (pe_call FD (hr.mono (by decide)) (by rfl) gD kD bD .nil pass0 (pa_cons (pv 0) (pa_cons pe_int pa_nil)))) pa_nil)) (by rfl))
    (pss_cons (ps_set (i := 3) scCell.nd rfl (.inr rfl) (pe_callB cr_sortedS (by rfl) mo (by decide +kernel) (pa_cons (pe_call FN (hr.mono (by decide)) (by rfl) gN kN bN .nil pass0 (pa_cons (pv 0) (pa_cons (pv 2) pa_nil))) pa_nil)))
    (pss_cons (ps_set (i := 4) scCell.nd rfl (.inl rfl) (pe_call FT (hr.mono (by decide)) (by rfl) gT kT bT .nil pass0 (pa_cons (pv 0) (pa_cons (pv 2) (pa_cons (pv 1) pa_nil)))))
    (pss_cons (ps_set (i := 5) scCell.nd rfl (.inl rfl) (pe_call FR (hr.mono (by decide)) (by rfl) gR kR bR .nil pass0 (pa_cons (pv 0) (pa_cons (pv 4) pa_nil))))
    (pss_cons (ps_asg (pe_tup (pa_cons (pe_call FM hr (by rfl) gM kM bM .nil pass0 (pa_cons (pv 0) (pa_cons (pv 1) (pa_cons (pv 3) (pa_cons (pv 4) pa_nil))))) (pa_cons (pe_call FM hr (by rfl) gM kM bM .nil pass0 (pa_cons (pv 0) (pa_cons (pv 1) (pa_cons (pv 3) (pa_cons (pv 5) pa_nil))))) pa_nil)))
        (pg_tup (by rfl) (pgs_cons (pg_name (i := 6) scCell.nd rfl (.inr rfl)) (pgs_cons (pg_name (i := 7) scCell.nd rfl (.inl rfl)) pgs_nil))))
    (pss_cons (ps_set (i := 8) scCell.nd rfl (.inl rfl) (pe_call FM hr (by rfl) gM kM bM .nil pass0 (pa_cons (pv 0) (pa_cons (pv 1) (pa_cons (pv 3) (pa_cons (pv 4) pa_nil))))))
    (pss_cons L1
    (pss_cons (ps_set (i := 11) scCell.nd rfl (.inl rfl) (pe_call FD (hr.mono (by decide)) (by rfl) gD kD bD .nil pass0 (pa_cons (pv 0) (pa_cons (pv 1) pa_nil))))
    (pss_cons (ps_set (i := 12) scCell.nd rfl (.inl rfl) (ClX.pe_cmeth (pe_glob (v := .ref C) (by rfl) gC rfl) cr cm (FO.raw bO .nil) hr pass0 (pa_cons (pe_callTy call_tuple_of (by rfl) mt boot_tup (pa_cons (pv 3) pa_nil)) (pa_cons (pv 1) (pa_cons (pv 11) pa_nil)))))
    (pss_cons L2
    (pss_one (ps_ret (pe_callG FA gB (hr.mono (by decide)) (by rfl) gA kA bA (pa_cons (pv 12) (pa_cons (pv 1) (pa_cons (pv 3) (pa_cons (pe_call FW (hr.mono (by decide)) (by rfl) gW kW bW .nil pass0 (pa_cons (pv 2) (pa_cons (pv 1) (pa_cons (pv 11) pa_nil)))) pa_nil)))))))))))))))), ?red⟩
  case red =>
  refine par_read ?_
  refine ⟨.ref J, rfl, J, 4, rfl, by decide, by decide, hJ, fun H1 k1 sb1 j1 k10 k1l => ⟨1, k1, rfl, rfl, .ref J, rfl, J, 6, rfl, by decide, by decide, j1, fun H2 k2 sb2 j2 k20 k2l => ⟨1, k2, rfl, rfl, ?_⟩⟩⟩
  obtain ⟨v, ev, hv1, hv4⟩ : ∃ v : Nat, 1 + k1 = (v : Int) ∧ 1 ≤ v ∧ v ≤ 4 := ⟨(1 + k1).toNat, by omega, by omega, by omega⟩
  obtain ⟨n, en, hn1, hn6⟩ : ∃ n : Nat, 1 + k2 = (n : Int) ∧ 1 ≤ n ∧ n ≤ 6 := ⟨(1 + k2).toNat, by omega, by omega, by omega⟩
  refine ⟨.int v, .int n, by rw [← ev, ← en], ?_⟩
  refine ⟨.ref J, rfl, .int n, rfl, J, n, rfl, j2, by omega, fun H3 p zs sb3 j3 np hp lz nd nm => ?_⟩
  refine ⟨p, zs, rfl, .of hp, by omega, fun ys ln pm so nln => ?_⟩
  have s4 : Same H3 (upd H3 ln (.lst (ys.map V.str))) := same_new nln
  have j4 := jug_same s4 j3
  have lnJ : ln ≠ J := jug_none j3 nln
  have hln4 : upd H3 ln (.lst (ys.map V.str)) ln = some (.lst (ys.map V.str)) := upd_same
  have sb4 : Sb J H (upd H3 ln (.lst (ys.map V.str))) := sb1.trans (sb2.trans (sb3.trans (.same s4)))
  generalize upd H3 ln (.lst (ys.map V.str)) = H4 at s4 j4 hln4 sb4 ⊢
  have hz : NamesOk n ys := ⟨by rw [pm.length_eq, lz], hn1, hn6, pm.nodup_iff.mpr nd, so, fun z h => nm z (pm.mem_iff.mp h)⟩
  have ly := hz.len
  refine ⟨.ref J, rfl, .int n, rfl, .int v, rfl, J, n, v, rfl, j4, hn1, by omega, hv1, hv4, fun H5 x5 rs sb5 j5 hx5 lr hg => ?_⟩
  have g1 : TabsOk v n rs := ⟨lr, hg⟩
  have hln5 := sb5 _ _ lnJ hln4
  have rne : rs ≠ [] := fun e => by rw [e, List.length_nil] at lr; omega
  refine ⟨.ref J, rfl, x5, rfl, J, v, x5, rs, rfl, j5, hx5, rne, by omega, hv1, hv4, hg, fun H6 x6 us sb6 j6 hx6 lu hgu => ?_⟩
  have g2 : TabsOk v n us := ⟨by omega, hgu⟩
  have hx56 := hx5.tk (tkJ sb6 j5)
  have hln6 := sb6 _ _ lnJ hln5
  obtain ⟨lt, xs5, rfl, hlt, hxs5⟩ := id hx56
  obtain ⟨lu, xs6, rfl, hlu, hxs6⟩ := id hx6
  have okr := hz.all (hz.good g1)
  have oku := hz.all (hz.good g2)
  refine ⟨.ref J, rfl, .int v, rfl, .ref ln, rfl, .ref lt, rfl, J, v, ln, lt, ys, rs, rfl, j6, hv1, hv4, hln6, hx56, by omega, okr, fun H7 o1 zs1 sb7 j7 _ pm1 so1 r1 => ?_⟩
  obtain rfl := sorted_unique pm1 (pm1.nodup_iff.mpr hz.nd) so1 hz.so
  have hln7 := sb7 _ _ lnJ hln6
  have tk7 := tkJ sb7 j6
  have hlt7 := hx56.tk tk7
  have hlu7 := hx6.tk tk7
  refine ⟨.ref J, rfl, .int v, rfl, .ref ln, rfl, .ref lu, rfl, J, v, ln, lu, zs1, us, rfl, j7, hv1, hv4, hln7, hlu7, by have := g2.len; omega, oku, fun H8 o2 zs2 sb8 j8 _ pm2 so2 r2 => ?_⟩
  obtain rfl := sorted_unique pm2 (pm2.nodup_iff.mpr hz.nd) so2 hz.so
  have hln8 := sb8 _ _ lnJ hln7
  have tk8 := tkJ sb8 j7
  have hlt8 := hlt7.tk tk8
  have hlu8 := hlu7.tk tk8
  have r18 := r1.tk tk8
  refine ⟨(by show 2 ≤ sizeLine; decide), fun T nT => ⟨T, [.ref o1, .ref o2], rfl, .of upd_same, rfl, _, _, rfl, _, _, rfl, rfl, ?_⟩⟩
  have sT : Same H8 (upd H8 T (.tup [.ref o1, .ref o2])) := same_new nT
  have j9 := jug_same sT j8
  have hln9 := sT _ _ hln8
  have hlt9 := hlt8.tk (Tk.same sT)
  have hlu9 := hlu8.tk (Tk.same sT)
  have r19 := r18.tk (Tk.same sT)
  have r29 := r2.tk (Tk.same sT)
  have sb9 : Sb J H (upd H8 T (.tup [.ref o1, .ref o2])) := sb4.trans (sb5.trans (sb6.trans (sb7.trans (sb8.trans (.same sT)))))
  generalize upd H8 T (.tup [.ref o1, .ref o2]) = H9 at j9 hln9 hlt9 hlu9 r19 r29 sb9 ⊢
  refine ⟨.ref J, rfl, .int v, rfl, .ref ln, rfl, .ref lt, rfl, J, v, ln, lt, zs2, rs, rfl, j9, hv1, hv4, hln9, hlt9, by omega, okr, fun H10 o3 zs3 sb10 j10 _ pm3 so3 r3 => ?_⟩
  obtain rfl := sorted_unique pm3 (pm3.nodup_iff.mpr hz.nd) so3 hz.so
  have tk10 := tkJ sb10 j9
  have C10 : CellF C J v n zs3 rs us ln lt lu o1 o2 o3 H10 := ⟨j10, sb10 _ _ lnJ hln9, hlt9.tk tk10, hlu9.tk tk10, r19.tk tk10, r29.tk tk10, r3⟩
  refine ⟨J, v, n, zs3, rs, us, ln, lt, lu, o1, o2, o3, _, _, _, _, _, _, _, hz, g1, g2, hv1, hv4, lnJ, rfl, C10, fun H11 z9 z10 s11 => ?_⟩
  have C11 := C10.same s11
  refine ⟨.ref J, rfl, .int v, rfl, J, v, rfl, by omega, by omega, C11.jug, fun H12 ki sb12 j12 k0 kv => ?_⟩
  have C12 := C11.tk sb12 j12 lnJ
  obtain ⟨i, rfl, hi⟩ : ∃ i : Nat, ki = (i : Int) ∧ i < v := ⟨ki.toNat, by omega, by omega⟩
  refine ⟨rfl, .ref ln, rfl, ln, _, rfl, .inl ⟨.of C12.hln, fun t nt => ?_⟩⟩
  have sT2 : Same H12 (upd H12 t (.tup (zs3.map V.str))) := same_new nt
  have C13 := C12.same sT2
  have ht13 : upd H12 t (.tup (zs3.map V.str)) t = some (.tup (zs3.map V.str)) := upd_same
  generalize upd H12 t (.tup (zs3.map V.str)) = H13 at sT2 C13 ht13 ⊢
  have okf : AllOk v zs3 (fun _ => followN v i) := hz.all fun z _ => follow_good hv4 hi
  refine ⟨.int v, rfl, .int i, rfl, t, v, i, zs3, rfl, ht13, hv1, hv4, hi, okf, issues_of (List.Perm.refl _) hz.so hz.nd (by omega) (by omega) hz.nm, fun H14 o4 zs4 s14 _ pm4 so4 r4 => ?_⟩
  obtain rfl := sorted_unique pm4 (pm4.nodup_iff.mpr hz.nd) so4 hz.so
  have C14 := C13.same s14
  refine ⟨J, v, n, i, zs4, rs, us, ln, lt, lu, o1, o2, o3, o4, _, _, _, _, _, hz, g1, g2, hv1, hv4, hi, lnJ, rfl, C14, r4, fun H15 z9 z13 z14 z15 sb15 C15 r415 => ?_⟩
  refine ⟨.ref o4, rfl, .int v, rfl, .ref ln, rfl, .int n, rfl, .int v, rfl, .int i, rfl, n, v, i, rfl, hn1, by omega, hv4, hi, fun H16 x16 s16 hx16 => ?_⟩
  obtain ⟨lx, xs, rfl, hlx, hxs⟩ := id hx16
  have e3 : zs4.map (fun _ => followN v i) = List.replicate n (followN v i) := by
    rw [← hz.len]
    exact List.map_const' ..
  refine ⟨o4, ln, lx, v, zs4, _, _, rfl, r415.tk (Tk.same s16), s16 _ _ C15.hln, hx16, e3, hv4, by omega, hz.ne, hz.nm, fun r hr' => ?_, fun H17 s17 => ?_⟩
  · rw [(List.mem_replicate.mp hr').2]
    exact follow_good hv4 hi
  · exact q _ (sb9.trans (sb10.trans ((Sb.same s11).trans (sb12.trans ((Sb.same (sT2.trans s14)).trans (sb15.trans (.same (s16.trans s17))))))))
end
end Ow

set_option Elab.async false
set_option linter.all false
set_option maxRecDepth 100000
set_option maxHeartbeats 4000000
set_option exponentiation.threshold 3000
namespace Ow
open PySem PySem.Spec PyProof.Rows L2
theorem scLaw : FnScope ["script", "at"] ["script"] (defScope dLaw) := ⟨rfl, rfl, rfl, by decide +kernel, rfl, by decide +kernel, by decide +kernel⟩
def t1 : List Int := [0, 1]
def t2 : List Int := [0, 0, 1, 1]
theorem good_1 : GoodT 1 t1 := ⟨rfl, by decide, rfl, rfl⟩
theorem good_2 : GoodT 2 t2 := ⟨rfl, by decide, rfl, rfl⟩
theorem name_a : NamesOk 1 ["a"] := ⟨rfl, by decide, by decide, by decide, rfl, fun z hz => by rw [List.mem_singleton.mp hz]; decide +kernel⟩
theorem one_all {v : Nat} {ns : List Int} (g : GoodT v ns) : AllOk v ["a"] (tabOf ["a"] [ns]) := name_a.all (name_a.good (rs := [ns]) ⟨rfl, fun r hr => by rw [List.mem_singleton.mp hr]; exact g⟩)
theorem sb_same {J : Addr} {H H' : Hp} (s : Sb J H H') (n : H J = none) : Same H H' := fun b o e => s b o (ne_of_none e n) e
theorem perm_a {ys : List Str} (pm : ys.Perm [("a" : Str)]) : ys = [("a" : Str)] := List.perm_singleton.mp pm
theorem shaped_ints (ns : List Int) : SeqAt.shaped (.list (ns.map .int)) = true := by
  unfold SeqAt.shaped
  have h : PyData.canLay0 (.list (ns.map .int)) = true := lay_ints ns
  have g : PyData.depth (.list (ns.map .int)) ≤ 64 := by
    show PyData.depthAll (ns.map .int) + 1 ≤ 64
    rw [depth_ints]
    decide
  rw [h, decide_eq_true g]
  rfl
theorem follow_2 : followN 2 0 = t2 := by decide +kernel
section
variable {P : Program} {w : World} {K : PySem.W.Frag} {mg : Str → Option Value} {base : Heap} {C : Addr}
def spLaw (K : PySem.W.Frag) : Sp := fun vs H Q _ => ∃ (a : Addr) (ns : List Int), vs = [.ref a] ∧ SqL K H a (ns.map V.int) ∧ ns.length ≤ 63 ∧ ∀ H', Q (.bl true) H'
theorem make_read {te : TE} {σ : L2.St} {H : Hp} {Q : VK} {E : XK} {v : Nat} {c : Int} {ns : List Int} (hc : c = (v : Int)) (h1 : 1 ≤ v) (h4 : v ≤ 4) (g : GoodT v ns)
    (hte : ∀ H1 (Q1 : VK), (∀ H2 t, Same H1 H2 → H2 t = some (.tup (ns.map V.int)) → Q1 (.ref t) H2) → te σ H1 Q1) (q : ∀ H' x, Same H H' → RuleAt C H' x v ["a"] (tabOf ["a"] [ns]) → Q (.ref x) H') :
    tMake C (spInit C) [] E (tCons (tC (.int c)) (tCons (tDisp [(tC (.str "a"), te)]) tNil)) σ H Q := by
  subst hc
  intro p np
  refine hte _ _ fun H2 t s2 ht => ?_
  have hp2 : H2 p = some (.dK []) := s2 _ _ upd_same
  have tp : t ≠ p := ne_of ht hp2 (by intro z; cases z)
  refine ⟨hp2, [(Sum.inr "a", .ref t)], rfl, by show 1 ≤ 15; decide, fun x dx nx ndx nex => ?_⟩
  have em : mergeK [] [((Sum.inr "a" : Key), V.ref t)] = ([(Sum.inr "a", V.ref t)] : List (Key × V)) := rfl
  rw [em] at nx ndx ⊢
  have sp : Same H (upd H2 p (.dK [(Sum.inr "a", .ref t)])) := fun b o e => by
    rw [upd_ne (ne_of_none e np)]
    exact s2 _ _ (same_new np _ _ e)
  have htp : upd H2 p (.dK [(Sum.inr "a", .ref t)]) t = some (.tup (ns.map V.int)) := by
    rw [upd_ne tp]
    exact ht
  have hpp : upd H2 p (.dK [(Sum.inr "a", .ref t)]) p = some (.dK [(Sum.inr "a", .ref t)]) := upd_same
  generalize upd H2 p (.dK [(Sum.inr "a", .ref t)]) = H3 at nx ndx sp htp hpp ⊢
  have sx : Same H3 (upd (upd H3 dx (.own x)) x (.ins C dx [])) := (same_new ndx).trans (same_new (by rw [upd_ne (fun e => nex e.symm)]; exact nx))
  refine ⟨x, dx, p, v, ["a"], tabOf ["a"] [ns], rfl, upd_same, h1, h4, ⟨_, sx _ _ hpp, .cons ⟨rfl, t, rfl, sx _ _ htp⟩ .nil⟩, one_all g, fun H' ys sb pm _ hR => ⟨rfl, ?_⟩⟩
  rw [perm_a pm] at hR
  refine q H' x (fun b o e => ?_) hR
  have e1 := sp _ _ e
  exact sb b o (fun z => by rw [z, nx] at e1; cases e1) (sx _ _ e1)
theorem op_read {r : R2} {ta tb : TE} {σ : L2.St} {H : Hp} {Q : VK} (h : ta σ H fun x H1 => tb σ H1 fun y H2 => r x y H2 Q) : tOp r ta tb σ H Q := h
theorem and_read {ta tb : TE} {D : Ends} {σ : L2.St} {H : Hp} (h : ta σ H fun x H1 => ∃ c, x = .bl c ∧ if c = true then tb σ H1 D.rt else D.rt (.bl false) H1) : tRet (tAndV ta tb) D σ H := h
theorem ne_rules {K : PySem.W.Frag} {C a b : Addr} {v v' : Nat} {zs zs' : List Str} {tab tab' : Str → List Int} {neg : Bool} {H : Hp} {Qv : VK} (R : RuleC K C) (RI : RuleI K C) (ra : RuleAt C H a v zs tab) (rb : RuleAt C H b v' zs' tab')
    (ne : v ≠ v') (q : Qv (.bl (if neg then true else false)) H) : rEqO K C (spEqR K C) E0 neg (.ref a) (.ref b) H Qv := by
  obtain ⟨dx, t, d, ha, _⟩ := id ra
  obtain ⟨dx', t', d', hb, _⟩ := id rb
  exact ⟨a, dx, _, .ref C, rfl, ha, RI.ty R.cl hb, notFirst_self, a, .ref b, v, zs, tab, rfl, ra, .inr ⟨b, v', zs', tab', rfl, rb, .inl ⟨ne, false, rfl, q⟩⟩⟩
theorem ok_law {f fC fJ fI fE fY fO po : Addr} {mc : Value} {fd fdC fdJ fdI dE dY fdO : FuncData} (R : RuleC K C) (RI : RuleI K C) (Qr : RuleQ P w K mg base C fE fY dE dY) (F : Fun K "law" "law" dLaw f fd)
    (FC : FnG P w K mg base 10 fC fdC ["jug"] spCell2) (kC : PySem.W.keepIn K (.ref fC) = true) (bC : Binds K fdC ["jug"] []) (gC : mg "_law_cell_right" = some (.ref fC))
    (FJ : FnOk P w K mg base CX0 1 fJ fdJ ["script", "at"] (spJug K)) (kJ : PySem.W.keepIn K (.ref fJ) = true) (bJ : Binds K fdJ ["script", "at"] []) (gJ : mg "_law_jug" = some (.ref fJ))
    (M : Mk K C fI) (FI : FnOk P w K mg base CX0 7 fI fdI ["self", "voters", "tables"] (spInit C)) (bI : Binds K fdI ["self", "voters", "tables"] []) (gR : mg "Rule" = some (.ref C))
    (FO : FnOk P w K mg base CX0 9 fO fdO ["cls", "issues", "voters", "voter"] (spOfV C)) (bO : Binds K fdO ["cls", "issues", "voters", "voter"] []) (cr : ClX.CRead K C mc) (cm : ClX.CMet K C mc "of_voter" po fO)
    {tV tX : Nat} (mV : mg "MAX_VOTERS" = some (.int 4 tV)) (mX : mg "MAX_VOTES" = some (.int 200000 tX))
    (mr : mg "range" = none) (ml : mg "len" = none) (mx : mg "max" = none) (mn : mg "min" = none) : FnG P w K mg base 11 f fd ["script"] (spLaw K) := by
  refine okG F scLaw (fun vs H Q E h => ?_) (fun cdv A outer s H vs Q E gB hr h => ?_)
  · obtain ⟨a, ns, rfl, _⟩ := h
    rfl
  obtain ⟨a, ns, rfl, hS, hl, q⟩ := h
  refine ⟨_, pss_cons (ps_if (pt_cmpR (op_neD (hu64 hr)) (pe_lst (pa_cons (pe_glob (v := .int 4) (by rfl) mV ⟨_, rfl⟩) (pa_cons (pe_glob (v := .int 200000) (by rfl) mX ⟨_, rfl⟩) pa_nil))) (pe_lst (pa_cons pe_int (pa_cons pe_int pa_nil))) (nomark _)) (pss_one (ps_ret pe_bl)) pss_nil)
    (pss_cons (ps_for PassesOwn.never rfl (pi_range1 (by rfl) mr (pa_cons (pe_callB (call_max2 rfl) (by rfl) mx boot_max (pa_cons pe_int
        (pa_cons (pe_callB (call_min2 rfl) (by rfl) mn boot_min (pa_cons pe_int (pa_cons (pe_callB call_len_seq (by rfl) ml PySem.boot_len (pa_cons (pv 0) pa_nil)) pa_nil))) pa_nil))) pa_nil)) (pg_name (i := 1) scLaw.nd rfl (.inl rfl))
      (pss_one (ps_if (pt_not (pt_val (pe_callG FC gB hr (by rfl) gC kC bC (pa_cons (pe_call FJ (hr.mono (by decide)) (by rfl) gJ kJ bJ .nil pass0 (pa_cons (pv 0) (pa_cons (pv 1) pa_nil))) pa_nil)))) (pss_one (ps_ret pe_bl)) pss_nil)))
    (pss_one (ps_ret (pe_and (pe_cmpR (op_neO Qr.mE Qr.hne Qr.hob Qr.FE (hr.mono (by decide)) Qr.bE pass0)
        (pe_make M FI (hr.mono (by decide)) (by rfl) gR bI .nil pass0 (pa_cons pe_int (pa_cons (pe_disp (pps_cons pe_str (pe_tup (pa_cons pe_int (pa_cons pe_int pa_nil))) pps_nil) rfl rfl (fun e => nomatch e) (by show 1 ≤ 15; decide)) pa_nil)))
        (pe_make M FI (hr.mono (by decide)) (by rfl) gR bI .nil pass0 (pa_cons pe_int (pa_cons (pe_disp (pps_cons pe_str (pe_tup (pa_cons pe_int (pa_cons pe_int (pa_cons pe_int (pa_cons pe_int pa_nil))))) pps_nil) rfl rfl (fun e => nomatch e) (by show 1 ≤ 15; decide)) pa_nil))) (by rfl))
      (pe_one (pe_cmpR (op_eqO Qr.mE Qr.FE (hr.mono (by decide)) Qr.bE pass0)
        (pe_make M FI (hr.mono (by decide)) (by rfl) gR bI .nil pass0 (pa_cons pe_int (pa_cons (pe_disp (pps_cons pe_str (pe_tup (pa_cons pe_int (pa_cons pe_int (pa_cons pe_int (pa_cons pe_int pa_nil))))) pps_nil) rfl rfl (fun e => nomatch e) (by show 1 ≤ 15; decide)) pa_nil)))
        (ClX.pe_cmeth (pe_glob (v := .ref C) (by rfl) gR rfl) cr cm (FO.raw bO .nil) (hr.mono (by decide)) pass0 (pa_cons (pe_tup (pa_cons pe_str pa_nil)) (pa_cons pe_int (pa_cons pe_int pa_nil)))) (by rfl))))))), ?_⟩
  refine ⟨(by show 2 ≤ sizeLine; decide), fun L1 n1 => ⟨(by show 2 ≤ sizeLine; decide), fun L2 n2 => ?_⟩⟩
  have a1 : Same H (upd H L1 (.lst [.int 4, .int 200000])) := same_new n1
  have a2 := same_new (o := .lst [.int 4, .int 200000]) n2
  have e1 := a2 L1 (.lst [.int 4, .int 200000]) upd_same
  refine ⟨.list ([4, 200000].map .int), .list ([4, 200000].map .int), .lst (.of e1) (dp_ints [4, 200000]), .lst (.of upd_same) (dp_ints [4, 200000]), shaped_ints _, shaped_ints _, _, rfl, ?_⟩
  have ee : PyData.eqv (.list ([4, 200000].map .int)) (.list ([4, 200000].map .int)) = true := by decide +kernel
  rw [ee]
  refine iteF ?_
  have s0 := a1.trans a2
  have hS0 := s0.seq hS
  generalize upd (upd H L1 (.lst [.int 4, .int 200000])) L2 (.lst [.int 4, .int 200000]) = H0 at s0 hS0 ⊢
  refine ⟨.ref a, rfl, a, _, rfl, .inl hS0, 6, _, rfl, 1, _, rfl, _, rfl, ?_, ?_, ?_⟩
  · split <;> split <;> omega
  · split <;> split <;> omega
  generalize (if (if (((ns.map V.int).length : Nat) : Int) < 6 then (((ns.map V.int).length : Nat) : Int) else 6) > 1 then (if (((ns.map V.int).length : Nat) : Int) < 6 then (((ns.map V.int).length : Nat) : Int) else 6) else 1) = m
  refine for_range (lo := 0) (n := m.toNat) (fun t σ Hx => ∃ y, σ = [some (.ref a), y] ∧ Same H0 Hx)
    ⟨none, rfl, Same.refl _⟩ (fun t σ Hx ht hP => ?_) (fun σ Hx hP => ?_)
  · obtain ⟨y, rfl, sx⟩ := hP
    refine ⟨.ref a, rfl, .int (0 + (t : Int)), rfl, a, ns, t, ?_, sx.seq hS0, fun H1 J s1 nJ jJ => ⟨J, rfl, jJ, fun H2 sb2 => ⟨true, rfl, iteF ⟨_, rfl, sx.trans fun b o e => ?_⟩⟩⟩⟩
    · show [V.ref a, V.int (0 + (t : Int))] = _
      rw [Int.zero_add]
    · exact sb2 b o (ne_of_none e nJ) (s1 _ _ e)
  obtain ⟨y, rfl, sx⟩ := hP
  dsimp only
  refine and_read (op_read ?_)
  refine make_read (v := 1) (ns := t1) rfl (by decide) (by decide) good_1 (fun H1 Q1 k1 => ⟨(by show 2 ≤ sizeLine; decide), fun t nt => k1 _ t (same_new nt) upd_same⟩) fun H1 r1 s1 hR1 => ?_
  refine make_read (v := 2) (ns := t2) rfl (by decide) (by decide) good_2 (fun H2 Q1 k1 => ⟨(by show 4 ≤ sizeLine; decide), fun t nt => k1 _ t (same_new nt) upd_same⟩) fun H2 r2 s2 hR2 => ?_
  refine ne_rules R RI (hR1.tk (Tk.same s2)) hR2 (by decide) ⟨true, rfl, iteT (op_read ?_)⟩
  refine make_read (v := 2) (ns := t2) rfl (by decide) (by decide) good_2 (fun H3 Q1 k1 => ⟨(by show 4 ≤ sizeLine; decide), fun t nt => k1 _ t (same_new nt) upd_same⟩) fun H3 r3 s3 hR3 => ?_
  refine ⟨rfl, (by show 1 ≤ sizeLine; decide), fun t nt => ?_⟩
  have okf : AllOk 2 ["a"] (fun _ => followN 2 0) := name_a.all fun z _ => follow_good (by decide) (by decide)
  refine ⟨t, 2, 0, ["a"], rfl, upd_same, by decide, by decide, by decide, okf, issues_of (List.Perm.refl _) name_a.so name_a.nd (by decide) (by decide) name_a.nm, fun H4 r4 ys s4 _ pm _ hR4 => ?_⟩
  rw [perm_a pm] at hR4
  refine eq_rules R RI (hR3.tk (Tk.same ((same_new nt).trans s4))) hR4 (e := true) (by decide +kernel) (q H4)
end
end Ow

set_option Elab.async false
set_option linter.all false
set_option maxRecDepth 100000
set_option maxHeartbeats 4000000
set_option exponentiation.threshold 3000
namespace Ow
open PySem PySem.Spec PyProof.Rows L2
/-- a def found by its name -/
theorem Fun.ofD {K : PySem.W.Frag} {x qual : Str} {st : Stmt} {f : Addr} {fd : FuncData} (F : FunD K x qual (defArgs st) (defBody st) (defScope st) [] [] f fd) : Fun K x qual st f fd := by
  obtain ⟨oc, od, dV, kV, doc, pm, an, cdv, ct, osl, rfl, lk, hcd, hD, hK⟩ := F.ex
  rcases hD with ⟨_, rfl⟩ | ⟨e, _⟩
  · exact ⟨⟨oc, od, kV, doc, pm, an, cdv, ct, osl, rfl, lk, hcd⟩, F.kp⟩
  · exact absurd rfl e
/-! a def behind a property, a classmethod: found by the address that the record names -/
abbrev Seen : Type := Option (Str × Str × Arguments × FuncBody × Scope × Addr × List (Str × Addr) × Value × Addr)
def seen (K : PySem.W.Frag) (a : Addr) : Seen := (K.lookup a).bind fun o => match o.data with
  | .func d => some (d.name, d.qualname, d.params, d.body, d.scope, d.globals, d.closure, d.defaults, d.builtins)
  | _ => none
def coded (K : PySem.W.Frag) (a : Addr) (q : Str) : Bool := match K.lookup a with
  | some o => (match o.data with
    | .func d => PySem.W.codeIn K d.code q
    | _ => false)
  | none => false
def want (x q : Str) (st : Stmt) : Seen := some (x, q, defArgs st, .stmts (defBody st), defScope st, mainGlobals, [], .none, builtinsNs)
theorem seen_fun {K : PySem.W.Frag} {x q : Str} {st : Stmt} {a : Addr} (e : seen K a = want x q st) (c : coded K a q = true) (k : PySem.W.keepIn K (.ref a) = true) : ∃ fd, FunD K x q (defArgs st) (defBody st) (defScope st) [] [] a fd := by
  unfold coded at c
  unfold seen want at e
  cases r : K.lookup a with
  | none =>
    rw [r] at c
    cases c
  | some o =>
    obtain ⟨oc, od, dt, osl⟩ := o
    rw [r] at c e
    cases dt with
    | func d =>
      obtain ⟨n1, n2, n3, n4, n5, n6, n7, n8, n9, n10, n11, n12, n13, n14, n15⟩ := d
      have e2 : (some (n1, n2, n3, n4, n5, n6, n7, n8, n15) : Seen) = some (x, q, defArgs st, .stmts (defBody st), defScope st, mainGlobals, [], .none, builtinsNs) := e
      simp only [Option.some.injEq, Prod.mk.injEq] at e2
      obtain ⟨h1, h2, h3, h4, h5, h6, h7, h8, h9⟩ := e2
      subst h1 h2 h3 h4 h5 h6 h7 h8 h9
      exact ⟨_, ⟨oc, od, .none, n9, n10, n11, n12, n13, n14, osl, rfl, r, c, .inl ⟨rfl, rfl⟩, .inl rfl⟩, k⟩
    | _ => cases c
/-- the def that the record of a property, a classmethod names -/
def recA (K : PySem.W.Frag) (p : Addr) (T : String) : Addr := match PySem.W.recIn K p T with
  | some (.ref g :: _) => g
  | _ => 0
def recB (K : PySem.W.Frag) (p : Addr) (T : String) : Bool := match PySem.W.recIn K p T with
  | some (.ref _ :: _) => true
  | _ => false
theorem recB_ok {K : PySem.W.Frag} {p : Addr} {T : String} (h : recB K p T = true) : ∃ rest, PySem.W.recIn K p T = some (.ref (recA K p T) :: rest) := by
  unfold recB at h
  unfold recA
  split at h
  · rename_i g r e
    rw [e]
    exact ⟨r, rfl⟩
  · cases h
def propB (K : PySem.W.Frag) (C : Addr) (f : Str) : Bool := He.eqO (PySem.W.findIn K (.ref C) f) (some (some (.ref (He.ma K C f)))) && (He.eqO (PySem.W.specialIn K (.ref (He.ma K C f)) "__get__") (some (some (.builtin "property.__get__"))) && (decide (PySem.W.takesIn K (.ref (He.ma K C f)) = some true) && recB K (He.ma K C f) "property"))
theorem propB_ok {K : PySem.W.Frag} {C : Addr} {f : Str} (h : propB K C f = true) : PropOf K C f (He.ma K C f) (recA K (He.ma K C f) "property") := by
  obtain ⟨h1, h⟩ := He.ba h
  obtain ⟨h2, h⟩ := He.ba h
  obtain ⟨h3, h4⟩ := He.ba h
  exact ⟨He.eqO_ok h1, He.eqO_ok h2, of_decide_eq_true h3, recB_ok h4⟩
def cmB (K : PySem.W.Frag) (C : Addr) (f : Str) : Bool := (match PySem.W.findCls K (.ref C) (.type "type") f with
  | some (.get (.builtin b) (.ref p) .none (.ref c)) => decide (b = "classmethod.__get__") && (decide (p = He.ma K C f) && decide (c = C))
  | _ => false) && (recB K (He.ma K C f) "classmethod" && PySem.W.fnIn K (recA K (He.ma K C f) "classmethod"))
theorem cmB_ok {K : PySem.W.Frag} {C : Addr} {f : Str} (h : cmB K C f = true) : ClX.CMet K C (.type "type") f (He.ma K C f) (recA K (He.ma K C f) "classmethod") := by
  obtain ⟨h1, h⟩ := He.ba h
  obtain ⟨h2, h3⟩ := He.ba h
  refine ⟨?_, recB_ok h2, h3⟩
  split at h1
  · rename_i b p c e
    obtain ⟨e1, h1⟩ := He.ba h1
    obtain ⟨e2, e3⟩ := He.ba h1
    rw [e, of_decide_eq_true e1, of_decide_eq_true e2, of_decide_eq_true e3]
  · cases h1
def crB (K : PySem.W.Frag) (C : Addr) : Bool := PySem.W.readsIn K C (.type "type") && He.eqO (PySem.W.specialIn K (.ref C) "__getattribute__") (some (some (.builtin "type.__getattribute__")))
theorem crB_ok {K : PySem.W.Frag} {C : Addr} (h : crB K C = true) : ClX.CRead K C (.type "type") := by
  obtain ⟨h1, h2⟩ := He.ba h
  exact ⟨h1, He.eqO_ok h2⟩
def kindB (K : PySem.W.Frag) (C : Addr) : Bool := He.eqO (PySem.W.findIn K (.ref C) "__class__") (some (some (.builtin "object.__class__"))) && (He.eqO (PySem.W.specialIn K (.builtin "object.__class__") "__get__") (some (some (.builtin "getset_descriptor.__get__"))) &&
  (decide (PySem.W.takesIn K (.builtin "object.__class__") = some true) && (decide (PySem.W.mroIn K C (.type "object") = some true) && (decide (PySem.W.kitOne K (.ref C) (.ref C) = some true) && kinds.all fun T => decide (PySem.W.kitOne K (.type T) (.ref C) = some false) && PySem.W.notFirst K C (.type T)))))
theorem kindB_ok {K : PySem.W.Frag} {C : Addr} (h : kindB K C = true) : RuleI K C := by
  obtain ⟨h1, h⟩ := He.ba h
  obtain ⟨h2, h⟩ := He.ba h
  obtain ⟨h3, h⟩ := He.ba h
  obtain ⟨h4, h⟩ := He.ba h
  obtain ⟨h5, h6⟩ := He.ba h
  exact ⟨He.eqO_ok h1, He.eqO_ok h2, of_decide_eq_true h3, of_decide_eq_true h4, of_decide_eq_true h5, fun T hT => by
    obtain ⟨a, b⟩ := He.ba (List.all_eq_true.mp h6 T hT)
    exact ⟨of_decide_eq_true a, b⟩⟩
/-! the head by facts -/
def dd (i : Nat) (x : Str) : He.DefD := ⟨(x, none), x, x, defArgs (topS i), defBody (topS i), defScope (topS i), [], []⟩
def dm (j : Nat) (m q : Str) : He.DefD := ⟨("Rule", some m), m, q, defArgs (inS 32 j), defBody (inS 32 j), defScope (inS 32 j), [], []⟩

def fns : List He.DefD := [dd 11 "is_integer", dd 12 "is_name", dd 13 "is_value", dd 14 "is_values", dd 15 "has_values", dd 16 "all_values", dd 17 "is_ascending", dd 18 "is_set_of_names", dd 21 "is_issues", dd 22 "has_issues_as_keys", dd 26 "need_issues", dd 27 "need_voters", dd 28 "_is_table", dd 29 "_are_tables", dd 30 "_follow_table", dd 31 "place_of", dm 0 "__init__" "Rule.__init__", dm 4 "__getitem__" "Rule.__getitem__", dm 6 "_are_votes" "Rule._are_votes", dm 5 "__call__" "Rule.__call__", dm 7 "__contains__" "Rule.__contains__", dm 8 "__len__" "Rule.__len__", dm 9 "__eq__" "Rule.__eq__", dm 10 "__str__" "Rule.__str__", dm 11 "__iter__" "Rule.__iter__", dd 34 "_law_voted", dd 35 "_law_jug", dd 36 "_law_dip", dd 37 "_law_choice", dd 38 "_law_jumbled", dd 39 "_law_all_rows", dd 40 "_law_voter_tables", dd 41 "_law_letter", dd 42 "_law_many_names", dd 43 "_law_spare", dd 44 "_law_any_table", dd 45 "_law_any_tables", dd 46 "_law_is_the_rule", dd 47 "_law_near", dd 48 "_law_all_right", dd 49 "_law_made_mixed", dd 50 "_law_cell_right", dd 51 "law"]
def fas : List He.Fa := [.glo "is_integer", .glo "is_name", .glo "is_value", .glo "is_values", .glo "has_values", .glo "all_values", .glo "is_ascending", .glo "is_set_of_names", .glo "is_issues", .glo "has_issues_as_keys", .glo "need_issues", .glo "need_voters", .glo "_is_table", .glo "_are_tables", .glo "_follow_table", .glo "place_of", .glo "_law_voted", .glo "_law_jug", .glo "_law_dip", .glo "_law_choice", .glo "_law_jumbled", .glo "_law_all_rows", .glo "_law_voter_tables", .glo "_law_letter", .glo "_law_many_names", .glo "_law_spare", .glo "_law_any_table", .glo "_law_any_tables", .glo "_law_is_the_rule", .glo "_law_near", .glo "_law_all_right", .glo "_law_made_mixed", .glo "_law_cell_right", .glo "law", .glo "Rule", .int "_BOUND" 1000000000000000000000000000000000000000000000000000000000000, .int "MAX_LETTERS" 8, .int "MAX_ISSUES" 6, .int "MAX_VOTERS" 4, .int "MAX_VOTES" 200000, .free "isinstance", .free "int", .free "bool", .free "str", .free "len", .free "all", .free "tuple", .free "range", .free "zip", .free "dict", .free "sorted", .free "list", .free "iter", .free "enumerate", .free "abs", .free "max", .free "min", .free "sum", .free "repr", .cls "Rule", .noat "Rule" "_voters", .noat "Rule" "_issues", .noat "Rule" "_tables", .meth "Rule" "_are_votes", .meth "Rule" "__getitem__", .meth "Rule" "__call__", .meth "Rule" "__contains__", .meth "Rule" "__len__", .meth "Rule" "__eq__", .meth "Rule" "__str__", .meth "Rule" "__iter__", .mkr "Rule"]
/-- more facts -/
abbrev aOf (K : PySem.W.Frag) : Addr := recA K (He.ma K (He.ga K "Rule") "of_voter") "classmethod"
abbrev aVo (K : PySem.W.Frag) : Addr := recA K (He.ma K (He.ga K "Rule") "voters") "property"
abbrev aIs (K : PySem.W.Frag) : Addr := recA K (He.ma K (He.ga K "Rule") "issues") "property"
def x1 (K : PySem.W.Frag) : Bool := PySem.W.noSeq K (He.ga K "Rule") && (PySem.W.fnIn K (He.ma K (He.ga K "Rule") "__getitem__") && (PySem.W.fnIn K (He.ma K (He.ga K "Rule") "__call__") &&
  (He.eqO (PySem.W.findIn K (.ref (He.ga K "Rule")) "__ne__") (some (some (.builtin "object.__ne__"))) && decide (PySem.W.subIn K (.ref (He.ga K "Rule")) (.type "object") = some true))))
def x2 (K : PySem.W.Frag) : Bool := propB K (He.ga K "Rule") "voters" && (propB K (He.ga K "Rule") "issues" && (cmB K (He.ga K "Rule") "of_voter" && (crB K (He.ga K "Rule") && kindB K (He.ga K "Rule"))))
def x3 (K : PySem.W.Frag) : Bool := coded K (aOf K) "Rule.of_voter" && (PySem.W.keepIn K (.ref (aOf K)) && (coded K (aVo K) "Rule.voters" && (PySem.W.keepIn K (.ref (aVo K)) && (coded K (aIs K) "Rule.issues" && PySem.W.keepIn K (.ref (aIs K))))))
def xtra (K : PySem.W.Frag) : Bool := x1 K && (x2 K && x3 K)
def seens (K : PySem.W.Frag) : List Seen := [seen K (aOf K), seen K (aVo K), seen K (aIs K)]
def wants : List Seen := [want "of_voter" "Rule.of_voter" (inS 32 1), want "voters" "Rule.voters" (inS 32 2), want "issues" "Rule.issues" (inS 32 3)]
structure Xt (K : PySem.W.Frag) : Prop where
  noSeq : PySem.W.noSeq K (He.ga K "Rule") = true
  fnG : PySem.W.fnIn K (He.ma K (He.ga K "Rule") "__getitem__") = true
  fnC : PySem.W.fnIn K (He.ma K (He.ga K "Rule") "__call__") = true
  ne : PySem.W.findIn K (.ref (He.ga K "Rule")) "__ne__" = some (some (.builtin "object.__ne__"))
  ob : PySem.W.subIn K (.ref (He.ga K "Rule")) (.type "object") = some true
theorem Xt.of {K : PySem.W.Frag} (h : x1 K = true) : Xt K := by
  obtain ⟨h1, h⟩ := He.ba h
  obtain ⟨h2, h⟩ := He.ba h
  obtain ⟨h3, h⟩ := He.ba h
  obtain ⟨h4, h5⟩ := He.ba h
  exact ⟨h1, h2, h3, He.eqO_ok h4, of_decide_eq_true h5⟩
abbrev AlE : Type := He.AlD × Bool × List Seen
def obsK (K : PySem.W.Frag) : AlE := (He.obsD fas fns K, xtra K, seens K)
def obsE (n : Nat) (g : Addr → Option Obj) : AlE := obsK (He.frG g (cStatics :: He.asD g n))
def valE : AlE := (He.valD fns, true, wants)
def hookE (n : Nat) : PySem.W.Hook where
  α := AlE
  obs := fun s => obsE n s.heap.get?
  val := fun _ => valE
  says := fun _ h => ∃ K : PySem.W.Frag, K.In h ∧ He.SaysD fas fns K ∧ xtra K = true ∧ seens K = wants
  of := fun _ _ e => ⟨_, He.frG_in, congrArg (fun z : AlE => z.1) e, congrArg (fun z : AlE => z.2.1) e, congrArg (fun z : AlE => z.2.2) e⟩
  keeps := fun _ _ _ ⟨K, hK, c⟩ k => ⟨K, PySem.W.Frag.In.keeps hK k, c⟩
theorem obsE_eq {n : Nat} {g : Addr → Option Obj} {s : Shared} (h : ∀ a, g a = s.heap.get? a) : obsE n g = (hookE n).obs s := by
  have e : g = s.heap.get? := funext h
  rw [e] <;> rfl
theorem facts {P : Program} {w : World} {K : PySem.W.Frag} {h : Heap} {mg : Str → Option Value} {f : Addr} (X : K.In h) (G : h.Ns mainGlobals mg) (hfa : mg ("law" : Str) = some (.ref f)) (c : He.SaysD fas fns K) (xx : xtra K = true) (sn : seens K = wants) :
    ∃ fd : FuncData, (∀ (s : Shared) (v : Value), BindsTo s fd ⟨[v], []⟩ [("script", v)]) ∧ ∀ base : Heap, K.In base → base.Ns mainGlobals mg → FnG P w K mg base 11 f fd ["script"] (spLaw K) := by
  obtain ⟨xa, xx⟩ := He.ba xx
  obtain ⟨xb, xc⟩ := He.ba xx
  have xt := Xt.of xa
  obtain ⟨xp1, xb⟩ := He.ba xb
  obtain ⟨xp2, xb⟩ := He.ba xb
  obtain ⟨xcm, xb⟩ := He.ba xb
  obtain ⟨xcr, xki⟩ := He.ba xb
  obtain ⟨c1, xc⟩ := He.ba xc
  obtain ⟨c2, xc⟩ := He.ba xc
  obtain ⟨c3, xc⟩ := He.ba xc
  obtain ⟨c4, xc⟩ := He.ba xc
  obtain ⟨c5, c6⟩ := He.ba xc
  have pVo := propB_ok xp1
  have pIs := propB_ok xp2
  have cm := cmB_ok xcm
  have cr := crB_ok xcr
  have RI := kindB_ok xki
  injection sn with s1 sn
  injection sn with s2 sn
  injection sn with s3 sn
  obtain ⟨fd_Sof_voter, D_Sof_voter⟩ := seen_fun (st := inS 32 1) s1 c1 c2
  obtain ⟨fd_Svoters, D_Svoters⟩ := seen_fun (st := inS 32 2) s2 c3 c4
  obtain ⟨fd_Sissues, D_Sissues⟩ := seen_fun (st := inS 32 3) s3 c5 c6

  obtain ⟨fd_is_integer, D_is_integer⟩ := c.def_ 0 (d := dd 11 "is_integer") rfl
  obtain ⟨fd_is_name, D_is_name⟩ := c.def_ 1 (d := dd 12 "is_name") rfl
  obtain ⟨fd_is_value, D_is_value⟩ := c.def_ 2 (d := dd 13 "is_value") rfl
  obtain ⟨fd_is_values, D_is_values⟩ := c.def_ 3 (d := dd 14 "is_values") rfl
  obtain ⟨fd_has_values, D_has_values⟩ := c.def_ 4 (d := dd 15 "has_values") rfl
  obtain ⟨fd_all_values, D_all_values⟩ := c.def_ 5 (d := dd 16 "all_values") rfl
  obtain ⟨fd_is_ascending, D_is_ascending⟩ := c.def_ 6 (d := dd 17 "is_ascending") rfl
  obtain ⟨fd_is_set_of_names, D_is_set_of_names⟩ := c.def_ 7 (d := dd 18 "is_set_of_names") rfl
  obtain ⟨fd_is_issues, D_is_issues⟩ := c.def_ 8 (d := dd 21 "is_issues") rfl
  obtain ⟨fd_has_issues_as_keys, D_has_issues_as_keys⟩ := c.def_ 9 (d := dd 22 "has_issues_as_keys") rfl
  obtain ⟨fd_need_issues, D_need_issues⟩ := c.def_ 10 (d := dd 26 "need_issues") rfl
  obtain ⟨fd_need_voters, D_need_voters⟩ := c.def_ 11 (d := dd 27 "need_voters") rfl
  obtain ⟨fd__is_table, D__is_table⟩ := c.def_ 12 (d := dd 28 "_is_table") rfl
  obtain ⟨fd__are_tables, D__are_tables⟩ := c.def_ 13 (d := dd 29 "_are_tables") rfl
  obtain ⟨fd__follow_table, D__follow_table⟩ := c.def_ 14 (d := dd 30 "_follow_table") rfl
  obtain ⟨fd_place_of, D_place_of⟩ := c.def_ 15 (d := dd 31 "place_of") rfl
  obtain ⟨fd_M__init__, D_M__init__⟩ := c.def_ 16 (d := dm 0 "__init__" "Rule.__init__") rfl
  obtain ⟨fd_M__getitem__, D_M__getitem__⟩ := c.def_ 17 (d := dm 4 "__getitem__" "Rule.__getitem__") rfl
  obtain ⟨fd_M_are_votes, D_M_are_votes⟩ := c.def_ 18 (d := dm 6 "_are_votes" "Rule._are_votes") rfl
  obtain ⟨fd_M__call__, D_M__call__⟩ := c.def_ 19 (d := dm 5 "__call__" "Rule.__call__") rfl
  obtain ⟨fd_M__contains__, D_M__contains__⟩ := c.def_ 20 (d := dm 7 "__contains__" "Rule.__contains__") rfl
  obtain ⟨fd_M__len__, D_M__len__⟩ := c.def_ 21 (d := dm 8 "__len__" "Rule.__len__") rfl
  obtain ⟨fd_M__eq__, D_M__eq__⟩ := c.def_ 22 (d := dm 9 "__eq__" "Rule.__eq__") rfl
  obtain ⟨fd_M__str__, D_M__str__⟩ := c.def_ 23 (d := dm 10 "__str__" "Rule.__str__") rfl
  obtain ⟨fd_M__iter__, D_M__iter__⟩ := c.def_ 24 (d := dm 11 "__iter__" "Rule.__iter__") rfl
  obtain ⟨fd__law_voted, D__law_voted⟩ := c.def_ 25 (d := dd 34 "_law_voted") rfl
  obtain ⟨fd__law_jug, D__law_jug⟩ := c.def_ 26 (d := dd 35 "_law_jug") rfl
  obtain ⟨fd__law_dip, D__law_dip⟩ := c.def_ 27 (d := dd 36 "_law_dip") rfl
  obtain ⟨fd__law_choice, D__law_choice⟩ := c.def_ 28 (d := dd 37 "_law_choice") rfl
  obtain ⟨fd__law_jumbled, D__law_jumbled⟩ := c.def_ 29 (d := dd 38 "_law_jumbled") rfl
  obtain ⟨fd__law_all_rows, D__law_all_rows⟩ := c.def_ 30 (d := dd 39 "_law_all_rows") rfl
  obtain ⟨fd__law_voter_tables, D__law_voter_tables⟩ := c.def_ 31 (d := dd 40 "_law_voter_tables") rfl
  obtain ⟨fd__law_letter, D__law_letter⟩ := c.def_ 32 (d := dd 41 "_law_letter") rfl
  obtain ⟨fd__law_many_names, D__law_many_names⟩ := c.def_ 33 (d := dd 42 "_law_many_names") rfl
  obtain ⟨fd__law_spare, D__law_spare⟩ := c.def_ 34 (d := dd 43 "_law_spare") rfl
  obtain ⟨fd__law_any_table, D__law_any_table⟩ := c.def_ 35 (d := dd 44 "_law_any_table") rfl
  obtain ⟨fd__law_any_tables, D__law_any_tables⟩ := c.def_ 36 (d := dd 45 "_law_any_tables") rfl
  obtain ⟨fd__law_is_the_rule, D__law_is_the_rule⟩ := c.def_ 37 (d := dd 46 "_law_is_the_rule") rfl
  obtain ⟨fd__law_near, D__law_near⟩ := c.def_ 38 (d := dd 47 "_law_near") rfl
  obtain ⟨fd__law_all_right, D__law_all_right⟩ := c.def_ 39 (d := dd 48 "_law_all_right") rfl
  obtain ⟨fd__law_made_mixed, D__law_made_mixed⟩ := c.def_ 40 (d := dd 49 "_law_made_mixed") rfl
  obtain ⟨fd__law_cell_right, D__law_cell_right⟩ := c.def_ 41 (d := dd 50 "_law_cell_right") rfl
  obtain ⟨fd_law, D_law⟩ := c.def_ 42 (d := dd 51 "law") rfl
  have e := hfa.symm.trans (He.glo_ok X G (c.fact 33 (f := .glo "law") rfl))
  cases e
  have g_is_integer := He.glo_ok X G (c.fact 0 (f := .glo "is_integer") rfl)
  have g_is_name := He.glo_ok X G (c.fact 1 (f := .glo "is_name") rfl)
  have g_is_value := He.glo_ok X G (c.fact 2 (f := .glo "is_value") rfl)
  have g_is_values := He.glo_ok X G (c.fact 3 (f := .glo "is_values") rfl)
  have g_has_values := He.glo_ok X G (c.fact 4 (f := .glo "has_values") rfl)
  have g_all_values := He.glo_ok X G (c.fact 5 (f := .glo "all_values") rfl)
  have g_is_ascending := He.glo_ok X G (c.fact 6 (f := .glo "is_ascending") rfl)
  have g_is_set_of_names := He.glo_ok X G (c.fact 7 (f := .glo "is_set_of_names") rfl)
  have g_is_issues := He.glo_ok X G (c.fact 8 (f := .glo "is_issues") rfl)
  have g_has_issues_as_keys := He.glo_ok X G (c.fact 9 (f := .glo "has_issues_as_keys") rfl)
  have g_need_issues := He.glo_ok X G (c.fact 10 (f := .glo "need_issues") rfl)
  have g_need_voters := He.glo_ok X G (c.fact 11 (f := .glo "need_voters") rfl)
  have g__is_table := He.glo_ok X G (c.fact 12 (f := .glo "_is_table") rfl)
  have g__are_tables := He.glo_ok X G (c.fact 13 (f := .glo "_are_tables") rfl)
  have g__follow_table := He.glo_ok X G (c.fact 14 (f := .glo "_follow_table") rfl)
  have g_place_of := He.glo_ok X G (c.fact 15 (f := .glo "place_of") rfl)
  have g__law_voted := He.glo_ok X G (c.fact 16 (f := .glo "_law_voted") rfl)
  have g__law_jug := He.glo_ok X G (c.fact 17 (f := .glo "_law_jug") rfl)
  have g__law_dip := He.glo_ok X G (c.fact 18 (f := .glo "_law_dip") rfl)
  have g__law_choice := He.glo_ok X G (c.fact 19 (f := .glo "_law_choice") rfl)
  have g__law_jumbled := He.glo_ok X G (c.fact 20 (f := .glo "_law_jumbled") rfl)
  have g__law_all_rows := He.glo_ok X G (c.fact 21 (f := .glo "_law_all_rows") rfl)
  have g__law_voter_tables := He.glo_ok X G (c.fact 22 (f := .glo "_law_voter_tables") rfl)
  have g__law_letter := He.glo_ok X G (c.fact 23 (f := .glo "_law_letter") rfl)
  have g__law_many_names := He.glo_ok X G (c.fact 24 (f := .glo "_law_many_names") rfl)
  have g__law_spare := He.glo_ok X G (c.fact 25 (f := .glo "_law_spare") rfl)
  have g__law_any_table := He.glo_ok X G (c.fact 26 (f := .glo "_law_any_table") rfl)
  have g__law_any_tables := He.glo_ok X G (c.fact 27 (f := .glo "_law_any_tables") rfl)
  have g__law_is_the_rule := He.glo_ok X G (c.fact 28 (f := .glo "_law_is_the_rule") rfl)
  have g__law_near := He.glo_ok X G (c.fact 29 (f := .glo "_law_near") rfl)
  have g__law_all_right := He.glo_ok X G (c.fact 30 (f := .glo "_law_all_right") rfl)
  have g__law_made_mixed := He.glo_ok X G (c.fact 31 (f := .glo "_law_made_mixed") rfl)
  have g__law_cell_right := He.glo_ok X G (c.fact 32 (f := .glo "_law_cell_right") rfl)
  have g_law := He.glo_ok X G (c.fact 33 (f := .glo "law") rfl)
  have g_Rule := He.glo_ok X G (c.fact 34 (f := .glo "Rule") rfl)
  obtain ⟨t__BOUND, mI0__BOUND⟩ := He.int_ok X G (c.fact 35 (f := .int "_BOUND" 1000000000000000000000000000000000000000000000000000000000000) rfl)
  have mI__BOUND : mg "_BOUND" = some (.int (10 ^ 60) t__BOUND) := by
    rw [mI0__BOUND, show (10 : Int) ^ 60 = 1000000000000000000000000000000000000000000000000000000000000 by decide +kernel]
  obtain ⟨t_MAX_LETTERS, mI_MAX_LETTERS⟩ := He.int_ok X G (c.fact 36 (f := .int "MAX_LETTERS" 8) rfl)
  obtain ⟨t_MAX_ISSUES, mI_MAX_ISSUES⟩ := He.int_ok X G (c.fact 37 (f := .int "MAX_ISSUES" 6) rfl)
  obtain ⟨t_MAX_VOTERS, mI_MAX_VOTERS⟩ := He.int_ok X G (c.fact 38 (f := .int "MAX_VOTERS" 4) rfl)
  obtain ⟨t_MAX_VOTES, mI_MAX_VOTES⟩ := He.int_ok X G (c.fact 39 (f := .int "MAX_VOTES" 200000) rfl)
  have m_isinstance := He.free_ok X G (c.fact 40 (f := .free "isinstance") rfl)
  have m_int := He.free_ok X G (c.fact 41 (f := .free "int") rfl)
  have m_bool := He.free_ok X G (c.fact 42 (f := .free "bool") rfl)
  have m_str := He.free_ok X G (c.fact 43 (f := .free "str") rfl)
  have m_len := He.free_ok X G (c.fact 44 (f := .free "len") rfl)
  have m_all := He.free_ok X G (c.fact 45 (f := .free "all") rfl)
  have m_tuple := He.free_ok X G (c.fact 46 (f := .free "tuple") rfl)
  have m_range := He.free_ok X G (c.fact 47 (f := .free "range") rfl)
  have m_zip := He.free_ok X G (c.fact 48 (f := .free "zip") rfl)
  have m_dict := He.free_ok X G (c.fact 49 (f := .free "dict") rfl)
  have m_sorted := He.free_ok X G (c.fact 50 (f := .free "sorted") rfl)
  have m_list := He.free_ok X G (c.fact 51 (f := .free "list") rfl)
  have m_iter := He.free_ok X G (c.fact 52 (f := .free "iter") rfl)
  have m_enumerate := He.free_ok X G (c.fact 53 (f := .free "enumerate") rfl)
  have m_abs := He.free_ok X G (c.fact 54 (f := .free "abs") rfl)
  have m_max := He.free_ok X G (c.fact 55 (f := .free "max") rfl)
  have m_min := He.free_ok X G (c.fact 56 (f := .free "min") rfl)
  have m_sum := He.free_ok X G (c.fact 57 (f := .free "sum") rfl)
  have m_repr := He.free_ok X G (c.fact 58 (f := .free "repr") rfl)
  have RC : RuleC K (He.ga K "Rule") := ⟨He.cls_ok (c.fact 59 (f := .cls "Rule") rfl), He.noat_ok (c.fact 60 (f := .noat "Rule" "_voters") rfl), He.noat_ok (c.fact 61 (f := .noat "Rule" "_issues") rfl), He.noat_ok (c.fact 62 (f := .noat "Rule" "_tables") rfl)⟩
  have mt__are_votes := He.meth_ok (c.fact 63 (f := .meth "Rule" "_are_votes") rfl)
  have mt___getitem__ := He.meth_ok (c.fact 64 (f := .meth "Rule" "__getitem__") rfl)
  have mt___call__ := He.meth_ok (c.fact 65 (f := .meth "Rule" "__call__") rfl)
  have mt___contains__ := He.meth_ok (c.fact 66 (f := .meth "Rule" "__contains__") rfl)
  have mt___len__ := He.meth_ok (c.fact 67 (f := .meth "Rule" "__len__") rfl)
  have mt___eq__ := He.meth_ok (c.fact 68 (f := .meth "Rule" "__eq__") rfl)
  have mt___str__ := He.meth_ok (c.fact 69 (f := .meth "Rule" "__str__") rfl)
  have mt___iter__ := He.meth_ok (c.fact 70 (f := .meth "Rule" "__iter__") rfl)
  have mk := He.mkr_ok (c.fact 71 (f := .mkr "Rule") rfl)

  have b_is_integer : Binds K fd_is_integer ["value"] [] := D_is_integer.bindsN fun _ _ _ _ _ _ us hl => match us, hl with | [_], _ => rfl
  have b_is_name : Binds K fd_is_name ["value"] [] := D_is_name.bindsN fun _ _ _ _ _ _ us hl => match us, hl with | [_], _ => rfl
  have b_is_value : Binds K fd_is_value ["value"] [] := D_is_value.bindsN fun _ _ _ _ _ _ us hl => match us, hl with | [_], _ => rfl
  have b_is_values : Binds K fd_is_values ["value"] [] := D_is_values.bindsN fun _ _ _ _ _ _ us hl => match us, hl with | [_], _ => rfl
  have b_has_values : Binds K fd_has_values ["value", "many"] [] := D_has_values.bindsN fun _ _ _ _ _ _ us hl => match us, hl with | [_, _], _ => rfl
  have b_all_values : Binds K fd_all_values ["many"] [] := D_all_values.bindsN fun _ _ _ _ _ _ us hl => match us, hl with | [_], _ => rfl
  have b_is_ascending : Binds K fd_is_ascending ["items"] [] := D_is_ascending.bindsN fun _ _ _ _ _ _ us hl => match us, hl with | [_], _ => rfl
  have b_is_set_of_names : Binds K fd_is_set_of_names ["value"] [] := D_is_set_of_names.bindsN fun _ _ _ _ _ _ us hl => match us, hl with | [_], _ => rfl
  have b_is_issues : Binds K fd_is_issues ["value"] [] := D_is_issues.bindsN fun _ _ _ _ _ _ us hl => match us, hl with | [_], _ => rfl
  have b_has_issues_as_keys : Binds K fd_has_issues_as_keys ["value"] [] := D_has_issues_as_keys.bindsN fun _ _ _ _ _ _ us hl => match us, hl with | [_], _ => rfl
  have b_need_issues : Binds K fd_need_issues ["issues"] [] := D_need_issues.bindsN fun _ _ _ _ _ _ us hl => match us, hl with | [_], _ => rfl
  have b_need_voters : Binds K fd_need_voters ["voters"] [] := D_need_voters.bindsN fun _ _ _ _ _ _ us hl => match us, hl with | [_], _ => rfl
  have b__is_table : Binds K fd__is_table ["value", "voters"] [] := D__is_table.bindsN fun _ _ _ _ _ _ us hl => match us, hl with | [_, _], _ => rfl
  have b__are_tables : Binds K fd__are_tables ["value", "voters"] [] := D__are_tables.bindsN fun _ _ _ _ _ _ us hl => match us, hl with | [_, _], _ => rfl
  have b__follow_table : Binds K fd__follow_table ["voters", "voter"] [] := D__follow_table.bindsN fun _ _ _ _ _ _ us hl => match us, hl with | [_, _], _ => rfl
  have b_place_of : Binds K fd_place_of ["values"] [] := D_place_of.bindsN fun _ _ _ _ _ _ us hl => match us, hl with | [_], _ => rfl
  have b_M__init__ : Binds K fd_M__init__ ["self", "voters", "tables"] [] := D_M__init__.bindsN fun _ _ _ _ _ _ us hl => match us, hl with | [_, _, _], _ => rfl
  have b_Sof_voter : Binds K fd_Sof_voter ["cls", "issues", "voters", "voter"] [] := D_Sof_voter.bindsN fun _ _ _ _ _ _ us hl => match us, hl with | [_, _, _, _], _ => rfl
  have b_Svoters : Binds K fd_Svoters ["self"] [] := D_Svoters.bindsN fun _ _ _ _ _ _ us hl => match us, hl with | [_], _ => rfl
  have b_Sissues : Binds K fd_Sissues ["self"] [] := D_Sissues.bindsN fun _ _ _ _ _ _ us hl => match us, hl with | [_], _ => rfl
  have b_M__getitem__ : Binds K fd_M__getitem__ ["self", "issue"] [] := D_M__getitem__.bindsN fun _ _ _ _ _ _ us hl => match us, hl with | [_, _], _ => rfl
  have b_M_are_votes : Binds K fd_M_are_votes ["self", "value"] [] := D_M_are_votes.bindsN fun _ _ _ _ _ _ us hl => match us, hl with | [_, _], _ => rfl
  have b_M__call__ : Binds K fd_M__call__ ["self", "votes"] [] := D_M__call__.bindsN fun _ _ _ _ _ _ us hl => match us, hl with | [_, _], _ => rfl
  have b_M__contains__ : Binds K fd_M__contains__ ["self", "value"] [] := D_M__contains__.bindsN fun _ _ _ _ _ _ us hl => match us, hl with | [_, _], _ => rfl
  have b_M__len__ : Binds K fd_M__len__ ["self"] [] := D_M__len__.bindsN fun _ _ _ _ _ _ us hl => match us, hl with | [_], _ => rfl
  have b_M__eq__ : Binds K fd_M__eq__ ["self", "other"] [] := D_M__eq__.bindsN fun _ _ _ _ _ _ us hl => match us, hl with | [_, _], _ => rfl
  have b_M__str__ : Binds K fd_M__str__ ["self"] [] := D_M__str__.bindsN fun _ _ _ _ _ _ us hl => match us, hl with | [_], _ => rfl
  have b_M__iter__ : Binds K fd_M__iter__ ["self"] [] := D_M__iter__.bindsN fun _ _ _ _ _ _ us hl => match us, hl with | [_], _ => rfl
  have b__law_voted : Binds K fd__law_voted ["tables", "votes"] [] := D__law_voted.bindsN fun _ _ _ _ _ _ us hl => match us, hl with | [_, _], _ => rfl
  have b__law_jug : Binds K fd__law_jug ["script", "at"] [] := D__law_jug.bindsN fun _ _ _ _ _ _ us hl => match us, hl with | [_, _], _ => rfl
  have b__law_dip : Binds K fd__law_dip ["jug", "total"] [] := D__law_dip.bindsN fun _ _ _ _ _ _ us hl => match us, hl with | [_, _], _ => rfl
  have b__law_choice : Binds K fd__law_choice ["jug", "items"] [] := D__law_choice.bindsN fun _ _ _ _ _ _ us hl => match us, hl with | [_, _], _ => rfl
  have b__law_jumbled : Binds K fd__law_jumbled ["jug", "items"] [] := D__law_jumbled.bindsN fun _ _ _ _ _ _ us hl => match us, hl with | [_, _], _ => rfl
  have b__law_all_rows : Binds K fd__law_all_rows ["size"] [] := D__law_all_rows.bindsN fun _ _ _ _ _ _ us hl => match us, hl with | [_], _ => rfl
  have b__law_voter_tables : Binds K fd__law_voter_tables ["size", "voters", "voter"] [] := D__law_voter_tables.bindsN fun _ _ _ _ _ _ us hl => match us, hl with | [_, _, _], _ => rfl
  have b__law_letter : Binds K fd__law_letter ["jug"] [] := D__law_letter.bindsN fun _ _ _ _ _ _ us hl => match us, hl with | [_], _ => rfl
  have b__law_many_names : Binds K fd__law_many_names ["jug", "much"] [] := D__law_many_names.bindsN fun _ _ _ _ _ _ us hl => match us, hl with | [_, _], _ => rfl
  have b__law_spare : Binds K fd__law_spare ["names"] [] := D__law_spare.bindsN fun _ _ _ _ _ _ us hl => match us, hl with | [_], _ => rfl
  have b__law_any_table : Binds K fd__law_any_table ["jug", "voters"] [] := D__law_any_table.bindsN fun _ _ _ _ _ _ us hl => match us, hl with | [_, _], _ => rfl
  have b__law_any_tables : Binds K fd__law_any_tables ["jug", "size", "voters"] [] := D__law_any_tables.bindsN fun _ _ _ _ _ _ us hl => match us, hl with | [_, _, _], _ => rfl
  have b__law_is_the_rule : Binds K fd__law_is_the_rule ["made", "voters", "names", "tables"] [] := D__law_is_the_rule.bindsN fun _ _ _ _ _ _ us hl => match us, hl with | [_, _, _, _], _ => rfl
  have b__law_near : Binds K fd__law_near ["jug", "tables"] [] := D__law_near.bindsN fun _ _ _ _ _ _ us hl => match us, hl with | [_, _], _ => rfl
  have b__law_all_right : Binds K fd__law_all_right ["made", "voters", "names", "tables"] [] := D__law_all_right.bindsN fun _ _ _ _ _ _ us hl => match us, hl with | [_, _, _, _], _ => rfl
  have b__law_made_mixed : Binds K fd__law_made_mixed ["jug", "voters", "names", "tables"] [] := D__law_made_mixed.bindsN fun _ _ _ _ _ _ us hl => match us, hl with | [_, _, _, _], _ => rfl
  have b__law_cell_right : Binds K fd__law_cell_right ["jug"] [] := D__law_cell_right.bindsN fun _ _ _ _ _ _ us hl => match us, hl with | [_], _ => rfl
  have b_law := FunD.bindsA (ps := ["script"]) D_law fun _ _ _ _ _ _ us hl => match us, hl with | [_], _ => rfl
  refine ⟨fd_law, fun s v => b_law s [v] rfl, fun base _ _ => ?_⟩
  have F_is_integer : FnOk P w K mg base CX0 1 _ fd_is_integer ["value"] (spB fun _ => shortB) := ok_integer (Fun.ofD D_is_integer) m_isinstance m_int m_bool mI__BOUND
  have F_is_name : FnOk P w K mg base CX0 1 _ fd_is_name ["value"] (spB fun _ => nameB) := ok_name (Fun.ofD D_is_name) m_isinstance m_str m_len m_all mI_MAX_LETTERS
  have F_is_value : FnOk P w K mg base CX0 2 _ fd_is_value ["value"] (spB fun _ => bitB) := ok_value (Fun.ofD D_is_value) F_is_integer D_is_integer.kp b_is_integer g_is_integer
  have F_is_values : FnOk P w K mg base CX0 3 _ fd_is_values ["value"] (spB rowB) := ok_values (Fun.ofD D_is_values) F_is_value D_is_value.kp b_is_value g_is_value m_isinstance m_tuple m_all
  have F_has_values : FnOk P w K mg base CX0 4 _ fd_has_values ["value", "many"] (spHV) := ok_hasvalues (Fun.ofD D_has_values) F_is_values D_is_values.kp b_is_values g_is_values m_len
  have F_all_values : FnOk P w K mg base CX0 1 _ fd_all_values ["many"] (spRowsT) := ok_allvalues (Fun.ofD D_all_values) m_range m_tuple
  have F_is_ascending : FnOk P w K mg base CX0 1 _ fd_is_ascending ["items"] (spAsc) := ok_asc (Fun.ofD D_is_ascending) m_zip m_all
  have F_is_set_of_names : FnOk P w K mg base CX0 2 _ fd_is_set_of_names ["value"] (spTexts namesB) := ok_setnames (Fun.ofD D_is_set_of_names) F_is_name D_is_name.kp b_is_name g_is_name F_is_ascending D_is_ascending.kp b_is_ascending g_is_ascending m_isinstance m_tuple m_all
  have F_is_issues : FnOk P w K mg base CX0 3 _ fd_is_issues ["value"] (spTexts issuesB) := ok_issues (Fun.ofD D_is_issues) F_is_set_of_names D_is_set_of_names.kp b_is_set_of_names g_is_set_of_names m_len mI_MAX_ISSUES
  have F_has_issues_as_keys : FnOk P w K mg base CX0 4 _ fd_has_issues_as_keys ["value"] (spKeys) := ok_keys (Fun.ofD D_has_issues_as_keys) F_is_issues D_is_issues.kp b_is_issues g_is_issues m_isinstance m_dict m_str m_all m_tuple m_sorted
  have F_need_issues : FnOk P w K mg base CX0 4 _ fd_need_issues ["issues"] (spNI) := ok_needissues (Fun.ofD D_need_issues) F_is_issues D_is_issues.kp b_is_issues g_is_issues
  have F_need_voters : FnOk P w K mg base CX0 2 _ fd_need_voters ["voters"] (spNV) := ok_needvoters (Fun.ofD D_need_voters) F_is_integer D_is_integer.kp b_is_integer g_is_integer mI_MAX_VOTERS
  have F__is_table : FnOk P w K mg base CX0 5 _ fd__is_table ["value", "voters"] (spIsT) := ok_istable (Fun.ofD D__is_table) F_has_values D_has_values.kp b_has_values g_has_values
  have F__are_tables : FnOk P w K mg base CX0 6 _ fd__are_tables ["value", "voters"] (spAre) := ok_aretables (Fun.ofD D__are_tables) F_has_issues_as_keys D_has_issues_as_keys.kp b_has_issues_as_keys g_has_issues_as_keys F__is_table D__is_table.kp b__is_table g__is_table m_all
  have F__follow_table : FnOk P w K mg base CX0 2 _ fd__follow_table ["voters", "voter"] (spFollow) := ok_follow (Fun.ofD D__follow_table) F_all_values D_all_values.kp b_all_values g_all_values m_tuple
  have F_place_of : FnOk P w K mg base CX0 1 _ fd_place_of ["values"] (spPlace) := ok_place (Fun.ofD D_place_of)
  have F_M__init__ : FnOk P w K mg base CX0 7 _ fd_M__init__ ["self", "voters", "tables"] (spInit (He.ga K "Rule")) := ok_init RC (Fun.ofD D_M__init__) F_need_voters D_need_voters.kp b_need_voters g_need_voters F__are_tables D__are_tables.kp b__are_tables g__are_tables m_tuple m_sorted
  have F_Sof_voter : FnOk P w K mg base CX0 9 _ fd_Sof_voter ["cls", "issues", "voters", "voter"] (spOfV (He.ga K "Rule")) := ok_ofvoter (Fun.ofD D_Sof_voter) F_need_issues D_need_issues.kp b_need_issues g_need_issues F_need_voters D_need_voters.kp b_need_voters g_need_voters F_is_integer D_is_integer.kp b_is_integer g_is_integer F__follow_table D__follow_table.kp b__follow_table g__follow_table mk F_M__init__ b_M__init__
  have F_Svoters : FnOk P w K mg base CX0 1 _ fd_Svoters ["self"] (getSp (He.ga K "Rule") "_voters") := ok_pvoters RC (Fun.ofD D_Svoters)
  have RP_voters : RuleP P w K mg base (He.ga K "Rule") "voters" "_voters" _ _ fd_Svoters := ⟨pVo, F_Svoters, b_Svoters⟩
  have F_Sissues : FnOk P w K mg base CX0 1 _ fd_Sissues ["self"] (getSp (He.ga K "Rule") "_issues") := ok_pissues RC (Fun.ofD D_Sissues)
  have RP_issues : RuleP P w K mg base (He.ga K "Rule") "issues" "_issues" _ _ fd_Sissues := ⟨pIs, F_Sissues, b_Sissues⟩
  have F_M__getitem__ : FnOk P w K mg base CX0 1 _ fd_M__getitem__ ["self", "issue"] (spGet (He.ga K "Rule")) := ok_get RC (Fun.ofD D_M__getitem__)
  have RG : RuleG P w K mg base (He.ga K "Rule") _ fd_M__getitem__ := ⟨xt.noSeq, mt___getitem__, xt.fnG, F_M__getitem__, b_M__getitem__⟩
  have F_M_are_votes : FnOk P w K mg base CX0 5 _ fd_M_are_votes ["self", "value"] (spAreV (He.ga K "Rule")) := ok_arevotes RC (Fun.ofD D_M_are_votes) F_has_values D_has_values.kp b_has_values g_has_values m_isinstance m_tuple m_len m_all
  have F_M__call__ : FnOk P w K mg base CX0 6 _ fd_M__call__ ["self", "votes"] (spCallR (He.ga K "Rule")) := ok_callR RC RG (Fun.ofD D_M__call__) mt__are_votes F_M_are_votes b_M_are_votes F_place_of D_place_of.kp b_place_of g_place_of m_tuple m_list m_zip
  have F_M__contains__ : FnOk P w K mg base CX0 1 _ fd_M__contains__ ["self", "value"] (spContA K (He.ga K "Rule")) := ok_contA RC (Fun.ofD D_M__contains__)
  have F_M__len__ : FnOk P w K mg base CX0 1 _ fd_M__len__ ["self"] (spLen (He.ga K "Rule")) := ok_len RC (Fun.ofD D_M__len__) m_len
  have F_M__eq__ : FnOk P w K mg base CX0 2 _ fd_M__eq__ ["self", "other"] (spEqR K (He.ga K "Rule")) := ok_eqR RC RI (Fun.ofD D_M__eq__) m_isinstance g_Rule
  have F_M__str__ : FnOk P w K mg base CX0 1 _ fd_M__str__ ["self"] (spStrR (He.ga K "Rule")) := ok_strR RC (Fun.ofD D_M__str__) m_len
  have F_M__iter__ : FnN P w K mg base CX0 1 _ fd_M__iter__ ["self"] (spIter (He.ga K "Rule")) := ok_iter RC (Fun.ofD D_M__iter__) m_iter
  have RQ : RuleQ P w K mg base (He.ga K "Rule") _ _ fd_M__eq__ fd_M__call__ := ⟨mt___eq__, F_M__eq__, b_M__eq__, xt.ne, xt.ob, mt___call__, xt.fnC, F_M__call__, b_M__call__⟩
  have RO : RuleO P w K mg base (He.ga K "Rule") _ _ _ _ fd_M__contains__ fd_M__len__ fd_M__str__ fd_M__iter__ := ⟨mt___contains__, F_M__contains__, b_M__contains__, mt___len__, F_M__len__, b_M__len__, mt___str__, F_M__str__, b_M__str__, mt___iter__, F_M__iter__, b_M__iter__⟩
  have F__law_voted : FnOk P w K mg base CX0 1 _ fd__law_voted ["tables", "votes"] (spVoted) := ok_voted (Fun.ofD D__law_voted) m_enumerate m_tuple
  have F__law_jug : FnOk P w K mg base CX0 1 _ fd__law_jug ["script", "at"] (spJug K) := ok_jug (Fun.ofD D__law_jug) m_int m_len m_abs m_max
  have F__law_dip : FnOk P w K mg base CX0 1 _ fd__law_dip ["jug", "total"] (spDip) := ok_dip (Fun.ofD D__law_dip) m_int
  have F__law_choice : FnOk P w K mg base CX0 2 _ fd__law_choice ["jug", "items"] (spChoice) := ok_choice (Fun.ofD D__law_choice) F__law_dip D__law_dip.kp b__law_dip g__law_dip m_len
  have F__law_jumbled : FnOk P w K mg base CX0 2 _ fd__law_jumbled ["jug", "items"] (spJum) := ok_jumbled (Fun.ofD D__law_jumbled) F__law_dip D__law_dip.kp b__law_dip g__law_dip m_list m_len
  have F__law_all_rows : FnOk P w K mg base CX0 1 _ fd__law_all_rows ["size"] (spRowsL) := ok_allrows (Fun.ofD D__law_all_rows) m_range m_list
  have F__law_voter_tables : FnOk P w K mg base CX0 2 _ fd__law_voter_tables ["size", "voters", "voter"] (spVT) := ok_votertables (Fun.ofD D__law_voter_tables) F__law_all_rows D__law_all_rows.kp b__law_all_rows g__law_all_rows m_tuple
  have F__law_letter : FnOk P w K mg base CX0 2 _ fd__law_letter ["jug"] (spLetter) := ok_letter (Fun.ofD D__law_letter) F__law_dip D__law_dip.kp b__law_dip g__law_dip
  have F__law_many_names : FnOk P w K mg base CX0 3 _ fd__law_many_names ["jug", "much"] (spNames) := ok_manynames (Fun.ofD D__law_many_names) F__law_dip D__law_dip.kp b__law_dip g__law_dip F__law_letter D__law_letter.kp b__law_letter g__law_letter F__law_jumbled D__law_jumbled.kp b__law_jumbled g__law_jumbled m_range m_len
  have F__law_spare : FnOk P w K mg base CX0 1 _ fd__law_spare ["names"] (spSpare) := ok_spare (Fun.ofD D__law_spare)
  have F__law_any_table : FnOk P w K mg base CX0 3 _ fd__law_any_table ["jug", "voters"] (spAnyT) := ok_anytable (Fun.ofD D__law_any_table) F__law_dip D__law_dip.kp b__law_dip g__law_dip F__law_all_rows D__law_all_rows.kp b__law_all_rows g__law_all_rows F__law_choice D__law_choice.kp b__law_choice g__law_choice m_tuple m_range m_max m_min m_int m_len m_sum
  have F__law_any_tables : FnOk P w K mg base CX0 4 _ fd__law_any_tables ["jug", "size", "voters"] (spAnyTs) := ok_anytables (Fun.ofD D__law_any_tables) F__law_dip D__law_dip.kp b__law_dip g__law_dip F__law_any_table D__law_any_table.kp b__law_any_table g__law_any_table m_tuple m_range
  have F__law_is_the_rule : FnG P w K mg base 3 _ fd__law_is_the_rule ["made", "voters", "names", "tables"] (spIsR (He.ga K "Rule")) := ok_istherule RC RG RP_voters RP_issues (Fun.ofD D__law_is_the_rule) m_repr m_tuple m_list
  have F__law_near : FnOk P w K mg base CX0 2 _ fd__law_near ["jug", "tables"] (spNear) := ok_near (Fun.ofD D__law_near) F__law_dip D__law_dip.kp b__law_dip g__law_dip m_len
  have F__law_all_right : FnG P w K mg base 4 _ fd__law_all_right ["made", "voters", "names", "tables"] (spAllR (He.ga K "Rule")) := ok_allright RC RO (Fun.ofD D__law_all_right) F__law_is_the_rule D__law_is_the_rule.kp b__law_is_the_rule g__law_is_the_rule F__law_spare D__law_spare.kp b__law_spare g__law_spare m_str m_len m_list
  have F__law_made_mixed : FnOk P w K mg base CX0 9 _ fd__law_made_mixed ["jug", "voters", "names", "tables"] (spMixed (He.ga K "Rule")) := ok_mademixed (Fun.ofD D__law_made_mixed) mk F_M__init__ b_M__init__ g_Rule F__law_jumbled D__law_jumbled.kp b__law_jumbled g__law_jumbled m_dict m_list m_zip
  have F__law_cell_right : FnG P w K mg base 10 _ fd__law_cell_right ["jug"] (spCell2) := ok_cell RC RI RQ RO (Fun.ofD D__law_cell_right) F__law_all_right D__law_all_right.kp b__law_all_right g__law_all_right F__law_dip D__law_dip.kp b__law_dip g__law_dip F__law_many_names D__law_many_names.kp b__law_many_names g__law_many_names F__law_any_tables D__law_any_tables.kp b__law_any_tables g__law_any_tables F__law_near D__law_near.kp b__law_near g__law_near F__law_made_mixed D__law_made_mixed.kp b__law_made_mixed g__law_made_mixed F__law_voted D__law_voted.kp b__law_voted g__law_voted F_Sof_voter b_Sof_voter cr cm g_Rule F__law_voter_tables D__law_voter_tables.kp b__law_voter_tables g__law_voter_tables m_range m_repr m_str m_tuple m_sorted
  exact ok_law RC RI RQ (Fun.ofD D_law) F__law_cell_right D__law_cell_right.kp b__law_cell_right g__law_cell_right F__law_jug D__law_jug.kp b__law_jug g__law_jug mk F_M__init__ b_M__init__ g_Rule F_Sof_voter b_Sof_voter cr cm mI_MAX_VOTERS mI_MAX_VOTES m_range m_len m_max m_min
end Ow

set_option Elab.async false
set_option linter.all false
set_option maxRecDepth 100000
set_option maxHeartbeats 0
namespace Ow
open PySem PySem.Spec PyProof.Rows L2
abbrev RR : PySem.W.OpenRow := PySem.W.OpenLaw.row PySem.Challenge.rw_oneswill_k18_rules_told
abbrev hk : PySem.W.Hook := hookE 6
def ob (s : PySem.W.SharedT) : AlE := obsE 6 (HandSHeadRun.getT s)
theorem ob_eq (s : PySem.W.SharedT) : ob s = hk.obs s.abs := obsE_eq (HandSHeadRun.getT_eq s)
def loose0 : List Str := ["_wall", "_own", "WillError", "InvalidRule", "InvalidOperation", "InvalidNumber", "UnknownName", "MAX_LETTERS", "_BOUND", "is_integer"]
def loose1 : List Str := ["is_name", "is_value", "is_values", "has_values", "all_values", "is_ascending", "is_set_of_names", "MAX_ISSUES", "is_issues", "has_issues_as_keys"]
def loose2 : List Str := ["MAX_VOTERS", "MAX_VOTES", "need_issues", "need_voters", "_is_table", "_are_tables", "_follow_table", "place_of", "Rule", "_law_voted"]
def loose3 : List Str := ["_law_jug", "_law_dip", "_law_choice", "_law_jumbled", "_law_all_rows", "_law_voter_tables", "_law_letter", "_law_many_names", "_law_spare", "_law_any_table"]
def loose4 : List Str := ["_law_any_tables", "_law_is_the_rule", "_law_near", "_law_all_right", "_law_made_mixed", "_law_cell_right"]
def loose : List Str := loose0 ++ loose1 ++ loose2 ++ loose3 ++ loose4
theorem run (w : World) : HandSHeadRun.RunEq RR (PySem.W.view RR.prog [51]) hk ob 6000 loose w := by
  intro os
  kernel_rfl
end Ow
open PySem PySem.W PySem.Calls PyProof.Rows
theorem PySem.Challenge.cw_oneswill_k18_rules_told_holds : PySem.Challenge.rw_oneswill_k18_rules_told.Holds := by
  w_on; o_law
  refine HandSHeadRun.head_any (r := OpenLaw.row PySem.Challenge.rw_oneswill_k18_rules_told) (q := view (OpenLaw.row PySem.Challenge.rw_oneswill_k18_rules_told).prog [51]) (H := Ow.hk) (ob := Ow.ob) (M := 6000) (loose := Ow.loose) (d := HandSHeadRun.topDef (OpenLaw.row PySem.Challenge.rw_oneswill_k18_rules_told).prog 51) (kwd := []) Ow.ob_eq
    (by kernel_rfl) (fun s => by kernel_rfl) Ow.run (by kernel_rfl) (by kernel_rfl) (by kernel_rfl) (by rfl) (by first | assumption | decide +kernel) (by decide +kernel) ⟨rfl, rfl, rfl, rfl, rfl, by decide +kernel⟩ ?hw ?hc
  case hw => w_witness2
  case hc =>
    refine Att.attach_call (n := 63) rfl (by kernel_rfl) fun w s₀ s₁ mg mb fa o pm cd doc a vs ns G Y ho hd hcd hmg0 hobj hints hlen hg => ?_
    obtain ⟨K, KX, c, xt, sn⟩ := Y
    have hmg : mg ("law" : PySem.Str) = some (.ref fa) := by
      have e : (HandSHeadRun.topDef (OpenLaw.row PySem.Challenge.rw_oneswill_k18_rules_told).prog 51).name = ("law" : PySem.Str) := by kernel_rfl
      rw [← e]
      exact hmg0
    obtain ⟨fd, hb, hF⟩ := Ow.facts (P := PySem.Challenge.rw_oneswill_k18_rules_told.prog) (w := w) KX G.T.g hmg c xt sn
    exact Ow.endG (k := 11) KX G.T.g G.T.b G.T.builtins G.T.nolimit hg hobj hints (Nat.le_trans hlen (by decide)) ⟨rfl, by decide, by decide⟩ hF hb fun H hO hS => ⟨a, ns, rfl, hS, hlen, fun _ => rfl⟩
