import PyProof.Rows.All
import Wide.All
import OpenK.AllK
import Wide.FinOn
import PySem.Challenge.RW_oneswill_k43_whole_winners_told
import HandS.ForMost
import HandS.IsInst
import HandS.Wide
import HandS.TupAny
import HandS.TupMul
import HandS.Style
import HandS.Conv
import PyProof.ReprRoads
import HandS.Dict
import HandS.DictComp
import HandS.Zip
import HandS.Deep
import HandS.More
import HandS.Star
import HandS.WideBits
import HandS.ClsMeth
import HandS.Walk
import KE.GoesMore
import KE.GoesZip
import KE.KItemsList
import HandS.Text
import PyProof.ListStr
import OpenK.KOps
import KE.KCallOwn
import HandS.IterVal
import PyProof.InstEq
import HandS.FStr
import HandS.Property
import HandS.TupSets
import HandS.Keys
import HandS.SetBool
import HandS.Comp
import HandS.Strs
import KE.KStar
import HandS.Defaults
import HandS.HeadHook1
import HandS.HeadHook2
import Lean
import HandS.Ends
import HandS.Words
import HandS.WordsExc
import HandS.Head0
import HandS.Head1
import HandS.Head2
import HandS.HeadEnd
set_option Elab.async false
set_option linter.all false
set_option maxRecDepth 100000
set_option maxHeartbeats 4000000
namespace Ow
open PySem PySem.Spec PyProof.Rows L2

/-! a def's promise where no repr runs around the call -/
structure FnG (P : Program) (w : World) (K : PySem.W.Frag) (mg : Str → Option Value)
    (base : Heap) (k : Nat) (f : Addr) (fd : FuncData) (ps : List Str) (sp : Sp) : Prop where
  ln : ∀ vs H Q E, sp vs H Q E → vs.length = ps.length
  go : ∀ (B : Around) (up : List Env) (s : Shared) (H : Hp) (ar : Args) (ws : List Value) (vs : List V)
    (Q : VK) (E : XK), B.guards = some [] → Room k B → Env0 P w K mg base B up s H →
    BindsTo s fd ar (ps.zip ws) → Vals vs ws → sp vs H Q E →
    codeAny (model P w) B (.call (.ref f) ar) (CR CX0 up P w H s Q E) s
theorem FnG.of {P : Program} {w : World} {K : PySem.W.Frag} {mg : Str → Option Value} {base : Heap}
    {k : Nat} {f : Addr} {fd : FuncData} {ps : List Str} {sp : Sp}
    (F : FnOk P w K mg base CX0 k f fd ps sp) : FnG P w K mg base k f fd ps sp :=
  ⟨F.len, fun B up s H ar ws vs Q E _ => F.run B up s H ar ws vs Q E⟩

section
variable {P : Program} {w : World} {K : PySem.W.Frag} {mg : Str → Option Value} {base : Heap}
theorem guardsDeep {B : Around} {env : Env} : (B.deeper env).guards = B.guards := rfl
/-- a def of the text, by its body, with nothing guarded -/
theorem okG {x qual : Str} {st : Stmt} {f : Addr} {fd : FuncData} {N ps : List Str} {k : Nat} {sp : Sp}
    (F : Fun K x qual st f fd) (S : FnScope N ps (defScope st))
    (ln : ∀ vs H Q E, sp vs H Q E → vs.length = ps.length)
    (body : ∀ (cd : Value) (B : Around) (up : List Env) (s : Shared) (H : Hp) (vs : List V) (Q : VK) (E : XK),
      B.guards = some [] → Room k (B.deeper (envOfC qual (defScope st) s.heap.objs.size f cd)) → sp vs H Q E →
      ∃ t, PSs (cxOf CX0 P w K mg base N qual (defScope st) f cd B up s H E).nox (defBody st) t ∧
        t { nx := fun _ H' => Q .non H', rt := Q } (start N vs) H) :
    FnG P w K mg base (k + 1) f fd ps sp := by
  obtain ⟨oc, od, kV, doc, pm, an, cd, ct, osl, rfl, lk, hcd⟩ := F.ex
  refine ⟨ln, fun B up s H ar ws vs Q E gB hr e0 hb r hsp => ?_⟩
  have nvs := ln _ _ _ _ hsp
  have inK : K.In s.heap := e0.mod.kin.keeps fun b o e => (e0.bs b o e).1
  have noL : s.heap.NoLimit := e0.mod.nolimit.keeps fun b o e => (e0.bs b o e).1
  have kinds : ∀ y ∈ ps.zip ws, (defScope st).names.lookup y.1 = some .local ∨
      ((defScope st).names.lookup y.1 = some .cell ∧
        ((cellsFrom (s.heap.objs.size + 1) (defScope st).names []).lookup y.1).isSome = true) := by
    intro ⟨n, v⟩ hy
    rcases S.par n (List.of_mem_zip hy).1 with q | q
    · exact .inl q
    · exact .inr ⟨q, PySem.W.cellsFrom_some _ _ _ (.inl q)⟩
  refine codeAny_call_function hr.depth (inK _ _ lk) rfl S.co S.gen rfl
    (PySem.W.codeRec_of inK hcd) (hb _ _ _ _ ?_)
  refine wpAny_newFunctionEnv_cells S.kind kinds fun env he s1 z => ?_
  subst he
  refine ⟨noL.keeps z.toInCall.keep, codeAny_func ?_⟩
  obtain ⟨t, ht, hq⟩ := body cd B up s H vs Q E gB (hr.deeper _) hsp
  have J0 : Inv (cxOf CX0 P w K mg base N qual (defScope st) f cd B up s H E) [] (start N vs) H s1 :=
    inv_start S hr.hd e0 nvs r z
  refine wpAny_mono (ht.nox.run [] s1 (start N vs) H _ J0 hq) (fun fl s' hs => ?_) fun e s' hs => hs
  cases fl with
  | ret u =>
    obtain ⟨v, σ', H', J, rv, q⟩ := hs
    exact ⟨v, H', J.os, J.bare, J.base, J.hok, rv, q⟩
  | next =>
    obtain ⟨σ', H', J, q⟩ := hs
    exact ⟨V.non, H', J.os, J.bare, J.base, J.hok, rfl, q⟩
  | brk =>
    obtain ⟨_, _, _, q⟩ := hs
    exact False.elim q
  | cont =>
    obtain ⟨_, _, _, q⟩ := hs
    exact False.elim q
end
section
variable {X : Cx} {k : Nat} {f : Addr} {fd : FuncData} {ps : List Str} {sp : Sp}
  {x : Str} {p pos : Pos} {e : Expr} {es : List Expr} {t : TA}
/-- f(..) of such a def, in a body around which nothing is guarded -/
theorem pe_callG (F : FnG X.prog X.w X.K X.mg X.base k f fd ps sp) (gX : X.A.guards = some [])
    (hr : Room k X.A) (hg : Gl X x) (hm : X.mg x = some (.ref f)) (hk : PySem.W.keepIn X.K (.ref f) = true)
    (hb : Binds X.K fd ps []) (ha : PA X (e :: es) t)
    (hdb : (x == ("__debug__" : Str)) = false := by decide)
    (he : starEach (e :: es) X.env = (false, eval e X.env) :: starEach es X.env := by rfl)
    (hpl : (backTo pos (starEach es X.env)).any (·.1) = false := by rfl) :
    PE X (.Call (.Name x p) (e :: es) [] pos) (tCall sp [] E0 t) := by
  refine ⟨fun pins s σ H Q I h => ?_⟩
  refine wpAny_Call_Name_kw (ld_glob I hg hm ?_ hdb)
  refine PySem.W.callWith_K (h₀ := X.base) I.ok.mod.kin hk
    (thn (ha.run pos pins s σ H _ I h) fun us s1 hs1 => ?_) he hpl
  obtain ⟨vs, H1, I1, r, q⟩ := hs1
  refine ⟨I1.kIn, ?_⟩
  have q' : sp (vs ++ []) H1 Q E0 := q
  rw [List.append_nil] at q'
  have hl : (us ++ []).length = ps.length := by
    rw [List.append_nil, ← r.length]
    exact F.ln _ _ _ _ q'
  have bt := hb s1 us I1.kIn hl
  rw [List.append_nil] at bt
  refine wpAny_call (codeAny_mono (F.go X.A X.stack s1 H1 ⟨us, []⟩ us vs Q E0 gX hr I1.env0 bt r q') ?_)
  intro r' s' hq
  cases r' with
  | error er => exact False.elim hq
  | ok fl =>
    cases fl with
    | ret u => exact I1.after hq
    | next => exact False.elim hq
    | brk => exact False.elim hq
    | cont => exact False.elim hq
end

/-! repr of data -/
section
variable {X : Cx}
/-- repr(x): x data whose text is known to fit -/
def rRepr (K : PySem.W.Frag) : List V → Hp → VK → Prop := fun xs H Q => ∃ (x : V) (d : PyData), xs = [x] ∧
  Dp K H x d ∧ d.showable = true ∧ d.hasDict = false ∧ d.depth ≤ 40 ∧ d.shown.length ≤ sizeLine ∧
  (∀ i : Int, d = .int i → i.natAbs.log2 < 1920) ∧ Q (.str d.shown) H
theorem call_repr (gX : X.A.guards = some []) (hu : X.A.units + 64 < cLine) :
    CallR X (.builtin "repr") (rRepr X.K) := by
  intro pins s σ H xs us Q I r h
  obtain ⟨x, d, rfl, hd, hsh, hno, hde, hsz, hint, q⟩ := h
  obtain ⟨u, rfl, ru⟩ := vals1 r
  cases hd with
  | non =>
    cases ru
    exact PySem.P.repr_of_none ⟨.str _, H, I.tok _, ⟨_, rfl⟩, q⟩
  | bl b =>
    cases ru
    refine PySem.P.repr_of_bool ⟨.str _, H, I.tok _, ⟨_, rfl⟩, ?_⟩
    cases b <;> exact q
  | int i =>
    obtain ⟨t, rfl⟩ := ru
    exact PySem.P.repr_of_int (hint i rfl) ⟨.str _, H, I.tok _, ⟨_, rfl⟩, q⟩
  | str z =>
    obtain ⟨t, rfl⟩ := ru
    exact PySem.P.repr_of_str ⟨.str _, H, I.tok _, ⟨_, rfl⟩, q⟩ hsz
  | @lst a ys ds hs ha =>
    obtain ⟨as, rd⟩ := Dp.reads I (.list ds) (.ref a) u (.lst hs ha) ru
    cases ru
    refine repr_of_reads' rd hsh (fun z => absurd (hno.symm.trans z) Bool.false_ne_true) gX (by omega)
      (fun _ _ e => e) (fun h' t' tk hk => ?_) hsz
    exact ⟨.str _, H, I.kept (t' := tk) hk, ⟨_, rfl⟩, q⟩
  | @tup a ys ds hs ha =>
    obtain ⟨as, rd⟩ := Dp.reads I (.tuple ds) (.ref a) u (.tup hs ha) ru
    cases ru
    refine repr_of_reads' rd hsh (fun z => absurd (hno.symm.trans z) Bool.false_ne_true) gX (by omega)
      (fun _ _ e => e) (fun h' t' tk hk => ?_) hsz
    exact ⟨.str _, H, I.kept (t' := tk) hk, ⟨_, rfl⟩, q⟩
end
end Ow

set_option Elab.async false
set_option linter.all false
set_option maxRecDepth 100000
set_option maxHeartbeats 4000000
namespace Ow
open PySem PySem.Spec PyProof.Rows L2

/-- what the law's end asks of the call -/
abbrev EndOf (s₁ : Shared) : Result → Shared → Prop := fun r s' =>
  r = .ok (.ret (.bool true)) ∧ OldK s₁.heap s'.heap ∧ s'.os = s₁.os ∧ AllBare s'.gens
section
variable {P : Program} {w : World} {K : PySem.W.Frag} {mg mb : Str → Option Value} {k : Nat} {fa a : Addr}
  {fd : FuncData} {x : Str} {sp : Sp} {s₁ : Shared} {vs : List Value} {ns : List Int}
/-- .. where at most the script, known to its object, is tracked -/
theorem endG1 {H : Hp} (ob : Obj) (hob : s₁.heap.get? a = some ob) (hda : ∀ es ep, ob.data ≠ .dict es ep)
    (inK : K.In s₁.heap) (nsM : s₁.heap.Ns mainGlobals mg) (nsB : s₁.heap.Ns builtinsNs mb)
    (boot : ∀ y : Str, y ≠ "__name__" → mb y = bootBuiltins y) (noL : s₁.heap.NoLimit)
    (g0 : s₁.gens = #[]) (hr : Room k callerA)
    (F : ∀ base : Heap, K.In base → base.Ns mainGlobals mg → FnG P w K mg base k fa fd [x] sp)
    (bind : ∀ (s : Shared) (u : Value), BindsTo s fd ⟨[u], []⟩ [(x, u)])
    (hs : sp [.ref a] H (fun v _ => v = .bl true) fun _ _ _ => False) (only : Only H)
    (hok : HOk P w H s₁.heap) (hA : ∀ b, H b ≠ none → b = a) (hK : H a ≠ none → K.lookup a = none) :
    codeAny (model P w) callerA (.call (.ref fa) ⟨[.ref a], []⟩) (EndOf s₁) s₁ := by
  have free : ∀ {b : Addr}, b ≠ a → H b = none := fun {b} n => by
    cases e : H b with
    | none => rfl
    | some u => exact absurd (hA b (by rw [e]; exact fun z => nomatch z)) n
  have hid : ∀ {b : Addr} {o : Obj}, s₁.heap.get? b = some o → H b = none → (hidT s₁.heap H).get? b = some o :=
    fun e n => hidT_get e n
  have dictFree : ∀ {b : Addr} {o : Obj} {es : Array DictEntry} {ep : Nat},
      s₁.heap.get? b = some o → o.data = .dict es ep → H b = none := fun {b o es ep} e d => by
    refine free fun z => ?_
    rw [z, hob] at e
    exact hda es ep (by rw [Option.some.inj e]; exact d)
  have nsOf : ∀ {b : Addr} {m : Str → Option Value}, s₁.heap.Ns b m → (hidT s₁.heap H).Ns b m := by
    intro b m q
    obtain ⟨o, es, ep, e, d, r⟩ := q
    exact ⟨o, es, ep, hid e (dictFree e d), d, r⟩
  have inB : K.In (hidT s₁.heap H) := fun b o e => hid (inK b o e) (by
    by_cases hb : b = a
    · cases q : H b with
      | none => rfl
      | some u =>
        rw [hb] at e q
        rw [hK (by rw [q]; exact fun z => nomatch z)] at e
        cases e
    · exact free hb)
  have hM : Mod K mg (hidT s₁.heap H) := by
    obtain ⟨mc, h1, h2⟩ := noL
    exact ⟨inB, nsOf nsM, ⟨mb, nsOf nsB, boot⟩, mc, nsOf h1, h2⟩
  have e0 : Env0 P w K mg (hidT s₁.heap H) callerA [] s₁ H :=
    { frames := rfl, mod := hM, bs := fun b o e => of_hidT e, bsz := Nat.le_of_eq (hidT_size _ _)
      funs := trivial, frf := fun b hb => (nomatch (show b ∈ ([] : List Addr) from hb)), hok := hok, bare := .of_eq g0 }
  have run := (F _ inB (nsOf nsM)).go callerA [] s₁ H ⟨[.ref a], []⟩ [.ref a] [.ref a] _ _ rfl hr e0
    (bind s₁ (.ref a)) (.cons rfl .nil) hs
  refine codeAny_mono run fun r s' h => ?_
  cases r with
  | error e => exact False.elim h
  | ok fl =>
    cases fl with
    | next => exact False.elim h
    | brk => exact False.elim h
    | cont => exact False.elim h
    | ret u =>
      obtain ⟨v, H', os, bare, un, hok', rv, q⟩ := h
      have q' : v = .bl true := q
      subst q'
      have eu : u = Value.bool true := rv
      subst eu
      refine ⟨rfl, OldK.of_keep fun b o e => ?_, os, bare⟩
      rcases only b with z | ⟨ob, xs, z⟩
      · exact un.keep b o e z (fun m => nomatch (show b ∈ ([] : List Addr) from m)) (fun m => nomatch m)
      · obtain ⟨e1, _⟩ := hok b _ z
        obtain ⟨e2, _⟩ := hok' b _ (un.frzs b ob _ z)
        rw [e] at e1
        rw [Option.some.inj e1]
        exact e2
theorem endG (inK : K.In s₁.heap) (nsM : s₁.heap.Ns mainGlobals mg) (nsB : s₁.heap.Ns builtinsNs mb)
    (boot : ∀ y : Str, y ≠ "__name__" → mb y = bootBuiltins y) (noL : s₁.heap.NoLimit)
    (g0 : s₁.gens = #[]) (hob : s₁.heap.get? a = some { cls := .type "list", data := .seq vs.toArray })
    (hi : IntsAre vs ns) (hl : ns.length ≤ sizeLine) (hr : Room k callerA)
    (F : ∀ base : Heap, K.In base → base.Ns mainGlobals mg → FnG P w K mg base k fa fd [x] sp)
    (bind : ∀ (s : Shared) (u : Value), BindsTo s fd ⟨[u], []⟩ [(x, u)])
    (hs : ∀ H : Hp, Only H → SqL K H a (ns.map V.int) → sp [.ref a] H (fun v _ => v = .bl true) fun _ _ _ => False) :
    codeAny (model P w) callerA (.call (.ref fa) ⟨[.ref a], []⟩) (EndOf s₁) s₁ := by
  have rv := vals_ints hi
  have nd : ∀ es ep, (Obj.data { cls := .type "list", data := .seq vs.toArray }) ≠ .dict es ep := fun es ep z => by cases z
  cases hk : K.lookup a with
  | some o =>
    have e := inK a o hk
    rw [hob] at e
    cases e
    have O : Only (fun _ => none) := fun _ => .inl rfl
    refine endG1 (H := fun _ => none) _ hob nd inK nsM nsB boot noL g0 hr F bind (hs _ O (.inr ?_)) O
      (fun b u z => nomatch z) (fun b z => absurd rfl z) (fun z => absurd rfl z)
    exact ⟨_, vs.toArray, _, hk, rfl, rfl, rfl, by rw [List.size_toArray, hi.length]; exact hl, rv⟩
  | none =>
    have at_ : ∀ b u, (fun b => if b = a then some (HO.frz { cls := .type "list", data := .seq vs.toArray }
        (.lst (ns.map V.int))) else none) b = some u → b = a ∧ u = HO.frz { cls := .type "list", data := .seq vs.toArray } (.lst (ns.map V.int)) := by
      intro b u z
      by_cases hb : b = a
      · exact ⟨hb, (Option.some.inj ((if_pos hb).symm.trans z)).symm⟩
      · exact nomatch (if_neg hb).symm.trans z
    have O : Only (fun b => if b = a then some (HO.frz { cls := .type "list", data := .seq vs.toArray }
        (.lst (ns.map V.int))) else none) := by
      intro b
      by_cases hb : b = a
      · exact .inr ⟨_, _, if_pos hb⟩
      · exact .inl (if_neg hb)
    refine endG1 _ hob nd inK nsM nsB boot noL g0 hr F bind (hs _ O (.inl (.inr ⟨_, if_pos rfl⟩))) O ?_ ?_ (fun _ => hk)
    · intro b u z
      obtain ⟨rfl, rfl⟩ := at_ b u z
      exact ⟨hob, by rw [List.length_map]; exact hl, vs, _, rv, hob⟩
    · intro b z
      cases q : (fun b => if b = a then some (HO.frz { cls := .type "list", data := .seq vs.toArray }
        (.lst (ns.map V.int))) else none) b with
      | none => exact absurd q z
      | some u => exact (at_ b u q).1
end
/-- the head's goal, from the law's promise with nothing guarded -/
theorem walkG {l : PySem.W.OpenLaw} {n k : Nat} {q : Program} {loose : List Str} {XP : (Str → Option Value) → Heap → Prop}
    {YP : World → Heap → Prop} {d : DefRec} {K : Params → PySem.W.Frag} {sp : PySem.W.Frag → Sp} {x : Str}
    (hn : l.most = some n) (hn2 : n ≤ sizeLine) (hdf : d.params.defaults = []) (hr : Room k callerA)
    (hY : ∀ (w : World) (h : Heap), YP w h → (K w.params).In h)
    (F : ∀ (w : World) (mg : Str → Option Value) (fa : Addr) (h : Heap), (K w.params).In h → h.Ns mainGlobals mg →
      mg d.name = some (.ref fa) → ∃ fd : FuncData, (∀ (s : Shared) (u : Value), BindsTo s fd ⟨[u], []⟩ [(x, u)]) ∧
        ∀ base : Heap, (K w.params).In base → base.Ns mainGlobals mg →
          FnG l.prog w (K w.params) mg base k fa fd [x] (sp (K w.params)))
    (hs : ∀ (K : PySem.W.Frag) (H : Hp) (a : Addr) (ns : List Int), ns.length ≤ n → Only H →
      SqL K H a (ns.map V.int) → sp K [.ref a] H (fun v _ => v = .bl true) fun _ _ _ => False) :
    PySem.W.WalkO q loose XP YP l.row.toRowW d [] (fun f vs => PySem.call f vs) := by
  refine Att.attach_call hn hdf fun w s₀ s₁ mg mb fa o pm cd doc a vs ns G Y ho hd hcd hmg hobj hints hlen hg => ?_
  have inK := hY w _ Y
  obtain ⟨fd, hb, hF⟩ := F w mg fa _ inK G.T.g hmg
  exact endG inK G.T.g G.T.b G.T.builtins G.T.nolimit hg hobj hints (Nat.le_trans hlen hn2) hr hF hb
    fun H hO hS => hs _ H a ns hlen hO hS
end Ow

set_option Elab.async false
set_option linter.all false
set_option maxRecDepth 100000
set_option maxHeartbeats 4000000
namespace Ow
open PySem PySem.Spec PyProof.Rows L2

/-! powers of greater numbers -/
def CPowB (i j : Int) : Prop := 0 ≤ j ∧ (Builtin.Int.intBits i : Int) * j ≤ 2 ^ 27
section
variable {X : Cx}
theorem op_powB : OpR X (binaryOp .Pow) (rI CPowB fun i j => .int (i ^ j.toNat)) :=
  opI fun _ _ _ _ _ _ _ hc q => pow_int hc.1 hc.2 q
end

/-! a tuple backwards: some of its items -/
theorem vals_pick {xs : List V} {its : List Value} (r : Vals xs its) (f : Nat → Nat) : ∀ l : List Nat,
    Vals (l.filterMap fun m => xs[f m]?) (l.filterMap fun m => its[f m]?)
  | [] => .nil
  | m :: l => by
    have ih := vals_pick r f l
    cases e : xs[f m]? with
    | none =>
      simp only [List.filterMap_cons, e, r.none_of e]
      exact ih
    | some x =>
      obtain ⟨u, hu, rv⟩ := r.get e
      simp only [List.filterMap_cons, e, hu]
      exact .cons rv ih
theorem back_places (n : Nat) : Builtin.Slice.slicePlaces ((n : Int) - 1) (-1) (-1) = n := by
  unfold Builtin.Slice.slicePlaces
  rw [if_neg (by decide)]
  by_cases h : (n : Int) - 1 > -1
  · rw [if_pos h]
    simp only [Int.neg_neg, Int.ediv_one]
    omega
  · rw [if_neg h]
    omega
theorem back_adjust (n : Nat) : Builtin.Slice.sliceAdjust none none (-1) (n : Int) = ((n : Int) - 1, -1) := by
  unfold Builtin.Slice.sliceAdjust
  simp
section
variable {prog : Program} {w : World} {A : Around} {E : Value → Shared → Prop} {s : Shared}
theorem back_applied {sl : Addr} {vs : Value} {n : Nat} {Q : Int × Int × Nat → Shared → Prop}
    (hs : s.heap.IsSliceOf sl .none .none vs) (p : IsPart vs (some (-1))) (h : Q ((n : Int) - 1, -1, n) s) :
    wpAny (model prog w) A (Builtin.Slice.sliceApplied (.ref sl) (pure (n : Int))) Q E s := by
  obtain ⟨os, hos, hcs, hds⟩ := id hs
  unfold Builtin.Slice.sliceApplied Builtin.Slice.sliceFields
  refine wpAny_bind (wpAny_bind (wpAny_field hos hds (x := .none) rfl ?_))
  refine wpAny_bind (wpAny_field hos hds (x := .none) rfl ?_)
  refine wpAny_bind (wpAny_field hos hds (x := vs) rfl (wpAny_pure ?_))
  refine wpAny_bind (HT.slicePart_ p ?_)
  show wpAny _ _ (if ((-1 : Int) == 0) = true then _ else _) _ _ s
  rw [if_neg (by decide)]
  refine wpAny_bind (slicePart_none (wpAny_bind (slicePart_none (wpAny_bind (wpAny_pure ?_)))))
  show wpAny _ _ (match Builtin.Slice.sliceAdjust none none (-1) (n : Int) with
    | (lo, hi) => pure (lo, (-1 : Int), Builtin.Slice.slicePlaces lo hi (-1))) _ _ s
  rw [back_adjust]
  show wpAny _ _ (pure ((n : Int) - 1, (-1 : Int), Builtin.Slice.slicePlaces ((n : Int) - 1) (-1) (-1))) _ _ s
  rw [back_places]
  exact wpAny_pure h
theorem back_item {t sl : Addr} {items : Array Value} {vs : Value} {Q : Value → Shared → Prop}
    (ht : IsTup s.heap t items) (hs : s.heap.IsSliceOf sl .none .none vs) (p : IsPart vs (some (-1)))
    (hsz : items.size ≤ sizeLine)
    (h : Q (.ref s.heap.objs.size) { s with heap := s.heap.push { cls := .type "tuple", data := .seq ((List.range items.size).filterMap fun (k : Nat) => items[((items.size : Int) - 1 + (k : Int) * -1).toNat]?).toArray } }) :
    wpAny (model prog w) A (getItem (.ref t) (.ref sl)) Q E s := by
  have hz : sizeOk (.seq ((List.range items.size).filterMap fun (k : Nat) =>
      items[((items.size : Int) - 1 + (k : Int) * -1).toNat]?).toArray) := by
    show Array.size _ ≤ sizeLine
    rw [List.size_toArray]
    refine Nat.le_trans (List.length_filterMap_le _ _) ?_
    rw [List.length_range]
    exact hsz
  obtain ⟨os, hos, hcs, hds⟩ := id hs
  have isS : s.TypeIs (.ref sl) "slice" := ⟨os, hos, hcs⟩
  unfold getItem
  try with_reducible refine wpAny_holding ?_
  first | refine wpAny_bind (wpAny_pure ?_) | skip
  refine wpAny_bind (wpAny_sequenceKey ht.typeIs (by decide) ?_)
  refine wpAny_bind (wpAny_callSpecial?_slot (name := Str.ofString "__getitem__") ht.typeIs
    PyProof.Rows.slot_tuple_getitem (wpAny_call_entry PyProof.Rows.slot_tuple_getitem ht.typeIs
      entry_tuple_getitem ?_ (args_tuple_getitem _ _)))
  show wpAny _ _ (Builtin.Tuple.tupleItemsOf (.ref t) >>= _) _ _ s
  refine wpAny_bind (tupleItemsOf_ ht ?_)
  refine wpAny_bind (wpAny_typeOf isS ?_)
  rw [if_pos (by decide)]
  refine wpAny_bind (back_applied hs p ?_)
  have no : ¬ ((((items.size : Int) - 1) == 0 && (-1 : Int) == 1 && items.size == items.size) = true) := by
    intro q
    rw [Bool.and_eq_true, Bool.and_eq_true] at q
    exact absurd q.1.2 (by decide)
  show wpAny _ _ (if (((items.size : Int) - 1) == 0 && (-1 : Int) == 1 && items.size == items.size) = true then _ else _) _ _ s
  rw [if_neg no]
  first
    | exact wpAny_bind (m := Builtin.Tuple.tupleExact _) (wpAny_newObj_type (wpAny_pure ⟨_, rfl, wpAny_pure h⟩) hz)
    | exact wpAny_bind (m := Builtin.Tuple.tupleExact _)
        (wpAny_newObj_type (wpAny_bind (wpAny_pure (wpAny_pure ⟨_, rfl, wpAny_pure h⟩))) hz)
    | exact wpAny_bind (wpAny_bind (m := Builtin.Tuple.tupleExact _)
        (wpAny_newObj_type (wpAny_pure (wpAny_pure ⟨_, rfl, wpAny_pure h⟩)) hz))
    | exact wpAny_bind (wpAny_bind (m := Builtin.Tuple.tupleExact _)
        (wpAny_newObj_type (wpAny_pure ⟨_, rfl, wpAny_pure h⟩) hz))
end
def tBack (K : PySem.W.Frag) (te : TE) : TE := fun σ H Q => te σ H fun x H1 => ∃ a xs, x = .ref a ∧ SqT K H1 a xs ∧
  ∀ p zs, H1 p = none → (∀ z ∈ zs, z ∈ xs) → zs.length ≤ xs.length → Q (.ref p) (upd H1 p (.tup zs))
section
variable {X : Cx}
theorem pe_back {e : Expr} {te : TE} {k : Nat} {p1 p2 p3 pos : Pos} (he : PE X e te) :
    PE X (.Subscript e (.Slice none none (some (.UnaryOp .USub (.Constant (.int 1) k p1) p2)) p3) pos) (tBack X.K te) := by
  refine ⟨fun pins s σ H Q I h => ?_⟩
  refine Subscript_ (thn (he.run pins s σ H _ I h) fun v s1 hv => ?_)
  obtain ⟨x, H1, I1, r1, a, xs, ex, hx, q⟩ := hv
  subst ex
  cases r1
  have hst : PO X (some (.UnaryOp .USub (.Constant (.int 1) k p1) p2)) (tPart (tUn (rU fun i => .int (-i)) (tC (.int 1)))) :=
    po_some (pe_un un_neg pe_int)
  refine wpAny_Slice (thn (po_none.run pins s1 σ H1 (fun o H2 => o = none ∧ H2 = H1) I1 ⟨rfl, rfl⟩) fun vl s2 hl => ?_)
  obtain ⟨l, H2, I2, pl, el, e2⟩ := hl
  subst el e2
  refine thn (po_none.run pins s2 σ H2 (fun o H3 => o = none ∧ H3 = H2) I2 ⟨rfl, rfl⟩) fun vu s3 hl => ?_
  obtain ⟨u, H3, I3, pu, eu, e3⟩ := hl
  subst eu e3
  refine thn (hst.run pins s3 σ H3 (fun o H4 => o = some (-1) ∧ H4 = H3) I3 ⟨1, rfl, -1, rfl, rfl, rfl⟩) fun vs s4 hl => ?_
  obtain ⟨o, H4, I4, ps, eo, e4⟩ := hl
  subst eo e4
  cases pl
  cases pu
  have I5 : Inv X pins σ H4 { s4 with heap := s4.heap.push { cls := .type "slice", data := .fields #[.none, .none, vs] } } :=
    I4.kept (t' := s4.toks) fun b ob q => Heap.get?_push_of_some _ q
  obtain ⟨its, r, ht, hz⟩ := I5.tuple hx
  have hlen := r.length
  refine tail_any (ops := [.ref a, .ref s4.heap.objs.size]) ht.typeIs (PyProof.Rows.slot_tuple_getitem.lookup) ?_ (by with_unfolding_all rfl)
  refine back_item ht (Heap.IsSliceOf.new _ .none .none vs) ps (by rw [List.size_toArray]; omega) ?_
  have hsz : its.toArray.size = xs.length := by rw [List.size_toArray]; exact hlen.symm
  rw [hsz]
  let f : Nat → Nat := fun k => ((xs.length : Int) - 1 + (k : Int) * -1).toNat
  have hv := vals_pick r f (List.range xs.length)
  have le : ((List.range xs.length).filterMap fun m => xs[f m]?).length ≤ xs.length :=
    Nat.le_trans (List.length_filterMap_le _ _) (by rw [List.length_range]; exact Nat.le_refl _)
  refine ⟨.ref _, _, I5.laid (t' := s4.toks) (o := .tup ((List.range xs.length).filterMap fun m => xs[f m]?))
    (fun b ob q => Heap.get?_push_of_some _ q) (Nat.le_refl _) ?_, rfl,
    q _ _ (I5.hok.fresh (Nat.le_refl _)) (fun z hz => ?_) le⟩
  · refine ⟨Nat.le_trans le hz, (List.range xs.length).filterMap fun m => its[f m]?, hv, ?_⟩
    have e : (List.filterMap (fun (k : Nat) => its.toArray[((xs.length : Int) - 1 + (k : Int) * -1).toNat]?) (List.range xs.length)) =
        ((List.range xs.length).filterMap fun m => its[f m]?) := by
      congr 1
      funext m
      simp [f]
    rw [e]
    exact IsTup.new _ _
  · obtain ⟨m, _, hm⟩ := List.mem_filterMap.mp hz
    exact List.mem_of_getElem? hm
end

/-! a comprehension over a text's signs -/
theorem lc_signs {z : Str} {g : TG} {tt : TT} {te : TE} {vs : List Nat} {σ : L2.St} {H1 : Hp} {D : Addr} {Qd : Hp → Prop}
    (I : Nat → Hp → Prop) (h0 : I 0 (upd H1 D (.lst [])))
    (hs : ∀ i c H, z.cps[i]? = some c → I i H → g (.str ⟨#[c]⟩) (wipe σ vs) H fun σ2 H2 => wipe σ2 vs = wipe σ vs ∧
      tt σ2 H2 fun b H3 => if b = true then te σ2 H3 fun y H4 => ∃ acc, H4 D = some (.lst acc) ∧
        acc.length < sizeLine ∧ I (i + 1) (upd H4 D (.lst (acc ++ [y]))) else I (i + 1) H3)
    (hd : ∀ H, I z.cps.size H → Qd H) :
    ∃ W : Nat → Nat → Hp → Prop, (∃ m, W 0 m (upd H1 D (.lst []))) ∧ ∀ i m H, W i m H →
      ((Its z).stop i H ∧ Qd H) ∨ ((Its z).go i H ∧ ∃ Nx : Hp → Prop, (∀ H', Nx H' → ∃ m', m' < m ∧ W (i + 1) m' H') ∧
        ∀ x H', (Its z).yld i H x H' → g x (wipe σ vs) H' fun σ2 H2 => wipe σ2 vs = wipe σ vs ∧ tt σ2 H2 fun b H3 =>
          if b = true then te σ2 H3 fun y H4 => ∃ acc, H4 D = some (.lst acc) ∧ acc.length < sizeLine ∧
            Nx (upd H4 D (.lst (acc ++ [y]))) else Nx H3) := by
  refine ⟨fun i m H => m + i = z.cps.size ∧ I i H, ⟨z.cps.size, by omega, h0⟩, fun i m H hW => ?_⟩
  obtain ⟨hm, hI⟩ := hW
  by_cases hi : i < z.cps.size
  · refine .inr ⟨hi, I (i + 1), fun H' h' => ⟨m - 1, by omega, by omega, h'⟩, fun x H' hy => ?_⟩
    obtain ⟨rfl, c, hc, rfl⟩ := hy
    exact hs i c _ hc hI
  · have e : i = z.cps.size := by omega
    subst e
    exact .inl ⟨Nat.le_refl _, hd H hI⟩
end Ow

set_option Elab.async false
set_option linter.all false
set_option maxRecDepth 100000
set_option maxHeartbeats 4000000
namespace Ow
open PySem PySem.Spec PyProof.Rows L2

/-! ### the text -/
def topS (i : Nat) : Stmt := PySem.Challenge.pw_oneswill_k43_whole_winners_told.main.body.getD i (.Pass ⟨0, 0, 0, 0⟩)
def inS (i j : Nat) : Stmt := match topS i with
  | .ClassDef _ _ _ b _ _ _ _ _ _ _ => b.getD j (.Pass ⟨0, 0, 0, 0⟩)
  | _ => .Pass ⟨0, 0, 0, 0⟩
abbrev dInteger : Stmt := topS 11
abbrev dName : Stmt := topS 12
abbrev dValue : Stmt := topS 13
abbrev dValues : Stmt := topS 14
abbrev dHasValues : Stmt := topS 15
abbrev dAllValues : Stmt := topS 16
abbrev dAscending : Stmt := topS 18
abbrev dSetNames : Stmt := topS 19
abbrev dIssues : Stmt := topS 22
abbrev dKeys : Stmt := topS 23
abbrev dNeedIssues : Stmt := topS 28
abbrev dNeedVoters : Stmt := topS 29
abbrev dIsTable : Stmt := topS 30
abbrev dAreTables : Stmt := topS 31
abbrev dFollow : Stmt := topS 32
abbrev dPlace : Stmt := topS 34
abbrev dJug : Stmt := topS 46
abbrev dDip : Stmt := topS 47
abbrev dJumbled : Stmt := topS 48
abbrev dAllRows : Stmt := topS 49
abbrev dAnyTables : Stmt := topS 51
abbrev dLaw : Stmt := topS 55
abbrev dInit : Stmt := inS 36 0
abbrev dOfVoter : Stmt := inS 36 1
abbrev dPVoters : Stmt := inS 36 2
abbrev dPIssues : Stmt := inS 36 3
abbrev dGetitem : Stmt := inS 36 4
abbrev dCall : Stmt := inS 36 5
abbrev dAreVotes : Stmt := inS 36 6
abbrev dContains : Stmt := inS 36 7
abbrev dLen : Stmt := inS 36 8
abbrev dEq : Stmt := inS 36 9
abbrev dStr : Stmt := inS 36 10
abbrev dIter : Stmt := inS 36 11
abbrev dHeard : Stmt := inS 36 13
abbrev dAllSets : Stmt := topS 17
abbrev dIsAnswer : Stmt := topS 24
abbrev dAnswerTo : Stmt := topS 25
abbrev dAreVoters : Stmt := topS 33
abbrev dHangs : Stmt := topS 35
abbrev dNeedAny : Stmt := topS 37
abbrev dWins : Stmt := topS 39
abbrev dNeedAns : Stmt := topS 40
abbrev dDoesWin : Stmt := topS 41
abbrev dWinners : Stmt := topS 42
abbrev dAllHeard : Stmt := topS 43
abbrev dWinnersOf : Stmt := topS 45
abbrev dMadeRule : Stmt := topS 50
abbrev dAnyTabs : Stmt := topS 51
abbrev dRight : Stmt := topS 52
abbrev dFlipped : Stmt := topS 53
abbrev dLawSets : Stmt := topS 54

/-! ### heaps that grow, but for the jug at J -/
def Sb (J : Addr) (H H' : Hp) : Prop := ∀ b o, b ≠ J → H b = some o → H' b = some o
theorem Sb.refl (J : Addr) (H : Hp) : Sb J H H := fun _ _ _ e => e
theorem Sb.trans {J : Addr} {H H1 H2 : Hp} (a : Sb J H H1) (b : Sb J H1 H2) : Sb J H H2 :=
  fun c o n e => b c o n (a c o n e)
theorem Sb.same {J : Addr} {H H' : Hp} (a : Same H H') : Sb J H H' := fun c o _ e => a c o e
theorem same_new {H : Hp} {p : Addr} {o : HO} (h : H p = none) : Same H (upd H p o) := fun b x e => by
  rw [upd_ne (ne_of_none e h)]
  exact e
theorem Sb.new {J : Addr} {H : Hp} {p : Addr} {o : HO} (h : H p = none) : Sb J H (upd H p o) := .same (same_new h)
theorem Sb.at {J : Addr} {H : Hp} {o : HO} : Sb J H (upd H J o) := fun b x n e => by
  rw [upd_ne n]
  exact e

/-! ### the values that the law asks about -/
/-- no reference; small enough to be told as a text -/
def scOk : V → Prop
  | .non => True
  | .bl _ => True
  | .int i => i.natAbs < 2 ^ 400
  | .str z => z.length ≤ 4000 ∧ ∀ c ∈ z.cps.toList, c < 128
  | _ => False
/-- (), (0,), [] -/
def Gr (H : Hp) (a : Addr) : Prop := H a = some (.tup []) ∨ H a = some (.tup [.int 0]) ∨ H a = some (.lst [])
def Im (J : Addr) (H : Hp) (v : V) : Prop := scOk v ∨ ∃ a, v = .ref a ∧ a ≠ J ∧ Gr H a
def Vl (J : Addr) (H : Hp) (v : V) : Prop := scOk v ∨ ∃ a, v = .ref a ∧ a ≠ J ∧
  ((∃ xs, H a = some (.tup xs) ∧ xs.length ≤ 60 ∧ ∀ x ∈ xs, Im J H x) ∨ (∃ xs, H a = some (.lst xs)) ∨ ∃ kvs, H a = some (.dK kvs))
theorem Gr.mono {J : Addr} {H H' : Hp} {a : Addr} (s : Sb J H H') (n : a ≠ J) (h : Gr H a) : Gr H' a := by
  rcases h with h | h | h
  · exact .inl (s _ _ n h)
  · exact .inr (.inl (s _ _ n h))
  · exact .inr (.inr (s _ _ n h))
theorem Im.mono {J : Addr} {H H' : Hp} {v : V} (s : Sb J H H') (h : Im J H v) : Im J H' v := by
  rcases h with h | ⟨a, e, n, g⟩
  · exact .inl h
  · exact .inr ⟨a, e, n, g.mono s n⟩
theorem Vl.mono {J : Addr} {H H' : Hp} {v : V} (s : Sb J H H') (h : Vl J H v) : Vl J H' v := by
  rcases h with h | ⟨a, e, n, g⟩
  · exact .inl h
  · refine .inr ⟨a, e, n, ?_⟩
    rcases g with ⟨xs, h, l, q⟩ | ⟨xs, h⟩ | ⟨kvs, h⟩
    · exact .inl ⟨xs, s _ _ n h, l, fun x hx => (q x hx).mono s⟩
    · exact .inr (.inl ⟨xs, s _ _ n h⟩)
    · exact .inr (.inr ⟨kvs, s _ _ n h⟩)
theorem Im.vl {J : Addr} {H : Hp} {v : V} (h : Im J H v) : Vl J H v := by
  rcases h with h | ⟨a, e, n, g⟩
  · exact .inl h
  · refine .inr ⟨a, e, n, ?_⟩
    rcases g with h | h | h
    · exact .inl ⟨_, h, Nat.zero_le _, fun x hx => nomatch hx⟩
    · refine .inl ⟨_, h, by decide, fun x hx => ?_⟩
      rw [List.mem_singleton] at hx
      rw [hx]
      exact .inl (by show Int.natAbs 0 < 2 ^ 400; decide)
    · exact .inr (.inl ⟨_, h⟩)
/-- what is told of a value -/
def bitB (v : V) : Bool := decide (v = .int 0) || decide (v = .int 1)
def shortB : V → Bool
  | .int i => decide (-(10 ^ 60) < i) && decide (i < 10 ^ 60)
  | _ => false
def signB (c : Nat) : Bool := decide (97 ≤ c) && decide (c ≤ 122)
def nameB : V → Bool
  | .str z => (decide (1 ≤ z.length) && decide (z.length ≤ 8)) && z.cps.toList.all signB
  | _ => false
def rowB (H : Hp) : V → Bool
  | .ref a => match H a with
    | some (.tup xs) => xs.all bitB
    | _ => false
  | _ => false
/-- a def that tells a truth of a value, and changes nothing -/
def spB (g : Hp → V → Bool) : Sp := fun vs H Q _ => ∃ v J, vs = [v] ∧ Vl J H v ∧ ∀ H', Same H H' → Q (.bl (g H v)) H'
theorem spB_len {g : Hp → V → Bool} : ∀ vs H Q E, spB g vs H Q E → vs.length = 1 := by
  intro vs H Q E h
  obtain ⟨v, J, rfl, _⟩ := h
  rfl
/-- the classes of such values -/
theorem Vl.ty {K : PySem.W.Frag} {J : Addr} {H : Hp} {v : V} (h : Vl J H v) : ∃ T : String, TyX K H v (.type T) ∧
    ((∃ i, v = .int i) ∧ T = "int" ∨ (∃ b, v = .bl b) ∧ T = "bool" ∨ (v = .non) ∧ T = "NoneType" ∨ (∃ z, v = .str z ∧ z.length ≤ 4000 ∧ ∀ c ∈ z.cps.toList, c < 128) ∧ T = "str" ∨
      (∃ a xs, v = .ref a ∧ H a = some (.tup xs) ∧ xs.length ≤ 60 ∧ ∀ x ∈ xs, Im J H x) ∧ T = "tuple" ∨
      (∃ a xs, v = .ref a ∧ H a = some (.lst xs)) ∧ T = "list" ∨ (∃ a kvs, v = .ref a ∧ H a = some (.dK kvs)) ∧ T = "dict") := by
  rcases h with h | ⟨a, rfl, n, h⟩
  · cases v with
    | non => exact ⟨"NoneType", .base .non, .inr (.inr (.inl ⟨rfl, rfl⟩))⟩
    | bl b => exact ⟨"bool", .base (.bl b), .inr (.inl ⟨⟨b, rfl⟩, rfl⟩)⟩
    | int i => exact ⟨"int", .base (.int i), .inl ⟨⟨i, rfl⟩, rfl⟩⟩
    | str z => exact ⟨"str", .base (.str z), .inr (.inr (.inr (.inl ⟨⟨z, rfl, h⟩, rfl⟩)))⟩
    | byt _ => exact False.elim h
    | flt _ => exact False.elim h
    | ref _ => exact False.elim h
    | ty _ => exact False.elim h
  · rcases h with ⟨xs, h, l, q⟩ | ⟨xs, h⟩ | ⟨kvs, h⟩
    · exact ⟨"tuple", .base (.tup h), .inr (.inr (.inr (.inr (.inl ⟨⟨a, xs, rfl, h, l, q⟩, rfl⟩))))⟩
    · exact ⟨"list", .base (.lst h), .inr (.inr (.inr (.inr (.inr (.inl ⟨⟨a, xs, rfl, h⟩, rfl⟩)))))⟩
    · exact ⟨"dict", .base (.dK h), .inr (.inr (.inr (.inr (.inr (.inr ⟨⟨a, kvs, rfl, h⟩, rfl⟩)))))⟩
end Ow

set_option Elab.async false
set_option linter.all false
set_option maxRecDepth 100000
set_option maxHeartbeats 4000000
set_option exponentiation.threshold 3000
namespace Ow
open PySem PySem.Spec PyProof.Rows L2
theorem scInteger : FnScope ["value"] ["value"] (defScope dInteger) := ⟨rfl, rfl, rfl, by decide +kernel, rfl, by decide +kernel, by decide +kernel⟩
theorem scValue : FnScope ["value"] ["value"] (defScope dValue) := ⟨rfl, rfl, rfl, by decide +kernel, rfl, by decide +kernel, by decide +kernel⟩
theorem boot_isi : bootBuiltins "isinstance" = some (.builtin "isinstance") := by decide +kernel
section
variable {P : Program} {w : World} {K : PySem.W.Frag} {mg : Str → Option Value} {base : Heap}
/-- isinstance(x, T), T a built-in class -/
theorem pe_isi {X : Cx} {e : Expr} {te : TE} {T : String} {n : Str} {p p2 pos : Pos} (g : Gl X "isinstance") (m : X.mg "isinstance" = none)
    (he : PE X e te) (g2 : Gl X n) (m2 : X.mg n = none) (hv : bootBuiltins n = some (.type T)) (nn : n ≠ "__name__" := by decide) (nd : (n == ("__debug__" : Str)) = false := by decide)
    (h1 : starEach [e, .Name n p2] X.env = (false, eval e X.env) :: starEach [.Name n p2] X.env := by rfl) (h2 : (backTo pos (starEach [.Name n p2] X.env)).any (·.1) = false := by rfl) :
    PE X (.Call (.Name "isinstance" p) [e, .Name n p2] [] pos) (tCB (rIsi X.K) (tCons te (tCons (tC (.ty T)) tNil))) :=
  pe_callB call_isi g m boot_isi (pa_cons he (pa_cons (pe_bltn g2 m2 hv rfl nn nd) pa_nil (by rfl)) h1) (by decide) (by decide) h1 h2
def isT (T U : String) : Bool := (kitB T U).getD false
theorem isi_at {K : PySem.W.Frag} {H : Hp} {v : V} {T : String} {b : Bool} {Q : VK} {i : Nat} {σ : L2.St} (U : String) (hi : σ[i]? = some (some v)) (ty : TyX K H v (.type T)) (k : kitB T U = some b) (q : Q (.bl b) H) :
    tCB (rIsi K) (tCons (tVar i) (tCons (tC (.ty U)) tNil)) σ H Q := ⟨v, hi, v, .ty U, .type T, .type U, b, rfl, .ty U, ty, kit_ty k, q⟩
theorem ok_integer {f : Addr} {fd : FuncData} {t : Tok} (F : Fun K "is_integer" "is_integer" dInteger f fd) (mi : mg "isinstance" = none) (mn : mg "int" = none) (mb : mg "bool" = none)
    (mB : mg "_BOUND" = some (.int (10 ^ 60) t)) : FnOk P w K mg base CX0 1 f fd ["value"] (spB fun _ => shortB) := by
  refine F.ok scInteger spB_len (fun cdv A outer s H vs Q E hr h => ?_)
  obtain ⟨v, J, rfl, hv, q⟩ := h
  refine ⟨_, pss_one (ps_ret (pe_and (pe_isi (by rfl) mi (pv 0) (by rfl) mn boot_int)
    (pe_and (pe_not (pe_isi (T := "bool") (by rfl) mi (pv 0) (by rfl) mb (by decide +kernel)))
      (pe_one (pe_chain op_lt op_lt (pe_un un_neg (pe_glob (v := .int (10 ^ 60)) (by rfl) mB ⟨_, rfl⟩)) (pv 0) (pe_glob (v := .int (10 ^ 60)) (by rfl) mB ⟨_, rfl⟩)))))), ?_⟩
  obtain ⟨T, ty, c⟩ := hv.ty (K := K)
  have fin : ∀ b, b = shortB v → Q (.bl b) H := fun b e => by
    rw [e]
    exact q H (Same.refl H)
  rcases c with ⟨⟨i, rfl⟩, rfl⟩ | ⟨⟨b, rfl⟩, rfl⟩ | ⟨rfl, rfl⟩ | ⟨⟨z, rfl, _⟩, rfl⟩ | ⟨⟨a, xs, rfl, _⟩, rfl⟩ | ⟨⟨a, xs, rfl, _⟩, rfl⟩ | ⟨⟨a, xs, rfl, _⟩, rfl⟩
  · refine isi_at "int" rfl ty (b := true) (by decide +kernel) ⟨true, rfl, iteT (isi_at "bool" rfl ty (b := false) (by decide +kernel) ⟨false, rfl, true, rfl, iteT ?_⟩)⟩
    refine ⟨10 ^ 60, rfl, .int i, rfl, _, _, rfl, rfl, _, rfl, ?_⟩
    by_cases h : -(10 ^ 60) < i
    · rw [decide_eq_true h]
      refine iteT ⟨_, _, rfl, rfl, fin _ ?_⟩
      show _ = (decide (-(10 ^ 60) < i) && _)
      rw [decide_eq_true h]
      rfl
    · rw [decide_eq_false h]
      refine iteF (fin _ ?_)
      show _ = (decide (-(10 ^ 60) < i) && _)
      rw [decide_eq_false h]
      rfl
  · exact isi_at "int" rfl ty (b := true) (by decide +kernel) ⟨true, rfl, iteT (isi_at "bool" rfl ty (b := true) (by decide +kernel) ⟨true, rfl, false, rfl, iteF (fin _ rfl)⟩)⟩
  · exact isi_at "int" rfl ty (b := false) (by decide +kernel) ⟨false, rfl, iteF (fin _ rfl)⟩
  · exact isi_at "int" rfl ty (b := false) (by decide +kernel) ⟨false, rfl, iteF (fin _ rfl)⟩
  · exact isi_at "int" rfl ty (b := false) (by decide +kernel) ⟨false, rfl, iteF (fin _ rfl)⟩
  · exact isi_at "int" rfl ty (b := false) (by decide +kernel) ⟨false, rfl, iteF (fin _ rfl)⟩
  · exact isi_at "int" rfl ty (b := false) (by decide +kernel) ⟨false, rfl, iteF (fin _ rfl)⟩
/-- is_value: an integer, 0 or 1 -/
theorem ok_value {f fI : Addr} {fd fdI : FuncData} (F : Fun K "is_value" "is_value" dValue f fd) (FI : FnOk P w K mg base CX0 1 fI fdI ["value"] (spB fun _ => shortB))
    (kI : PySem.W.keepIn K (.ref fI) = true) (bI : Binds K fdI ["value"] []) (gI : mg "is_integer" = some (.ref fI)) : FnOk P w K mg base CX0 2 f fd ["value"] (spB fun _ => bitB) := by
  refine F.ok scValue spB_len (fun cdv A outer s H vs Q E hr h => ?_)
  obtain ⟨v, J, rfl, hv, q⟩ := h
  refine ⟨_, pss_one (ps_ret (pe_and (pe_call FI hr (by rfl) gI kI bI .nil pass0 (pa_cons (pv 0) pa_nil))
    (pe_one (pe_chain op_le op_le pe_int (pv 0) pe_int)))), ?_⟩
  refine ⟨v, rfl, v, J, rfl, hv, fun H1 sm => ⟨_, rfl, ?_⟩⟩
  have fin : ∀ b, b = bitB v → Q (.bl b) H1 := fun b e => by
    rw [e]
    exact q H1 sm
  by_cases hs : shortB v = true
  · show if shortB v = true then _ else _
    rw [hs]
    refine iteT ?_
    cases v with
    | int i =>
      refine ⟨.int i, rfl, 0, i, rfl, rfl, _, rfl, ?_⟩
      have e : bitB (.int i) = (decide (0 ≤ i) && decide (i ≤ 1)) := by
        unfold bitB
        rw [Bool.eq_iff_iff]
        simp only [Bool.or_eq_true, Bool.and_eq_true, decide_eq_true_eq, V.int.injEq]
        omega
      by_cases h : 0 ≤ i
      · rw [decide_eq_true h]
        refine iteT ⟨_, _, rfl, rfl, fin _ ?_⟩
        rw [e, decide_eq_true h]
        rfl
      · rw [decide_eq_false h]
        refine iteF (fin _ ?_)
        rw [e, decide_eq_false h]
        rfl
    | _ => exact absurd (show false = true from hs) Bool.false_ne_true
  · have e : shortB v = false := Bool.eq_false_iff.mpr hs
    show if shortB v = true then _ else _
    rw [e]
    refine iteF (fin _ ?_)
    cases v with
    | int i =>
      symm
      have e2 : (decide (-(10 ^ 60) < i) && decide (i < 10 ^ 60)) = false := e
      unfold bitB
      rw [Bool.or_eq_false_iff]
      constructor
      · refine decide_eq_false fun z => ?_
        have z : i = 0 := V.int.inj z
        subst z
        exact absurd e2 (by decide)
      · refine decide_eq_false fun z => ?_
        have z : i = 1 := V.int.inj z
        subst z
        exact absurd e2 (by decide)
    | _ =>
      symm
      unfold bitB
      rw [Bool.or_eq_false_iff]
      exact ⟨decide_eq_false (fun z => (nomatch z)), decide_eq_false (fun z => (nomatch z))⟩
end
end Ow

set_option Elab.async false
set_option linter.all false
set_option maxRecDepth 100000
set_option maxHeartbeats 4000000
set_option exponentiation.threshold 3000
namespace Ow
open PySem PySem.Spec PyProof.Rows L2
theorem scName : FnScope ["value", "sign"] ["value"] (defScope dName) := ⟨rfl, rfl, rfl, by decide +kernel, rfl, by decide +kernel, by decide +kernel⟩
theorem scValues : FnScope ["value", "item"] ["value"] (defScope dValues) := ⟨rfl, rfl, rfl, by decide +kernel, rfl, by decide +kernel, by decide +kernel⟩
theorem boot_all : bootBuiltins "all" = some (.builtin "all") := by decide +kernel
theorem lt1 (c d : Nat) : decide (([c] : List Nat) < [d]) = decide (c < d) := by
  rw [Bool.eq_iff_iff]
  simp only [decide_eq_true_eq, List.cons_lt_cons_iff]
  constructor
  · intro h
    rcases h with h | ⟨_, h⟩
    · exact h
    · exact absurd h (List.not_lt_nil _)
  · exact .inl
theorem small60 {n : Nat} (h : n ≤ 5000) : n < sizeLine := Nat.lt_of_le_of_lt h (by decide)
section
variable {P : Program} {w : World} {K : PySem.W.Frag} {mg : Str → Option Value} {base : Heap}
theorem ok_name {f : Addr} {fd : FuncData} {t : Tok} (F : Fun K "is_name" "is_name" dName f fd) (mi : mg "isinstance" = none) (ms : mg "str" = none) (ml : mg "len" = none) (ma : mg "all" = none)
    (mM : mg "MAX_LETTERS" = some (.int 8 t)) : FnOk P w K mg base CX0 1 f fd ["value"] (spB fun _ => nameB) := by
  refine F.ok scName spB_len (fun cdv A outer s H vs Q E hr h => ?_)
  obtain ⟨v, J, rfl, hv, q⟩ := h
  refine ⟨_, pss_cons (ps_if (PW.pt (pw_or (pt_not (pt_val (pe_isi (T := "str") (by rfl) mi (pv 0) (by rfl) ms (by decide +kernel))))
      (pw_or1 (pt_not (pt_chain op_le op_le pe_int (pe_callB call_len_str (by rfl) ml PySem.boot_len (pa_cons (pv 0) pa_nil)) (pe_glob (v := .int 8) (by rfl) mM ⟨_, rfl⟩))))))
      (pss_one (ps_ret pe_bl)) pss_nil)
    (pss_one (ps_ret (pe_callB (cr_all rfl) (by rfl) ma boot_all (pa_cons
      (pe_lc (own := [("sign", 1)]) (g := gName 1) (tt := tYes) rfl scName.nd (pi_str (pv 0)) (blkOk_by (N := ["value", "sign"]) (sc := defScope dName) (by decide +kernel))
        (fun _ _ _ _ _ => pg_name (i := 1) scName.nd rfl (Or.inl rfl)) (fun _ _ _ _ _ => pts_nil)
        (fun _ _ _ _ _ => pe_chain op_le_str op_le_str pe_str (pv 1) pe_str)) pa_nil)))), ?_⟩
  obtain ⟨T, ty, c⟩ := hv.ty (K := K)
  have fin : ∀ b H', Same H H' → b = nameB v → Q (.bl b) H' := fun b H' sm e => by
    rw [e]
    exact q H' sm
  rcases c with ⟨⟨i, rfl⟩, rfl⟩ | ⟨⟨b, rfl⟩, rfl⟩ | ⟨rfl, rfl⟩ | ⟨⟨z, rfl, hz, hc⟩, rfl⟩ | ⟨⟨a, xs, rfl, _⟩, rfl⟩ | ⟨⟨a, xs, rfl, _⟩, rfl⟩ | ⟨⟨a, xs, rfl, _⟩, rfl⟩
  · exact isi_at "str" rfl ty (b := false) (by decide +kernel) ⟨false, rfl, iteT (iteT (fin _ _ (Same.refl H) rfl))⟩
  · exact isi_at "str" rfl ty (b := false) (by decide +kernel) ⟨false, rfl, iteT (iteT (fin _ _ (Same.refl H) rfl))⟩
  · exact isi_at "str" rfl ty (b := false) (by decide +kernel) ⟨false, rfl, iteT (iteT (fin _ _ (Same.refl H) rfl))⟩
  · refine isi_at "str" rfl ty (b := true) (by decide +kernel) ⟨true, rfl, iteF ?_⟩
    refine ⟨.str z, rfl, z, rfl, Nat.le_of_lt (small60 (by omega)), 1, _, rfl, rfl, _, rfl, ?_⟩
    by_cases h1 : (1 : Int) ≤ (z.length : Int)
    · rw [decide_eq_true h1]
      refine iteT ⟨_, _, rfl, rfl, _, rfl, ?_⟩
      by_cases h8 : (z.length : Int) ≤ 8
      · rw [decide_eq_true h8]
        refine iteF ?_
        have hsz : z.length = z.cps.toList.length := by rw [Array.length_toList]; rfl
        refine ⟨.str z, rfl, z, rfl, fun D nD => ?_⟩
        refine lc_signs (fun i Hx => Same H Hx ∧ Hx D = some (.lst (((z.cps.toList.take i).map signB).map V.bl))) ⟨same_new nD, upd_same⟩ (fun i c Hx hi hI => ?_) (fun Hx hI => ?_)
        · obtain ⟨sm, eD⟩ := hI
          have hi' : z.cps.toList[i]? = some c := by rw [Array.getElem?_toList]; exact hi
          refine ⟨rfl, ?_⟩
          have next : ∀ b, b = signB c → ∃ acc, Hx D = some (.lst acc) ∧ acc.length < sizeLine ∧
              (Same H (upd Hx D (.lst (acc ++ [V.bl b]))) ∧ (upd Hx D (.lst (acc ++ [V.bl b]))) D = some (.lst (((z.cps.toList.take (i + 1)).map signB).map V.bl))) := by
            intro b e
            refine ⟨_, eD, ?_, fun b o e => ?_, ?_⟩
            · rw [List.length_map, List.length_map]
              refine small60 (Nat.le_trans (List.length_take_le _ _) ?_)
              have hi2 := (List.getElem?_eq_some_iff.mp hi').1
              omega
            · rw [upd_ne (ne_of_none e nD)]
              exact sm _ _ e
            · rw [upd_same, List.take_add_one, hi', List.map_append, List.map_append, e]
              rfl
          refine ⟨.str ⟨#[c]⟩, rfl, _, _, rfl, rfl, _, rfl, ?_⟩
          show if (!decide (([c] : List Nat) < [97])) = true then _ else _
          rw [lt1]
          by_cases hl : c < 97
          · rw [decide_eq_true hl]
            refine iteF (next _ ?_)
            unfold signB
            rw [decide_eq_false (show ¬ 97 ≤ c by omega)]
            rfl
          · rw [decide_eq_false hl]
            refine iteT ⟨_, _, rfl, rfl, next _ ?_⟩
            show (!decide (([122] : List Nat) < [c])) = signB c
            rw [lt1]
            unfold signB
            rw [decide_eq_true (show 97 ≤ c by omega)]
            by_cases hh : 122 < c
            · rw [decide_eq_true hh, decide_eq_false (show ¬ c ≤ 122 by omega)]
              rfl
            · rw [decide_eq_false hh, decide_eq_true (show c ≤ 122 by omega)]
              rfl
        · obtain ⟨sm, eD⟩ := hI
          rw [List.take_of_length_le (by rw [Array.length_toList]; exact Nat.le_refl _)] at eD
          refine ⟨D, _, rfl, .of eD, fin _ _ sm ?_⟩
          show _ = ((decide (1 ≤ z.length) && decide (z.length ≤ 8)) && z.cps.toList.all signB)
          rw [decide_eq_true (show 1 ≤ z.length by omega), decide_eq_true (show z.length ≤ 8 by omega), List.all_map]
          rfl
      · rw [decide_eq_false h8]
        refine iteT (fin _ _ (Same.refl H) ?_)
        show _ = ((_ && decide (z.length ≤ 8)) && _)
        rw [decide_eq_false (show ¬ z.length ≤ 8 by omega), Bool.and_false, Bool.false_and]
    · rw [decide_eq_false h1]
      refine iteF ⟨_, rfl, iteT (fin _ _ (Same.refl H) ?_)⟩
      show _ = ((decide (1 ≤ z.length) && _) && _)
      rw [decide_eq_false (show ¬ 1 ≤ z.length by omega), Bool.false_and, Bool.false_and]
  · exact isi_at "str" rfl ty (b := false) (by decide +kernel) ⟨false, rfl, iteT (iteT (fin _ _ (Same.refl H) rfl))⟩
  · exact isi_at "str" rfl ty (b := false) (by decide +kernel) ⟨false, rfl, iteT (iteT (fin _ _ (Same.refl H) rfl))⟩
  · exact isi_at "str" rfl ty (b := false) (by decide +kernel) ⟨false, rfl, iteT (iteT (fin _ _ (Same.refl H) rfl))⟩
end
end Ow

set_option Elab.async false
set_option linter.all false
set_option maxRecDepth 100000
set_option maxHeartbeats 4000000
set_option exponentiation.threshold 3000
namespace Ow
open PySem PySem.Spec PyProof.Rows L2
section
variable {P : Program} {w : World} {K : PySem.W.Frag} {mg : Str → Option Value} {base : Heap}
theorem boot_tup : bootBuiltins "tuple" = some (.type "tuple") := by decide +kernel
theorem ok_values {f fV : Addr} {fd fdV : FuncData} (F : Fun K "is_values" "is_values" dValues f fd) (FV : FnOk P w K mg base CX0 2 fV fdV ["value"] (spB fun _ => bitB))
    (kV : PySem.W.keepIn K (.ref fV) = true) (bV : Binds K fdV ["value"] []) (gV : mg "is_value" = some (.ref fV))
    (mi : mg "isinstance" = none) (mt : mg "tuple" = none) (ma : mg "all" = none) : FnOk P w K mg base CX0 3 f fd ["value"] (spB rowB) := by
  refine F.ok scValues spB_len (fun cdv A outer s H vs Q E hr h => ?_)
  obtain ⟨v, J, rfl, hv, q⟩ := h
  refine ⟨_, pss_one (ps_ret (pe_and (pe_isi (T := "tuple") (by rfl) mi (pv 0) (by rfl) mt boot_tup)
    (pe_one (pe_callB (cr_all rfl) (by rfl) ma boot_all (pa_cons
      (pe_lc (own := [("item", 1)]) (g := gName 1) (tt := tYes) rfl scValues.nd (pi_tup (pv 0)) (blkOk_by (N := ["value", "item"]) (sc := defScope dValues) (by decide +kernel))
        (fun _ _ _ _ _ => pg_name (i := 1) scValues.nd rfl (Or.inl rfl)) (fun _ _ _ _ _ => pts_nil)
        (fun _ _ _ _ _ => pe_call FV hr (by rfl) gV kV bV .nil pass0 (pa_cons (pv 1) pa_nil))) pa_nil))))), ?_⟩
  obtain ⟨T, ty, c⟩ := hv.ty (K := K)
  have fin : ∀ b H', Same H H' → b = rowB H v → Q (.bl b) H' := fun b H' sm e => by
    rw [e]
    exact q H' sm
  rcases c with ⟨⟨i, rfl⟩, rfl⟩ | ⟨⟨b, rfl⟩, rfl⟩ | ⟨rfl, rfl⟩ | ⟨⟨z, rfl, hz, hc⟩, rfl⟩ | ⟨⟨a, xs, rfl, ha, hl, hi⟩, rfl⟩ | ⟨⟨a, xs, rfl, ha⟩, rfl⟩ | ⟨⟨a, xs, rfl, ha⟩, rfl⟩
  · exact isi_at "tuple" rfl ty (b := false) (by decide +kernel) ⟨false, rfl, iteF (fin _ _ (Same.refl H) rfl)⟩
  · exact isi_at "tuple" rfl ty (b := false) (by decide +kernel) ⟨false, rfl, iteF (fin _ _ (Same.refl H) rfl)⟩
  · exact isi_at "tuple" rfl ty (b := false) (by decide +kernel) ⟨false, rfl, iteF (fin _ _ (Same.refl H) rfl)⟩
  · exact isi_at "tuple" rfl ty (b := false) (by decide +kernel) ⟨false, rfl, iteF (fin _ _ (Same.refl H) rfl)⟩
  · refine isi_at "tuple" rfl ty (b := true) (by decide +kernel) ⟨true, rfl, iteT ?_⟩
    refine ⟨.ref a, rfl, a, rfl, ⟨xs, .of ha⟩, fun D nD => ?_⟩
    refine lc_tup (K := K) (a := a) (xs := xs) (fun i Hx => Same H Hx ∧ Hx D = some (.lst (((xs.take i).map bitB).map V.bl))) ⟨same_new nD, upd_same⟩
      (fun i Hx _ hI => .of (hI.1 _ _ ha)) (fun i x Hx hx hI => ?_) (fun Hx hI => ?_)
    · obtain ⟨sm, eD⟩ := hI
      refine ⟨rfl, ?_⟩
      have iv : Vl J Hx x := (hi x (List.mem_of_getElem? hx)).vl.mono (.same sm)
      refine ⟨x, rfl, x, J, rfl, iv, fun H2 sm2 => ⟨_, sm2 _ _ eD, ?_, fun b o e => ?_, ?_⟩⟩
      · rw [List.length_map, List.length_map]
        exact small60 (Nat.le_trans (List.length_take_le _ _) (by have hi2 := (List.getElem?_eq_some_iff.mp hx).1; omega))
      · rw [upd_ne (ne_of_none e nD)]
        exact sm2 _ _ (sm _ _ e)
      · rw [upd_same, List.take_add_one, hx, List.map_append, List.map_append]
        rfl
    · obtain ⟨sm, eD⟩ := hI
      rw [List.take_of_length_le (Nat.le_refl _)] at eD
      refine ⟨D, _, rfl, .of eD, fin _ _ sm ?_⟩
      unfold rowB
      simp only [ha]
      rw [List.all_map]
      rfl
  · exact isi_at "tuple" rfl ty (b := false) (by decide +kernel) ⟨false, rfl, iteF (fin _ _ (Same.refl H) (by unfold rowB; simp only [ha]))⟩
  · exact isi_at "tuple" rfl ty (b := false) (by decide +kernel) ⟨false, rfl, iteF (fin _ _ (Same.refl H) (by unfold rowB; simp only [ha]))⟩
end
end Ow

set_option Elab.async false
set_option linter.all false
set_option maxRecDepth 100000
set_option maxHeartbeats 4000000
set_option exponentiation.threshold 3000
namespace Ow
open PySem PySem.Spec PyProof.Rows L2
/-- a weaker reading of an expression -/
theorem PE.of {X : Cx} {e : Expr} {t t' : TE} (h : PE X e t) (k : ∀ σ H Q, t' σ H Q → t σ H Q) : PE X e t' :=
  ⟨fun pins s σ H Q I q => h.run pins s σ H Q I (k σ H Q q)⟩
/-- the jug: a list of three ints -/
def Jug (H : Hp) (J : Addr) : Prop := ∃ a b c : Int, H J = some (.lst [.int a, .int b, .int c])
theorem scJug : FnScope ["script", "at", "cell", "great", "mixed"] ["script", "at"] (defScope dJug) := ⟨rfl, rfl, rfl, by decide +kernel, rfl, by decide +kernel, by decide +kernel⟩
theorem scDip : FnScope ["jug", "total", "found", "one", "two"] ["jug", "total"] (defScope dDip) := ⟨rfl, rfl, rfl, by decide +kernel, rfl, by decide +kernel, by decide +kernel⟩
theorem mulB {a m j : Int} (h0 : 0 < m) (h1 : m < 2 ^ 64) : CMul (a % m) j := by
  have l := Int.emod_nonneg a (show m ≠ 0 by omega)
  have u := Int.emod_lt_of_pos a h0
  exact .inl ⟨by omega, by omega⟩
section
variable {P : Program} {w : World} {K : PySem.W.Frag} {mg : Str → Option Value} {base : Heap}
def spDip : Sp := fun vs H Q _ => ∃ (J : Addr) (n : Int), vs = [.ref J, .int n] ∧ 0 < n ∧ n.natAbs < 2 ^ 200 ∧ Jug H J ∧
  ∀ H' k, Sb J H H' → Jug H' J → 0 ≤ k → k < n → Q (.int k) H'
theorem ok_dip {f : Addr} {fd : FuncData} (F : Fun K "_law_dip" "_law_dip" dDip f fd) (mi : mg "int" = none) : FnOk P w K mg base CX0 1 f fd ["jug", "total"] spDip := by
  refine F.ok scDip (fun vs H Q E h => ?_) (fun cdv A outer s H vs Q E hr h => ?_)
  · obtain ⟨J, n, rfl, _⟩ := h
    rfl
  obtain ⟨J, n, rfl, n0, nz, ⟨x, y, z, hJ⟩, q⟩ := h
  refine ⟨_, pss_cons (ps_if (pt_cmpR op_gt (pe_ix ix_list (pv 0) pe_int (fun _ _ => rfl)) pe_int (nomark _))
      (pss_cons (ps_set (i := 2) scDip.nd rfl (.inl rfl) (pe_op op_mod (pe_callTy call_int1 (by rfl) mi boot_int (pa_cons (pe_ix ix_list (pv 0) pe_int (fun _ _ => rfl)) pa_nil)) (pv 1)))
      (pss_cons (ps_asg (pe_op op_fdivW (pe_ix ix_list (pv 0) pe_int (fun _ _ => rfl)) (pv 1)) (pg_sub (pv 0) pe_int set_list))
      (pss_one (ps_ret (pv 2))))) pss_nil)
    (pss_cons (ps_asg (pe_op op_add (pe_ix ix_list (pv 0) pe_int (fun _ _ => rfl)) pe_int) (pg_sub (pv 0) pe_int set_list))
    (pss_cons (ps_set (i := 3) scDip.nd rfl (.inl rfl) (pe_op op_mod (pe_callTy call_int1 (by rfl) mi boot_int (pa_cons
        (pe_op op_add (pe_ix ix_list (pv 0) pe_int (fun _ _ => rfl)) (pe_op op_mul pe_int (pe_ix ix_list (pv 0) pe_int (fun _ _ => rfl)))) pa_nil)) pe_int))
    (pss_cons (ps_set (i := 4) scDip.nd rfl (.inl rfl) (pe_op op_add (pe_op op_mul (pe_op op_mod (pe_callTy call_int1 (by rfl) mi boot_int (pa_cons (pe_op op_mul (pv 3) (pv 3)) pa_nil)) pe_int) (pv 3))
        (pe_op op_mul pe_int (pe_ix ix_list (pv 0) pe_int (fun _ _ => rfl)))))
    (pss_one (ps_ret (pe_op op_mod (pe_callTy call_int1 (by rfl) mi boot_int (pa_cons (pe_op op_fdiv (pe_op op_mod (pe_callTy call_int1 (by rfl) mi boot_int (pa_cons (pv 4) pa_nil)) pe_int) pe_int) pa_nil)) (pv 1))))))), ?_⟩
  have hd : CDivW x n := wide_div (b := 200) n0 nz (by decide) (by decide)
  refine ⟨.ref J, rfl, J, _, 0, .int x, rfl, rfl, .of hJ, atI_nat (j := 0) rfl, x, 0, rfl, rfl, _, rfl, ite2 (fun _ => ?_) (fun _ => ?_)⟩
  · refine ⟨.ref J, rfl, J, _, 0, .int x, rfl, rfl, .of hJ, atI_nat (j := 0) rfl, .inl ⟨x, rfl, .int n, rfl, x, n, rfl, rfl, n0, ?_⟩⟩
    refine ⟨.ref J, rfl, J, _, 0, .int x, rfl, rfl, .of hJ, atI_nat (j := 0) rfl, .int n, rfl, x, n, rfl, rfl, hd, ?_⟩
    refine ⟨.ref J, rfl, J, _, 0, 0, rfl, rfl, hJ, rfl, ?_⟩
    exact ⟨_, rfl, q _ _ Sb.at ⟨_, _, _, upd_same⟩ (Int.emod_nonneg _ (by omega)) (Int.emod_lt_of_pos _ n0)⟩
  · refine ⟨.ref J, rfl, J, _, 2, .int z, rfl, rfl, .of hJ, atI_nat (j := 2) rfl, z, 1, rfl, rfl, ?_⟩
    refine ⟨.ref J, rfl, J, _, 2, 2, rfl, rfl, hJ, rfl, ?_⟩
    have h2 : upd H J (.lst ([V.int x, .int y, .int z].set 2 (.int (z + 1)))) J = some (.lst [.int x, .int y, .int (z + 1)]) := upd_same
    refine ⟨.ref J, rfl, J, _, 1, .int y, rfl, rfl, .of h2, atI_nat (j := 1) rfl, .ref J, rfl, J, _, 2, .int (z + 1), rfl, rfl, .of h2, atI_nat (j := 2) rfl, ?_⟩
    refine ⟨1000429, z + 1, rfl, rfl, .inl ⟨by decide, by decide⟩, y, _, rfl, rfl, .inl ⟨_, rfl, _, _, rfl, rfl, (by show (0 : Int) < _; decide), ?_⟩⟩
    refine ⟨_, rfl, _, rfl, _, _, rfl, rfl, mulB (by decide) (by decide), .inl ⟨_, rfl, _, _, rfl, rfl, (by show (0 : Int) < _; decide), ?_⟩⟩
    refine ⟨_, rfl, _, _, rfl, rfl, mulB (by decide) (by decide), .ref J, rfl, J, _, 2, .int (z + 1), rfl, rfl, .of h2, atI_nat (j := 2) rfl, ?_⟩
    refine ⟨9109, z + 1, rfl, rfl, .inl ⟨by decide, by decide⟩, _, _, rfl, rfl, ?_⟩
    refine ⟨_, rfl, .inl ⟨_, rfl, _, _, rfl, rfl, (by show (0 : Int) < _; decide), _, 16384, rfl, rfl, ⟨by decide, by decide⟩, .inl ⟨_, rfl, .int n, rfl, _, n, rfl, rfl, n0, ?_⟩⟩⟩
    exact q _ _ Sb.at ⟨_, _, _, h2⟩ (Int.emod_nonneg _ (by omega)) (Int.emod_lt_of_pos _ n0)
/-- a jug: three ints, new -/
def spJug (K : PySem.W.Frag) : Sp := fun vs H Q _ => ∃ (a : Addr) (ns : List Int) (i : Nat), vs = [.ref a, .int i] ∧ SqL K H a (ns.map V.int) ∧
  ∀ H' p, Same H H' → H p = none → Jug H' p → Q (.ref p) H'
def tCellAt (K : PySem.W.Frag) : TE := fun σ H Q => ∃ (a : Addr) (ns : List Int) (i : Nat), σ[0]? = some (some (.ref a)) ∧ σ[1]? = some (some (.int i)) ∧
  SqL K H a (ns.map V.int) ∧ ∀ c : Int, Q (.int c) H
def tSomeOf (j : Nat) : TE := fun σ H Q => ∃ c : Int, σ[j]? = some (some (.int c)) ∧ ∀ g : Int, Q (.int g) H
theorem ok_jug {f : Addr} {fd : FuncData} (F : Fun K "_law_jug" "_law_jug" dJug f fd) (mi : mg "int" = none) (ml : mg "len" = none) (ma : mg "abs" = none) (mm : mg "max" = none) :
    FnOk P w K mg base CX0 1 f fd ["script", "at"] (spJug K) := by
  refine F.ok scJug (fun vs H Q E h => ?_) (fun cdv A outer s H vs Q E hr h => ?_)
  · obtain ⟨a, ns, i, rfl, _⟩ := h
    rfl
  obtain ⟨a, ns, i, rfl, hS, q⟩ := h
  refine ⟨_, pss_cons (ps_set (i := 2) scJug.nd rfl (.inl rfl) (PE.of (t' := tCellAt K) (pe_ifExp (pt_cmpR op_lt (pv 1) (pe_callB call_len_seq (by rfl) ml PySem.boot_len (pa_cons (pv 0) pa_nil)) (nomark _))
        (pe_ix ix_list (pv 0) (pv 1) (fun _ _ => rfl)) (pe_op op_add (pe_op op_mul pe_int (pv 1)) pe_int)) ?c1))
    (pss_cons (ps_set (i := 3) scJug.nd rfl (.inl rfl) (PE.of (t' := tSomeOf 2) (pe_op op_mod (pe_callTy call_int1 (by rfl) mi boot_int (pa_cons (pe_callB call_abs (by rfl) ma boot_abs (pa_cons (pv 2) pa_nil)) pa_nil))
        (pe_op op_powB (pe_op op_powB pe_int pe_int) pe_int)) ?c2))
    (pss_cons (ps_set (i := 4) scJug.nd rfl (.inl rfl) (pe_op op_add (pe_op op_add (pe_op op_add (pe_op op_mul (pe_op op_mod (pe_callTy call_int1 (by rfl) mi boot_int (pa_cons (pv 3) pa_nil)) pe_int) pe_int)
        (pe_op op_mul pe_int (pv 1))) (pe_op op_mul pe_int (pe_callTy call_int1 (by rfl) mi boot_int (pa_cons (pe_cmpR op_lt (pv 2) pe_int (nomark _)) pa_nil)))) pe_int))
    (pss_one (ps_ret (pe_lst (pa_cons (pe_callB (call_max2 rfl) (by rfl) mm boot_max (pa_cons pe_int (pa_cons (pe_op op_sub (pv 3) (pe_op op_powB pe_int pe_int)) pa_nil)))
      (pa_cons (pe_op op_mod (pe_callTy call_int1 (by rfl) mi boot_int (pa_cons (pv 4) pa_nil)) pe_int) (pa_cons pe_int pa_nil)))))))), ?r⟩
  case c1 =>
    intro σ H Q h
    obtain ⟨a, ns, i, h0, h1, hS, q⟩ := h
    refine ⟨.int i, h1, .ref a, h0, a, _, rfl, .inl hS, _, _, rfl, rfl, _, rfl, ite2 (fun e => ?_) (fun _ => ?_)⟩
    · have e1 : (i : Int) < ((ns.map V.int).length : Nat) := of_decide_eq_true e
      rw [List.length_map] at e1
      have hi : i < ns.length := by omega
      refine ⟨.ref a, h0, .int i, h1, a, _, i, .int ns[i], rfl, rfl, hS, atI_nat (j := i) ?_, q _⟩
      rw [List.getElem?_map, List.getElem?_eq_getElem hi]
      rfl
    · exact ⟨.int i, h1, 71, i, rfl, rfl, .inl ⟨by decide, by decide⟩, _, 41, rfl, rfl, q _⟩
  case c2 =>
    intro σ H Q h
    obtain ⟨c, h2, q⟩ := h
    refine ⟨.int c, h2, c, rfl, .inl ⟨_, rfl, 10, 43, rfl, rfl, ⟨by decide, by decide +kernel⟩, _, 14, rfl, rfl, ⟨by decide, by decide +kernel⟩, _, _, rfl, rfl, (by show (0 : Int) < _; decide +kernel), q _⟩⟩
  refine ⟨a, ns, i, rfl, rfl, hS, fun c => ⟨c, rfl, fun g => ?_⟩⟩
  refine ⟨.int g, rfl, .inl ⟨_, rfl, g, 2147483179, rfl, rfl, (by show (0 : Int) < _; decide), _, 97303, rfl, rfl, .inr ⟨by decide, by decide⟩, .int i, rfl, 8147, i, rfl, rfl, .inl ⟨by decide, by decide⟩, _, _, rfl, rfl, ?_⟩⟩
  refine ⟨.int c, rfl, c, 0, rfl, rfl, .inr ⟨_, rfl, 53, _, rfl, rfl, .inl ⟨by decide, by decide⟩, _, _, rfl, rfl, _, 79, rfl, rfl, ?_⟩⟩
  refine ⟨.int g, rfl, 10, 18, rfl, rfl, ⟨by decide, by decide +kernel⟩, g, _, rfl, rfl, 0, _, rfl, ?_⟩
  refine ⟨_, rfl, .inl ⟨_, rfl, _, 2305843009213693907, rfl, rfl, (by show (0 : Int) < _; decide), (by show 3 ≤ sizeLine; decide), fun p np => ?_⟩⟩
  exact q _ p (same_new np) np ⟨_, _, _, upd_same⟩
end
end Ow

set_option Elab.async false
set_option linter.all false
set_option maxRecDepth 100000
set_option maxHeartbeats 4000000
set_option exponentiation.threshold 3000
namespace Ow
open PySem PySem.Spec PyProof.Rows L2
/-! ### heaps that grow, but for the places M, where jugs stand -/
def Gw (M : Addr → Prop) (H H' : Hp) : Prop := ∀ b o, ¬ M b → H b = some o → H' b = some o
def Jg (M : Addr → Prop) (H : Hp) : Prop := ∀ b, M b → Jug H b
def No : Addr → Prop := fun _ => False
def At (J : Addr) : Addr → Prop := fun b => b = J
section
variable {M : Addr → Prop} {H H' H'' : Hp} {J p a : Addr} {o : HO} {xs : List V}
theorem Gw.refl (H : Hp) : Gw M H H := fun _ _ _ e => e
theorem Gw.trans (a : Gw M H H') (b : Gw M H' H'') : Gw M H H'' := fun c o n e => b c o n (a c o n e)
theorem Gw.same (s : Same H H') : Gw M H H' := fun c o _ e => s c o e
theorem Gw.toSame (s : Gw No H H') : Same H H' := fun c o e => s c o (fun z => z) e
theorem Gw.sb (s : Gw (At J) H H') : Sb J H H' := fun c o n e => s c o n e
theorem Sb.gw (s : Sb J H H') : Gw (At J) H H' := fun c o n e => s c o n e
theorem Gw.new (h : H p = none) : Gw M H (upd H p o) := .same (same_new h)
theorem Gw.newer (g : Gw M H H') (n : H p = none) : Gw M H (upd H' p o) := fun b x m e => by
  rw [upd_ne (ne_of_none e n)]
  exact g b x m e
theorem jug_same (s : Same H H') (j : Jug H J) : Jug H' J := by
  obtain ⟨a, b, c, e⟩ := j
  exact ⟨a, b, c, s _ _ e⟩
theorem jug_keep (j : Jug H J) (n : p ≠ J) : Jug (upd H p o) J := by
  obtain ⟨a, b, c, e⟩ := j
  exact ⟨a, b, c, by rw [upd_ne n.symm]; exact e⟩
theorem jug_none (j : Jug H J) (n : H p = none) : p ≠ J := fun z => by
  obtain ⟨a, b, c, e⟩ := j
  rw [z, e] at n
  cases n
theorem jug_tup (j : Jug H J) (n : H p = some (.tup xs)) : p ≠ J := fun z => by
  obtain ⟨a, b, c, e⟩ := j
  rw [z, e] at n
  cases n
theorem Jg.no : Jg No H := fun _ z => z.elim
theorem Jg.at_ (j : Jug H J) : Jg (At J) H := fun b z => by
  have z : b = J := z
  rw [z]
  exact j
theorem Jg.jug (j : Jg (At J) H) : Jug H J := j J rfl
theorem Jg.same (j : Jg M H) (s : Same H H') : Jg M H' := fun b m => jug_same s (j b m)
theorem Jg.keep (j : Jg M H) (n : ¬ M p) : Jg M (upd H p o) := fun b m => jug_keep (j b m) fun z => n (by rw [z]; exact m)
theorem Jg.free (j : Jg M H) (n : H p = none) : ¬ M p := fun m => jug_none (j p m) n rfl
theorem Jg.new (j : Jg M H) (n : H p = none) : Jg M (upd H p o) := j.keep (j.free n)
theorem Jg.tup (j : Jg M H) (n : H p = some (.tup xs)) : ¬ M p := fun m => jug_tup (j p m) n rfl
theorem Gw.tup (g : Gw M H H') (j : Jg M H) (h : H a = some (.tup xs)) : H' a = some (.tup xs) := g a _ (j.tup h) h
end
/-! all but lists stay -/
def Tk (H H' : Hp) : Prop := ∀ b o, (∀ xs, o ≠ .lst xs) → H b = some o → H' b = some o
theorem Tk.refl (H : Hp) : Tk H H := fun _ _ _ e => e
theorem Tk.trans {H H' H'' : Hp} (a : Tk H H') (b : Tk H' H'') : Tk H H'' := fun c o n e => b c o n (a c o n e)
theorem Gw.tk {M : Addr → Prop} {H H' : Hp} (g : Gw M H H') (j : Jg M H) : Tk H H' := fun b o n e => g b o (fun m => by
  obtain ⟨x, y, z, q⟩ := j b m
  rw [e] at q
  exact n _ (Option.some.inj q)) e
theorem Tk.same {H H' : Hp} (s : Same H H') : Tk H H' := fun b o _ e => s b o e
theorem Tk.lst {H : Hp} {a : Addr} {xs ys : List V} (h : H a = some (.lst xs)) : Tk H (upd H a (.lst ys)) := fun b o n e => by
  rw [upd_ne (fun z => by rw [z, h] at e; exact n _ (Option.some.inj e).symm)]
  exact e
theorem Tk.new {H : Hp} {p : Addr} {o : HO} (h : H p = none) : Tk H (upd H p o) := .same (same_new h)
theorem Tk.tup {H H' : Hp} {a : Addr} {xs : List V} (t : Tk H H') (h : H a = some (.tup xs)) : H' a = some (.tup xs) := t a _ (fun _ z => nomatch z) h
/-! ### two lists, item by item -/
inductive All2 {α β : Type} (R : α → β → Prop) : List α → List β → Prop
  | nil : All2 R [] []
  | cons {x : α} {y : β} {xs : List α} {ys : List β} : R x y → All2 R xs ys → All2 R (x :: xs) (y :: ys)
section
variable {α β : Type} {R S : α → β → Prop} {xs : List α} {ys : List β}
theorem All2.len (h : All2 R xs ys) : xs.length = ys.length := by
  induction h with
  | nil => rfl
  | cons _ _ ih => rw [List.length_cons, List.length_cons, ih]
theorem All2.imp (k : ∀ x y, R x y → S x y) (h : All2 R xs ys) : All2 S xs ys := by
  induction h with
  | nil => exact .nil
  | cons r _ ih => exact .cons (k _ _ r) ih
theorem All2.get (h : All2 R xs ys) : ∀ {i : Nat} {x : α}, xs[i]? = some x → ∃ y, ys[i]? = some y ∧ R x y := by
  induction h with
  | nil => intro i x e; simp at e
  | cons r _ ih =>
    intro i x e
    cases i with
    | zero => simp at e; subst e; exact ⟨_, rfl, r⟩
    | succ i => exact ih (by simpa using e)
theorem All2.get' (h : All2 R xs ys) : ∀ {i : Nat} {y : β}, ys[i]? = some y → ∃ x, xs[i]? = some x ∧ R x y := by
  induction h with
  | nil => intro i x e; simp at e
  | cons r _ ih =>
    intro i x e
    cases i with
    | zero => simp at e; subst e; exact ⟨_, rfl, r⟩
    | succ i => exact ih (by simpa using e)
theorem All2.app {xs' : List α} {ys' : List β} (h : All2 R xs ys) (g : All2 R xs' ys') : All2 R (xs ++ xs') (ys ++ ys') := by
  induction h with
  | nil => exact g
  | cons r _ ih => exact .cons r ih
theorem All2.mem (h : All2 R xs ys) {x : α} (m : x ∈ xs) : ∃ y, y ∈ ys ∧ R x y := by
  obtain ⟨i, hi⟩ := List.mem_iff_getElem?.mp m
  obtain ⟨y, hy, r⟩ := h.get hi
  exact ⟨y, List.mem_of_getElem? hy, r⟩
theorem All2.of_get : ∀ {xs : List α} {ys : List β}, xs.length = ys.length → (∀ (i : Nat) x y, xs[i]? = some x → ys[i]? = some y → R x y) → All2 R xs ys
  | [], [], _, _ => .nil
  | x :: xs, y :: ys, e, h => .cons (h 0 x y rfl rfl) (All2.of_get (by simpa using e) fun i x y hx hy => h (i + 1) x y (by simpa using hx) (by simpa using hy))
  | [], _ :: _, e, _ => nomatch e
  | _ :: _, [], e, _ => nomatch e
theorem All2.map {γ : Type} (f : γ → β) {zs : List γ} (h : ∀ (i : Nat) x z, xs[i]? = some x → zs[i]? = some z → R x (f z)) (e : xs.length = zs.length) : All2 R xs (zs.map f) := by
  refine .of_get (by rw [List.length_map]; exact e) fun i x y hx hy => ?_
  rw [List.getElem?_map] at hy
  cases hz : zs[i]? with
  | none => rw [hz] at hy; cases hy
  | some z =>
    rw [hz] at hy
    cases hy
    exact h i x z hx hz
end
/-! ### tuples of ints, and lists and tuples of them -/
def IsRow (H : Hp) (v : V) (ns : List Int) : Prop := ∃ a, v = .ref a ∧ H a = some (.tup (ns.map V.int))
def IsRows (H : Hp) (v : V) (rs : List (List Int)) : Prop := ∃ a xs, v = .ref a ∧ H a = some (.tup xs) ∧ All2 (IsRow H) xs rs
section
variable {H H' : Hp} {v : V} {ns : List Int} {rs : List (List Int)} {xs : List V}
theorem IsRow.tk (t : Tk H H') (h : IsRow H v ns) : IsRow H' v ns := by
  obtain ⟨a, e, q⟩ := h
  exact ⟨a, e, t.tup q⟩
theorem all_tk (t : Tk H H') (h : All2 (IsRow H) xs rs) : All2 (IsRow H') xs rs := h.imp fun _ _ q => q.tk t
theorem IsRows.tk (t : Tk H H') (h : IsRows H v rs) : IsRows H' v rs := by
  obtain ⟨a, xs, e, q, r⟩ := h
  exact ⟨a, xs, e, t.tup q, all_tk t r⟩
theorem IsRow.new {p : Addr} : IsRow (upd H p (.tup (ns.map V.int))) (.ref p) ns := ⟨p, rfl, upd_same⟩
end
/-! ### comprehensions -/
section
variable {J : It} {n : Nat} {G : Hp → Prop} {Y : Nat → Hp → V → Hp → Prop}
/-- every element by itself: what is known of it stays whatever lists do -/
theorem lc_map {M : Addr → Prop} (w : Walk J n G Y) (hn : n ≤ 5000) {g : TG} {te : TE} {vs : List Nat} {σ : L2.St} {H1 : Hp} {D : Addr} {Qd : Hp → Prop} (hJ : Jg M H1) (nD : H1 D = none) (P : Nat → Hp → V → Prop)
    (hP : ∀ i H H' v, Tk H H' → P i H v → P i H' v) (hG : ∀ H, Gw M H1 H → Jg M H → G H)
    (hs : ∀ i x H H' (K : VK), i < n → Gw M H1 H → Jg M H → Y i H x H' → (∀ y H4, Gw M H H4 → Jg M H4 → P i H4 y → K y H4) →
      g x (wipe σ vs) H' fun σ2 H2 => wipe σ2 vs = wipe σ vs ∧ te σ2 H2 K)
    (hd : ∀ H ys, Gw M H1 H → Jg M H → H D = some (.lst ys) → ys.length = n → (∀ i y, ys[i]? = some y → P i H y) → Qd H) :
    ∃ W : Nat → Nat → Hp → Prop, (∃ m, W 0 m (upd H1 D (.lst []))) ∧ ∀ i m H, W i m H →
      (J.stop i H ∧ Qd H) ∨ (J.go i H ∧ ∃ Nx : Hp → Prop, (∀ H', Nx H' → ∃ m', m' < m ∧ W (i + 1) m' H') ∧ ∀ x H', J.yld i H x H' → g x (wipe σ vs) H' fun σ2 H2 => wipe σ2 vs = wipe σ vs ∧ tYes σ2 H2 fun b H3 =>
        if b = true then te σ2 H3 fun y H4 => ∃ acc, H4 D = some (.lst acc) ∧ acc.length < sizeLine ∧ Nx (upd H4 D (.lst (acc ++ [y]))) else Nx H3) := by
  have nM : ¬ M D := hJ.free nD
  refine lc_it w (fun i H => Gw M H1 H ∧ Jg M H ∧ ∃ ys, H D = some (.lst ys) ∧ ys.length = i ∧ ∀ j y, ys[j]? = some y → P j H y)
    ⟨Gw.new nD, hJ.new nD, [], upd_same, rfl, fun j y e => by simp at e⟩ (fun i H _ h => hG H h.1 h.2.1) (fun i x H H' hi h y => ?_) (fun H h => ?_)
  · obtain ⟨g1, j1, ys, eD, hl, hp⟩ := h
    refine hs i x H H' (fun y H4 => ∃ acc, H4 D = some (.lst acc) ∧ acc.length < sizeLine ∧ (fun H => Gw M H1 H ∧ Jg M H ∧ ∃ ys, H D = some (.lst ys) ∧ ys.length = i + 1 ∧ ∀ j y, ys[j]? = some y → P j H y) (upd H4 D (.lst (acc ++ [y])))) hi g1 j1 y fun y2 H4 g4 j4 p4 => ?_
    have e4 : H4 D = some (.lst ys) := g4 D _ nM eD
    have t4 : Tk H H4 := g4.tk j1
    refine ⟨ys, e4, small60 (by omega), ?_, ?_, ys ++ [y2], upd_same, by rw [List.length_append, hl]; rfl, fun k z hz => ?_⟩
    · exact (g1.trans g4).newer nD
    · exact j4.keep nM
    · by_cases hk : k < ys.length
      · rw [List.getElem?_append_left hk] at hz
        exact hP _ _ _ _ (t4.trans (Tk.lst e4)) (hp k z hz)
      · rw [List.getElem?_append_right (by omega)] at hz
        have e0 : k - ys.length = 0 := by
          cases hq : k - ys.length with
          | zero => rfl
          | succ m => rw [hq] at hz; simp at hz
        rw [e0] at hz
        have ek : k = i := by omega
        have ez : z = y2 := by simpa using hz.symm
        rw [ek, ez]
        exact hP _ _ _ _ (Tk.lst e4) p4
  · obtain ⟨g1, j1, ys, eD, hl, hp⟩ := h
    exact hd H ys g1 j1 eD hl hp
end
end Ow

set_option Elab.async false
set_option linter.all false
set_option maxRecDepth 100000
set_option maxHeartbeats 4000000
namespace PySem
open Sem (wp)
open AutoSeq1 (wpAny_loadPart')
/-! enumerate of a tuple, made -/
theorem ow_enum_newT (l : Addr) (items : Array Value) (n : Nat) (dct : Option Addr) (sl : Array (Option Value)) :
    Meets (Builtin.«enumerate.__new__» ⟨[.type "enumerate", .ref l], []⟩) (fun _ R s => s.heap.get? l = some { cls := .type "tuple", dict := dct, data := .seq items n, slots := sl } ∧
      R (.ok (.ret (.ref (s.heap.push { cls := .type "tuple_iterator", data := .fields #[.ref l, .int 0 0] }).objs.size)))
        { s with heap := (s.heap.push { cls := .type "tuple_iterator", data := .fields #[.ref l, .int 0 0] }).push { cls := .type "enumerate", data := .fields #[.none, .bool false, .ref s.heap.objs.size, rawInt 0, .none, .none] } }) :=
  .of_wp fun prog w A R s h => by
    obtain ⟨hp, g, d, tk, os⟩ := s
    obtain ⟨hl, h⟩ := h
    have hsub := sub_enumerate
    have hT : Heap.IsTuple (Shared.heap ⟨hp, g, d, tk, os⟩) l items := ⟨_, hl, rfl, n, rfl⟩
    wp_walk using wpAny_loadPart' hl
    refine wpAny_stack_any fun st => wpAny_pure ?_
    split
    · rename_i c _ _ _ _ _
      cases (c == Value.type "enumerate")
      · wp_walk using wpAny_loadPart' hl, wpAny_pyIter_tuple hT
        exact ⟨_, rfl, h⟩
      · wp_walk using wpAny_loadPart' hl, wpAny_pyIter_tuple hT
        exact ⟨_, rfl, h⟩
    · wp_walk using wpAny_loadPart' hl, wpAny_pyIter_tuple hT
      exact ⟨_, rfl, h⟩
section
variable {prog : Program} {w : World} {A : Around} {E : Value → Shared → Prop} {s : Shared}
theorem ow_call_enumT {l : Addr} {items : Array Value} {Q : Value → Shared → Prop} (hL : s.heap.IsTuple l items)
    (h : ∀ h', IsEnum h' (s.heap.objs.size + 1) s.heap.objs.size 0 .none → h'.IsTupleIter s.heap.objs.size l 0 → (∀ b o, s.heap.get? b = some o → h'.get? b = some o) → Q (.ref (s.heap.objs.size + 1)) { s with heap := h' }) :
    wpAny (model prog w) A (call (.type "enumerate") [.ref l]) Q E s := by
  obtain ⟨⟨c, dct, dt, sl⟩, hl, hc, n, hd⟩ := hL
  have hc1 : c = .type "tuple" := hc
  have hd1 : dt = .seq items n := hd
  subst hc1 hd1
  refine callType_new F.called_enumerate (by decide) (F.typeCall_enumerate_1 _) (F.newCall_enumerate_1 _) (fun obj => F.args_object_init_2 obj _) F.entry_enumerate_new (ow_enum_newT l items n dct sl) ⟨hl, ?_⟩
  have hz : (s.heap.push { cls := .type "tuple_iterator", data := .fields #[.ref l, .int 0 0] }).objs.size = s.heap.objs.size + 1 := Heap.size_push ..
  show _ ∧ _
  rw [hz]
  have he : IsEnum ((s.heap.push { cls := .type "tuple_iterator", data := .fields #[.ref l, .int 0 0] }).push { cls := .type "enumerate", data := .fields #[.none, .bool false, .ref s.heap.objs.size, rawInt 0, .none, .none] }) (s.heap.objs.size + 1) s.heap.objs.size 0 .none := by
    have e := Heap.get?_push_size (s.heap.push { cls := .type "tuple_iterator", data := .fields #[.ref l, .int 0 0] }) (o := { cls := .type "enumerate", data := .fields #[.none, .bool false, .ref s.heap.objs.size, rawInt 0, .none, .none] }) rfl
    rw [hz] at e
    exact e
  exact ⟨⟨_, he, rfl⟩, h _ he ⟨_, Heap.get?_push_of_some _ (Heap.get?_push_size _ rfl), rfl, rfl⟩ fun b o x => Heap.get?_push_of_some _ (Heap.get?_push_of_some _ x)⟩
end
end PySem
namespace Ow
open PySem PySem.Spec PyProof.Rows L2
/-! a walk over enumerate(tuple) -/
def IteT (K : PySem.W.Frag) (a : Addr) : It :=
  ⟨fun i H => ∃ (xs : List V) (x : V), SqT K H a xs ∧ xs[i]? = some x, fun i H v H' => ∃ T x, v = .ref T ∧ H T = none ∧ H' = upd H T (.tup [.int (i : Nat), x]) ∧ ∀ xs, SqT K H a xs → xs[i]? = some x, fun i H => ∃ xs : List V, SqT K H a xs ∧ xs.length ≤ i⟩
theorem isTuple_of {h : Heap} {a : Addr} {its : Array Value} (t : IsTup h a its) : h.IsTuple a its := t
theorem turn_enumT {P : Program} {w : World} {K : PySem.W.Frag} {elts : List Expr} {kk : Nat} {tpos : Pos} (a e it : Addr) :
    Turn P w K (.Tuple elts kk tpos) (IteT K a) [e, it] e (fun i h => (∃ old, IsEnum h e it ((i : Nat) : Int) old) ∧ h.IsTupleIter it a i ∧ e ≠ it) where
  mem := by simp
  obj := fun i h st b hb => by
    obtain ⟨⟨old, he⟩, ⟨o, ho, hc, hd⟩, _⟩ := st
    rcases (show b = e ∨ b = it by simpa using hb) with z | z
    · rw [z]
      exact ⟨_, he, fun v q => (nomatch q)⟩
    · rw [z]
      exact ⟨o, ho, fun v q => by rw [hd] at q; cases q⟩
  keep := fun i h h' st k => let ⟨⟨old, he⟩, hi, hne⟩ := st; ⟨⟨old, k e (by simp) _ he⟩, hi.at fun o q => k it (by simp) o q, hne⟩
  item := by
    intro X hP hw hK hc i pins s σ H E I hf st hg
    subst hP hw hK
    obtain ⟨⟨old, he⟩, hit, hne⟩ := st
    obtain ⟨xs, x, hq, hx⟩ := hg
    obtain ⟨its, rv, p, hz⟩ := I.tuple hq
    obtain ⟨u, hu, ru⟩ := rv.get hx
    have hel : e < s.heap.objs.size := Heap.lt_size he
    have hil : it < s.heap.objs.size := by obtain ⟨_, q, _⟩ := hit; exact Heap.lt_size q
    have hai : a ≠ it := fun z => by
      obtain ⟨o1, h1, c1, _⟩ := p
      obtain ⟨o2, h2, c2, _⟩ := hit
      rw [z, h2] at h1
      cases h1
      rw [c1] at c2
      exact absurd c2 (by decide)
    have hae : e ≠ a := fun z => by
      obtain ⟨o1, h1, c1, _⟩ := p
      rw [← z, he] at h1
      cases h1
      have c3 : Value.type "enumerate" = Value.type "tuple" := c1
      exact absurd c3 (by decide)
    have hif : i < its.toArray.size := by
      have h1 := (List.getElem?_eq_some_iff.mp hu).1
      rw [List.size_toArray]
      exact h1
    refine wpAny_pyNext_enum_itemD (Draws.tuple (A := X.A.in1) (show X.A.in1.handled = none from I.ok.hd hc) it a hai its.toArray) he ⟨hit, p⟩ hif hne (by simp [hne, hae]) fun y h' tk hy ho hst hT hsz hk => ?_
    have ey : y = u := by
      have : its.toArray[i]? = some u := by simpa using hu
      rw [this] at hy
      exact (Option.some.inj hy).symm
    subst ey
    refine ⟨_, rfl, wpAny_letOwnedTupleGo_enum (s := { s with heap := h', toks := tk + 1 }) ho fun h'' he' sb => ?_⟩
    have hT2 : h''.get? s.heap.objs.size = some { cls := .type "tuple", data := .seq #[.int i tk, y] } := (sb.2 _ (Nat.ne_of_gt hel)).trans hT
    have new : ObjOk X.prog X.w (upd H s.heap.objs.size (.tup [.int (i : Nat), x])) h'' s.heap.objs.size (.tup [.int (i : Nat), x]) :=
      ⟨by show 2 ≤ sizeLine; decide, [.int i tk, y], .cons ⟨_, rfl⟩ (.cons ru .nil), ⟨_, hT2, rfl, _, rfl⟩⟩
    have I1 : Inv X pins σ (upd H s.heap.objs.size (.tup [.int (i : Nat), x])) { s with heap := h'', toks := tk + 1 } :=
      I.turnedNew (ch := [e, it]) (fun b ob hb q => (sb.2 b (fun z => hb (by simp [z]))).trans (hk b ob (fun z => hb (by simp [z])) (fun z => hb (by simp [z])) q)) hf (Nat.le_refl _) new
    refine ⟨.ref s.heap.objs.size, _, I1, rfl, ⟨_, x, rfl, I.hok.fresh (Nat.le_refl _), rfl, fun ys hy => by rw [I.tuple_inj hy hq]; exact hx⟩, ⟨⟨y, ?_⟩, hst.1.at fun o q => (sb.2 it (Ne.symm hne)).trans q, hne⟩, fun b hb => ?_⟩
    · rw [show ((i + 1 : Nat) : Int) = (i : Int) + 1 by omega]
      exact he'
    · have hb' : b < s.heap.objs.size := by
        rcases (show b = e ∨ b = it by simpa using hb) with z | z
        · rw [z]; exact hel
        · rw [z]; exact hil
      rw [upd_ne (Nat.ne_of_lt hb')]
      exact (hf b hb).1
  done := by
    intro X hP hw hK hc i pins s σ H E I hf st hg
    subst hP hw hK
    obtain ⟨⟨old, he⟩, hit, hne⟩ := st
    obtain ⟨xs, hq, hx⟩ := hg
    obtain ⟨its, rv, p, hz⟩ := I.tuple hq
    have hai : a ≠ it := fun z => by
      obtain ⟨o1, h1, c1, _⟩ := p
      obtain ⟨o2, h2, c2, _⟩ := hit
      rw [z, h2] at h1
      cases h1
      rw [c1] at c2
      exact absurd c2 (by decide)
    obtain ⟨f0, f1, f2, f3, f4, f5⟩ := hf it (by simp)
    have hl := rv.length
    have D2 : Draws X.prog X.w X.A.in1 it [it, a] i (fun j v => its.toArray[j]? = some v) (fun j h => j = i ∧ h.IsTupleIter it a i ∧ h.IsTuple a its.toArray) :=
      ⟨fun _ _ st => let ⟨o, ho, _⟩ := st.2.1; ⟨o, ho⟩, fun _ _ _ st hk => ⟨st.1, st.2.1.at fun o e => hk it (by simp) o e, st.2.2.at fun o e => hk a (by simp) o e⟩,
        fun j s Q E hj st hQ => absurd st.1 (by omega), fun s Q E st hE => by
        refine wpAny_nextOf_tuple_end (A := X.A.in1) (show X.A.in1.handled = none from I.ok.hd hc) st.2.1 st.2.2 ?_ hE
        rw [List.getElem?_toArray]
        exact List.getElem?_eq_none (by omega)⟩
    exact wpAny_pyNext_enum_endD D2 he ⟨rfl, hit, p⟩ fun h' eb => ⟨rfl, I.turned (t' := s.toks) (fun b o hb q => eb b o hb q) f0 f1 f3 f4 f5⟩
  self := fun A i s Q E st h => let ⟨⟨_, he⟩, _⟩ := st; wpAny_pyIter_enum he h
def iEnumT (K : PySem.W.Frag) (ta : TA) : TI := fun σ H R => ta σ H fun vs H1 => ∃ a xs, vs = [.ref a] ∧ SqT K H1 a xs ∧ R (IteT K a) H1
/-- for i, x in enumerate(t), t a tuple -/
theorem pi_enumT {X : Cx} {e : Expr} {ta : TA} {p pos tpos : Pos} {elts : List Expr} {kk : Nat} (hg : Gl X "enumerate") (hm : X.mg "enumerate" = none) (ha : PA X [e] ta) (hs : starEach [e] X.env = [(false, eval e X.env)] := by rfl) :
    PI X (.Tuple elts kk tpos) (.Call (.Name "enumerate" p) [e] [] pos) (iEnumT X.K ta) := by
  refine ⟨fun pins s σ H R I h => ?_⟩
  refine Call_ (ld_blt I hg hm boot_enumerate (PyProof.Rows.callWith_type1 (thn (ha.run pos pins s σ H _ I h) fun us s1 ⟨vs, H1, I1, r1, q1⟩ => ?_) hs rfl))
  obtain ⟨a, xs, ex, hq, q⟩ := q1
  subst ex
  cases r1 with
  | cons r rr =>
    cases rr
    cases r
    obtain ⟨its, rv, p', hz⟩ := I1.tuple hq
    refine ow_call_enumT (isTuple_of p') fun h' he hit hk => wpAny_pyIter_enum he ?_
    have I2 : Inv X pins σ H1 { s1 with heap := h' } := I1.kept (t' := s1.toks) hk
    refine ⟨s1.heap.objs.size + 1, [s1.heap.objs.size + 1, s1.heap.objs.size], _, _, H1, rfl, I2, turn_enumT a (s1.heap.objs.size + 1) s1.heap.objs.size, ⟨⟨.none, he⟩, hit, Nat.succ_ne_self _⟩, fun b hb => ?_, q⟩
    have hle : s1.heap.objs.size ≤ b := by
      rcases (show b = s1.heap.objs.size + 1 ∨ b = s1.heap.objs.size by simpa using hb) with z | z
      · rw [z]
        exact Nat.le_add_right _ _
      · rw [z]
        exact Nat.le_refl _
    exact I1.fpOk hle (I1.hok.fresh hle)
theorem walk_enumT {K : PySem.W.Frag} {a : Addr} {xs : List V} : Walk (IteT K a) xs.length (fun H => SqT K H a xs) (YPair (fun i => some (.int (i : Nat))) (fun i => xs[i]?)) where
  goes := fun i H hi h => ⟨xs, xs[i], h, List.getElem?_eq_getElem hi⟩
  stops := fun H h => ⟨xs, h, Nat.le_refl _⟩
  yields := fun i H x H' hi h y => by
    obtain ⟨T, z, rfl, n, rfl, q⟩ := y
    exact ⟨T, _, z, rfl, n, rfl, rfl, q xs h⟩
end Ow

set_option Elab.async false
set_option linter.all false
set_option maxRecDepth 100000
set_option maxHeartbeats 4000000
namespace Ow
open PySem PySem.Spec PyProof.Rows L2
section
variable {X : Cx} {CX : CXT} {k : Nat} {f C : Addr} {fd : FuncData} {ps : List Str} {sp : Sp} {E : XK}
/-- a def called from around A, whose frames are those of the body -/
theorem run_at {A : Around} (hfr : A.frames = X.A.frames) {pins : List (Addr × Obj)} {σ : L2.St} {H : Hp} {s : Shared} {Q : VK} {us : List Value} {vs : List V} (F : FnOk X.prog X.w X.K X.mg X.base CX k f fd ps sp) (hr : Room k A) (hb : Binds X.K fd ps []) (hx : Passes CX X E)
    (I : Inv X pins σ H s) (r : Vals vs us) (h : sp vs H Q E) : wpAny (model X.prog X.w) A (call (.ref f) us) (EP X pins σ Q) X.xe s := by
  have hl : us.length = ps.length := by rw [← r.length]; exact F.len _ _ _ _ h
  have b := hb s us I.kIn (by rw [List.append_nil]; exact hl)
  rw [List.append_nil] at b
  have e0 : Env0 X.prog X.w X.K X.mg X.base A X.stack s H := by
    have e := I.env0
    exact ⟨hfr.trans e.frames, e.mod, e.bs, e.bsz, e.funs, e.frf, e.hok, e.bare⟩
  refine wpAny_call (codeAny_mono (F.run A X.stack s H ⟨us, []⟩ us vs Q E hr e0 b r h) fun o s' hq => ?_)
  cases o with
  | error e => exact hx pins σ H s e s' I hq
  | ok fl =>
    cases fl with
    | ret u => exact I.after hq
    | next => exact False.elim hq
    | brk => exact False.elim hq
    | cont => exact False.elim hq
/-- o[i], o of an own class with its own [] -/
def tIxO (C : Addr) (sp : Sp) (E : XK) (to ti : TE) : TE := fun σ H Q => to σ H fun x H1 => ti σ H1 fun y H2 => ∃ a dx fs, x = .ref a ∧ H2 a = some (.ins C dx fs) ∧ sp [.ref a, y] H2 Q E
theorem pe_ixO {o i : Expr} {pos : Pos} {to ti : TE} (ho : PE X o to) (hi : PE X i ti) (hn : PySem.W.noSeq X.K C = true) (hm : Meth X.K C "__getitem__" f) (hfn : PySem.W.fnIn X.K f = true) (F : FnOk X.prog X.w X.K X.mg X.base CX k f fd ps sp)
    (hr : Room (k + 1) X.A) (hb : Binds X.K fd ps []) (hx : Passes CX X E) (hs : ∀ a v, subscripted i true (.ref a) v = runValue (.builtin "lifetime.subscript" ⟨[.ref a, v], []⟩) := by intro _ _; with_unfolding_all rfl) :
    PE X (.Subscript o i pos) (tIxO C sp E to ti) := by
  refine ⟨fun pins s σ H Q I h => ?_⟩
  refine Subscript_ (binT ho hi I h fun v u s2 x y H2 I2 rx ry q => ?_)
  obtain ⟨a, dx, fs, rfl, ha, q⟩ := q
  cases rx
  obtain ⟨mA, J, _⟩ := ins_get I2.hok ha
  obtain ⟨od, J, _⟩ := J.look
  obtain ⟨m, hF⟩ := I2.fr
  refine PySem.W.sub_K hF I2.ok.mod.kin J hm.at_ hfn hm.fn ?_ (hs a u)
  have rr : Vals [V.ref a, y] [Value.ref a, u] := .cons rfl (.cons ry .nil)
  exact run_at (A := X.A.in1) rfl F hr.in1 hb hx I2 rr q
end
/-! ### a tuple times one is itself -/
theorem tuple_mulO (l : Addr) (items : Array Value) (n : Nat) (dd : Option Addr) (sl : Array (Option Value)) (u : Tok) :
    Meets (Builtin.«tuple.__mul__» ⟨[.ref l, .int 1 u], []⟩) (fun _ R s => s.heap.get? l = some { cls := .type "tuple", dict := dd, data := .seq items n, slots := sl } ∧ R (.ok (.ret (Value.ref l))) s) :=
  .of_wp fun prog w A R s h => by
    obtain ⟨hp, g, d, tk, os⟩ := s
    obtain ⟨hl, h⟩ := h
    have f1 := AutoSeq1.idx_int
    wp_walk using wpAny_loadPart' hl
    repeat (first
      | (refine wpAny_ite_true (decide_eq_true (by simp)) ?_; wp_walk using wpAny_loadPart' hl)
      | (refine wpAny_ite_false (decide_eq_false (by simp)) ?_; wp_walk using wpAny_loadPart' hl))
    all_goals exact ⟨_, rfl, h⟩

def rRepA (K : PySem.W.Frag) : R2 := fun x y H Q => ∃ l k xs, x = .ref l ∧ y = .int k ∧ SqT K H l xs ∧ xs ≠ [] ∧ 1 ≤ k ∧ k ≤ 1000 ∧ xs.length ≤ 1000 ∧ (k = 1 → Q (.ref l) H) ∧
  (2 ≤ k → ∀ p, H p = none → Q (.ref p) (upd H p (.tup (List.replicate k.toNat xs).flatten)))
section
variable {X : Cx}
theorem op_repA : OpR X (binaryOp .Mult) (rRepA X.K) := by
  intro pins s σ H x y v u Q I rx ry h
  obtain ⟨l, k, xs, rfl, rfl, hT, hne, h1, h2, hz, q1, q2⟩ := h
  by_cases hk : 2 ≤ k
  · exact op_repT pins s σ H _ _ v u Q I rx ry ⟨l, k, xs, rfl, rfl, hT, hne, hk, h2, hz, q2 hk⟩
  have ek : k = 1 := by omega
  subst ek
  cases rx
  obtain ⟨t, rfl⟩ := ry
  obtain ⟨its, r, ⟨⟨cls, dd, data, sl⟩, ho, hc, n, hd⟩, hs⟩ := I.tuple hT
  have hc1 : cls = .type "tuple" := hc
  have hd1 : data = .seq its.toArray n := hd
  subst hc1 hd1
  refine wpAny_binaryOp_repeat_ref (T := "tuple") (U := "int") (by decide) ⟨_, ho, rfl⟩ (fun s' => typeIs_int s' 1 t) noFill_tuple_mul F.fills_int_mul F.slot_int_rmul repeat_tuple F.slot_int_index.lookup
    (call_meets F.slot_int_rmul (typeIs_int s 1 t) F.entry_int_rmul (F.args_int_rmul_2 _ _) (int_rmul_tuple 1 t l its.toArray n dd sl)
      ⟨ho, rfl, ⟨_, ho, rfl⟩, call_meets F.slot_tuple_mul ⟨_, ho, rfl⟩ F.entry_tuple_mul (F.args_tuple_mul_2 _ _) (tuple_mulO l its.toArray n dd sl t) ⟨ho, ?_⟩⟩)
  exact ⟨.ref l, H, I, rfl, q1 rfl⟩
end
/-! ### every second item of a tuple -/
theorem step_adjust (n : Nat) : Builtin.Slice.sliceAdjust none none 2 (n : Int) = (0, (n : Int)) := by
  unfold Builtin.Slice.sliceAdjust
  simp
theorem step_places (n : Nat) : Builtin.Slice.slicePlaces 0 (n : Int) 2 = (n + 1) / 2 := by
  unfold Builtin.Slice.slicePlaces
  rw [if_pos (by decide)]
  by_cases h : (0 : Int) < (n : Int)
  · first | rw [if_pos h] | rw [if_pos (show (n : Int) > 0 from h)] | skip
    omega
  · first | rw [if_neg h] | skip
    omega
section
variable {prog : Program} {w : World} {A : Around} {E : Value → Shared → Prop} {s : Shared}
theorem step_applied {sl : Addr} {vs : Value} {n : Nat} {Q : Int × Int × Nat → Shared → Prop} (hs : s.heap.IsSliceOf sl .none .none vs) (p : IsPart vs (some 2)) (h : Q (0, 2, (n + 1) / 2) s) :
    wpAny (model prog w) A (Builtin.Slice.sliceApplied (.ref sl) (pure (n : Int))) Q E s := by
  obtain ⟨os, hos, hcs, hds⟩ := id hs
  unfold Builtin.Slice.sliceApplied Builtin.Slice.sliceFields
  refine wpAny_bind (wpAny_bind (wpAny_field hos hds (x := .none) rfl ?_))
  refine wpAny_bind (wpAny_field hos hds (x := .none) rfl ?_)
  refine wpAny_bind (wpAny_field hos hds (x := vs) rfl (wpAny_pure ?_))
  refine wpAny_bind (HT.slicePart_ p ?_)
  show wpAny _ _ (if ((2 : Int) == 0) = true then _ else _) _ _ s
  rw [if_neg (by decide)]
  refine wpAny_bind (slicePart_none (wpAny_bind (slicePart_none (wpAny_bind (wpAny_pure ?_)))))
  show wpAny _ _ (match Builtin.Slice.sliceAdjust none none 2 (n : Int) with
    | (lo, hi) => pure (lo, (2 : Int), Builtin.Slice.slicePlaces lo hi 2)) _ _ s
  rw [step_adjust]
  show wpAny _ _ (pure ((0 : Int), (2 : Int), Builtin.Slice.slicePlaces 0 (n : Int) 2)) _ _ s
  rw [step_places]
  exact wpAny_pure h
theorem step_item {t sl : Addr} {items : Array Value} {vs : Value} {Q : Value → Shared → Prop} (ht : IsTup s.heap t items) (hs : s.heap.IsSliceOf sl .none .none vs) (p : IsPart vs (some 2)) (hsz : items.size ≤ sizeLine)
    (h : Q (.ref s.heap.objs.size) { s with heap := s.heap.push { cls := .type "tuple", data := .seq ((List.range ((items.size + 1) / 2)).filterMap fun (k : Nat) => items[((0 : Int) + (k : Int) * 2).toNat]?).toArray } }) :
    wpAny (model prog w) A (getItem (.ref t) (.ref sl)) Q E s := by
  have hz : sizeOk (.seq ((List.range ((items.size + 1) / 2)).filterMap fun (k : Nat) => items[((0 : Int) + (k : Int) * 2).toNat]?).toArray) := by
    show Array.size _ ≤ sizeLine
    rw [List.size_toArray]
    refine Nat.le_trans (List.length_filterMap_le _ _) ?_
    rw [List.length_range]
    have : (items.size + 1) / 2 ≤ items.size := by omega
    omega
  obtain ⟨os, hos, hcs, hds⟩ := id hs
  have isS : s.TypeIs (.ref sl) "slice" := ⟨os, hos, hcs⟩
  unfold getItem
  try with_reducible refine wpAny_holding ?_
  first | refine wpAny_bind (wpAny_pure ?_) | skip
  refine wpAny_bind (wpAny_sequenceKey ht.typeIs (by decide) ?_)
  refine wpAny_bind (wpAny_callSpecial?_slot (name := Str.ofString "__getitem__") ht.typeIs PyProof.Rows.slot_tuple_getitem (wpAny_call_entry PyProof.Rows.slot_tuple_getitem ht.typeIs entry_tuple_getitem ?_ (args_tuple_getitem _ _)))
  show wpAny _ _ (Builtin.Tuple.tupleItemsOf (.ref t) >>= _) _ _ s
  refine wpAny_bind (tupleItemsOf_ ht ?_)
  refine wpAny_bind (wpAny_typeOf isS ?_)
  rw [if_pos (by decide)]
  refine wpAny_bind (step_applied hs p ?_)
  have no : ¬ (((0 : Int) == 0 && (2 : Int) == 1 && (items.size + 1) / 2 == items.size) = true) := by
    intro q
    rw [Bool.and_eq_true, Bool.and_eq_true] at q
    exact absurd q.1.2 (by decide)
  show wpAny _ _ (if ((0 : Int) == 0 && (2 : Int) == 1 && (items.size + 1) / 2 == items.size) = true then _ else _) _ _ s
  rw [if_neg no]
  first
    | exact wpAny_bind (m := Builtin.Tuple.tupleExact _) (wpAny_newObj_type (wpAny_pure ⟨_, rfl, wpAny_pure h⟩) hz)
    | exact wpAny_bind (m := Builtin.Tuple.tupleExact _) (wpAny_newObj_type (wpAny_bind (wpAny_pure (wpAny_pure ⟨_, rfl, wpAny_pure h⟩))) hz)
    | exact wpAny_bind (wpAny_bind (m := Builtin.Tuple.tupleExact _) (wpAny_newObj_type (wpAny_pure (wpAny_pure ⟨_, rfl, wpAny_pure h⟩)) hz))
    | exact wpAny_bind (wpAny_bind (m := Builtin.Tuple.tupleExact _) (wpAny_newObj_type (wpAny_pure ⟨_, rfl, wpAny_pure h⟩) hz))
end
def tStep2 (K : PySem.W.Frag) (te : TE) : TE := fun σ H Q => te σ H fun x H1 => ∃ a xs, x = .ref a ∧ SqT K H1 a xs ∧
  ∀ p zs, H1 p = none → (∀ z ∈ zs, z ∈ xs) → zs.length = (xs.length + 1) / 2 → Q (.ref p) (upd H1 p (.tup zs))
section
variable {X : Cx}
theorem pick_len {α : Type} (xs : List α) : ∀ l : List Nat, (∀ m ∈ l, m < xs.length) → (l.filterMap fun m => xs[m]?).length = l.length
  | [], _ => rfl
  | m :: l, h => by
    have hm := h m List.mem_cons_self
    rw [List.filterMap_cons, List.getElem?_eq_getElem hm]
    simp only [List.length_cons]
    rw [pick_len xs l fun k hk => h k (List.mem_cons_of_mem _ hk)]
theorem pe_step2 {e : Expr} {te : TE} {k : Nat} {p1 p3 pos : Pos} (he : PE X e te) : PE X (.Subscript e (.Slice none none (some (.Constant (.int 2) k p1)) p3) pos) (tStep2 X.K te) := by
  refine ⟨fun pins s σ H Q I h => ?_⟩
  refine Subscript_ (thn (he.run pins s σ H _ I h) fun v s1 hv => ?_)
  obtain ⟨x, H1, I1, r1, a, xs, ex, hx, q⟩ := hv
  subst ex
  cases r1
  have hst : PO X (some (.Constant (.int 2) k p1)) (tPart (tC (.int 2))) := po_some pe_int
  refine wpAny_Slice (thn (po_none.run pins s1 σ H1 (fun o H2 => o = none ∧ H2 = H1) I1 ⟨rfl, rfl⟩) fun vl s2 hl => ?_)
  obtain ⟨l, H2, I2, pl, el, e2⟩ := hl
  subst el e2
  refine thn (po_none.run pins s2 σ H2 (fun o H3 => o = none ∧ H3 = H2) I2 ⟨rfl, rfl⟩) fun vu s3 hl => ?_
  obtain ⟨u, H3, I3, pu, eu, e3⟩ := hl
  subst eu e3
  refine thn (hst.run pins s3 σ H3 (fun o H4 => o = some 2 ∧ H4 = H3) I3 ⟨2, rfl, rfl, rfl⟩) fun vs s4 hl => ?_
  obtain ⟨o, H4, I4, ps, eo, e4⟩ := hl
  subst eo e4
  cases pl
  cases pu
  have I5 : Inv X pins σ H4 { s4 with heap := s4.heap.push { cls := .type "slice", data := .fields #[.none, .none, vs] } } := I4.kept (t' := s4.toks) fun b ob q => Heap.get?_push_of_some _ q
  obtain ⟨its, r, ht, hz⟩ := I5.tuple hx
  have hlen := r.length
  refine tail_any (ops := [.ref a, .ref s4.heap.objs.size]) ht.typeIs (PyProof.Rows.slot_tuple_getitem.lookup) ?_ (by with_unfolding_all rfl)
  refine step_item ht (Heap.IsSliceOf.new _ .none .none vs) ps (by rw [List.size_toArray]; omega) ?_
  have hsz : its.toArray.size = xs.length := by rw [List.size_toArray]; exact hlen.symm
  rw [hsz]
  let f : Nat → Nat := fun k => ((0 : Int) + (k : Int) * 2).toNat
  have hv := vals_pick r f (List.range ((xs.length + 1) / 2))
  have le : ((List.range ((xs.length + 1) / 2)).filterMap fun m => xs[f m]?).length = (xs.length + 1) / 2 := by
    have e := pick_len xs ((List.range ((xs.length + 1) / 2)).map f) (fun m hm => by
      obtain ⟨j, hj, rfl⟩ := List.mem_map.mp hm
      have := List.mem_range.mp hj
      show ((0 : Int) + (j : Int) * 2).toNat < _
      omega)
    rw [List.filterMap_map, List.length_map, List.length_range] at e
    exact e
  refine ⟨.ref _, _, I5.laid (t' := s4.toks) (o := .tup ((List.range ((xs.length + 1) / 2)).filterMap fun m => xs[f m]?)) (fun b ob q => Heap.get?_push_of_some _ q) (Nat.le_refl _) ?_, rfl,
    q _ _ (I5.hok.fresh (Nat.le_refl _)) (fun z hz => ?_) le⟩
  · refine ⟨by rw [le]; omega, (List.range ((xs.length + 1) / 2)).filterMap fun m => its[f m]?, hv, ?_⟩
    have e : (List.filterMap (fun (k : Nat) => its.toArray[((0 : Int) + (k : Int) * 2).toNat]?) (List.range ((xs.length + 1) / 2))) = ((List.range ((xs.length + 1) / 2)).filterMap fun m => its[f m]?) := by
      congr 1
      funext m
      simp [f]
    rw [e]
    exact IsTup.new _ _
  · obtain ⟨m, _, hm⟩ := List.mem_filterMap.mp hz
    exact List.mem_of_getElem? hm
end
end Ow

set_option Elab.async false
set_option linter.all false
set_option maxRecDepth 100000
set_option maxHeartbeats 4000000
namespace Ow
open PySem PySem.Spec PyProof.Rows
open Sem (wp)
/-! ### a list or a tuple, walked -/
inductive SqK | lst | tup
def SqK.Is : SqK → Heap → Addr → Array Value → Prop
  | .lst, h, l, xs => h.IsList l xs
  | .tup, h, l, xs => h.IsTuple l xs
def SqK.It : SqK → Heap → Addr → Addr → Nat → Prop
  | .lst, h, it, l, i => h.IsListIter it l i
  | .tup, h, it, l, i => h.IsTupleIter it l i
def SqK.ob : SqK → Addr → Obj
  | .lst, l => { cls := .type "list_iterator", data := .fields #[.ref l, .int 0 0] }
  | .tup, l => { cls := .type "tuple_iterator", data := .fields #[.ref l, .int 0 0] }
section
variable {prog : Program} {w : World} {A : Around} {E : Value → Shared → Prop} {s : Shared} {k k1 k2 : SqK}
theorem SqK.Is.keep {h h' : Heap} {l : Addr} {xs : Array Value} (x : k.Is h l xs) (e : ∀ o, h.get? l = some o → h'.get? l = some o) : k.Is h' l xs := by
  cases k with
  | lst => exact Heap.IsList.at x e
  | tup => exact Heap.IsTuple.at x e
theorem SqK.It.keep {h h' : Heap} {it l : Addr} {i : Nat} (x : k.It h it l i) (e : ∀ o, h.get? it = some o → h'.get? it = some o) : k.It h' it l i := by
  cases k with
  | lst => exact Heap.IsListIter.at x e
  | tup => exact Heap.IsTupleIter.at x e
theorem SqK.Is.lt {h : Heap} {l : Addr} {xs : Array Value} (x : k.Is h l xs) : l < h.objs.size := by
  cases k with
  | lst => obtain ⟨o, e, _⟩ := x; exact Heap.lt_size e
  | tup => obtain ⟨o, e, _⟩ := x; exact Heap.lt_size e
theorem SqK.iter {l : Addr} {xs : Array Value} (x : k.Is s.heap l xs) {Q : Value → Shared → Prop} (h : Q (.ref s.heap.objs.size) { s with heap := s.heap.push (k.ob l) }) : wpAny (model prog w) A (pyIter (.ref l)) Q E s := by
  cases k with
  | lst => exact wpAny_pyIter_list x h
  | tup => exact wpAny_pyIter_tuple x h
theorem SqK.start {h : Heap} {l it : Addr} (e : h.get? it = some (k.ob l)) : k.It h it l 0 := by
  cases k with
  | lst => exact ⟨_, e, rfl, rfl⟩
  | tup => exact ⟨_, e, rfl, rfl⟩
theorem SqK.draws (hh : A.handled = none) (it l : Addr) (hne : l ≠ it) (items : Array Value) : Draws prog w A it [it, l] items.size (fun i v => items[i]? = some v) (fun i h => k.It h it l i ∧ k.Is h l items) := by
  cases k with
  | lst => exact Draws.list hh it l hne items
  | tup => exact Draws.tuple hh it l hne items
end
/-! ### zip, made -/
def zh1 (h : Heap) (k1 : SqK) (l1 : Addr) : Heap := h.push (k1.ob l1)
def zh2 (h : Heap) (k1 k2 : SqK) (l1 l2 : Addr) : Heap := (zh1 h k1 l1).push (k2.ob l2)
def zh3 (h : Heap) (k1 k2 : SqK) (l1 l2 : Addr) : Heap := (zh2 h k1 k2 l1 l2).push { cls := .type "tuple", data := .seq #[.ref h.objs.size, .ref (zh1 h k1 l1).objs.size] }
def zh4 (h : Heap) (k1 k2 : SqK) (l1 l2 : Addr) : Heap := (zh3 h k1 k2 l1 l2).push { cls := .type "tuple", data := .seq #[.none, .none] }
def zh5 (h : Heap) (k1 k2 : SqK) (l1 l2 : Addr) : Heap := (zh4 h k1 k2 l1 l2).push { cls := .type "zip", data := .fields #[.none, .bool false, .bool false, .ref (zh2 h k1 k2 l1 l2).objs.size, .ref (zh3 h k1 k2 l1 l2).objs.size] }
theorem meets_zip (k1 k2 : SqK) (l1 l2 : Addr) (xs ys : Array Value) :
    Meets (Builtin.«zip.__new__» ⟨[.type "zip", .ref l1, .ref l2], []⟩) (fun _ R s => k1.Is s.heap l1 xs ∧ k2.Is s.heap l2 ys ∧ R (.ok (.ret (.ref (zh4 s.heap k1 k2 l1 l2).objs.size))) { s with heap := zh5 s.heap k1 k2 l1 l2 }) :=
  .of_wp fun prog w A R s h => by
    obtain ⟨hp, g, d, tk, os⟩ := s
    obtain ⟨hl1, hl2, h⟩ := h
    have hsub := sub_zip
    have hL1 : k1.Is (Shared.heap ⟨hp, g, d, tk, os⟩) l1 xs := hl1
    have hL2 : k2.Is (Shared.heap ⟨hp.push (k1.ob l1), g, d, tk, os⟩) l2 ys := SqK.Is.keep hl2 fun o e => Heap.get?_push_of_some _ e
    wp_walk using SqK.iter hL1, SqK.iter hL2
    exact ⟨_, rfl, h⟩
section
variable {prog : Program} {w : World} {A : Around} {E : Value → Shared → Prop} {s : Shared} {k1 k2 : SqK}
theorem call_zipK {l1 l2 : Addr} {xs ys : Array Value} {Q : Value → Shared → Prop} (hl1 : k1.Is s.heap l1 xs) (hl2 : k2.Is s.heap l2 ys)
    (h : ∀ h', IsZip h' (s.heap.objs.size + 4) (s.heap.objs.size + 2) (s.heap.objs.size + 3) .none → IsTupOf2 h' (s.heap.objs.size + 2) (.ref s.heap.objs.size) (.ref (s.heap.objs.size + 1)) →
      IsTupOf2 h' (s.heap.objs.size + 3) .none .none → k1.It h' s.heap.objs.size l1 0 → k2.It h' (s.heap.objs.size + 1) l2 0 → h'.objs.size = s.heap.objs.size + 5 →
      (∀ c o, s.heap.get? c = some o → h'.get? c = some o) → Q (.ref (s.heap.objs.size + 4)) { s with heap := h' }) :
    wpAny (model prog w) A (call (.type "zip") [.ref l1, .ref l2]) Q E s := by
  refine callType_new F.called_zip (by decide) (F.typeCall_zip_2 _ _) (F.newCall_zip_2 _ _) (fun obj => F.args_object_init_3 obj _ _) F.entry_zip_new (meets_zip k1 k2 l1 l2 xs ys) ⟨hl1, hl2, ?_⟩
  have z1 : (zh1 s.heap k1 l1).objs.size = s.heap.objs.size + 1 := Heap.size_push ..
  have z2 : (zh2 s.heap k1 k2 l1 l2).objs.size = s.heap.objs.size + 2 := by unfold zh2; rw [Heap.size_push, z1]
  have z3 : (zh3 s.heap k1 k2 l1 l2).objs.size = s.heap.objs.size + 3 := by unfold zh3; rw [Heap.size_push, z2]
  have z4 : (zh4 s.heap k1 k2 l1 l2).objs.size = s.heap.objs.size + 4 := by unfold zh4; rw [Heap.size_push, z3]
  have z5 : (zh5 s.heap k1 k2 l1 l2).objs.size = s.heap.objs.size + 5 := by unfold zh5; rw [Heap.size_push, z4]
  have g5 : (zh5 s.heap k1 k2 l1 l2).get? (zh4 s.heap k1 k2 l1 l2).objs.size = some _ := Heap.get?_push_size _ rfl
  have g4 : (zh5 s.heap k1 k2 l1 l2).get? (zh3 s.heap k1 k2 l1 l2).objs.size = some _ := Heap.get?_push_of_some _ (Heap.get?_push_size _ rfl)
  have g3 : (zh5 s.heap k1 k2 l1 l2).get? (zh2 s.heap k1 k2 l1 l2).objs.size = some _ := Heap.get?_push_of_some _ (Heap.get?_push_of_some _ (Heap.get?_push_size _ rfl))
  have fr : (k2.ob l2).isFreed = false := by cases k2 <;> rfl
  have fr1 : (k1.ob l1).isFreed = false := by cases k1 <;> rfl
  have g2 : (zh5 s.heap k1 k2 l1 l2).get? (zh1 s.heap k1 l1).objs.size = some (k2.ob l2) := Heap.get?_push_of_some _ (Heap.get?_push_of_some _ (Heap.get?_push_of_some _ (Heap.get?_push_size _ fr)))
  have g1 : (zh5 s.heap k1 k2 l1 l2).get? s.heap.objs.size = some (k1.ob l1) := Heap.get?_push_of_some _ (Heap.get?_push_of_some _ (Heap.get?_push_of_some _ (Heap.get?_push_of_some _ (Heap.get?_push_size _ fr1))))
  show _ ∧ _
  rw [z2, z3, z4] at g5
  rw [z1, z2] at g3
  rw [z3] at g4
  rw [z1] at g2
  rw [z4]
  exact ⟨⟨_, g5, rfl⟩, h _ g5 g3 g4 (SqK.start g1) (SqK.start g2) z5 fun c o x => Heap.get?_push_of_some _ (Heap.get?_push_of_some _ (Heap.get?_push_of_some _ (Heap.get?_push_of_some _ (Heap.get?_push_of_some _ x))))⟩
end
/-! ### zip's next, while the tuple that it handed out is still held -/
/-- the tuple T is out -/
def ZipO (h : Heap) (z TI TO T : Addr) : Prop := ∃ fl, h.get? z = some { cls := .type "zip", dict := none, data := .fields #[rawInt T, .bool fl, .bool false, .ref TI, .ref TO], slots := #[] }
section
variable {prog : Program} {w : World} {A : Around} {E : Value → Shared → Prop} {s : Shared} {z TI TO T i1 i2 : Addr} {fp1 fp2 : List Addr} {n1 n2 i : Nat} {P1 P2 : Nat → Value → Prop} {St1 St2 : Nat → Heap → Prop} {oT : Obj}
theorem zipO_free {Q : Bool → Shared → Prop} (hz : ZipO s.heap z TI TO T) (hT : s.heap.get? T = some oT) (h : ∀ h', ZipO h' z TI TO T → Heap.SameBut z s.heap h' → Q false { s with heap := h' }) :
    wpAny (model prog w) A (Builtin.SmallTypes.ownedTupleIsFree (.ref z)) Q E s := by
  obtain ⟨fl, hz⟩ := hz
  unfold Builtin.SmallTypes.ownedTupleIsFree
  refine wpAny_bind (wpAny_field hz rfl (x := rawInt T) rfl ?_)
  show wpAny _ _ (loadIfAlive ((T : Int).toNat) >>= _) _ _ _
  rw [Int.toNat_natCast]
  refine wpAny_bind (PySem.W.kdx_alive hT ?_)
  simp only [Option.isNone_some, Bool.false_eq_true, if_false]
  refine wpAny_bind (wpAny_field hz rfl (x := .bool fl) rfl ?_)
  cases fl with
  | true =>
    have e : (Value.bool true != Value.bool true) = false := by decide
    simp only [e, Bool.false_eq_true, if_false]
    exact wpAny_pure (h s.heap ⟨true, hz⟩ (Heap.SameBut.refl z s.heap))
  | false =>
    have e : (Value.bool false != Value.bool true) = true := by decide
    simp only [e, if_true]
    exact wpAny_bind (wpAny_setField_rec hz (by simp) fun h' hz' hs' => wpAny_pure (h h' ⟨true, hz'⟩ hs'))

theorem zipO_item {Q : Value → Shared → Prop} (S : ZipSep2 z TI TO i1 i2 fp1 fp2) (D1 : Draws prog w A i1 fp1 n1 P1 St1) (D2 : Draws prog w A i2 fp2 n2 P2 St2)
    (hz : ZipO s.heap z TI TO T) (hT : s.heap.get? T = some oT) (hTI : IsTupOf2 s.heap TI (.ref i1) (.ref i2)) (st1 : St1 i s.heap) (st2 : St2 i s.heap) (hlt1 : i < n1) (hlt2 : i < n2)
    (hQ : ∀ x1 x2 h' tk, P1 i x1 → P2 i x2 → ZipO h' z TI TO T → St1 (i + 1) h' → St2 (i + 1) h' → IsTupOf2 h' s.heap.objs.size x1 x2 → h'.objs.size = s.heap.objs.size + 1 →
      (∀ c o, c ≠ z → c ≠ i1 → c ≠ i2 → s.heap.get? c = some o → h'.get? c = some o) → Q (.ref s.heap.objs.size) { s with heap := h', toks := tk }) :
    wpAny (model prog w) A (Builtin.«zip.__next__» ⟨[.ref z], []⟩) (fun fin s' => ∃ v, fin = .done (.ret v) ∧ Q v s') E s := by
  obtain ⟨hp, g, d, tk0, os⟩ := s
  obtain ⟨fl, hz0⟩ := id hz
  show wpAny _ _ (field (.ref z) 2 >>= _) _ _ _
  refine wpAny_bind (wpAny_field hz0 rfl (x := .bool false) rfl ?_)
  show wpAny _ _ (field (.ref z) 3 >>= _) _ _ _
  refine wpAny_bind (wpAny_field hz0 rfl (x := .ref TI) rfl ?_)
  refine wpAny_bind (wpAny_seqItems hTI rfl ?_)
  show wpAny _ _ (Builtin.SmallTypes.ownedTupleIsFree (.ref z) >>= _) _ _ _
  refine wpAny_bind (zipO_free hz hT fun g0 hz1 hs0 => ?_)
  simp only [Bool.false_eq_true, if_false]
  have hs0' : Heap.SameBut z hp g0 := hs0
  rw [← Array.forIn_toList]
  simp only [List.forIn_cons, List.forIn_nil]
  refine wpAny_bind (wpAny_bind (wpAny_bind (wpAny_holding ?_)))
  show wpAny _ _ (Builtin.SmallTypes.nextOf (.ref i1) >>= _) _ _ ⟨g0, g, d, tk0, os⟩
  refine wpAny_bind (D1.item i _ _ _ hlt1 (D1.over st1 hs0' S.zf1) fun x1 p1 tk1 hx1 sn1 hp1 => wpAny_pure ?_)
  have hp1' : Heap.SameBut i1 g0 p1 := hp1
  refine wpAny_pure ?_
  refine wpAny_bind (wpAny_bind (wpAny_holding ?_))
  show wpAny _ _ (Builtin.SmallTypes.nextOf (.ref i2) >>= _) _ _ ⟨p1, g, d, tk1, os⟩
  refine wpAny_bind (D2.item i _ _ _ hlt2 (D2.over (D2.over st2 hs0' S.zf2) hp1' S.sep1_2) fun x2 p2 tk2 hx2 sn2 hp2 => wpAny_pure ?_)
  have hp2' : Heap.SameBut i2 p1 p2 := hp2
  refine wpAny_pure (wpAny_pure ?_)
  show wpAny _ _ (newTuple [x1, x2] >>= _) _ _ ⟨p2, g, d, tk2, os⟩
  refine wpAny_bind (wpAny_newTuple ?_)
  have hsz : p2.objs.size = hp.objs.size := by rw [hp2'.1, hp1'.1, hs0'.1]
  refine wpAny_pure ⟨_, rfl, ?_⟩
  obtain ⟨fl2, hz2⟩ := hz1
  have hzz : ZipO (p2.push { cls := .type "tuple", data := .seq #[x1, x2] }) z TI TO T := ⟨fl2, Heap.get?_push_of_some _ (hp2'.extBut _ _ S.zi2 (hp1'.extBut _ _ S.zi1 hz2))⟩
  have up : ∀ c o, p2.get? c = some o → (p2.push { cls := .type "tuple", data := .seq #[x1, x2] }).get? c = some o := fun c o e => Heap.get?_push_of_some _ e
  have hj1 : St1 (i + 1) p2 := D1.over sn1 hp2' S.sep2_1
  have res := hQ x1 x2 (p2.push { cls := .type "tuple", data := .seq #[x1, x2] }) tk2 hx1 hx2 hzz (D1.frame _ _ _ hj1 fun b _ o e => up b o e) (D2.frame _ _ _ sn2 fun b _ o e => up b o e)
  have e1 : IsTupOf2 (p2.push { cls := .type "tuple", data := .seq #[x1, x2] }) hp.objs.size x1 x2 := by
    rw [← hsz]
    exact Heap.get?_push_size _ rfl
  have res2 := res e1 (by rw [Heap.size_push, hsz]) (fun c o cz c1 c2 e => up c o (hp2'.extBut _ _ c2 (hp1'.extBut _ _ c1 (hs0'.extBut _ _ cz e))))
  show Q (.ref p2.objs.size) _
  rw [hsz]
  exact res2

theorem zipO_end {Q : Fin → Shared → Prop} (S : ZipSep2 z TI TO i1 i2 fp1 fp2) (D1 : Draws prog w A i1 fp1 n1 P1 St1) (D2 : Draws prog w A i2 fp2 n2 P2 St2)
    (hz : ZipO s.heap z TI TO T) (hT : s.heap.get? T = some oT) (hTI : IsTupOf2 s.heap TI (.ref i1) (.ref i2)) (st1 : St1 i s.heap) (st2 : St2 i s.heap) (hle1 : i ≤ n1) (hle2 : i ≤ n2) (hend : i = n1 ∨ i = n2)
    (hE : ∀ h' tk e, (∀ c o, c ≠ z → c ≠ i1 → c ≠ i2 → s.heap.get? c = some o → h'.get? c = some o) → (∃ o, h'.get? e = some o ∧ o.cls = .type "StopIteration") → E (.ref e) { s with heap := h', toks := tk }) :
    wpAny (model prog w) A (Builtin.«zip.__next__» ⟨[.ref z], []⟩) Q E s := by
  obtain ⟨hp, g, d, tk0, os⟩ := s
  obtain ⟨fl, hz0⟩ := id hz
  show wpAny _ _ (field (.ref z) 2 >>= _) _ _ _
  refine wpAny_bind (wpAny_field hz0 rfl (x := .bool false) rfl ?_)
  show wpAny _ _ (field (.ref z) 3 >>= _) _ _ _
  refine wpAny_bind (wpAny_field hz0 rfl (x := .ref TI) rfl ?_)
  refine wpAny_bind (wpAny_seqItems hTI rfl ?_)
  show wpAny _ _ (Builtin.SmallTypes.ownedTupleIsFree (.ref z) >>= _) _ _ _
  refine wpAny_bind (zipO_free hz hT fun g0 hz1 hs0 => ?_)
  simp only [Bool.false_eq_true, if_false]
  have hs0' : Heap.SameBut z hp g0 := hs0
  rw [← Array.forIn_toList]
  simp only [List.forIn_cons, List.forIn_nil]
  refine wpAny_bind (wpAny_bind (wpAny_bind (wpAny_holding ?_)))
  show wpAny _ _ (Builtin.SmallTypes.nextOf (.ref i1) >>= _) _ _ ⟨g0, g, d, tk0, os⟩
  by_cases hlt1 : i < n1
  · refine wpAny_bind (D1.item i _ _ _ hlt1 (D1.over st1 hs0' S.zf1) fun x1 p1 tk1 hx1 sn1 hp1 => wpAny_pure ?_)
    have hp1' : Heap.SameBut i1 g0 p1 := hp1
    have hi2 : i = n2 := by omega
    refine wpAny_pure ?_
    refine wpAny_bind (wpAny_bind (wpAny_holding ?_))
    show wpAny _ _ (Builtin.SmallTypes.nextOf (.ref i2) >>= _) _ _ ⟨p1, g, d, tk1, os⟩
    refine wpAny_bind (D2.done ⟨p1, g, d, tk1, os⟩ _ _ (by rw [← hi2]; exact D2.over (D2.over st2 hs0' S.zf2) hp1' S.sep1_2) fun q e hq he => ?_)
    exact hE q tk1 e (fun c o cz c1 c2 x => hq _ _ c2 (hp1'.extBut _ _ c1 (hs0'.extBut _ _ cz x))) he
  · have hi1 : i = n1 := by omega
    refine wpAny_bind (D1.done ⟨g0, g, d, tk0, os⟩ _ _ (by rw [← hi1]; exact D1.over st1 hs0' S.zf1) fun q e hq he => ?_)
    exact hE q tk0 e (fun c o cz c1 c2 x => hq _ _ c1 (hs0'.extBut _ _ cz x)) he
/-! ### next(zip), before and behind the first item -/
/-- nothing handed out yet, or the tuple T, which stands -/
def ZipS (h : Heap) (z TI TO : Addr) (lo : Addr) : Prop := (IsZip h z TI TO .none ∧ ∃ a b, IsTupOf2 h TO a b) ∨ ∃ T oT, ZipO h z TI TO T ∧ h.get? T = some oT ∧ lo < T
theorem zipS_item {lo : Addr} {Q : Option Value → Shared → Prop} (S : ZipSep2 z TI TO i1 i2 fp1 fp2) (D1 : Draws prog w A.in1 i1 fp1 n1 P1 St1) (D2 : Draws prog w A.in1 i2 fp2 n2 P2 St2)
    (hz : ZipS s.heap z TI TO lo) (hlo : lo < s.heap.objs.size) (hTI : IsTupOf2 s.heap TI (.ref i1) (.ref i2)) (st1 : St1 i s.heap) (st2 : St2 i s.heap) (hlt1 : i < n1) (hlt2 : i < n2) (lz : z ≤ lo) (l1 : i1 ≤ lo) (l2 : i2 ≤ lo)
    (hQ : ∀ x1 x2 h' tk, P1 i x1 → P2 i x2 → ZipS h' z TI TO lo → IsTupOf2 h' TI (.ref i1) (.ref i2) → St1 (i + 1) h' → St2 (i + 1) h' → IsTupOf2 h' s.heap.objs.size x1 x2 → h'.objs.size = s.heap.objs.size + 1 →
      (∀ c o, c ≠ z → c ≠ TO → c ≠ i1 → c ≠ i2 → s.heap.get? c = some o → h'.get? c = some o) → Q (some (.ref s.heap.objs.size)) { s with heap := h', toks := tk }) :
    wpAny (model prog w) A (pyNext (.ref z)) Q E s := by
  rcases hz with ⟨hz, a, b, hTO⟩ | ⟨T, oT, hz, hT, hl⟩
  · refine wpAny_pyNext_zipD2_item S D1 D2 hz hTI hTO st1 st2 hlt1 hlt2 fun x1 x2 h' tk p1 p2 hz' hTO' s1 s2 hn hsz hk => ?_
    refine hQ x1 x2 h' tk p1 p2 (.inr ⟨s.heap.objs.size, _, ⟨false, hz'⟩, hn, hlo⟩) (hk _ _ S.TIz S.TITO S.TIi1 S.TIi2 hTI) s1 s2 hn hsz hk
  · obtain ⟨fl, hz0⟩ := id hz
    have hTy : s.TypeIs (.ref z) "zip" := ⟨_, hz0, rfl⟩
    unfold pyNext
    refine wpAny_bind (wpAny_attempt (wpAny_callSpecial?_slot (name := Str.ofString "__next__") hTy F.slot_zip_next (wpAny_call_entry F.slot_zip_next hTy F.entry_zip_next
      (zipO_item S D1 D2 hz hT hTI st1 st2 hlt1 hlt2 fun x1 x2 h' tk p1 p2 hz' s1 s2 hn hsz hk => wpAny_pure ?_) (F.args_zip_next_1 _))))
    have nT : ∀ x, x ≤ lo → T ≠ x := fun x hx e => by rw [e] at hl; exact absurd (Nat.lt_of_lt_of_le hl hx) (Nat.lt_irrefl _)
    exact hQ x1 x2 h' tk p1 p2 (.inr ⟨T, oT, hz', hk T oT (nT z lz) (nT i1 l1) (nT i2 l2) hT, hl⟩) (hk _ _ S.TIz S.TIi1 S.TIi2 hTI) s1 s2 hn hsz fun c o cz _ c1 c2 e => hk c o cz c1 c2 e
theorem zipS_end {lo : Addr} {Q : Option Value → Shared → Prop} (S : ZipSep2 z TI TO i1 i2 fp1 fp2) (D1 : Draws prog w A.in1 i1 fp1 n1 P1 St1) (D2 : Draws prog w A.in1 i2 fp2 n2 P2 St2)
    (hz : ZipS s.heap z TI TO lo) (hTI : IsTupOf2 s.heap TI (.ref i1) (.ref i2)) (st1 : St1 i s.heap) (st2 : St2 i s.heap) (hle1 : i ≤ n1) (hle2 : i ≤ n2) (hend : i = n1 ∨ i = n2)
    (hQ : ∀ h' tk, (∀ c o, c ≠ z → c ≠ TO → c ≠ i1 → c ≠ i2 → s.heap.get? c = some o → h'.get? c = some o) → Q none { s with heap := h', toks := tk }) : wpAny (model prog w) A (pyNext (.ref z)) Q E s := by
  rcases hz with ⟨hz, a, b, hTO⟩ | ⟨T, oT, hz, hT, hl⟩
  · exact wpAny_pyNext_zipD2_end S D1 D2 hz hTI hTO st1 st2 hle1 hle2 hend hQ
  · obtain ⟨fl, hz0⟩ := id hz
    have hTy : s.TypeIs (.ref z) "zip" := ⟨_, hz0, rfl⟩
    unfold pyNext
    refine wpAny_bind (wpAny_attempt (wpAny_callSpecial?_slot (name := Str.ofString "__next__") hTy F.slot_zip_next (wpAny_call_entry F.slot_zip_next hTy F.entry_zip_next
      (zipO_end S D1 D2 hz hT hTI st1 st2 hle1 hle2 hend fun h' tk e hk he => ?_) (F.args_zip_next_1 _))))
    obtain ⟨o, ho, hc⟩ := he
    refine wpAny_bind (wpAny_isInstance (T := "StopIteration") (b := true) ⟨o, ho, hc⟩ isSubtype_stop ?_)
    exact wpAny_pure (hQ _ _ fun c o cz _ c1 c2 e => hk c o cz c1 c2 e)
end
end Ow

set_option Elab.async false
set_option linter.all false
set_option maxRecDepth 100000
set_option maxHeartbeats 4000000
namespace Ow
open PySem PySem.Spec PyProof.Rows
open Sem (wp)
theorem zip_nolen : typeLookup (.type "zip") "__len__" = pure none := by rw [typeLookup_type, builtinLookup_eq_fast]; kernel_rfl
theorem zip_nohint : typeLookup (.type "zip") "__length_hint__" = pure none := by rw [typeLookup_type, builtinLookup_eq_fast]; kernel_rfl
/-- the pairs made so far -/
structure ZG (xs ys : Array Value) (lo : Addr) (h : Heap) (as : List Addr) : Prop where
  rise : as.Pairwise (· < ·)
  above : ∀ a ∈ as, lo < a
  pairs : ∀ (j : Nat) (a : Addr), as[j]? = some a → ∃ x y, xs[j]? = some x ∧ ys[j]? = some y ∧ IsTupOf2 h a x y
theorem ZG.there {xs ys : Array Value} {lo : Addr} {h : Heap} {as : List Addr} (g : ZG xs ys lo h as) {a : Addr} (ha : a ∈ as) : a < h.objs.size := by
  obtain ⟨j, hj⟩ := List.mem_iff_getElem?.mp ha
  obtain ⟨_, _, _, _, e⟩ := g.pairs j a hj
  exact Heap.lt_size e
/-- where a zip over l1 and l2 stands, all below S -/
structure ZP (z TI TO i1 i2 l1 l2 S : Addr) : Prop where
  sep : ZipSep2 z TI TO i1 i2 [i1, l1] [i2, l2]
  n1 : l1 ≠ i1
  n2 : l2 ≠ i2
  bz : z < S
  bI : TI < S
  bO : TO < S
  b1 : i1 < S
  b2 : i2 < S
  c1 : l1 < S
  c2 : l2 < S
/-- the zip, its turn i being next -/
def ZSt (k1 k2 : SqK) (z TI TO i1 i2 l1 l2 S : Addr) (xs ys : Array Value) (i : Nat) (h : Heap) : Prop :=
  ZipS h z TI TO S ∧ IsTupOf2 h TI (.ref i1) (.ref i2) ∧ (k1.It h i1 l1 i ∧ k1.Is h l1 xs) ∧ k2.It h i2 l2 i ∧ k2.Is h l2 ys
theorem ZSt.keep {k1 k2 : SqK} {z TI TO i1 i2 l1 l2 S : Addr} {xs ys : Array Value} {i : Nat} {h h' : Heap} (p : ZP z TI TO i1 i2 l1 l2 S) (x : ZSt k1 k2 z TI TO i1 i2 l1 l2 S xs ys i h)
    (k : ∀ b o, b ≠ S → h.get? b = some o → h'.get? b = some o) : ZSt k1 k2 z TI TO i1 i2 l1 l2 S xs ys i h' := by
  obtain ⟨hz, hI, ⟨a1, a2⟩, a3, a4⟩ := x
  refine ⟨?_, k _ _ (Nat.ne_of_lt p.bI) hI, ⟨a1.keep fun o e => k _ o (Nat.ne_of_lt p.b1) e, a2.keep fun o e => k _ o (Nat.ne_of_lt p.c1) e⟩, a3.keep fun o e => k _ o (Nat.ne_of_lt p.b2) e, a4.keep fun o e => k _ o (Nat.ne_of_lt p.c2) e⟩
  rcases hz with ⟨hz, a, b, hTO⟩ | ⟨T, oT, ⟨fl, hz⟩, hT, hl⟩
  · exact .inl ⟨k _ _ (Nat.ne_of_lt p.bz) hz, a, b, k _ _ (Nat.ne_of_lt p.bO) hTO⟩
  · exact .inr ⟨T, oT, ⟨fl, k _ _ (Nat.ne_of_lt p.bz) hz⟩, k _ _ (Nat.ne_of_gt hl) hT, hl⟩
section
variable {prog : Program} {w : World} {A : Around} {s : Shared} {R : Result → Shared → Prop} {k1 k2 : SqK} {z TI TO i1 i2 l1 l2 S : Addr} {xs ys : Array Value}
theorem zip_loop (hh : A.handled = none) (p : ZP z TI TO i1 i2 l1 l2 S) (hn : min xs.size ys.size ≤ sizeLine) (res : Value) {h₁ : Heap}
    (hR : ∀ h' tk acc c as, (∀ b o, b ≠ S → b ≠ z → b ≠ TO → b ≠ i1 → b ≠ i2 → h₁.get? b = some o → h'.get? b = some o) → h'.get? S = some { cls := .type "list", dict := none, data := .seq acc c, slots := #[] } → as.length = min xs.size ys.size → ZG xs ys S h' as →
      acc.toList = as.map Value.ref → R (.ok (.ret res)) { s with heap := h', toks := tk }) :
    ∀ (k i : Nat) (h : Heap) (tk c : Nat) (acc : Array Value) (as : List Addr), min xs.size ys.size - i = k → i ≤ min xs.size ys.size → ZSt k1 k2 z TI TO i1 i2 l1 l2 S xs ys i h → (∀ b o, b ≠ S → b ≠ z → b ≠ TO → b ≠ i1 → b ≠ i2 → h₁.get? b = some o → h.get? b = some o) →
      h.get? S = some { cls := .type "list", dict := none, data := .seq acc c, slots := #[] } → acc.toList = as.map Value.ref → as.length = i → ZG xs ys S h as →
      codeAny (model prog w) A (.builtin "list.extend.loop" ⟨[.ref S, .ref z, res], []⟩) R { s with heap := h, toks := tk } := by
  have D1 : Draws prog w A.in1.in1 i1 [i1, l1] xs.size (fun i v => xs[i]? = some v) (fun i h => k1.It h i1 l1 i ∧ k1.Is h l1 xs) := SqK.draws (A := A.in1.in1) hh i1 l1 p.n1 xs
  have D2 : Draws prog w A.in1.in1 i2 [i2, l2] ys.size (fun i v => ys[i]? = some v) (fun i h => k2.It h i2 l2 i ∧ k2.Is h l2 ys) := SqK.draws (A := A.in1.in1) hh i2 l2 p.n2 ys
  intro k
  induction k with
  | zero =>
    intro i h tk c acc as hk hi hst hkeep hS hacc hal hG
    have hin : i = min xs.size ys.size := by omega
    refine codeAny_builtin PySem.F.entry_extend_loop ?_
    rw [Around.under_plainId PySem.F.plain_extend_loop _]
    show wpAny _ A.in1 (pyNext (.ref z) >>= _) _ _ _
    obtain ⟨hz, hI, a12, a34⟩ := hst
    refine wpAny_bind (zipS_end (s := { s with heap := h, toks := tk }) (A := A.in1) (i := i) p.sep D1 D2 hz hI a12 a34 (by omega) (by omega) (by omega) fun h' tk' he => ?_)
    refine wpAny_pure (hR h' tk' acc c as (fun b o n1 n2 n3 n4 n5 e => he b o n2 n3 n4 n5 (hkeep b o n1 n2 n3 n4 n5 e)) (he S _ (Nat.ne_of_gt p.bz) (Nat.ne_of_gt p.bO) (Nat.ne_of_gt p.b1) (Nat.ne_of_gt p.b2) hS) (by omega) ⟨hG.rise, hG.above, fun j a hj => ?_⟩ hacc)
    obtain ⟨x, y, e1, e2, e3⟩ := hG.pairs j a hj
    have ha := hG.above a (List.mem_of_getElem? hj)
    exact ⟨x, y, e1, e2, he a _ (Nat.ne_of_gt (Nat.lt_trans p.bz ha)) (Nat.ne_of_gt (Nat.lt_trans p.bO ha)) (Nat.ne_of_gt (Nat.lt_trans p.b1 ha)) (Nat.ne_of_gt (Nat.lt_trans p.b2 ha)) e3⟩
  | succ k ih =>
    intro i h tk c acc as hk hi hst hkeep hS hacc hal hG
    have hlt : i < min xs.size ys.size := by omega
    have hsz : acc.size = i := by rw [← Array.length_toList, hacc, List.length_map, hal]
    have hSl : S < h.objs.size := Heap.lt_size hS
    refine codeAny_builtin PySem.F.entry_extend_loop ?_
    rw [Around.under_plainId PySem.F.plain_extend_loop _]
    show wpAny _ A.in1 (pyNext (.ref z) >>= _) _ _ _
    obtain ⟨hz, hI, a12, a34⟩ := hst
    refine wpAny_bind (zipS_item (s := { s with heap := h, toks := tk }) (A := A.in1) (i := i) p.sep D1 D2 hz hSl hI a12 a34 (by omega) (by omega) (Nat.le_of_lt p.bz) (Nat.le_of_lt p.b1) (Nat.le_of_lt p.b2) fun x y h' tk' hx hy hz' hI' b12 b34 hT hsz' hkp => ?_)
    dsimp only at hT hsz' hkp ⊢
    have hS' := hkp S _ (Nat.ne_of_gt p.bz) (Nat.ne_of_gt p.bO) (Nat.ne_of_gt p.b1) (Nat.ne_of_gt p.b2) hS
    have up : ∀ b o, b ≠ S → h'.get? b = some o → (h'.update S (Obj.mapSeq (·.push (Value.ref h.objs.size)))).get? b = some o := fun b o hb e => (Heap.get?_update_other _ _ (Ne.symm hb)).trans e
    have st' : ZSt k1 k2 z TI TO i1 i2 l1 l2 S xs ys (i + 1) (h'.update S (Obj.mapSeq (·.push (Value.ref h.objs.size)))) := ZSt.keep p ⟨hz', hI', b12, b34⟩ up
    show wpAny _ A.in1 (updateSeq S (·.push (Value.ref h.objs.size)) >>= _) _ _ _
    refine wpAny_bind ?_
    refine wpAny_updateSeq hS' rfl (wpAny_pure ⟨plainId_quiet PySem.F.plain_extend_loop _, ih (i + 1) _ tk' _ (acc.push (Value.ref h.objs.size)) (as ++ [h.objs.size]) (by omega) hlt st'
      (fun b o n1 n2 n3 n4 n5 e => up b o n1 (hkp b o n2 n3 n4 n5 (hkeep b o n1 n2 n3 n4 n5 e))) (Heap.get?_update_self _ hS' rfl) (by rw [Array.toList_push, hacc, List.map_append]; rfl) (by rw [List.length_append, hal]; rfl) ⟨?_, ?_, ?_⟩⟩) (by rw [hsz]; omega) (by show (acc.push (Value.ref h.objs.size)).size ≤ sizeLine + 1; rw [Array.size_push, hsz]; omega)
    · refine List.pairwise_append.mpr ⟨hG.rise, List.pairwise_singleton _ _, fun a ha b hb => ?_⟩
      rw [List.mem_singleton.mp hb]
      exact hG.there ha
    · intro a ha
      rcases List.mem_append.mp ha with ha | ha
      · exact hG.above a ha
      · rw [List.mem_singleton.mp ha]; exact hSl
    · intro j b hj
      rcases Nat.lt_trichotomy j as.length with q | q | q
      · rw [List.getElem?_append_left q] at hj
        obtain ⟨x', y', e1, e2, e3⟩ := hG.pairs j b hj
        have hb := hG.above b (List.mem_of_getElem? hj)
        exact ⟨x', y', e1, e2, up b _ (Nat.ne_of_gt hb) (hkp b _ (Nat.ne_of_gt (Nat.lt_trans p.bz hb)) (Nat.ne_of_gt (Nat.lt_trans p.bO hb)) (Nat.ne_of_gt (Nat.lt_trans p.b1 hb)) (Nat.ne_of_gt (Nat.lt_trans p.b2 hb)) e3)⟩
      · subst q
        have hb : h.objs.size = b := by simpa using hj
        subst hb
        exact ⟨x, y, by rw [hal]; exact hx, by rw [hal]; exact hy, up _ _ (Nat.ne_of_gt hSl) hT⟩
      · have hnone : (as ++ [h.objs.size])[j]? = none := List.getElem?_eq_none (by rw [List.length_append, List.length_singleton]; omega)
        rw [hnone] at hj; cases hj
end
section
variable {prog : Program} {w : World} {A : Around} {E : Value → Shared → Prop} {s : Shared} {k1 k2 : SqK} {z TI TO i1 i2 l1 l2 : Addr} {xs ys : Array Value}
theorem zip_hint (hT : s.TypeIs (.ref z) "zip") {Q : Bool → Shared → Prop} (h : Q true s) : wpAny (model prog w) A (Builtin.List.listLengthHint (.ref z)) Q E s := by
  unfold Builtin.List.listLengthHint
  refine wpAny_bind (wpAny_specialOf hT zip_nolen ?_)
  first
    | exact wpAny_bind (wpAny_specialOf hT zip_nohint (wpAny_pure h))
    | (show wpAny _ _ (specialOf (Value.ref z) (Str.ofString "__length_hint__") >>= _) _ _ _
       exact wpAny_bind (wpAny_specialOf hT zip_nohint (wpAny_pure h)))

theorem zip_extend {R : Result → Shared → Prop} {S : Addr} (hh : A.handled = none) (p : ZP z TI TO i1 i2 l1 l2 S) (hn : min xs.size ys.size ≤ sizeLine) (hz : IsZip s.heap z TI TO .none) (hTO : IsTupOf2 s.heap TO .none .none)
    (st : IsTupOf2 s.heap TI (.ref i1) (.ref i2) ∧ (k1.It s.heap i1 l1 0 ∧ k1.Is s.heap l1 xs) ∧ k2.It s.heap i2 l2 0 ∧ k2.Is s.heap l2 ys) (res : Value) (c₀ : Nat) (hS : s.heap.get? S = some { cls := .type "list", data := .seq #[] c₀ })
    (hR : ∀ h' tk acc c as, (∀ b o, b ≠ S → b ≠ z → b ≠ TO → b ≠ i1 → b ≠ i2 → s.heap.get? b = some o → h'.get? b = some o) → h'.get? S = some { cls := .type "list", dict := none, data := .seq acc c, slots := #[] } → as.length = min xs.size ys.size → ZG xs ys S h' as →
      acc.toList = as.map Value.ref → R (.ok (.ret res)) { s with heap := h', toks := tk }) :
    wpAny (model prog w) A.in1 (Builtin.List.listExtendWith (.ref S) (.ref z) res)
      (fun fin s' => match fin with | .done f => R (.ok f) s' | .again c' => c'.quiet = true ∧ codeAny (model prog w) A c' R s') (fun e s' => R (.error e) s') s := by
  have hTy : s.TypeIs (.ref z) "zip" := ⟨_, hz, rfl⟩
  have key : ∀ (h : Heap) (c₁ tk : Nat), (∀ b o, b ≠ S → s.heap.get? b = some o → h.get? b = some o) → h.get? S = some { cls := .type "list", data := .seq #[] c₁ } →
      codeAny (model prog w) A (.builtin "list.extend.loop" ⟨[.ref S, .ref z, res], []⟩) R { s with heap := h, toks := tk } := by
    intro h c₁ tk hk hS₁
    have st0 : ZSt k1 k2 z TI TO i1 i2 l1 l2 S xs ys 0 s.heap := ⟨.inl ⟨hz, _, _, hTO⟩, st⟩
    exact zip_loop (s := s) (h₁ := s.heap) hh p hn res (fun h' tk' acc c as hk' hS' hl hG hacc => hR h' tk' acc c as hk' hS' hl hG hacc) (min xs.size ys.size) 0 h tk c₁ #[] [] (Nat.sub_zero _) (Nat.zero_le _) (st0.keep p hk)
      (fun b o n1 _ _ _ _ e => hk b o n1 e) hS₁ rfl rfl ⟨List.Pairwise.nil, (fun _ ha => nomatch ha), (fun j a hj => by simp at hj)⟩
  unfold Builtin.List.listExtendWith
  refine wpAny_bind (wpAny_typeOf (T := "zip") hTy ?_)
  have hSz : S ≠ z := Nat.ne_of_gt p.bz
  have h1 : Builtin.List.listSameRef (.ref S) (.ref z) = false := by simp [Builtin.List.listSameRef, hSz]
  have h2 : (Value.type "zip" == Value.type "list") = false := by decide
  have h3 : (Value.type "zip" == Value.type "tuple") = false := by decide
  simp only [h1, h2, h3, Bool.or_false, Bool.false_eq_true, if_false]
  refine wpAny_bind (wpAny_pyIter_zip hz ?_)
  refine wpAny_bind (wpAny_holding (zip_hint hTy ?_))
  refine wpAny_ite_split (fun _ => ?_) (fun _ => wpAny_pure ⟨plainId_quiet PySem.F.plain_extend_loop _, key _ c₀ _ (fun b o _ e => e) hS⟩)
  refine wpAny_bind (wpAny_rule ?_)
  refine wpAny_bind ?_
  show wpAny _ _ (updateSeq S (·.push .none) >>= fun _ => updateSeq S (·.pop)) _ _ _
  refine wpAny_bind (wpAny_updateSeq hS rfl ?_)
  have hS₂ := Heap.get?_update_self (Obj.mapSeq (·.push Value.none)) hS rfl
  refine wpAny_updateSeq (hz := by seq_fits) hS₂ rfl ?_
  have hS₃ := Heap.get?_update_self (Obj.mapSeq (·.pop)) hS₂ rfl
  refine wpAny_pure ⟨plainId_quiet PySem.F.plain_extend_loop _, key _ _ _ (fun b o hb e => ?_) hS₃⟩
  exact (Heap.get?_update_other _ _ (Ne.symm hb)).trans ((Heap.get?_update_other _ _ (Ne.symm hb)).trans e)
theorem zip_init {R : Result → Shared → Prop} {S : Addr} (hh : A.handled = none) (p : ZP z TI TO i1 i2 l1 l2 S) (hn : min xs.size ys.size ≤ sizeLine) (hz : IsZip s.heap z TI TO .none) (hTO : IsTupOf2 s.heap TO .none .none)
    (st : IsTupOf2 s.heap TI (.ref i1) (.ref i2) ∧ (k1.It s.heap i1 l1 0 ∧ k1.Is s.heap l1 xs) ∧ k2.It s.heap i2 l2 0 ∧ k2.Is s.heap l2 ys) (hS : s.heap.get? S = some { cls := .type "list", data := .seq #[] })
    (hR : ∀ h' tk acc c as, (∀ b o, b ≠ S → b ≠ z → b ≠ TO → b ≠ i1 → b ≠ i2 → s.heap.get? b = some o → h'.get? b = some o) → h'.get? S = some { cls := .type "list", dict := none, data := .seq acc c, slots := #[] } → as.length = min xs.size ys.size → ZG xs ys S h' as →
      acc.toList = as.map Value.ref → R (.ok (.ret .none)) { s with heap := h', toks := tk }) :
    wpAny (model prog w) A.in1 (Builtin.«list.__init__» ⟨[.ref S, .ref z], []⟩)
      (fun fin s' => match fin with | .done f => R (.ok f) s' | .again c' => c'.quiet = true ∧ codeAny (model prog w) A c' R s') (fun e s' => R (.error e) s') s := by
  show wpAny _ _ (do let old ← Builtin.List.listItems (.ref S); Builtin.List.listUpdate (.ref S) (fun _ => #[]); letGo old.toList.reverse; Builtin.List.listExtendWith (.ref S) (.ref z) .none) _ _ s
  refine wpAny_bind ?_
  unfold Builtin.List.listItems
  refine wpAny_bind (wpAny_seqItems hS rfl (wpAny_pure ?_))
  show wpAny _ _ (updateSeq S (fun _ => #[]) >>= fun _ => letGo (#[] : Array Value).toList.reverse >>= fun _ => Builtin.List.listExtendWith (.ref S) (.ref z) .none) _ _ s
  refine wpAny_bind (wpAny_updateSeq hS rfl ?_)
  have hS₂ := Heap.get?_update_self (Obj.mapSeq (fun _ => (#[] : Array Value))) hS rfl
  have oth : ∀ b o, b ≠ S → s.heap.get? b = some o → (s.heap.update S (Obj.mapSeq (fun _ => (#[] : Array Value)))).get? b = some o := fun b o hb e => (Heap.get?_update_other _ _ (Ne.symm hb)).trans e
  refine wpAny_bind (wpAny_letGo ?_)
  obtain ⟨hI, ⟨a1, a2⟩, a3, a4⟩ := st
  refine zip_extend hh p hn (oth _ _ (Nat.ne_of_lt p.bz) hz) (oth _ _ (Nat.ne_of_lt p.bO) hTO) ⟨oth _ _ (Nat.ne_of_lt p.bI) hI, ⟨a1.keep fun o e => oth _ o (Nat.ne_of_lt p.b1) e, a2.keep fun o e => oth _ o (Nat.ne_of_lt p.c1) e⟩, a3.keep fun o e => oth _ o (Nat.ne_of_lt p.b2) e, a4.keep fun o e => oth _ o (Nat.ne_of_lt p.c2) e⟩ .none _ hS₂ fun h' tk acc c as hk hS' hl hG hacc => ?_
  exact hR h' tk acc c as (fun b o n1 n2 n3 n4 n5 e => hk b o n1 n2 n3 n4 n5 (oth b o n1 e)) hS' hl hG hacc
theorem call_list_zip {Q : Value → Shared → Prop} (hh : A.handled = none) (p : ZP z TI TO i1 i2 l1 l2 s.heap.objs.size) (hn : min xs.size ys.size ≤ sizeLine) (hz : IsZip s.heap z TI TO .none) (hTO : IsTupOf2 s.heap TO .none .none)
    (st : IsTupOf2 s.heap TI (.ref i1) (.ref i2) ∧ (k1.It s.heap i1 l1 0 ∧ k1.Is s.heap l1 xs) ∧ k2.It s.heap i2 l2 0 ∧ k2.Is s.heap l2 ys)
    (hQ : ∀ h' tk acc c as, (∀ b o, b ≠ z → b ≠ TO → b ≠ i1 → b ≠ i2 → s.heap.get? b = some o → h'.get? b = some o) → h'.get? s.heap.objs.size = some { cls := .type "list", dict := none, data := .seq acc c, slots := #[] } → as.length = min xs.size ys.size → ZG xs ys s.heap.objs.size h' as →
      acc.toList = as.map Value.ref → Q (.ref s.heap.objs.size) { s with heap := h', toks := tk }) :
    wpAny (model prog w) A (call (.type "list") [.ref z]) Q E s := by
  refine callType_codes (Q₁ := fun obj s₁ => obj = .ref s.heap.objs.size ∧ s₁ = { s with heap := s.heap.push { cls := .type "list", data := .seq #[] } }) PySem.F.called_list (PySem.F.typeCall_list_1 _) PySem.F.entry_list_init (code_list_new _ ⟨rfl, rfl⟩) fun obj s₁ h₁ => ?_
  obtain ⟨rfl, rfl⟩ := h₁
  have hS : (s.heap.push { cls := .type "list", data := .seq #[] }).get? s.heap.objs.size = some { cls := .type "list", data := .seq #[] } := Heap.get?_push_size _ rfl
  obtain ⟨hI, ⟨a1, a2⟩, a3, a4⟩ := st
  have ps : ∀ b o, s.heap.get? b = some o → (s.heap.push { cls := .type "list", data := .seq #[] }).get? b = some o := fun b o e => Heap.get?_push_of_some _ e
  refine ⟨⟨_, hS, rfl⟩, PySem.F.args_list_init_2 _ _, zip_init (A := A.in1) hh p hn (ps _ _ hz) (ps _ _ hTO) ⟨ps _ _ hI, ⟨a1.keep fun o e => ps _ o e, a2.keep fun o e => ps _ o e⟩, a3.keep fun o e => ps _ o e, a4.keep fun o e => ps _ o e⟩ hS fun h' tk acc c as hk hS' hl hG hacc => ?_⟩
  exact ⟨rfl, hQ h' tk acc c as (fun b o n1 n2 n3 n4 e => hk b o (Nat.ne_of_lt (Heap.lt_size e)) n1 n2 n3 n4 (ps b o e)) hS' hl hG hacc⟩
end
end Ow

set_option Elab.async false
set_option linter.all false
set_option maxRecDepth 100000
set_option maxHeartbeats 4000000
namespace Ow
open PySem PySem.Spec PyProof.Rows L2
/-- pairs tracked at their addresses -/
def putP : Hp → List Addr → List (V × V) → Hp
  | H, a :: as, p :: ps => putP (upd H a (.tup [p.1, p.2])) as ps
  | H, _, _ => H
theorem putP_off {b : Addr} : ∀ (as : List Addr) (ps : List (V × V)) (H : Hp), b ∉ as → putP H as ps b = H b
  | [], _, _, _ => rfl
  | _ :: _, [], _, _ => rfl
  | a :: as, p :: ps, H, h => by
    show putP (upd H a (.tup [p.1, p.2])) as ps b = H b
    rw [putP_off as ps _ (fun z => h (List.mem_cons_of_mem _ z)), upd_ne (fun z => h (by rw [z]; exact List.mem_cons_self))]
theorem putP_at : ∀ (as : List Addr) (ps : List (V × V)) (H : Hp), as.length = ps.length → as.Nodup → ∀ (j : Nat) (t : Addr), as[j]? = some t → ∃ p, ps[j]? = some p ∧ putP H as ps t = some (.tup [p.1, p.2])
  | [], [], _, _, _, j, t, e => by simp at e
  | [], _ :: _, _, h, _, _, _, _ => by cases h
  | _ :: _, [], _, h, _, _, _, _ => by cases h
  | a :: as, p :: ps, H, h, hn, j, t, e => by
    have hn' := List.nodup_cons.mp hn
    cases j with
    | zero =>
      have e1 : a = t := by simpa using e
      subst e1
      refine ⟨p, rfl, ?_⟩
      show putP (upd H a (.tup [p.1, p.2])) as ps a = some (.tup [p.1, p.2])
      rw [putP_off as ps _ hn'.1, upd_same]
    | succ j => exact putP_at as ps (upd H a (.tup [p.1, p.2])) (Nat.succ.inj h) hn'.2 j t (by simpa using e)
theorem vals_addrs : ∀ as : List Addr, Vals (as.map V.ref) (as.map Value.ref)
  | [] => .nil
  | _ :: as => .cons rfl (vals_addrs as)
section
variable {X : Cx} {pins : List (Addr × Obj)} {σ : L2.St} {H : Hp} {s : Shared}
theorem zip_laid {h' : Heap} {tk c : Nat} {acc : Array Value} {as : List Addr} {xs ys : List V} {us ws : Array Value} {S : Addr} (I : Inv X pins σ H s) (hSs : s.heap.objs.size ≤ S) (hz : min us.size ws.size ≤ sizeLine) (rx : Vals xs us.toList) (ry : Vals ys ws.toList)
    (hk : ∀ b o, s.heap.get? b = some o → h'.get? b = some o) (hS : h'.get? S = some { cls := .type "list", dict := none, data := .seq acc c, slots := #[] }) (hl : as.length = min us.size ws.size) (hG : ZG us ws S h' as) (hacc : acc.toList = as.map Value.ref) :
    ∃ H' : Hp, Same H H' ∧ H S = none ∧ H' S = some (.lst (as.map V.ref)) ∧ (∀ (j : Nat) (t : Addr), as[j]? = some t → ∃ x y, xs[j]? = some x ∧ ys[j]? = some y ∧ H t = none ∧ H' t = some (.tup [x, y])) ∧ Inv X pins σ H' { s with heap := h', toks := tk } := by
  have hSn : S ∉ as := fun z => Nat.lt_irrefl _ (hG.above _ z)
  have nd : as.Nodup := List.Pairwise.imp (fun {a b} (h : a < b) => Nat.ne_of_lt h) hG.rise
  have above : ∀ t ∈ as, s.heap.objs.size ≤ t := fun t ht => Nat.le_of_lt (Nat.lt_of_le_of_lt hSs (hG.above t ht))
  have new : ∀ t ∈ as, H t = none := fun t ht => I.hok.fresh (above t ht)
  have newS : H S = none := I.hok.fresh hSs
  have lx : xs.length = us.size := by have := rx.length; rw [Array.length_toList] at this; exact this
  have ly : ys.length = ws.size := by have := ry.length; rw [Array.length_toList] at this; exact this
  have lz : (xs.zip ys).length = as.length := by rw [List.length_zip, lx, ly, hl]
  have atP := putP_at as (xs.zip ys) (upd H S (.lst (as.map V.ref))) lz.symm nd
  have off : ∀ b, b ∉ as → b ≠ S → putP (upd H S (.lst (as.map V.ref))) as (xs.zip ys) b = H b := fun b h1 h2 => by rw [putP_off as _ _ h1, upd_ne h2]
  have low : ∀ b o, s.heap.get? b = some o → b ∉ as ∧ b ≠ S := fun b o e => ⟨fun z => absurd (Heap.lt_size e) (Nat.not_lt.mpr (above b z)), fun z => absurd (Heap.lt_size e) (Nat.not_lt.mpr (by rw [z]; exact hSs))⟩
  have kp : ∀ b u, H b = some u → (putP (upd H S (.lst (as.map V.ref))) as (xs.zip ys)) b = some u := fun b u e => by
    rw [off b (fun z => by rw [new b z] at e; cases e) (fun z => by rw [z, newS] at e; cases e)]
    exact e
  have eS : putP (upd H S (.lst (as.map V.ref))) as (xs.zip ys) S = some (.lst (as.map V.ref)) := by rw [putP_off as _ _ hSn, upd_same]
  refine ⟨_, kp, newS, eS, fun j t e => ?_, ?_⟩
  · obtain ⟨p, e1, e2⟩ := atP j t e
    obtain ⟨e3, e4⟩ := List.getElem?_zip_eq_some.mp e1
    exact ⟨p.1, p.2, e3, e4, new t (List.mem_of_getElem? e), e2⟩
  refine I.call' (ch := []) rfl ⟨fun b o q _ _ _ => hk b o q, fun b o q _ _ _ => ⟨o.slots, hk b o q⟩, fun b o q n _ => ?_, fun b o q _ => ⟨o, hk b o q⟩, fun b xs q => kp b _ q, fun b o u q => kp b _ q, fun b ps q => ⟨#[], by rw [kp b _ q]; simp⟩⟩ (fun b u q => ?_) I.bare fun b z => by simp at z
  · obtain ⟨z1, z2⟩ := low b o q
    rw [off b z1 z2]
    exact n
  · by_cases hb : b ∈ as
    · obtain ⟨j, hj⟩ := List.mem_iff_getElem?.mp hb
      obtain ⟨p, e1, e2⟩ := atP j b hj
      rw [e2] at q
      cases q
      obtain ⟨e3, e4⟩ := List.getElem?_zip_eq_some.mp e1
      obtain ⟨x, y, f1, f2, f3⟩ := hG.pairs j b hj
      obtain ⟨x', g1, r1⟩ := rx.get e3
      obtain ⟨y', g2, r2⟩ := ry.get e4
      rw [Array.getElem?_toList, f1] at g1
      rw [Array.getElem?_toList, f2] at g2
      cases g1
      cases g2
      exact ⟨by show 2 ≤ sizeLine; decide, [x, y], .cons r1 (.cons r2 .nil), ⟨_, f3, rfl, _, rfl⟩⟩
    · by_cases hb2 : b = S
      · rw [hb2] at q ⊢
        rw [eS] at q
        cases q
        refine ⟨by rw [List.length_map]; omega, acc.toList, c, by rw [hacc]; exact vals_addrs as, ?_⟩
        rw [Array.toArray_toList]
        exact hS
      · rw [off b hb hb2] at q
        exact (I.hok b u q).stay (fun d v _ y => hk d v y) (fun d y => kp d _ y) fun d xs y => kp d _ y
/-- a list or a tuple of these, read -/
theorem sq_kind {a : Addr} {xs : List V} (I : Inv X pins σ H s) (h : SqL X.K H a xs ∨ SqT X.K H a xs) : ∃ (k : SqK) (its : List Value), k.Is s.heap a its.toArray ∧ Vals xs its ∧ xs.length ≤ sizeLine := by
  rcases h with h | h
  · obtain ⟨its, rv, pl, hz⟩ := I.list h
    exact ⟨.lst, its, pl.isList, rv, hz⟩
  · obtain ⟨its, rv, pl, hz⟩ := I.tuple h
    exact ⟨.tup, its, pl, rv, hz⟩
theorem zp_of (n a b : Nat) (la : a < n) (lb : b < n) : ZP (n + 4) (n + 2) (n + 3) n (n + 1) a b (n + 5) := by
  have m1 : ∀ x : Nat, x ≠ n → x ≠ a → x ∉ [n, a] := fun x h1 h2 => by simp [h1, h2]
  have m2 : ∀ x : Nat, x ≠ n + 1 → x ≠ b → x ∉ [n + 1, b] := fun x h1 h2 => by simp [h1, h2]
  exact ⟨⟨by show (n + 2 : Nat) ≠ n + 4; omega, by show (n + 3 : Nat) ≠ n + 4; omega, by show (n + 2 : Nat) ≠ n + 3; omega, by show (n + 2 : Nat) ≠ n; omega, by simp, m1 _ (by omega) (by omega), m1 _ (by omega) (by omega),
    by show (n + 2 : Nat) ≠ n + 1; omega, by simp, m2 _ (by omega) (by omega), m2 _ (by omega) (by omega), m2 _ (by omega) (by omega), m1 _ (by omega) (by omega)⟩,
    by show (a : Nat) ≠ n; omega, by show (b : Nat) ≠ n + 1; omega, by show (n + 4 : Nat) < n + 5; omega, by show (n + 2 : Nat) < n + 5; omega, by show (n + 3 : Nat) < n + 5; omega, by show (n : Nat) < n + 5; omega, by show (n + 1 : Nat) < n + 5; omega, by show (a : Nat) < n + 5; omega, by show (b : Nat) < n + 5; omega⟩
/-- list(zip(a, b)) -/
def tLZip (K : PySem.W.Frag) (t : TA) : TE := fun σ H Q => t σ H fun vs H1 => ∃ a b xs ys, vs = [.ref a, .ref b] ∧ (SqL K H1 a xs ∨ SqT K H1 a xs) ∧ (SqL K H1 b ys ∨ SqT K H1 b ys) ∧
  ∀ (H' : Hp) (p : Addr) (ts : List Addr), Same H1 H' → H1 p = none → H' p = some (.lst (ts.map V.ref)) → ts.length = min xs.length ys.length →
    (∀ (j : Nat) (t : Addr), ts[j]? = some t → ∃ x y, xs[j]? = some x ∧ ys[j]? = some y ∧ H1 t = none ∧ H' t = some (.tup [x, y])) → Q (.ref p) H'
theorem pe_lzip {e e2 : Expr} {t : TA} {p p2 pos pos2 : Pos} (hc : X.calm = true) (hg : Gl X "list") (hm : X.mg "list" = none) (hg2 : Gl X "zip") (hm2 : X.mg "zip" = none) (hv : bootBuiltins "list" = some (.type "list")) (ha : PA X [e, e2] t)
    (hs : starEach [.Call (.Name "zip" p2) [e, e2] [] pos2] X.env = (false, eval (.Call (.Name "zip" p2) [e, e2] [] pos2) X.env) :: starEach [] X.env := by rfl)
    (hs2 : starEach [e, e2] X.env = (false, eval e X.env) :: starEach [e2] X.env := by rfl) (hpl : (backTo pos2 (starEach [e2] X.env)).any (·.1) = false := by rfl) :
    PE X (.Call (.Name "list" p) [.Call (.Name "zip" p2) [e, e2] [] pos2] [] pos) (tLZip X.K t) := by
  refine ⟨fun pins s σ H Q I hq => ?_⟩
  refine wpAny_Call_Name_kw (ld_blt I hg hm hv ?_)
  refine PyProof.Rows.callWith_type1 ?_ hs rfl
  rw [hs]
  show wpAny _ _ (spliced ((false, eval (.Call (.Name "zip" p2) [e, e2] [] pos2) X.env) :: backTo pos (starEach [] X.env))) _ _ s
  refine Calls.spliced_cons ?_
  refine wpAny_Call_Name_kw (ld_blt I hg2 hm2 PyProof.Rows.boot_zip (PyProof.Rows.callWith_type1 (thn (ha.run pos2 pins s σ H _ I hq) fun us s1 ⟨vs, H1, I1, r1, q1⟩ => ?_) hs2 hpl))
  obtain ⟨a, b, xs, ys, ex, hxs, hys, q⟩ := q1
  subst ex
  cases r1 with
  | cons r rr =>
    cases rr with
    | cons r' rr =>
      cases rr
      cases r
      cases r'
      obtain ⟨k1, us, u1, ru, zu⟩ := sq_kind I1 hxs
      obtain ⟨k2, ws, w1, rw', zw⟩ := sq_kind I1 hys
      refine call_zipK u1 w1 fun h' hz hI hO st1 st2 hsz hk => ?_
      have I2 : Inv X pins σ H1 { s1 with heap := h' } := I1.kept (t' := s1.toks) hk
      have la := u1.lt
      have lb := w1.lt
      have p0 : ZP (s1.heap.objs.size + 4) (s1.heap.objs.size + 2) (s1.heap.objs.size + 3) s1.heap.objs.size (s1.heap.objs.size + 1) a b h'.objs.size := by
        rw [hsz]
        exact zp_of _ _ _ la lb
      refine Calls.spliced_nil ?_
      have lu := ru.length
      have lw := rw'.length
      refine call_list_zip (s := { s1 with heap := h' }) (k1 := k1) (k2 := k2) (xs := us.toArray) (ys := ws.toArray) (I1.ok.hd hc) p0 (by rw [List.size_toArray, List.size_toArray]; omega) hz hO ⟨hI, ⟨st1, u1.keep fun o e => hk _ o e⟩, st2, w1.keep fun o e => hk _ o e⟩ fun h2 tk acc c as hk2 hS hl hG hacc => ?_
      have hk3 : ∀ b o, s1.heap.get? b = some o → h2.get? b = some o := fun b o e => by
        have hb : (b : Nat) < s1.heap.objs.size := Heap.lt_size e
        exact hk2 b o (Nat.ne_of_lt (Nat.lt_of_lt_of_le hb (Nat.le_add_right _ _))) (Nat.ne_of_lt (Nat.lt_of_lt_of_le hb (Nat.le_add_right _ _))) (Nat.ne_of_lt hb) (Nat.ne_of_lt (Nat.lt_of_lt_of_le hb (Nat.le_add_right _ _))) (hk b o e)
      have hSs : s1.heap.objs.size ≤ h'.objs.size := by rw [hsz]; exact Nat.le_add_right _ _
      obtain ⟨H', k1', k2', k3', k4', J⟩ := zip_laid (tk := tk) (S := h'.objs.size) (us := us.toArray) (ws := ws.toArray) I1 hSs (by rw [List.size_toArray, List.size_toArray]; omega) (by simpa using ru) (by simpa using rw') hk3 hS hl hG hacc
      refine ⟨.ref _, H', J, rfl, q H' _ as k1' k2' k3' (by rw [hl, List.size_toArray, List.size_toArray, lu, lw]) k4'⟩
end
end Ow

set_option Elab.async false
set_option linter.all false
set_option maxRecDepth 100000
set_option maxHeartbeats 4000000
namespace Ow
open PySem PySem.Spec PyProof.Rows L2
/-! ### tuples: what comes is one that stands, new or not -/
theorem cutV_whole {xs : List V} {lo hi : Option Int} (h1 : HT.sIx xs.length 0 lo = 0) (h2 : HT.sIx xs.length xs.length hi = xs.length) : cutV xs lo hi = xs := by
  unfold cutV
  simp only [h1, h2]
  simp
def rTSl : V → Option Int → Option Int → Hp → VK → Prop := fun x lo hi H Q => ∃ a xs, x = .ref a ∧ H a = some (.tup xs) ∧ ∀ H' p, Same H H' → H' p = some (.tup (cutV xs lo hi)) → Q (.ref p) H'
def rTCat : R2 := fun x y H Q => ∃ a b xs ys, x = .ref a ∧ y = .ref b ∧ H a = some (.tup xs) ∧ H b = some (.tup ys) ∧ xs.length + ys.length ≤ 5000 ∧ ∀ H' p, Same H H' → H' p = some (.tup (xs ++ ys)) → Q (.ref p) H'
def rTRep : R2 := fun x y H Q => ∃ a k xs, x = .ref a ∧ y = .int k ∧ H a = some (.tup xs) ∧ xs ≠ [] ∧ 1 ≤ k ∧ k ≤ 1000 ∧ xs.length ≤ 1000 ∧ ∀ H' p, Same H H' → H' p = some (.tup (List.replicate k.toNat xs).flatten) → Q (.ref p) H'
section
variable {X : Cx}
theorem sl_tup : SlR X rTSl := by
  intro pins s σ H x v vl vu lo hi sl Q I rx hs pl pu h
  obtain ⟨a, xs, rfl, hx, q⟩ := h
  refine sl_tupA pins s σ H _ v vl vu lo hi sl Q I rx hs pl pu ⟨a, xs, rfl, .of hx, fun w => ?_, fun _ p np => q _ _ (same_new np) upd_same⟩
  refine q H a (Same.refl H) ?_
  rw [cutV_whole w.1 w.2]
  exact hx
theorem op_tcat : OpR X (binaryOp .Add) rTCat := by
  intro pins s σ H x y v u Q I rx ry h
  obtain ⟨a, b, xs, ys, rfl, rfl, ha, hb, hl, q⟩ := h
  refine op_catA pins s σ H _ _ v u Q I rx ry ⟨a, b, xs, ys, rfl, rfl, .of ha, .of hb, Nat.le_trans hl (by decide), fun e => ?_, fun _ e => ?_, fun _ _ p np => q _ _ (same_new np) upd_same⟩
  · refine q H b (Same.refl H) ?_
    rw [e, List.nil_append]
    exact hb
  · refine q H a (Same.refl H) ?_
    rw [e, List.append_nil]
    exact ha
theorem op_trep : OpR X (binaryOp .Mult) rTRep := by
  intro pins s σ H x y v u Q I rx ry h
  obtain ⟨a, k, xs, rfl, rfl, ha, hne, h1, h2, hz, q⟩ := h
  refine op_repA pins s σ H _ _ v u Q I rx ry ⟨a, k, xs, rfl, rfl, .of ha, hne, h1, h2, hz, fun e => ?_, fun _ p np => q _ _ (same_new np) upd_same⟩
  refine q H a (Same.refl H) ?_
  rw [e]
  show H a = some (HO.tup (List.replicate 1 xs).flatten)
  simpa using ha
end
/-! ### zip of tuples, walked -/
theorem walk_zipT {K : PySem.W.Frag} {a b : Addr} {xs ys : List V} {n : Nat} (hn : n = min xs.length ys.length) : Walk (RZ.ItzT K a b) n (fun H => SqT K H a xs ∧ SqT K H b ys) (YPair (fun i => xs[i]?) (fun i => ys[i]?)) := by
  subst hn
  refine ⟨fun i _ hi q => ?_, fun _ q => ⟨xs, ys, q.1, q.2, by omega⟩, fun i H v H' _ q y => ?_⟩
  · exact ⟨xs, ys, xs[i], ys[i], q.1, q.2, List.getElem?_eq_getElem (by omega), List.getElem?_eq_getElem (by omega)⟩
  · obtain ⟨T, x, z, h1, h2, h3, h4, h5⟩ := y
    exact ⟨T, x, z, h1, h2, h3, h4 xs q.1, h5 ys q.2⟩
/-! ### a statement, an expression that is never met -/
theorem ps_never {X : Cx} {st : Stmt} : PS X st (fun _ _ _ => False) := ⟨fun _ _ _ _ _ _ h => h.elim⟩
theorem pe_never {X : Cx} {e : Expr} : PE X e (fun _ _ _ => False) := ⟨fun _ _ _ _ _ _ h => h.elim⟩
/-! ### locks -/
theorem gw_lock {M : Addr → Prop} {H H' : Hp} {d : Addr} {u : HO} {od : Obj} (hd : H d = some u) (g : Gw M (upd H d (.frz od u)) H') : Gw M H (upd H' d u) := fun b o n e => by
  by_cases hb : b = d
  · rw [hb] at e ⊢
    rw [upd_same, ← hd]
    exact e
  · rw [upd_ne hb]
    exact g b o n (by rw [upd_ne hb]; exact e)
theorem same_lock {H H' : Hp} {d : Addr} {u : HO} {od : Obj} (hd : H d = some u) (g : Same (upd H d (.frz od u)) H') : Same H (upd H' d u) := Gw.toSame (gw_lock (M := No) hd (Gw.same g))
end Ow

set_option Elab.async false
set_option linter.all false
set_option maxRecDepth 100000
set_option maxHeartbeats 4000000
namespace Ow
open PySem PySem.Spec PyProof.Rows L2
/-- the inner walk of a comprehension of two clauses -/
def Inner (te : TE) (g1 : TG) (vs1 : List Nat) (D : Addr) (After : Hp → Prop) (σ2 : L2.St) (J1 : It) (H4 : Hp) : Prop :=
  ∃ (n1 : Nat) (G1 : Hp → Prop) (Y1 : Nat → Hp → V → Hp → Prop) (Pv1 : Nat → Hp → Prop), Walk J1 n1 G1 Y1 ∧ Pv1 0 H4 ∧ (∀ j H, j ≤ n1 → Pv1 j H → G1 H) ∧ (∀ H, Pv1 n1 H → After H) ∧
    ∀ j x H H', j < n1 → Pv1 j H → Y1 j H x H' → g1 x (wipe σ2 vs1) H' fun σ3 H5 => wipe σ3 vs1 = wipe σ2 vs1 ∧ te σ3 H5 fun y H7 => ∃ acc, H7 D = some (.lst acc) ∧ acc.length < sizeLine ∧ Pv1 (j + 1) (upd H7 D (.lst (acc ++ [y])))
theorem lc2_it {J : It} {n : Nat} {G : Hp → Prop} {Y : Nat → Hp → V → Hp → Prop} (w : Walk J n G Y) {g g1 : TG} {wi1 : TI} {te : TE} {vs vs1 : List Nat} {σ : L2.St} {H1 : Hp} {D : Addr} {Qd : Hp → Prop} (Pv : Nat → Hp → Prop)
    (h0 : Pv 0 (upd H1 D (.lst []))) (hG : ∀ i H, i ≤ n → Pv i H → G H)
    (hs : ∀ i x H H' (Kg : L2.St → Hp → Prop), i < n → Pv i H → Y i H x H' → (∀ σ2 H2, wipe σ2 vs = wipe σ vs → (∀ Ki : It → Hp → Prop, (∀ J1 H4, Inner te g1 vs1 D (Pv (i + 1)) σ2 J1 H4 → Ki J1 H4) → wi1 σ2 H2 Ki) → Kg σ2 H2) → g x (wipe σ vs) H' Kg)
    (hd : ∀ H, Pv n H → Qd H) :
    ∃ W : Nat → Nat → Hp → Prop, (∃ m, W 0 m (upd H1 D (.lst []))) ∧ ∀ i m H, W i m H →
      (J.stop i H ∧ Qd H) ∨ (J.go i H ∧ ∃ Nx : Hp → Prop, (∀ H', Nx H' → ∃ m', m' < m ∧ W (i + 1) m' H') ∧ ∀ x H', J.yld i H x H' → g x (wipe σ vs) H' fun σ2 H2 => wipe σ2 vs = wipe σ vs ∧ tYes σ2 H2 fun b H3 =>
        if b = true then wi1 σ2 H3 fun J1 H4 => ∃ W1 : Nat → Nat → Hp → Prop, (∃ m, W1 0 m H4) ∧ ∀ j k H, W1 j k H →
          (J1.stop j H ∧ Nx H) ∨ (J1.go j H ∧ ∃ Nx1 : Hp → Prop, (∀ H', Nx1 H' → ∃ k', k' < k ∧ W1 (j + 1) k' H') ∧ ∀ x H', J1.yld j H x H' → g1 x (wipe σ2 vs1) H' fun σ3 H5 => wipe σ3 vs1 = wipe σ2 vs1 ∧ tYes σ3 H5 fun b H6 =>
            if b = true then te σ3 H6 fun y H7 => ∃ acc, H7 D = some (.lst acc) ∧ acc.length < sizeLine ∧ Nx1 (upd H7 D (.lst (acc ++ [y]))) else Nx1 H6)
        else Nx H3) := by
  refine ⟨fun i m H => m = n - i ∧ i ≤ n ∧ Pv i H, ⟨n, by simp, Nat.zero_le _, h0⟩, ?_⟩
  rintro i m H ⟨rfl, hi, p⟩
  have q := hG i H hi p
  by_cases hlt : i < n
  · refine .inr ⟨w.goes i H hlt q, Pv (i + 1), fun H' p' => ⟨n - (i + 1), by omega, rfl, hlt, p'⟩, fun x H' y => hs i x H H' _ hlt p (w.yields i H x H' hlt q y) fun σ2 H2 hw hwi => ⟨hw, ?_⟩⟩
    refine hwi _ fun J1 H4 hin => ?_
    obtain ⟨n1, G1, Y1, Pv1, w1, s1, g1', a1, t1⟩ := hin
    refine ⟨fun j k H => k = n1 - j ∧ j ≤ n1 ∧ Pv1 j H, ⟨n1, by simp, Nat.zero_le _, s1⟩, ?_⟩
    rintro j k H ⟨rfl, hj, p1⟩
    have q1 := g1' j H hj p1
    by_cases hl1 : j < n1
    · exact .inr ⟨w1.goes j H hl1 q1, Pv1 (j + 1), fun H' p' => ⟨n1 - (j + 1), by omega, rfl, hl1, p'⟩, fun x H' y => t1 j x H H' hl1 p1 (w1.yields j H x H' hl1 q1 y)⟩
    · have e : j = n1 := by omega
      subst e
      exact .inl ⟨w1.stops H q1, a1 H p1⟩
  · have e : i = n := by omega
    subst e
    exact .inl ⟨w.stops H q, hd H p⟩
/-! ### rows of bits -/
def rowsN : Nat → List (List Int)
  | 0 => [[]]
  | n + 1 => (rowsN n).flatMap fun r => [r ++ [0], r ++ [1]]
theorem rowsN_len : ∀ n, (rowsN n).length = 2 ^ n
  | 0 => rfl
  | n + 1 => by
    have h : ∀ l : List (List Int), (l.flatMap fun r => [r ++ [0], r ++ [1]]).length = 2 * l.length := fun l => by
      induction l with
      | nil => rfl
      | cons a l ih => simp only [List.flatMap_cons, List.length_append, ih, List.length_cons, List.length_nil]; omega
    show ((rowsN n).flatMap _).length = _
    rw [h, rowsN_len n, Nat.pow_succ]
    omega
/-- the rows made of the first i ones -/
def grown (rs : List (List Int)) (i : Nat) : List (List Int) := (rs.take i).flatMap fun r => [r ++ [0], r ++ [1]]
theorem grown_next {rs : List (List Int)} {i : Nat} {r : List Int} (h : rs[i]? = some r) : grown rs (i + 1) = grown rs i ++ [r ++ [0], r ++ [1]] := by
  unfold grown
  rw [List.take_add_one, h, List.flatMap_append]
  show _ ++ (([r].flatMap _)) = _
  simp
theorem grown_all {rs : List (List Int)} {n : Nat} (h : n = rs.length) : grown rs n = rs.flatMap fun r => [r ++ [0], r ++ [1]] := by
  unfold grown
  rw [h, List.take_length]
theorem grown_len (rs : List (List Int)) (i : Nat) : (grown rs i).length ≤ 2 * rs.length := by
  unfold grown
  have h : ∀ l : List (List Int), (l.flatMap fun r => [r ++ [0], r ++ [1]]).length = 2 * l.length := fun l => by
    induction l with
    | nil => rfl
    | cons a l ih => simp only [List.flatMap_cons, List.length_append, ih, List.length_cons, List.length_nil]; omega
  rw [h, List.length_take]
  omega
end Ow

set_option Elab.async false
set_option linter.all false
set_option maxRecDepth 100000
set_option maxHeartbeats 4000000
set_option exponentiation.threshold 3000
namespace Ow
open PySem PySem.Spec PyProof.Rows L2
theorem scHasValues : FnScope ["value", "many"] ["value", "many"] (defScope dHasValues) := ⟨rfl, rfl, rfl, by decide +kernel, rfl, by decide +kernel, by decide +kernel⟩
theorem scAllValues : FnScope ["many", "found", "_", "values", "value"] ["many"] (defScope dAllValues) := ⟨rfl, rfl, rfl, by decide +kernel, rfl, by decide +kernel, by decide +kernel⟩
theorem scAllRows : FnScope ["size", "found", "turn", "longer", "row"] ["size"] (defScope dAllRows) := ⟨rfl, rfl, rfl, by decide +kernel, rfl, by decide +kernel, by decide +kernel⟩
def bitsB (ns : List Int) : Bool := ns.all fun n => decide (n = 0) || decide (n = 1)
theorem bits_row {H : Hp} {a : Addr} {ns : List Int} (h : H a = some (.tup (ns.map V.int))) : rowB H (.ref a) = bitsB ns := by
  unfold rowB bitsB
  simp only [h, List.all_map]
  congr 1
  funext n
  show (decide (V.int n = V.int 0) || decide (V.int n = V.int 1)) = _
  simp
theorem vl_ints {H : Hp} {a : Addr} {ns : List Int} (h : H a = some (.tup (ns.map V.int))) (hl : ns.length ≤ 60) (hs : ∀ n ∈ ns, n.natAbs < 2 ^ 400) : Vl (a + 1) H (.ref a) :=
  .inr ⟨a, rfl, Nat.ne_of_lt (Nat.lt_succ_self a), .inl ⟨_, h, by rw [List.length_map]; exact hl, fun x hx => by
    obtain ⟨n, hn, rfl⟩ := List.mem_map.mp hx
    exact .inl (hs n hn)⟩⟩
section
variable {P : Program} {w : World} {K : PySem.W.Frag} {mg : Str → Option Value} {base : Heap}
def spHV : Sp := fun vs H Q _ => ∃ (a : Addr) (ns : List Int) (m : Int), vs = [.ref a, .int m] ∧ H a = some (.tup (ns.map V.int)) ∧ ns.length ≤ 60 ∧ (∀ n ∈ ns, n.natAbs < 2 ^ 400) ∧
  ∀ H', Same H H' → Q (.bl (bitsB ns && decide ((ns.length : Int) = m))) H'
theorem ok_hasvalues {f fV : Addr} {fd fdV : FuncData} (F : Fun K "has_values" "has_values" dHasValues f fd) (FV : FnOk P w K mg base CX0 3 fV fdV ["value"] (spB rowB))
    (kV : PySem.W.keepIn K (.ref fV) = true) (bV : Binds K fdV ["value"] []) (gV : mg "is_values" = some (.ref fV)) (ml : mg "len" = none) : FnOk P w K mg base CX0 4 f fd ["value", "many"] spHV := by
  refine F.ok scHasValues (fun vs H Q E h => ?_) (fun cdv A outer s H vs Q E hr h => ?_)
  · obtain ⟨a, ns, m, rfl, _⟩ := h
    rfl
  obtain ⟨a, ns, m, rfl, ha, hl, hs, q⟩ := h
  refine ⟨_, pss_one (ps_ret (pe_and (pe_call FV hr (by rfl) gV kV bV .nil pass0 (pa_cons (pv 0) pa_nil)) (pe_one (pe_cmpR op_eq (pe_callB call_len_seq (by rfl) ml PySem.boot_len (pa_cons (pv 0) pa_nil)) (pv 1) (nomark _))))), ?_⟩
  refine ⟨.ref a, rfl, .ref a, a + 1, rfl, vl_ints ha hl hs, fun H1 sm => ⟨_, rfl, ?_⟩⟩
  rw [bits_row ha]
  cases hb : bitsB ns with
  | true =>
    refine iteT ⟨.ref a, rfl, a, _, rfl, .inr (.of (sm _ _ ha)), .int m, rfl, rfl, ?_⟩
    have := q H1 sm
    rw [hb, Bool.true_and] at this
    rw [List.length_map]
    have e : decide (V.int (ns.length : Int) = V.int m) = decide ((ns.length : Int) = m) := by simp
    rw [e]
    exact this
  | false =>
    refine iteF ?_
    have := q H1 sm
    rw [hb, Bool.false_and] at this
    exact this
/-- all rows of so many bits, a new list of them -/
def spRowsL : Sp := fun vs H Q _ => ∃ n : Nat, vs = [.int n] ∧ n ≤ 6 ∧ ∀ H' p xs, Same H H' → H p = none → H' p = some (.lst xs) → All2 (IsRow H') xs (rowsN n) → Q (.ref p) H'
theorem pow6 {n : Nat} (h : n ≤ 6) : 2 ^ n ≤ 64 := Nat.pow_le_pow_right (by decide) h
theorem ok_allrows {f : Addr} {fd : FuncData} (F : Fun K "_law_all_rows" "_law_all_rows" dAllRows f fd) (mr : mg "range" = none) (mls : mg "list" = none) : FnOk P w K mg base CX0 1 f fd ["size"] spRowsL := by
  refine F.ok scAllRows (fun vs H Q E h => ?_) (fun cdv A outer s H vs Q E hr h => ?_)
  · obtain ⟨n, rfl, _⟩ := h
    rfl
  obtain ⟨n, rfl, hn, q⟩ := h
  refine ⟨_, pss_cons (ps_set (i := 1) scAllRows.nd rfl (.inl rfl) (pe_lst (pa_cons (pe_tup pa_nil) pa_nil)))
    (pss_cons (ps_for PassesOwn.never rfl (pi_range1 (by rfl) mr (pa_cons (pv 0) pa_nil)) (pg_name (i := 2) scAllRows.nd rfl (.inl rfl))
      (pss_cons (ps_set (i := 3) scAllRows.nd rfl (.inl rfl) (pe_lst pa_nil))
      (pss_cons (ps_for PassesOwn.never rfl (pi_list (pe_callTy call_list_of (by rfl) mls (by decide +kernel) (pa_cons (pv 1) pa_nil))) (pg_name (i := 4) scAllRows.nd rfl (.inl rfl))
        (pss_one (ps_expr (pe_bm PySem.F.plainAttrs_list PySem.F.slot_list_extend PySem.F.type_list_extend mt_extend (pv 3) (pa_cons
          (pe_lst (pa_cons (pe_op op_tcat (pv 4) (pe_tup (pa_cons pe_int pa_nil))) (pa_cons (pe_op op_tcat (pv 4) (pe_tup (pa_cons pe_int pa_nil))) pa_nil))) pa_nil)))))
      (pss_one (ps_set (i := 1) scAllRows.nd rfl (.inl rfl) (pv 3))))))
    (pss_one (ps_ret (pv 1)))), ?_⟩
  refine ⟨Nat.zero_le _, fun p1 n1 => ⟨(by show 1 ≤ sizeLine; decide), fun p2 n2 => ⟨.int n, rfl, n, rfl, by omega, by omega, ?_⟩⟩⟩
  have e2 : upd (upd H p1 (.tup [])) p2 (.lst [.ref p1]) p1 = some (.tup []) := by
    rw [upd_ne (ne_of_none upd_same n2)]
    exact upd_same
  have s2 : Same H (upd (upd H p1 (.tup [])) p2 (.lst [.ref p1])) := (same_new n1).trans (same_new n2)
  have n2' : H p2 = none := by
    by_cases h : p2 = p1
    · rw [h]; exact n1
    · rw [upd_ne h] at n2; exact n2
  refine for_range (lo := 0) (n := n) (fun i σ Hx => ∃ L xs y2 y3 y4, σ = [some (.int n), some (.ref L), y2, y3, y4] ∧ Same H Hx ∧ H L = none ∧ Hx L = some (.lst xs) ∧ All2 (IsRow Hx) xs (rowsN i))
    ⟨p2, [.ref p1], none, none, none, rfl, s2, n2', upd_same, .cons ⟨p1, rfl, e2⟩ .nil⟩ (fun i σ Hx hi hP => ?_) (fun σ Hx hP => ?_)
  · obtain ⟨L, xs, y2, y3, y4, rfl, sx, nL, eL, ax⟩ := hP
    have lx := ax.len
    rw [rowsN_len] at lx
    have p6 := pow6 (show i ≤ 6 by omega)
    refine ⟨Nat.zero_le _, fun p3 n3 => ⟨.ref L, rfl, L, xs, rfl, .inl (.of ?_), fun M nM => ?_⟩⟩
    · rw [upd_ne (ne_of_none eL n3)]
      exact eL
    have eM : upd (upd Hx p3 (.lst [])) M (.lst xs) M = some (.lst xs) := upd_same
    have n3M : p3 ≠ M := ne_of_none upd_same nM
    have sM : Same Hx (upd (upd Hx p3 (.lst [])) M (.lst xs)) := (same_new n3).trans (same_new nM)
    refine ⟨M, rfl, ⟨xs, .of eM⟩, ?_⟩
    refine for_list (K := K) (xs := xs) (fun j σ Hy => ∃ zs y4, σ = [some (.int n), some (.ref L), some (.int (0 + (i : Int))), some (.ref p3), y4] ∧ Same Hx Hy ∧ Hy M = some (.lst xs) ∧ Hy p3 = some (.lst zs) ∧ All2 (IsRow Hy) zs (grown (rowsN i) j))
      ⟨[], y4, rfl, sM, eM, ?_, .nil⟩ (fun j σ Hy _ hQ => ?_) (fun j x σ Hy hx hQ => ?_) (fun σ Hy hQ => ?_)
    · rw [upd_ne n3M]
      exact upd_same
    · obtain ⟨zs, y4, rfl, sy, em, e3, az⟩ := hQ
      exact .of em
    · obtain ⟨zs, y4, rfl, sy, em, e3, az⟩ := hQ
      obtain ⟨r, hr, ⟨a, rfl, ha⟩⟩ := ax.get hx
      have ha' : Hy a = some (.tup (r.map V.int)) := sy _ _ ha
      have lr : r.length ≤ 6 := by
        have : ∀ m, ∀ r ∈ rowsN m, r.length = m := fun m => by
          induction m with
          | zero => intro r hr; rw [List.mem_singleton.mp hr]; rfl
          | succ m ih =>
            intro r hr
            obtain ⟨q, hq, hr⟩ := List.mem_flatMap.mp hr
            have := ih q hq
            simp only [List.mem_cons, List.not_mem_nil, or_false] at hr
            rcases hr with rfl | rfl <;> rw [List.length_append, this] <;> rfl
        have := this i r (List.mem_of_getElem? hr)
        omega
      have lz := az.len
      have gl := grown_len (rowsN i) j
      rw [rowsN_len] at gl
      refine ⟨.ref p3, rfl, .inl ⟨rfl, _, .of e3⟩, .ref a, rfl, (by show 1 ≤ sizeLine; decide), fun t1 m1 => ?_⟩
      refine ⟨a, t1, r.map V.int, _, rfl, rfl, ?_, upd_same, ?_, fun H2 q1 s2 h1 => ?_⟩
      · rw [upd_ne (ne_of_none ha' m1)]
        exact ha'
      · rw [List.length_map]
        show r.length + 1 ≤ 5000
        omega
      have sa2 : Same Hy H2 := (same_new m1).trans s2
      refine ⟨.ref a, rfl, (by show 1 ≤ sizeLine; decide), fun t2 m2 => ?_⟩
      refine ⟨a, t2, r.map V.int, _, rfl, rfl, ?_, upd_same, ?_, fun H3 q2 s3 h2 => ?_⟩
      · rw [upd_ne (ne_of_none (sa2 _ _ ha') m2)]
        exact sa2 _ _ ha'
      · rw [List.length_map]
        show r.length + 1 ≤ 5000
        omega
      have sa3 : Same H2 H3 := (same_new m2).trans s3
      refine ⟨(by show 2 ≤ sizeLine; decide), fun b nb => ?_⟩
      have sb : Same H3 (upd H3 b (.lst [.ref q1, .ref q2])) := same_new nb
      have s4 : Same Hy (upd H3 b (.lst [.ref q1, .ref q2])) := (sa2.trans sa3).trans sb
      have e34 := s4 _ _ e3
      have nb3 : p3 ≠ b := ne_of_none (sa3 _ _ (sa2 _ _ e3)) nb
      refine ⟨p3, b, zs, [.ref q1, .ref q2], rfl, rfl, e34, upd_same, ?_, ?_⟩
      · show zs.length + 2 ≤ sizeLine
        exact Nat.le_of_lt (small60 (by omega))
      have t5 : Tk Hy (upd (upd H3 b (.lst [.ref q1, .ref q2])) p3 (.lst (zs ++ [.ref q1, .ref q2]))) := (Tk.same s4).trans (Tk.lst e34)
      have n3x : p3 ≠ M := n3M
      refine ⟨zs ++ [.ref q1, .ref q2], some (.ref a), rfl, fun c o ec => ?_, ?_, upd_same, ?_⟩
      · rw [upd_ne (ne_of_none ec n3)]
        exact s4 _ _ (sy _ _ ec)
      · rw [upd_ne n3M.symm]
        exact s4 _ _ em
      · rw [grown_next hr]
        refine (all_tk t5 az).app (.cons ?_ (.cons ?_ .nil))
        · refine ⟨q1, rfl, ?_⟩
          rw [upd_ne (ne_of e34 ((sa3.trans sb) _ _ h1) (by intro z; cases z)).symm]
          have := (sa3.trans sb) _ _ h1
          rw [List.map_append]
          exact this
        · refine ⟨q2, rfl, ?_⟩
          rw [upd_ne (ne_of e34 (sb _ _ h2) (by intro z; cases z)).symm]
          have := sb _ _ h2
          rw [List.map_append]
          exact this
    · obtain ⟨zs, y4, rfl, sy, em, e3, az⟩ := hQ
      refine ⟨.ref p3, rfl, ?_⟩
      refine ⟨p3, zs, _, _, y4, rfl, sx.trans sy, ?_, e3, ?_⟩
      · cases h : H p3 with
        | none => rfl
        | some o => rw [sx _ _ h] at n3; cases n3
      · rw [grown_all (by rw [lx, rowsN_len])] at az
        exact az
  · obtain ⟨L, xs, y2, y3, y4, rfl, sx, nL, eL, ax⟩ := hP
    exact ⟨.ref L, rfl, q Hx L xs sx nL eL ax⟩
end
end Ow

set_option Elab.async false
set_option linter.all false
set_option maxRecDepth 100000
set_option maxHeartbeats 4000000
namespace Ow
open PySem PySem.Spec PyProof.Rows L2
theorem rowsN_size : ∀ n, ∀ r ∈ rowsN n, r.length = n
  | 0, r, hr => by rw [List.mem_singleton.mp hr]; rfl
  | n + 1, r, hr => by
    obtain ⟨q, hq, hr⟩ := List.mem_flatMap.mp hr
    have := rowsN_size n q hq
    simp only [List.mem_cons, List.not_mem_nil, or_false] at hr
    rcases hr with rfl | rfl <;> rw [List.length_append, this] <;> rfl
theorem same_none {H H' : Hp} {p : Addr} (s : Same H H') (n : H' p = none) : H p = none := by
  cases h : H p with
  | none => rfl
  | some o => rw [s _ _ h] at n; cases n
theorem same_newer {H H' : Hp} {p : Addr} {o : HO} (s : Same H H') (n : H p = none) : Same H (upd H' p o) := fun b x e => by
  rw [upd_ne (ne_of_none e n)]
  exact s b x e
section
variable {P : Program} {w : World} {K : PySem.W.Frag} {mg : Str → Option Value} {base : Heap}
/-- all rows of so many bits, a tuple of them -/
def spRowsT : Sp := fun vs H Q _ => ∃ n : Nat, vs = [.int n] ∧ n ≤ 6 ∧ ∀ H' p xs, Same H H' → H' p = some (.tup xs) → All2 (IsRow H') xs (rowsN n) → Q (.ref p) H'
theorem ok_allvalues {f : Addr} {fd : FuncData} (F : Fun K "all_values" "all_values" dAllValues f fd) (mr : mg "range" = none) (mt : mg "tuple" = none) : FnOk P w K mg base CX0 1 f fd ["many"] spRowsT := by
  refine F.ok scAllValues (fun vs H Q E h => ?_) (fun cdv A outer s H vs Q E hr h => ?_)
  · obtain ⟨n, rfl, _⟩ := h
    rfl
  obtain ⟨n, rfl, hn, q⟩ := h
  refine ⟨_, pss_cons (ps_set (i := 1) scAllValues.nd rfl (.inl rfl) (pe_lst (pa_cons (pe_tup pa_nil) pa_nil)))
    (pss_cons (ps_for PassesOwn.never rfl (pi_range1 (by rfl) mr (pa_cons (pv 0) pa_nil)) (pg_name (i := 2) scAllValues.nd rfl (.inl rfl))
      (pss_one (ps_setLc2 (i := 1) (own := [("values", 3), ("value", 4)]) (vs1 := [4]) (g := gName 3) (g1 := gName 4) (tt := tYes) (tt1 := tYes) (wi1 := iTup K (tTup (tCons (tC (.int 0)) (tCons (tC (.int 1)) tNil))))
        (te := tTup (StX.tStar K (tVar 3) (tCons (tVar 4) tNil))) rfl scAllValues.nd rfl rfl (sw_true rfl rfl rfl (by decide +kernel)) (pi_list (pv 1)) (blkOk_by (N := ["many", "found", "_", "values", "value"]) (sc := defScope dAllValues) (by decide +kernel)) (by decide)
        (fun _ _ _ _ _ => pg_name (i := 3) scAllValues.nd rfl (Or.inl rfl)) (fun _ _ _ _ _ => pts_nil) (fun _ _ _ _ _ => pi_tup (pe_tup (pa_cons pe_int (pa_cons pe_int pa_nil)))) (fun _ _ _ _ _ => pg_name (i := 4) scAllValues.nd rfl (Or.inl rfl)) (fun _ _ _ _ _ => pts_nil)
        (fun _ _ _ _ _ => pe_tup (StX.pa_star (pv 3) (pa_cons (pv 4) pa_nil))))))
    (pss_one (ps_ret (pe_callTy call_tuple_of (by rfl) mt boot_tup (pa_cons (pv 1) pa_nil))))), ?_⟩
  refine ⟨Nat.zero_le _, fun p1 n1 => ⟨(by show 1 ≤ sizeLine; decide), fun p2 n2 => ⟨.int n, rfl, n, rfl, by omega, by omega, ?_⟩⟩⟩
  have e2 : upd (upd H p1 (.tup [])) p2 (.lst [.ref p1]) p1 = some (.tup []) := by
    rw [upd_ne (ne_of_none upd_same n2)]
    exact upd_same
  have s2 : Same H (upd (upd H p1 (.tup [])) p2 (.lst [.ref p1])) := (same_new n1).trans (same_new n2)
  refine for_range (lo := 0) (n := n) (fun i σ Hx => ∃ L xs y2 y3 y4, σ = [some (.int n), some (.ref L), y2, y3, y4] ∧ Same H Hx ∧ Hx L = some (.lst xs) ∧ All2 (IsRow Hx) xs (rowsN i))
    ⟨p2, [.ref p1], none, none, none, rfl, s2, upd_same, .cons ⟨p1, rfl, e2⟩ .nil⟩ (fun i σ Hx hi hP => ?_) (fun σ Hx hP => ?_)
  · obtain ⟨L, xs, y2, y3, y4, rfl, sx, eL, ax⟩ := hP
    have lx := ax.len
    rw [rowsN_len] at lx
    have p6 := pow6 (show i ≤ 6 by omega)
    refine ⟨.ref L, rfl, L, rfl, ⟨xs, .of eL⟩, fun D nD => ?_⟩
    refine lc2_it (walk_list (K := K) (a := L) (xs := xs)) (fun j Hy => Same Hx Hy ∧ ∃ zs, Hy D = some (.lst zs) ∧ All2 (IsRow Hy) zs (grown (rowsN i) j)) ⟨same_new nD, [], upd_same, .nil⟩ (fun j Hy _ hQ => .of (hQ.1 _ _ eL))
      (fun j x Hy Hy' Kg hj hQ hY hK => ?_) (fun Hy hQ => ?_)
    · obtain ⟨rfl, hx⟩ := hY
      obtain ⟨sy, zs, eD, az⟩ := hQ
      obtain ⟨r, hr, a, rfl, ha⟩ := ax.get hx
      have lr : r.length = i := rowsN_size i r (List.mem_of_getElem? hr)
      have lz := az.len
      have gl := grown_len (rowsN i) j
      rw [rowsN_len] at gl
      refine hK _ _ (by show ((((wipe _ [3, 4]).set 3 _).set 4 none).set 3 none) = _; rfl) fun Ki hKi => ?_
      refine ⟨(by show 2 ≤ sizeLine; decide), fun T nT => ⟨T, rfl, ⟨_, .of upd_same⟩, hKi _ _ ?_⟩⟩
      refine ⟨2, _, _, fun k Hz => Same Hx Hz ∧ Hz T = some (.tup [.int 0, .int 1]) ∧ ∃ zs, Hz D = some (.lst zs) ∧ All2 (IsRow Hz) zs (grown (rowsN i) j ++ [r ++ [0], r ++ [1]].take k), walk_tup (K := K) (a := T) (xs := [.int 0, .int 1]),
        ⟨sy.trans (same_new nT), upd_same, zs, ?_, ?_⟩, (fun k Hw _ h => .of h.2.1), (fun Hz h => ?_), fun k y Hz Hz' hk h hY2 => ?_⟩
      · rw [upd_ne (ne_of_none eD nT)]
        exact eD
      · rw [List.take_zero, List.append_nil]
        exact all_tk (Tk.new nT) az
      · obtain ⟨sz, eT, zs, eD', az'⟩ := h
        exact ⟨sz, zs, eD', by rw [grown_next hr]; exact az'⟩
      · obtain ⟨eHz, hy⟩ := hY2
        have eHz' := eHz.symm
        subst eHz'
        obtain ⟨sz, eT, zs', eD', az'⟩ := h
        obtain ⟨b, rfl, hb⟩ : ∃ b : Int, y = .int b ∧ [r ++ [0], r ++ [1]][k]? = some (r ++ [b]) := by
          match k, hk with
          | 0, _ => exact ⟨0, by simpa using hy.symm, rfl⟩
          | 1, _ => exact ⟨1, by simpa using hy.symm, rfl⟩
        have ha' : Hz a = some (.tup (r.map V.int)) := sz _ _ ha
        have lz' := az'.len
        rw [List.length_append, List.length_take] at lz'
        have l2 : ([r ++ [0], r ++ [1]] : List (List Int)).length = 2 := rfl
        refine ⟨rfl, .ref a, rfl, a, _, rfl, .inl (.of ha'), .int b, rfl, ?_, fun p np => ?_⟩
        · rw [List.length_append, List.length_map]
          exact Nat.le_of_lt (small60 (by show r.length + 1 ≤ 5000; omega))
        · have eD2 : upd Hz p (.tup (r.map V.int ++ [.int b])) D = some (.lst zs') := by
            rw [upd_ne (ne_of_none eD' np)]
            exact eD'
          refine ⟨zs', eD2, small60 (by omega), fun c o ec => ?_, ?_, zs' ++ [.ref p], upd_same, ?_⟩
          · rw [upd_ne (ne_of_none ec nD)]
            exact (sz.trans (same_new np)) _ _ ec
          · rw [upd_ne (ne_of eT eD' (by intro z; cases z)), upd_ne (ne_of_none eT np)]
            exact eT
          · have tk : Tk Hz (upd (upd Hz p (.tup (r.map V.int ++ [.int b]))) D (.lst (zs' ++ [.ref p]))) := (Tk.new np).trans (Tk.lst eD2)
            rw [List.take_add_one, hb, ← List.append_assoc]
            refine (all_tk tk az').app (.cons ⟨p, rfl, ?_⟩ .nil)
            rw [upd_ne (ne_of eD2 upd_same (by intro z; cases z)).symm, upd_same, List.map_append]
            rfl
    · obtain ⟨sy, zs, eD, az⟩ := hQ
      rw [grown_all (by rw [lx, rowsN_len])] at az
      exact ⟨D, zs, _, _, _, rfl, sx.trans sy, eD, az⟩
  · obtain ⟨L, xs, y2, y3, y4, rfl, sx, eL, ax⟩ := hP
    refine ⟨.ref L, rfl, L, xs, rfl, .inl ⟨.of eL, fun p np => q _ p xs (sx.trans (same_new np)) upd_same (all_tk (Tk.new np) ax)⟩⟩
end
end Ow

set_option Elab.async false
set_option linter.all false
set_option maxRecDepth 100000
set_option maxHeartbeats 4000000
namespace Ow
open PySem PySem.Spec PyProof.Rows L2
theorem scAsc : FnScope ["items", "one", "other"] ["items"] (defScope dAscending) := ⟨rfl, rfl, rfl, by decide +kernel, rfl, by decide +kernel, by decide +kernel⟩
theorem scSetNames : FnScope ["value", "item"] ["value"] (defScope dSetNames) := ⟨rfl, rfl, rfl, by decide +kernel, rfl, by decide +kernel, by decide +kernel⟩
theorem scIssues : FnScope ["value"] ["value"] (defScope dIssues) := ⟨rfl, rfl, rfl, by decide +kernel, rfl, by decide +kernel, by decide +kernel⟩
theorem scKeys : FnScope ["value", "key"] ["value"] (defScope dKeys) := ⟨rfl, rfl, rfl, by decide +kernel, rfl, by decide +kernel, by decide +kernel⟩
def ltS (a b : Str) : Bool := decide (a.cps.toList < b.cps.toList)
def ascB (zs : List Str) : Bool := ((zs.zip zs.tail).map fun p => ltS p.1 p.2).all id
theorem cut_tail (xs : List V) : cutV xs (some 1) none = xs.tail := by
  unfold cutV
  have e : HT.sIx xs.length 0 (some 1) = min 1 xs.length := by
    exact HT.sIx_nat xs.length 0 1
  rw [e]
  show (xs.drop (min 1 xs.length)).take (xs.length - min 1 xs.length) = xs.tail
  cases xs with
  | nil => rfl
  | cons x xs =>
    have : min 1 (x :: xs).length = 1 := by rw [List.length_cons]; omega
    rw [this, List.drop_one, List.tail_cons, List.take_of_length_le (by rw [List.length_cons]; omega)]
/-- the elements of a comprehension, known one by one, as a list -/
theorem list_eq {α : Type} {f : α → V} {ys : List V} {n : Nat} {zs : List α} (hl : ys.length = n) (hz : zs.length = n) (h : ∀ (i : Nat) y, ys[i]? = some y → ∃ z, zs[i]? = some z ∧ y = f z) : ys = zs.map f := by
  refine List.ext_getElem? fun i => ?_
  rw [List.getElem?_map]
  cases e : ys[i]? with
  | none =>
    have : zs[i]? = none := List.getElem?_eq_none (by have := List.getElem?_eq_none_iff.mp e; omega)
    rw [this]
    rfl
  | some y =>
    obtain ⟨z, hz, rfl⟩ := h i y e
    rw [hz]
    rfl
section
variable {P : Program} {w : World} {K : PySem.W.Frag} {mg : Str → Option Value} {base : Heap}
def spAsc : Sp := fun vs H Q _ => ∃ (a : Addr) (zs : List Str), vs = [.ref a] ∧ H a = some (.tup (zs.map V.str)) ∧ zs.length ≤ 100 ∧ ∀ H', Same H H' → Q (.bl (ascB zs)) H'
theorem ok_asc {f : Addr} {fd : FuncData} (F : Fun K "is_ascending" "is_ascending" dAscending f fd) (mz : mg "zip" = none) (ma : mg "all" = none) : FnOk P w K mg base CX0 1 f fd ["items"] spAsc := by
  refine F.ok scAsc (fun vs H Q E h => ?_) (fun cdv A outer s H vs Q E hr h => ?_)
  · obtain ⟨a, zs, rfl, _⟩ := h
    rfl
  obtain ⟨a, zs, rfl, ha, hl, q⟩ := h
  refine ⟨_, pss_one (ps_ret (pe_callB (cr_all rfl) (by rfl) ma boot_all (pa_cons
    (pe_lc (own := [("one", 1), ("other", 2)]) (g := gTup K 2 (gCons (gName 1) (gCons (gName 2) gNil))) (tt := tYes) rfl scAsc.nd
      (RZ.pi_zipA (by rfl) mz (pa_cons (pv 0) (pa_cons (pe_slice sl_tup (pv 0) (po_some pe_int) po_none) pa_nil)))
      (blkOk_by (N := ["items", "one", "other"]) (sc := defScope dAscending) (by decide +kernel))
      (fun _ _ _ _ _ => pg_tup rfl (pgs_cons (pg_name (i := 1) scAsc.nd rfl (Or.inl rfl)) (pgs_cons (pg_name (i := 2) scAsc.nd rfl (Or.inl rfl)) pgs_nil)))
      (fun _ _ _ _ _ => pts_nil) (fun _ _ _ _ _ => pe_cmpR op_lt_str (pv 1) (pv 2) (nomark _))) pa_nil))), ?_⟩
  refine ⟨.ref a, rfl, .ref a, rfl, 1, rfl, a, zs.map V.str, rfl, ha, fun H1 b s1 hb => ?_⟩
  rw [cut_tail, ← List.map_tail] at hb
  refine ⟨a, b, zs.map V.str, zs.tail.map V.str, rfl, .inr ⟨.of (s1 _ _ ha), .of hb, fun D nD => ?_⟩⟩
  refine lc_map (M := No) (walk_zipT (K := K) (a := a) (b := b) (xs := zs.map V.str) (ys := zs.tail.map V.str) rfl) (by rw [List.length_map, List.length_map, List.length_tail]; omega) Jg.no nD
    (fun i _ y => ∃ p, (zs.zip zs.tail)[i]? = some p ∧ y = .bl (ltS p.1 p.2)) (fun _ _ _ _ _ h => h) (fun Hx g _ => ⟨.of (g.toSame _ _ (s1 _ _ ha)), .of (g.toSame _ _ hb)⟩)
    (fun i x Hx Hx' Kk hi g _ hY hK => ?_) (fun Hx ys g _ eD hlen hp => ?_)
  · obtain ⟨T, x, y, rfl, nT, rfl, hx, hy⟩ := hY
    have hx : (zs.map V.str)[i]? = some x := hx
    have hy : (zs.tail.map V.str)[i]? = some y := hy
    rw [List.getElem?_map] at hx hy
    cases h1 : zs[i]? with
    | none => rw [h1] at hx; cases hx
    | some c =>
      cases h2 : zs.tail[i]? with
      | none => rw [h2] at hy; cases hy
      | some d =>
        rw [h1] at hx
        rw [h2] at hy
        cases hx
        cases hy
        refine ⟨T, [.str c, .str d], rfl, .of upd_same, rfl, _, _, rfl, _, _, rfl, rfl, rfl, .str c, rfl, .str d, rfl, c, d, rfl, rfl, hK _ _ (Gw.new nT) Jg.no ⟨(c, d), List.getElem?_zip_eq_some.mpr ⟨h1, h2⟩, rfl⟩⟩
  · have e : ys = ((zs.zip zs.tail).map fun p => ltS p.1 p.2).map V.bl := by
      rw [List.map_map]
      exact list_eq (f := V.bl ∘ fun p : Str × Str => ltS p.1 p.2) hlen (by rw [List.length_zip, List.length_map, List.length_map]) hp
    rw [e] at eD
    refine ⟨D, _, rfl, .of eD, q _ ?_⟩
    exact s1.trans g.toSame
end
end Ow

set_option Elab.async false
set_option linter.all false
set_option maxRecDepth 100000
set_option maxHeartbeats 4000000
namespace Ow
open PySem PySem.Spec PyProof.Rows L2
def namesB (zs : List Str) : Bool := (zs.all fun z => nameB (.str z)) && ascB zs
def issuesB (zs : List Str) : Bool := namesB zs && (decide (1 ≤ zs.length) && decide (zs.length ≤ 6))
/-- texts of plain signs -/
def Plain (zs : List Str) : Prop := ∀ z ∈ zs, z.length ≤ 4000 ∧ ∀ c ∈ z.cps.toList, c < 128
section
variable {P : Program} {w : World} {K : PySem.W.Frag} {mg : Str → Option Value} {base : Heap}
def spTexts (g : List Str → Bool) : Sp := fun vs H Q _ => ∃ (a : Addr) (zs : List Str), vs = [.ref a] ∧ H a = some (.tup (zs.map V.str)) ∧ zs.length ≤ 60 ∧ Plain zs ∧ ∀ H', Same H H' → Q (.bl (g zs)) H'
theorem ok_setnames {f fN fA : Addr} {fd fdN fdA : FuncData} (F : Fun K "is_set_of_names" "is_set_of_names" dSetNames f fd) (FN : FnOk P w K mg base CX0 1 fN fdN ["value"] (spB fun _ => nameB)) (kN : PySem.W.keepIn K (.ref fN) = true) (bN : Binds K fdN ["value"] []) (gN : mg "is_name" = some (.ref fN))
    (FA : FnOk P w K mg base CX0 1 fA fdA ["items"] spAsc) (kA : PySem.W.keepIn K (.ref fA) = true) (bA : Binds K fdA ["items"] []) (gA : mg "is_ascending" = some (.ref fA)) (mi : mg "isinstance" = none) (mt : mg "tuple" = none) (ma : mg "all" = none) :
    FnOk P w K mg base CX0 2 f fd ["value"] (spTexts namesB) := by
  refine F.ok scSetNames (fun vs H Q E h => ?_) (fun cdv A outer s H vs Q E hr h => ?_)
  · obtain ⟨a, zs, rfl, _⟩ := h
    rfl
  obtain ⟨a, zs, rfl, ha, hl, hp, q⟩ := h
  refine ⟨_, pss_one (ps_ret (pe_and (pe_isi (T := "tuple") (by rfl) mi (pv 0) (by rfl) mt boot_tup)
    (pe_and (pe_callB (cr_all rfl) (by rfl) ma boot_all (pa_cons
      (pe_lc (own := [("item", 1)]) (g := gName 1) (tt := tYes) rfl scSetNames.nd (pi_tup (pv 0)) (blkOk_by (N := ["value", "item"]) (sc := defScope dSetNames) (by decide +kernel))
        (fun _ _ _ _ _ => pg_name (i := 1) scSetNames.nd rfl (Or.inl rfl)) (fun _ _ _ _ _ => pts_nil)
        (fun _ _ _ _ _ => pe_call FN hr (by rfl) gN kN bN .nil pass0 (pa_cons (pv 1) pa_nil))) pa_nil))
      (pe_one (pe_call FA hr (by rfl) gA kA bA .nil pass0 (pa_cons (pv 0) pa_nil)))))), ?_⟩
  refine isi_at "tuple" rfl (.base (.tup ha)) (b := true) (by decide +kernel) ⟨true, rfl, iteT ?_⟩
  refine ⟨.ref a, rfl, a, rfl, ⟨_, .of ha⟩, fun D nD => ?_⟩
  refine lc_map (M := No) (walk_tup (K := K) (a := a) (xs := zs.map V.str)) (by rw [List.length_map]; omega) Jg.no nD (fun i _ y => ∃ z, zs[i]? = some z ∧ y = .bl (nameB (.str z))) (fun _ _ _ _ _ h => h) (fun Hx g _ => .of (g.toSame _ _ ha))
    (fun i x Hx Hx' Kk hi g _ hY hK => ?_) (fun Hx ys g _ eD hlen hq => ?_)
  · obtain ⟨rfl, hx⟩ := hY
    rw [List.getElem?_map] at hx
    cases h1 : zs[i]? with
    | none => rw [h1] at hx; cases hx
    | some c =>
      rw [h1] at hx
      cases hx
      have hc := hp c (List.mem_of_getElem? h1)
      refine ⟨rfl, .str c, rfl, .str c, 0, rfl, .inl hc, fun H2 s2 => hK _ _ (Gw.same s2) Jg.no ⟨c, h1, rfl⟩⟩
  · have e : ys = (zs.map fun z => nameB (.str z)).map V.bl := by
      rw [List.map_map]
      exact list_eq (f := V.bl ∘ fun z : Str => nameB (.str z)) hlen (by rw [List.length_map]) hq
    rw [e] at eD
    refine ⟨D, _, rfl, .of eD, _, rfl, ?_⟩
    have e2 : (zs.map fun z => nameB (.str z)).all id = zs.all fun z => nameB (.str z) := by rw [List.all_map]; rfl
    rw [e2]
    cases hb : zs.all fun z => nameB (.str z) with
    | true =>
      refine iteT ⟨.ref a, rfl, a, zs, rfl, g.toSame _ _ ha, by omega, fun H2 s2 => ?_⟩
      have := q H2 (g.toSame.trans s2)
      unfold namesB at this
      rw [hb, Bool.true_and] at this
      exact this
    | false =>
      refine iteF ?_
      have := q Hx g.toSame
      unfold namesB at this
      rw [hb, Bool.false_and] at this
      exact this
theorem ok_issues {f fS : Addr} {fd fdS : FuncData} {t : Tok} (F : Fun K "is_issues" "is_issues" dIssues f fd) (FS : FnOk P w K mg base CX0 2 fS fdS ["value"] (spTexts namesB)) (kS : PySem.W.keepIn K (.ref fS) = true) (bS : Binds K fdS ["value"] []) (gS : mg "is_set_of_names" = some (.ref fS))
    (ml : mg "len" = none) (mM : mg "MAX_ISSUES" = some (.int 6 t)) : FnOk P w K mg base CX0 3 f fd ["value"] (spTexts issuesB) := by
  refine F.ok scIssues (fun vs H Q E h => ?_) (fun cdv A outer s H vs Q E hr h => ?_)
  · obtain ⟨a, zs, rfl, _⟩ := h
    rfl
  obtain ⟨a, zs, rfl, ha, hl, hp, q⟩ := h
  refine ⟨_, pss_one (ps_ret (pe_and (pe_call FS hr (by rfl) gS kS bS .nil pass0 (pa_cons (pv 0) pa_nil))
    (pe_one (pe_chain op_le op_le pe_int (pe_callB call_len_seq (by rfl) ml PySem.boot_len (pa_cons (pv 0) pa_nil)) (pe_glob (v := .int 6) (by rfl) mM ⟨_, rfl⟩))))), ?_⟩
  refine ⟨.ref a, rfl, a, zs, rfl, ha, hl, hp, fun H1 s1 => ⟨_, rfl, ?_⟩⟩
  have fin : ∀ b, b = issuesB zs → Q (.bl b) H1 := fun b e => by rw [e]; exact q H1 s1
  cases hb : namesB zs with
  | true =>
    refine iteT ⟨.ref a, rfl, a, _, rfl, .inr (.of (s1 _ _ ha)), 1, _, rfl, rfl, _, rfl, ?_⟩
    rw [List.length_map]
    by_cases h1 : (1 : Int) ≤ (zs.length : Int)
    · rw [decide_eq_true h1]
      refine iteT ⟨_, _, rfl, rfl, fin _ ?_⟩
      unfold issuesB
      rw [hb, decide_eq_true (show 1 ≤ zs.length by omega), Bool.true_and, Bool.true_and]
      by_cases h6 : zs.length ≤ 6
      · rw [decide_eq_true h6, decide_eq_true (show (zs.length : Int) ≤ 6 by omega)]
      · rw [decide_eq_false h6, decide_eq_false (show ¬ (zs.length : Int) ≤ 6 by omega)]
    · rw [decide_eq_false h1]
      refine iteF (fin _ ?_)
      unfold issuesB
      rw [decide_eq_false (show ¬ 1 ≤ zs.length by omega), Bool.false_and, Bool.and_false]
  | false =>
    refine iteF (fin _ ?_)
    unfold issuesB
    rw [hb, Bool.false_and]
/-- a dict whose keys are texts -/
def TxtD (H : Hp) (d : Addr) (ks : List Str) : Prop := ∃ kvs : List (Key × V), H d = some (.dK kvs) ∧ kvs.map (·.1) = ks.map Sum.inr
def spKeys : Sp := fun vs H Q _ => ∃ (d : Addr) (ks : List Str), vs = [.ref d] ∧ TxtD H d ks ∧ ks.length < 60 ∧ Plain ks ∧ ∀ H' ys, Same H H' → ys.Perm ks → sortedS ys = true → Q (.bl (issuesB ys)) H'
theorem ok_keys {f fI : Addr} {fd fdI : FuncData} (F : Fun K "has_issues_as_keys" "has_issues_as_keys" dKeys f fd) (FI : FnOk P w K mg base CX0 3 fI fdI ["value"] (spTexts issuesB)) (kI : PySem.W.keepIn K (.ref fI) = true) (bI : Binds K fdI ["value"] []) (gI : mg "is_issues" = some (.ref fI))
    (mi : mg "isinstance" = none) (md : mg "dict" = none) (ms : mg "str" = none) (ma : mg "all" = none) (mt : mg "tuple" = none) (mo : mg "sorted" = none) : FnOk P w K mg base CX0 4 f fd ["value"] spKeys := by
  refine F.ok scKeys (fun vs H Q E h => ?_) (fun cdv A outer s H vs Q E hr h => ?_)
  · obtain ⟨d, ks, rfl, _⟩ := h
    rfl
  obtain ⟨d, ks, rfl, ⟨kvs, hd, hk⟩, hl, hp, q⟩ := h
  refine ⟨_, pss_cons (ps_if (PW.pt (pw_or (pt_not (pt_val (pe_isi (T := "dict") (by rfl) mi (pv 0) (by rfl) md (by decide +kernel))))
      (pw_or1 (pt_not (pt_val (pe_callB (cr_all rfl) (by rfl) ma boot_all (pa_cons (pe_lock
        (pe_lc (te := tCB (rIsi K) (tCons (tVar 1) (tCons (tC (.ty "str")) tNil))) (own := [("key", 1)]) (g := gName 1) (tt := tYes) rfl scKeys.nd (pi_keys (pv 0)) (blkOk_by (N := ["value", "key"]) (sc := defScope dKeys) (by decide +kernel))
          (fun _ _ _ _ _ => pg_name (i := 1) scKeys.nd rfl (Or.inl rfl)) (fun _ _ _ _ _ => pts_nil)
          (fun _ _ _ _ _ => pe_isi (T := "str") (by rfl) mi (pv 1) (by rfl) ms (by decide +kernel)))) pa_nil))))))) (pss_one (ps_ret pe_bl)) pss_nil)
    (pss_one (ps_ret (pe_call FI hr (by rfl) gI kI bI .nil pass0 (pa_cons (pe_callTy call_tuple_of (by rfl) mt boot_tup (pa_cons (pe_callB (call_sortedD rfl) (by rfl) mo (by decide +kernel) (pa_cons (pv 0) pa_nil)) pa_nil)) pa_nil)))), ?_⟩
  have lk : kvs.length = ks.length := by have := congrArg List.length hk; rw [List.length_map, List.length_map] at this; exact this
  refine isi_at "dict" rfl (.base (.dK hd)) (b := true) (by decide +kernel) ⟨true, rfl, iteF ?_⟩
  refine ⟨d, _, hd, ?_, fun od => ?_⟩
  · trivial
  have hf : upd H d (.frz od (.dK kvs)) d = some (.frz od (.dK kvs)) := upd_same
  refine ⟨.ref d, rfl, d, od, rfl, .inl ⟨kvs, hf, fun D nD => ?_⟩⟩
  refine lc_map (M := No) (walk_keys (d := d) (o := od) (kvs := kvs)) (by omega) Jg.no nD (fun i _ y => y = .bl true) (fun _ _ _ _ _ h => h) (fun Hx g _ => g.toSame _ _ hf)
    (fun i x Hx Hx' Kk hi g _ hY hK => ?_) (fun Hx ys g _ eD hlen hq => ?_)
  · obtain ⟨rfl, k, v, hx, rfl⟩ := hY
    have hkx : (kvs.map (·.1))[i]? = some k := by rw [List.getElem?_map, hx]; rfl
    rw [hk, List.getElem?_map] at hkx
    cases h1 : ks[i]? with
    | none => rw [h1] at hkx; cases hkx
    | some c =>
      rw [h1] at hkx
      cases hkx
      exact ⟨rfl, isi_at "str" rfl (.base (.str c)) (b := true) (by decide +kernel) (hK _ _ (Gw.refl _) Jg.no rfl)⟩
  · have e : ys = (List.replicate kvs.length true).map V.bl := list_eq (f := V.bl) hlen (by rw [List.length_replicate]) fun i y hy => by
      have hi : i < kvs.length := by have := (List.getElem?_eq_some_iff.mp hy).1; omega
      exact ⟨true, by rw [List.getElem?_replicate, if_pos hi], hq i y hy⟩
    rw [e] at eD
    have hdD : D ≠ d := (ne_of_none hf nD).symm
    refine ⟨g.toSame _ _ hf, D, _, rfl, .of (by rw [upd_ne hdD]; exact eD), true, ?_, iteF ?_⟩
    · have : (List.replicate kvs.length true).all id = true := by
        rw [List.all_eq_true]
        intro x hx
        exact (List.mem_replicate.mp hx).2
      rw [this]
    have s1 : Same H (upd Hx d (.dK kvs)) := same_lock hd g.toSame
    refine ⟨.ref d, rfl, d, kvs, ks, rfl, .inl upd_same, hk, by omega, fun zs p pm so np => ?_⟩
    refine ⟨p, _, rfl, .inl ⟨.of upd_same, fun l nl => ?_⟩⟩
    have lz : zs.length = ks.length := pm.length_eq
    refine ⟨l, zs, rfl, upd_same, by omega, fun z hz => hp z (pm.mem_iff.mp hz), fun H2 s2 => q H2 zs (s1.trans ((same_new np).trans ((same_new nl).trans s2))) pm so⟩
end
end Ow

set_option Elab.async false
set_option linter.all false
set_option maxRecDepth 100000
set_option maxHeartbeats 4000000
set_option exponentiation.threshold 3000
namespace Ow
open PySem PySem.Spec PyProof.Rows L2
theorem scNeedVoters : FnScope ["voters"] ["voters"] (defScope dNeedVoters) := ⟨rfl, rfl, rfl, by decide +kernel, rfl, by decide +kernel, by decide +kernel⟩
theorem scIsTable : FnScope ["value", "voters"] ["value", "voters"] (defScope dIsTable) := ⟨rfl, rfl, rfl, by decide +kernel, rfl, by decide +kernel, by decide +kernel⟩
theorem scAreTables : FnScope ["value", "voters", "table"] ["value", "voters"] (defScope dAreTables) := ⟨rfl, rfl, rfl, by decide +kernel, rfl, by decide +kernel, by decide +kernel⟩
theorem scFollow : FnScope ["voters", "voter", "values"] ["voters", "voter"] (defScope dFollow) := ⟨rfl, rfl, rfl, by decide +kernel, rfl, by decide +kernel, by decide +kernel⟩
theorem scHangs : FnScope ["table", "step", "at", "value"] ["table", "step"] (defScope dHangs) := ⟨rfl, rfl, rfl, by decide +kernel, rfl, by decide +kernel, by decide +kernel⟩
theorem boot_any : bootBuiltins "any" = some (.builtin "any") := by decide +kernel
/-- a table for so many voters -/
structure GoodT (v : Nat) (ns : List Int) : Prop where
  len : ns.length = 2 ^ v
  bit : ∀ n ∈ ns, n = 0 ∨ n = 1
  fst : ns[0]? = some 0
  lst : ns[2 ^ v - 1]? = some 1
theorem GoodT.bits {v : Nat} {ns : List Int} (g : GoodT v ns) : bitsB ns = true := by
  unfold bitsB
  rw [List.all_eq_true]
  intro n hn
  rcases g.bit n hn with h | h <;> rw [h] <;> rfl
theorem GoodT.small {v : Nat} {ns : List Int} (g : GoodT v ns) : ∀ n ∈ ns, n.natAbs < 2 ^ 400 := fun n hn => by
  rcases g.bit n hn with h | h <;> rw [h] <;> decide
theorem pow4 {v : Nat} (h : v ≤ 4) : 2 ^ v ≤ 16 := Nat.pow_le_pow_right (by decide) h
theorem GoodT.le {v : Nat} {ns : List Int} (g : GoodT v ns) (h : v ≤ 4) : ns.length ≤ 16 := by rw [g.len]; exact pow4 h
theorem atI_neg1 {α : Type} {xs : List α} {v : α} (h : xs[xs.length - 1]? = some v) : atI xs (-1) = some v := by
  have hl := (List.getElem?_eq_some_iff.mp h).1
  unfold atI ixN
  rw [if_neg (by decide), if_pos (by omega)]
  show xs[((-1 : Int) + (xs.length : Int)).toNat]? = some v
  rw [show ((-1 : Int) + (xs.length : Int)).toNat = xs.length - 1 by omega]
  exact h
theorem shortB_small {n : Int} (h1 : 0 ≤ n) (h2 : n ≤ 100000) : shortB (.int n) = true := by
  have p : (100000 : Int) < 10 ^ 60 := by decide +kernel
  generalize hz : (10 : Int) ^ 60 = z at p
  show (decide (-((10 : Int) ^ 60) < n) && decide (n < (10 : Int) ^ 60)) = true
  rw [hz, decide_eq_true (show -z < n by omega), decide_eq_true (show n < z by omega)]
  rfl
/-- what one voter says -/
def followN (v i : Nat) : List Int := (rowsN v).map fun r => r.getD i 0
def hangsB (ns : List Int) (st : Nat) : Bool := (List.range ns.length).any fun i => !decide (ns.getD i 0 = ns.getD (i ^^^ st) 0)
theorem xor_lt {v k i : Nat} (hv : v ≤ 4) (hk : k < v) (hi : i < 2 ^ v) : i ^^^ 2 ^ k < 2 ^ v := Nat.xor_lt_two_pow hi (Nat.pow_lt_pow_right (by decide) hk)
section
variable {P : Program} {w : World} {K : PySem.W.Frag} {mg : Str → Option Value} {base : Heap}
def spNV : Sp := fun vs H Q _ => ∃ n : Nat, vs = [.int n] ∧ 1 ≤ n ∧ n ≤ 4 ∧ ∀ H', Same H H' → Q .non H'
theorem ok_needvoters {f fI : Addr} {fd fdI : FuncData} {t : Tok} (F : Fun K "need_voters" "need_voters" dNeedVoters f fd) (FI : FnOk P w K mg base CX0 1 fI fdI ["value"] (spB fun _ => shortB))
    (kI : PySem.W.keepIn K (.ref fI) = true) (bI : Binds K fdI ["value"] []) (gI : mg "is_integer" = some (.ref fI)) (mM : mg "MAX_VOTERS" = some (.int 4 t)) : FnOk P w K mg base CX0 2 f fd ["voters"] spNV := by
  refine F.ok scNeedVoters (fun vs H Q E h => ?_) (fun cdv A outer s H vs Q E hr h => ?_)
  · obtain ⟨n, rfl, _⟩ := h
    rfl
  obtain ⟨n, rfl, h1, h4, q⟩ := h
  refine ⟨_, pss_one (ps_if (PW.pt (pw_or (pt_not (pt_val (pe_call FI hr (by rfl) gI kI bI .nil pass0 (pa_cons (pv 0) pa_nil))))
      (pw_or1 (pt_not (pt_chain op_le op_le pe_int (pv 0) (pe_glob (v := .int 4) (by rfl) mM ⟨_, rfl⟩)))))) (pss_one ps_never) pss_nil), ?_⟩
  refine ⟨.int n, rfl, .int n, 0, rfl, .inl (by show (n : Int).natAbs < 2 ^ 400; exact Nat.lt_of_lt_of_le (by omega : (n : Int).natAbs < 2 ^ 3) (Nat.pow_le_pow_right (by decide) (by decide))), fun H1 s1 => ⟨true, ?_, iteF ?_⟩⟩
  · exact congrArg V.bl (shortB_small (Int.natCast_nonneg n) (by omega))
  refine ⟨.int n, rfl, 1, n, rfl, rfl, _, rfl, ?_⟩
  rw [decide_eq_true (show (1 : Int) ≤ (n : Int) by omega)]
  refine iteT ⟨_, _, rfl, rfl, _, rfl, ?_⟩
  rw [decide_eq_true (show (n : Int) ≤ 4 by omega)]
  exact iteF (q H1 s1)
def spIsT : Sp := fun vs H Q _ => ∃ (a : Addr) (v : Nat) (ns : List Int), vs = [.ref a, .int v] ∧ v ≤ 4 ∧ H a = some (.tup (ns.map V.int)) ∧ GoodT v ns ∧ ∀ H', Same H H' → Q (.bl true) H'
theorem ok_istable {f fH : Addr} {fd fdH : FuncData} (F : Fun K "_is_table" "_is_table" dIsTable f fd) (FH : FnOk P w K mg base CX0 4 fH fdH ["value", "many"] spHV)
    (kH : PySem.W.keepIn K (.ref fH) = true) (bH : Binds K fdH ["value", "many"] []) (gH : mg "has_values" = some (.ref fH)) : FnOk P w K mg base CX0 5 f fd ["value", "voters"] spIsT := by
  refine F.ok scIsTable (fun vs H Q E h => ?_) (fun cdv A outer s H vs Q E hr h => ?_)
  · obtain ⟨a, v, ns, rfl, _⟩ := h
    rfl
  obtain ⟨a, v, ns, rfl, hv, ha, g, q⟩ := h
  refine ⟨_, pss_one (ps_ret (pe_and (pe_call FH hr (by rfl) gH kH bH .nil pass0 (pa_cons (pv 0) (pa_cons (pe_op op_shlN pe_int (pv 1)) pa_nil)))
    (pe_and (pe_cmpR op_eq (pe_ix ix_tup (pv 0) pe_int (fun _ _ => rfl)) pe_int (nomark _))
      (pe_one (pe_cmpR op_eq (pe_ix ix_tup (pv 0) (pe_un un_neg pe_int) (fun _ _ => rfl)) pe_int (nomark _)))))), ?_⟩
  have hl := g.le hv
  have p16 := pow4 hv
  have pos : 0 < 2 ^ v := Nat.pow_pos (by decide)
  refine ⟨.ref a, rfl, .int v, rfl, 1, v, rfl, rfl, shl_ok (n := 1) (by decide) (by omega), a, ns, _, rfl, ha, by omega, g.small, fun H1 s1 => ⟨true, ?_, iteT ?_⟩⟩
  · rw [g.bits, Bool.true_and]
    have e : ((ns.length : Int) = 1 * 2 ^ v) := by
      rw [g.len, Int.one_mul]
      exact (Int.natCast_pow 2 v)
    rw [decide_eq_true e]
  have ha1 := s1 _ _ ha
  refine ⟨.ref a, rfl, a, _, 0, .int 0, rfl, rfl, .of ha1, atI_nat (j := 0) (by rw [List.getElem?_map, g.fst]; rfl), rfl, true, rfl, iteT ?_⟩
  refine ⟨.ref a, rfl, 1, rfl, a, _, -1, .int 1, rfl, rfl, .of ha1, atI_neg1 ?_, rfl, q H1 s1⟩
  rw [List.length_map, g.len, List.getElem?_map, g.lst]
  rfl
def spFollow : Sp := fun vs H Q _ => ∃ v i : Nat, vs = [.int v, .int i] ∧ v ≤ 4 ∧ i < v ∧ ∀ H' p, Same H H' → H' p = some (.tup ((followN v i).map V.int)) → Q (.ref p) H'
theorem ok_follow {f fA : Addr} {fd fdA : FuncData} (F : Fun K "_follow_table" "_follow_table" dFollow f fd) (FA : FnOk P w K mg base CX0 1 fA fdA ["many"] spRowsT)
    (kA : PySem.W.keepIn K (.ref fA) = true) (bA : Binds K fdA ["many"] []) (gA : mg "all_values" = some (.ref fA)) (mt : mg "tuple" = none) : FnOk P w K mg base CX0 2 f fd ["voters", "voter"] spFollow := by
  refine F.ok scFollow (fun vs H Q E h => ?_) (fun cdv A outer s H vs Q E hr h => ?_)
  · obtain ⟨v, i, rfl, _⟩ := h
    rfl
  obtain ⟨v, i, rfl, hv, hi, q⟩ := h
  refine ⟨_, pss_one (ps_ret (pe_callTy call_tuple_of (by rfl) mt boot_tup (pa_cons
      (pe_lc (te := tOp (rIxT K) (tVar 2) (tVar 1)) (own := [("values", 2)]) (g := gName 2) (tt := tYes) rfl scFollow.nd (pi_tup (pe_call FA hr (by rfl) gA kA bA .nil pass0 (pa_cons (pv 0) pa_nil))) (blkOk_by (N := ["voters", "voter", "values"]) (sc := defScope dFollow) (by decide +kernel))
        (fun _ _ _ _ _ => pg_name (i := 2) scFollow.nd rfl (Or.inl rfl)) (fun _ _ _ _ _ => pts_nil)
        (fun _ _ _ _ _ => pe_ix ix_tup (pv 2) (pv 1) (fun _ _ => rfl))) pa_nil))), ?_⟩
  refine ⟨.int v, rfl, v, rfl, by omega, fun H1 p xs s1 hp ax => ⟨p, rfl, ⟨xs, .of hp⟩, fun D nD => ?_⟩⟩
  have lx := ax.len
  rw [rowsN_len] at lx
  have p16 := pow4 hv
  refine lc_map (M := No) (walk_tup (K := K) (a := p) (xs := xs)) (by omega) Jg.no nD (fun j _ y => ∃ r, (rowsN v)[j]? = some r ∧ y = .int (r.getD i 0)) (fun _ _ _ _ _ h => h) (fun Hx g _ => .of (g.toSame _ _ hp))
    (fun j x Hx Hx' Kk hj g _ hY hK => ?_) (fun Hx ys g _ eD hlen hq => ?_)
  · obtain ⟨rfl, hx⟩ := hY
    obtain ⟨r, hr, a, rfl, ha⟩ := ax.get hx
    have lr := rowsN_size v r (List.mem_of_getElem? hr)
    refine ⟨rfl, .ref a, rfl, .int i, rfl, a, _, i, .int (r.getD i 0), rfl, rfl, .of (g.toSame _ _ ha), atI_nat (j := i) ?_, hK _ _ (Gw.refl _) Jg.no ⟨r, hr, rfl⟩⟩
    rw [List.getElem?_map, List.getD_eq_getElem?_getD, List.getElem?_eq_getElem (by omega)]
    rfl
  · have e : ys = (followN v i).map V.int := by
      unfold followN
      rw [List.map_map]
      exact list_eq (f := V.int ∘ fun r : List Int => r.getD i 0) hlen (by rw [rowsN_len, lx]) hq
    rw [e] at eD
    refine ⟨D, _, rfl, .inl ⟨.of eD, fun q1 nq => q _ q1 (s1.trans (g.toSame.trans (same_new nq))) upd_same⟩⟩
def spHangs : Sp := fun vs H Q _ => ∃ (a : Addr) (v k : Nat) (ns : List Int), vs = [.ref a, .int (2 ^ k : Nat)] ∧ H a = some (.tup (ns.map V.int)) ∧ v ≤ 4 ∧ k < v ∧ ns.length = 2 ^ v ∧ ∀ H', Same H H' → Q (.bl (hangsB ns (2 ^ k))) H'
theorem ok_hangs {f : Addr} {fd : FuncData} (F : Fun K "_hangs_on" "_hangs_on" dHangs f fd) (me : mg "enumerate" = none) (ma : mg "any" = none) : FnOk P w K mg base CX0 1 f fd ["table", "step"] spHangs := by
  refine F.ok scHangs (fun vs H Q E h => ?_) (fun cdv A outer s H vs Q E hr h => ?_)
  · obtain ⟨a, v, k, ns, rfl, _⟩ := h
    rfl
  obtain ⟨a, v, k, ns, rfl, ha, hv, hk, hl, q⟩ := h
  have p16 := pow4 hv
  refine ⟨_, pss_one (ps_ret (pe_callB (cr_any rfl) (by rfl) ma boot_any (pa_cons
      (pe_lc (te := tOp rNe (tVar 3) (tOp (rIxT K) (tVar 0) (tOp (rI0 fun i j => .int (Builtin.bitXor i j)) (tVar 2) (tVar 1)))) (own := [("at", 2), ("value", 3)]) (g := gTup K 2 (gCons (gName 2) (gCons (gName 3) gNil))) (tt := tYes) rfl scHangs.nd
        (pi_enumT (by rfl) me (pa_cons (pv 0) pa_nil)) (blkOk_by (N := ["table", "step", "at", "value"]) (sc := defScope dHangs) (by decide +kernel))
        (fun _ _ _ _ _ => pg_tup rfl (pgs_cons (pg_name (i := 2) scHangs.nd rfl (Or.inl rfl)) (pgs_cons (pg_name (i := 3) scHangs.nd rfl (Or.inl rfl)) pgs_nil))) (fun _ _ _ _ _ => pts_nil)
        (fun _ _ _ _ _ => pe_cmpR op_ne (pv 3) (pe_ix ix_tup (pv 0) (pe_op op_xor (pv 2) (pv 1)) (fun _ _ => rfl)) (nomark _))) pa_nil))), ?_⟩
  refine ⟨.ref a, rfl, a, _, rfl, .of ha, fun D nD => ?_⟩
  refine lc_map (M := No) (walk_enumT (K := K) (a := a) (xs := ns.map V.int)) (by rw [List.length_map]; omega) Jg.no nD (fun i _ y => y = .bl (!decide (ns.getD i 0 = ns.getD (i ^^^ 2 ^ k) 0))) (fun _ _ _ _ _ h => h) (fun Hx g _ => .of (g.toSame _ _ ha))
    (fun i x Hx Hx' Kk hi g _ hY hK => ?_) (fun Hx ys g _ eD hlen hq => ?_)
  · obtain ⟨T, x, y, rfl, nT, rfl, hx, hy⟩ := hY
    cases hx
    have hy : (ns.map V.int)[i]? = some y := hy
    rw [List.length_map] at hi
    rw [List.getElem?_map, List.getElem?_eq_getElem hi] at hy
    cases hy
    have h2 : i ^^^ 2 ^ k < ns.length := by rw [hl]; exact xor_lt hv hk (by omega)
    have ex : Builtin.bitXor (i : Int) ((2 ^ k : Nat) : Int) = ((i ^^^ 2 ^ k : Nat) : Int) := by rw [Bits.bitXor_pp (Int.natCast_nonneg _) (Int.natCast_nonneg _)]; rfl
    have ha' := g.toSame _ _ ha
    refine ⟨T, [.int i, .int ns[i]], rfl, .of upd_same, rfl, _, _, rfl, _, _, rfl, rfl, rfl, .int ns[i], rfl, .ref a, rfl, .int i, rfl, .int _, rfl, i, _, rfl, rfl, a, _, _, .int (ns.getD (i ^^^ 2 ^ k) 0), rfl, rfl, .of (same_new nT _ _ ha'), ?_, rfl, ?_⟩
    · rw [ex]
      refine atI_nat ?_
      rw [List.getElem?_map, List.getD_eq_getElem?_getD, List.getElem?_eq_getElem h2]
      rfl
    · refine hK _ _ (Gw.new nT) Jg.no ?_
      have e1 : ns.getD i 0 = ns[i] := by rw [List.getD_eq_getElem?_getD, List.getElem?_eq_getElem hi]; rfl
      rw [e1]
      congr 2
      simp
  · have e : ys = ((List.range ns.length).map fun i => !decide (ns.getD i 0 = ns.getD (i ^^^ 2 ^ k) 0)).map V.bl := by
      rw [List.map_map]
      refine list_eq (f := V.bl ∘ fun i : Nat => !decide (ns.getD i 0 = ns.getD (i ^^^ 2 ^ k) 0)) hlen (by rw [List.length_range, List.length_map]) fun i y hy => ?_
      have hi : i < ns.length := by have := (List.getElem?_eq_some_iff.mp hy).1; rw [hlen, List.length_map] at this; exact this
      exact ⟨i, List.getElem?_range hi, hq i y hy⟩
    rw [e] at eD
    refine ⟨D, _, rfl, .of eD, ?_⟩
    have := q Hx g.toSame
    unfold hangsB at this
    rw [List.any_map]
    exact this
end
end Ow

set_option Elab.async false
set_option linter.all false
set_option maxRecDepth 100000
set_option maxHeartbeats 4000000
set_option exponentiation.threshold 3000
namespace Ow
open PySem PySem.Spec PyProof.Rows L2
theorem scInit : FnScope ["self", "voters", "tables", "issue"] ["self", "voters", "tables"] (defScope dInit) := ⟨rfl, rfl, rfl, by decide +kernel, rfl, by decide +kernel, by decide +kernel⟩
theorem scGet : FnScope ["self", "issue"] ["self", "issue"] (defScope dGetitem) := ⟨rfl, rfl, rfl, by decide +kernel, rfl, by decide +kernel, by decide +kernel⟩
/-! ### tables by names -/
def TabR (H : Hp) (tab : Str → List Int) (p : Key × V) (z : Str) : Prop := p.1 = Sum.inr z ∧ IsRow H p.2 (tab z)
def TabD (H : Hp) (d : Addr) (ks : List Str) (tab : Str → List Int) : Prop := ∃ kvs : List (Key × V), H d = some (.dK kvs) ∧ All2 (TabR H tab) kvs ks
theorem TabR.tk {H H' : Hp} {tab : Str → List Int} {kvs : List (Key × V)} {ks : List Str} (t : Tk H H') (h : All2 (TabR H tab) kvs ks) : All2 (TabR H' tab) kvs ks := h.imp fun _ _ q => ⟨q.1, q.2.tk t⟩
theorem tab_keys {H : Hp} {tab : Str → List Int} {kvs : List (Key × V)} {ks : List Str} (h : All2 (TabR H tab) kvs ks) : kvs.map (·.1) = ks.map Sum.inr := by
  induction h with
  | nil => rfl
  | cons r _ ih => rw [List.map_cons, List.map_cons, ih, r.1]
theorem tab_get {H : Hp} {tab : Str → List Int} {kvs : List (Key × V)} {ks : List Str} (h : All2 (TabR H tab) kvs ks) {z : Str} (hz : z ∈ ks) : ∃ x, valV kvs (Sum.inr z) = some x ∧ IsRow H x (tab z) := by
  induction h with
  | nil => cases hz
  | @cons p y ps ys r _ ih =>
    by_cases e : p.1 = (Sum.inr z : Key)
    · have ey : y = z := by have := r.1.symm.trans e; exact Sum.inr.inj this
      exact ⟨p.2, valV_pos e, ey ▸ r.2⟩
    · rw [valV_neg e]
      rcases List.mem_cons.mp hz with rfl | hz
      · exact absurd r.1 e
      · exact ih hz
theorem tab_none {H : Hp} {tab : Str → List Int} {kvs : List (Key × V)} {ks : List Str} (h : All2 (TabR H tab) kvs ks) {z : Str} (hz : z ∉ ks) : valV kvs (Sum.inr z : Key) = none := by
  induction h with
  | nil => rfl
  | @cons p y ps ys r _ ih =>
    have e : ¬ p.1 = (Sum.inr z : Key) := fun e => hz (by have := Sum.inr.inj (r.1.symm.trans e); rw [this]; exact List.mem_cons_self)
    rw [valV_neg e]
    exact ih fun m => hz (List.mem_cons_of_mem _ m)
/-- a rule, made -/
def ruleF (v : Nat) (t d : Addr) : List (Str × V) := [("_voters", .int v), ("_issues", .ref t), ("_tables", .ref d)]
def RuleAt (C : Addr) (H : Hp) (a : Addr) (v : Nat) (ys : List Str) (tab : Str → List Int) : Prop :=
  ∃ dx t d, H a = some (.ins C dx (ruleF v t d)) ∧ H t = some (.tup (ys.map V.str)) ∧ TabD H d ys tab
theorem RuleAt.tk {C : Addr} {H H' : Hp} {a : Addr} {v : Nat} {ys : List Str} {tab : Str → List Int} (t : Tk H H') (h : RuleAt C H a v ys tab) : RuleAt C H' a v ys tab := by
  obtain ⟨dx, t0, d, h1, h2, kvs, h3, h4⟩ := h
  exact ⟨dx, t0, d, t _ _ (fun _ z => nomatch z) h1, t.tup h2, kvs, t _ _ (fun _ z => nomatch z) h3, TabR.tk t h4⟩
structure RuleC (K : PySem.W.Frag) (C : Addr) : Prop where
  cl : Cls K C
  nV : NoAttr K C "_voters"
  nI : NoAttr K C "_issues"
  nT : NoAttr K C "_tables"
theorem yes_of {σ : L2.St} {H : Hp} {A B : Hp → Prop} (h : A H) : tYes σ H (fun b H3 => if b = true then A H3 else B H3) := by
  show if true = true then A H else B H
  rw [if_pos rfl]
  exact h
theorem row_at {H : Hp} {x : V} {ns : List Int} {D : Addr} {k1 k2 : List (Key × V)} (r : IsRow H x ns) (h : H D = some (.dK k1)) : IsRow (upd H D (.dK k2)) x ns := by
  obtain ⟨b, e, hb⟩ := r
  exact ⟨b, e, by rw [upd_ne (ne_of hb h (by intro z; cases z))]; exact hb⟩
theorem row_ins {H : Hp} {x : V} {ns : List Int} {a C dx C' dx' : Addr} {f1 f2 : List (Str × V)} (r : IsRow H x ns) (h : H a = some (.ins C dx f1)) : IsRow (upd H a (.ins C' dx' f2)) x ns := by
  obtain ⟨b, e, hb⟩ := r
  exact ⟨b, e, by rw [upd_ne (ne_of hb h (by intro z; cases z))]; exact hb⟩
theorem nodup_take {ys : List Str} (h : ys.Nodup) {i : Nat} {z : Str} (e : ys[i]? = some z) : z ∉ ys.take i := by
  intro m
  obtain ⟨hi, e⟩ := List.getElem?_eq_some_iff.mp e
  obtain ⟨j, hj, ej⟩ := List.mem_take_iff_getElem.mp m
  exact List.pairwise_iff_getElem.mp h j i (by omega) hi (by omega) (ej.trans e.symm)
def AllOk (v : Nat) (ks : List Str) (tab : Str → List Int) : Prop := (∀ z ∈ ks, GoodT v (tab z)) ∧ ks.length < 60 ∧ ks.Nodup ∧ Plain ks ∧ ∀ ys, ys.Perm ks → sortedS ys = true → issuesB ys = true
section
variable {P : Program} {w : World} {K : PySem.W.Frag} {mg : Str → Option Value} {base : Heap} {C : Addr}
def spAre : Sp := fun vs H Q _ => ∃ (d : Addr) (v : Nat) (ks : List Str) (tab : Str → List Int), vs = [.ref d, .int v] ∧ v ≤ 4 ∧ TabD H d ks tab ∧ AllOk v ks tab ∧ ∀ H', Same H H' → Q (.bl true) H'
theorem ok_aretables {f fK fI : Addr} {fd fdK fdI : FuncData} (F : Fun K "_are_tables" "_are_tables" dAreTables f fd) (FK : FnOk P w K mg base CX0 4 fK fdK ["value"] spKeys)
    (kK : PySem.W.keepIn K (.ref fK) = true) (bK : Binds K fdK ["value"] []) (gK : mg "has_issues_as_keys" = some (.ref fK)) (FI : FnOk P w K mg base CX0 5 fI fdI ["value", "voters"] spIsT)
    (kI : PySem.W.keepIn K (.ref fI) = true) (bI : Binds K fdI ["value", "voters"] []) (gI : mg "_is_table" = some (.ref fI)) (ma : mg "all" = none) : FnOk P w K mg base CX0 6 f fd ["value", "voters"] spAre := by
  refine F.ok scAreTables (fun vs H Q E h => ?_) (fun cdv A outer s H vs Q E hr h => ?_)
  · obtain ⟨d, v, ks, tab, rfl, _⟩ := h
    rfl
  obtain ⟨d, v, ks, tab, rfl, hv, ⟨kvs, hd, hk⟩, ⟨g, hl, nd, hp, hi⟩, q⟩ := h
  refine ⟨_, pss_one (ps_ret (pe_and (pe_call FK (hr.mono (by decide)) (by rfl) gK kK bK .nil pass0 (pa_cons (pv 0) pa_nil))
    (pe_one (pe_callB (cr_all rfl) (by rfl) ma boot_all (pa_cons (pe_lock
      (pe_lc (te := tCall spIsT [] E0 (tCons (tVar 2) (tCons (tVar 1) tNil))) (own := [("table", 2)]) (g := gName 2) (tt := tYes) rfl scAreTables.nd (pi_values (pv 0)) (blkOk_by (N := ["value", "voters", "table"]) (sc := defScope dAreTables) (by decide +kernel))
        (fun _ _ _ _ _ => pg_name (i := 2) scAreTables.nd rfl (Or.inl rfl)) (fun _ _ _ _ _ => pts_nil)
        (fun _ _ _ _ _ => pe_call FI (hr.mono (by decide)) (by rfl) gI kI bI .nil pass0 (pa_cons (pv 2) (pa_cons (pv 1) pa_nil))))) pa_nil))))), ?_⟩
  have lk := hk.len
  refine ⟨.ref d, rfl, d, ks, rfl, ⟨kvs, hd, tab_keys hk⟩, hl, hp, fun H1 ys s1 pm so => ⟨true, congrArg V.bl (hi ys pm so), iteT ?_⟩⟩
  have hd1 := s1 _ _ hd
  refine ⟨d, _, hd1, trivial, fun od => ?_⟩
  have hf : upd H1 d (.frz od (.dK kvs)) d = some (.frz od (.dK kvs)) := upd_same
  refine ⟨.ref d, rfl, d, od, kvs, rfl, hf, fun D nD => ?_⟩
  refine lc_map (M := No) (walk_values (d := d) (o := od) (kvs := kvs)) (by omega) Jg.no nD (fun i _ y => y = .bl true) (fun _ _ _ _ _ h => h) (fun Hx g _ => g.toSame _ _ hf)
    (fun i x Hx Hx' Kk hi g1 _ hY hK => ?_) (fun Hx ys g _ eD hlen hq => ?_)
  · obtain ⟨rfl, k, hx⟩ := hY
    obtain ⟨z, hz, hz1, a, ea, ha⟩ := hk.get hx
    have ea' := ea.symm
    subst ea'
    have ha' : upd H1 d (.frz od (.dK kvs)) a = some (.tup ((tab z).map V.int)) := by
      rw [upd_ne (ne_of hd ha (by intro z; cases z)).symm]
      exact s1 _ _ ha
    exact ⟨rfl, .ref a, rfl, .int v, rfl, a, v, tab z, rfl, hv, g1.toSame _ _ ha', g z (List.mem_of_getElem? hz), fun H2 s2 => hK _ _ (Gw.same s2) Jg.no rfl⟩
  · have e : ys = (List.replicate kvs.length true).map V.bl := list_eq (f := V.bl) hlen (by rw [List.length_replicate]) fun i y hy => by
      have hi : i < kvs.length := by have := (List.getElem?_eq_some_iff.mp hy).1; omega
      exact ⟨true, by rw [List.getElem?_replicate, if_pos hi], hq i y hy⟩
    rw [e] at eD
    have hdD : D ≠ d := (ne_of_none hf nD).symm
    refine ⟨g.toSame _ _ hf, D, _, rfl, .of (by rw [upd_ne hdD]; exact eD), ?_⟩
    have e2 : (List.replicate kvs.length true).all id = true := by
      rw [List.all_eq_true]
      intro x hx
      exact (List.mem_replicate.mp hx).2
    rw [e2]
    exact q _ (s1.trans (same_lock hd1 g.toSame))
/-- Rule.__init__, for right tables -/
def spInit (C : Addr) : Sp := fun vs H Q _ => ∃ (a dx d : Addr) (v : Nat) (ks : List Str) (tab : Str → List Int), vs = [.ref a, .int v, .ref d] ∧ H a = some (.ins C dx []) ∧ 1 ≤ v ∧ v ≤ 4 ∧ TabD H d ks tab ∧ AllOk v ks tab ∧
  ∀ H' ys, Sb a H H' → ys.Perm ks → sortedS ys = true → RuleAt C H' a v ys tab → Q .non H'
theorem ok_init {f fN fA : Addr} {fd fdN fdA : FuncData} (R : RuleC K C) (F : Fun K "__init__" "Rule.__init__" dInit f fd) (FN : FnOk P w K mg base CX0 2 fN fdN ["voters"] spNV)
    (kN : PySem.W.keepIn K (.ref fN) = true) (bN : Binds K fdN ["voters"] []) (gN : mg "need_voters" = some (.ref fN)) (FA : FnOk P w K mg base CX0 6 fA fdA ["value", "voters"] spAre)
    (kA : PySem.W.keepIn K (.ref fA) = true) (bA : Binds K fdA ["value", "voters"] []) (gA : mg "_are_tables" = some (.ref fA)) (mt : mg "tuple" = none) (mo : mg "sorted" = none) : FnOk P w K mg base CX0 7 f fd ["self", "voters", "tables"] (spInit C) := by
  refine F.ok scInit (fun vs H Q E h => ?_) (fun cdv A outer s H vs Q E hr h => ?_)
  · obtain ⟨a, dx, d, v, ks, tab, rfl, _⟩ := h
    rfl
  obtain ⟨a, dx, d, v, ks, tab, rfl, ha, h1, h4, ⟨kvs, hd, hk⟩, ok, q⟩ := h
  refine ⟨_, pss_cons (ps_expr (pe_call FN (hr.mono (by decide)) (by rfl) gN kN bN .nil pass0 (pa_cons (pv 1) pa_nil)))
    (pss_cons (ps_if (pt_not (pt_val (pe_call FA (hr.mono (by decide)) (by rfl) gA kA bA .nil pass0 (pa_cons (pv 2) (pa_cons (pv 1) pa_nil))))) (pss_one ps_never) pss_nil)
    (pss_cons (ps_fld (pv 0) (pv 1) rfl)
    (pss_cons (ps_fld (pv 0) (pe_callTy call_tuple_of (by rfl) mt boot_tup (pa_cons (pe_callB (call_sortedD rfl) (by rfl) mo (by decide +kernel) (pa_cons (pv 2) pa_nil)) pa_nil)) rfl)
    (pss_one (ps_fld (pv 0) (pe_dc (own := [("issue", 3)]) (g := gName 3) (tt := tYes) (tk := tVar 3) (tv := tDGet (tVar 2) (tVar 3)) rfl scInit.nd (pi_tup (pe_fld (pv 0) rfl)) (blkOk_by (N := ["self", "voters", "tables", "issue"]) (sc := defScope dInit) (by decide +kernel))
      (fun _ _ _ _ _ => pg_name (i := 3) scInit.nd rfl (Or.inl rfl)) (fun _ _ _ _ _ => pts_nil) (fun _ _ _ _ _ => pv 3) (fun _ _ _ _ _ => pe_dget (hu_of hr) (pv 2) (pv 3) (fun _ _ => rfl))) rfl))))), ?_⟩
  obtain ⟨g, hl, nd, hp, hi⟩ := ok
  refine ⟨.int v, rfl, v, rfl, h1, h4, fun H1 s1 => ?_⟩
  refine ⟨.ref d, rfl, .int v, rfl, d, v, ks, tab, rfl, h4, ⟨kvs, s1 _ _ hd, TabR.tk (Tk.same s1) hk⟩, ⟨g, hl, nd, hp, hi⟩, fun H2 s2 => ⟨true, rfl, iteF ?_⟩⟩
  have s12 := s1.trans s2
  refine ⟨.int v, rfl, .ref a, rfl, a, C, dx, [], rfl, s12 _ _ ha, R.cl, R.nV, (by decide), ?_⟩
  have hda : d ≠ a := ne_of hd ha (by intro z; cases z)
  have hd3 : upd H2 a (.ins C dx (putF "_voters" (.int v) [])) d = some (.dK kvs) := by
    rw [upd_ne hda]
    exact s12 _ _ hd
  refine ⟨.ref d, rfl, d, kvs, ks, rfl, .inl hd3, tab_keys hk, by omega, fun ys p pm so np => ?_⟩
  have np' : upd H2 a (.ins C dx (putF "_voters" (.int v) [])) p = none := np
  refine ⟨p, _, rfl, .inl ⟨.of upd_same, fun l nl => ?_⟩⟩
  have b2 : Sb a H2 (upd H2 a (.ins C dx (putF "_voters" (.int v) []))) := Sb.at
  have eA : upd (upd (upd H2 a (.ins C dx (putF "_voters" (.int v) []))) p (.lst (ys.map V.str))) l (.tup (ys.map V.str)) a = some (.ins C dx [("_voters", .int v)]) := by
    rw [upd_ne (ne_of_none (by rw [upd_ne (ne_of_none upd_same np')]; exact upd_same) nl), upd_ne (ne_of_none upd_same np')]
    exact upd_same
  refine ⟨.ref a, rfl, a, C, dx, [("_voters", .int v)], rfl, eA, R.cl, R.nI, (by show 1 < 1000; decide), ?_⟩
  have nA : ∀ {b : Addr} {o : HO}, H2 b = some o → b ≠ a → upd (upd (upd H2 a (.ins C dx (putF "_voters" (.int v) []))) p (.lst (ys.map V.str))) l (.tup (ys.map V.str)) b = some o := fun {b o} e n => by
    have e1 : upd H2 a (.ins C dx (putF "_voters" (.int v) [])) b = some o := by
      rw [upd_ne n]
      exact e
    have e2 : upd (upd H2 a (.ins C dx (putF "_voters" (.int v) []))) p (.lst (ys.map V.str)) b = some o := by
      rw [upd_ne (ne_of_none e1 np')]
      exact e1
    rw [upd_ne (ne_of_none e2 nl)]
    exact e2
  have eL : upd (upd (upd H2 a (.ins C dx (putF "_voters" (.int v) []))) p (.lst (ys.map V.str))) l (.tup (ys.map V.str)) l = some (.tup (ys.map V.str)) := upd_same
  generalize upd (upd (upd H2 a (.ins C dx (putF "_voters" (.int v) []))) p (.lst (ys.map V.str))) l (.tup (ys.map V.str)) = H4 at eA nA eL ⊢
  have la : l ≠ a := ne_of eL eA (by intro z; cases z)
  have pf : putF "_issues" (.ref l) [("_voters", V.int v)] = ([("_voters", .int v), ("_issues", .ref l)] : List (Str × V)) := by
    unfold putF
    rw [if_neg (by decide)]
    rfl
  rw [pf]
  have nB : ∀ {b : Addr} {o : HO}, H2 b = some o → b ≠ a → upd H4 a (.ins C dx [("_voters", .int v), ("_issues", .ref l)]) b = some o := fun {b o} e n => by
    rw [upd_ne n]
    exact nA e n
  have eB : upd H4 a (.ins C dx [("_voters", .int v), ("_issues", .ref l)]) a = some (.ins C dx [("_voters", .int v), ("_issues", .ref l)]) := upd_same
  have lB : upd H4 a (.ins C dx [("_voters", .int v), ("_issues", .ref l)]) l = some (.tup (ys.map V.str)) := by
    rw [upd_ne la]
    exact eL
  generalize upd H4 a (.ins C dx [("_voters", .int v), ("_issues", .ref l)]) = H5 at eB nB lB ⊢
  have hdB := nB (s12 _ _ hd) hda
  have hkB : All2 (TabR H5 tab) kvs ks := hk.imp fun x y r => ⟨r.1, by
    obtain ⟨b, e, hb⟩ := r.2
    exact ⟨b, e, nB (s12 _ _ hb) (ne_of hb ha (by intro z; cases z))⟩⟩
  have ly := pm.length_eq
  refine ⟨.ref a, rfl, a, C, dx, _, .ref l, rfl, eB, R.cl, R.nI, rfl, l, rfl, ⟨_, .of lB⟩, fun D nD => ?_⟩
  refine dc_tup (K := K) (a := l) (xs := ys.map V.str) (fun i Hx => Same H5 Hx ∧ ∃ kv2, Hx D = some (.dK kv2) ∧ All2 (TabR Hx tab) kv2 (ys.take i)) ⟨same_new nD, [], upd_same, .nil⟩ (fun i Hx _ h => .of (h.1 _ _ lB)) (fun i x Hx hx h => ?_) (fun Hx h => ?_)
  · obtain ⟨sx, kv2, eD, a2⟩ := h
    rw [List.getElem?_map] at hx
    cases hz : ys[i]? with
    | none => rw [hz] at hx; cases hx
    | some z =>
      rw [hz] at hx
      cases hx
      obtain ⟨x', g1, r1⟩ := tab_get hkB (pm.mem_iff.mp (List.mem_of_getElem? hz))
      have l2 := a2.len
      rw [List.length_take] at l2
      refine ⟨rfl, ?_⟩
      refine yes_of ?_
      refine ⟨.str z, rfl, .ref d, rfl, .str z, rfl, d, x', rfl, ?_, kv2, .inr z, rfl, eD, small60 (by omega), ?_⟩
      · rw [← g1]
        exact DGet.k (k := Sum.inr z) (sx _ _ hdB)
      · rw [putK_new x' (tab_none a2 (nodup_take (pm.nodup_iff.mpr nd) hz))]
        refine ⟨fun b o e => ?_, _, upd_same, ?_⟩
        · rw [upd_ne (ne_of_none e nD)]
          exact sx _ _ e
        · rw [List.take_add_one, hz]
          refine (a2.imp fun _ _ r => ⟨r.1, row_at r.2 eD⟩).app (.cons ⟨rfl, row_at (r1.tk (Tk.same sx)) eD⟩ .nil)
  · obtain ⟨sx, kv2, eD, a2⟩ := h
    rw [List.length_map, List.take_length] at a2
    have aX := sx _ _ eB
    have lX := sx _ _ lB
    have pg : putF "_tables" (.ref D) [("_voters", V.int v), ("_issues", .ref l)] = ruleF v l D := by
      unfold putF
      rw [if_neg (by decide)]
      unfold putF
      rw [if_neg (by decide)]
      rfl
    refine ⟨.ref a, rfl, a, C, dx, _, rfl, aX, R.cl, R.nT, (by show 2 < 1000; decide), ?_⟩
    rw [pg]
    refine q _ ys (fun b o n e => ?_) pm so ⟨dx, l, D, upd_same, ?_, kv2, ?_, a2.imp fun _ _ r => ⟨r.1, row_ins r.2 aX⟩⟩
    · rw [upd_ne n]
      exact sx _ _ (nB (s12 _ _ e) n)
    · rw [upd_ne la]
      exact lX
    · rw [upd_ne (ne_of eD aX (by intro z; cases z))]
      exact eD
end
end Ow

set_option Elab.async false
set_option linter.all false
set_option maxRecDepth 100000
set_option maxHeartbeats 4000000
set_option exponentiation.threshold 3000
namespace Ow
open PySem PySem.Spec PyProof.Rows L2
theorem scHeard : FnScope ["self", "issue", "table", "steps", "voter", "step"] ["self", "issue"] (defScope dHeard) := ⟨rfl, rfl, rfl, by decide +kernel, rfl, by decide +kernel, by decide +kernel⟩
/-! ### rows as data -/
def rowD (ns : List Int) : PyData := .tuple (ns.map .int)
def rowsD (rs : List (List Int)) : PyData := .tuple (rs.map rowD)
theorem dp_ints {K : PySem.W.Frag} {H : Hp} : ∀ ns : List Int, DpAll K H (ns.map V.int) (ns.map .int)
  | [] => .nil
  | n :: ns => .cons (.int n) (dp_ints ns)
theorem dp_row {K : PySem.W.Frag} {H : Hp} {v : V} {ns : List Int} (h : IsRow H v ns) : Dp K H v (rowD ns) := by
  obtain ⟨a, rfl, h⟩ := h
  exact .tup (.of h) (dp_ints ns)
theorem dp_all {K : PySem.W.Frag} {H : Hp} {xs : List V} {rs : List (List Int)} (h : All2 (IsRow H) xs rs) : DpAll K H xs (rs.map rowD) := by
  induction h with
  | nil => exact .nil
  | cons r _ ih => exact .cons (dp_row r) ih
theorem dp_rows {K : PySem.W.Frag} {H : Hp} {v : V} {rs : List (List Int)} (h : IsRows H v rs) : Dp K H v (rowsD rs) := by
  obtain ⟨a, xs, rfl, h, g⟩ := h
  exact .tup (.of h) (dp_all g)
theorem eqv_ints : ∀ ns ms : List Int, PyData.eqvAll (ns.map .int) (ms.map .int) = decide (ns = ms)
  | [], [] => rfl
  | [], m :: ms => rfl
  | n :: ns, [] => rfl
  | n :: ns, m :: ms => by
    show ((n == m) && PyData.eqvAll (ns.map .int) (ms.map .int)) = _
    rw [eqv_ints ns ms]
    by_cases h : n = m
    · subst h
      by_cases g : ns = ms
      · subst g
        simp
      · simp [g]
    · simp [h]
theorem eqv_row (ns ms : List Int) : PyData.eqv (rowD ns) (rowD ms) = decide (ns = ms) := eqv_ints ns ms
theorem eqv_alls : ∀ rs ts : List (List Int), PyData.eqvAll (rs.map rowD) (ts.map rowD) = decide (rs = ts)
  | [], [] => rfl
  | [], m :: ms => rfl
  | n :: ns, [] => rfl
  | n :: ns, m :: ms => by
    show (PyData.eqv (rowD n) (rowD m) && PyData.eqvAll (ns.map rowD) (ms.map rowD)) = _
    rw [eqv_alls ns ms, eqv_row]
    by_cases h : n = m
    · subst h
      by_cases g : ns = ms
      · subst g
        simp
      · simp [g]
    · simp [h]
theorem eqv_rows (rs ts : List (List Int)) : PyData.eqv (rowsD rs) (rowsD ts) = decide (rs = ts) := eqv_alls rs ts
theorem lay_ints : ∀ ns : List Int, PyData.canLayAll0 (ns.map .int) = true
  | [] => rfl
  | n :: ns => by
    show (true && PyData.canLayAll0 (ns.map .int)) = true
    rw [lay_ints ns]
    rfl
theorem depth_ints : ∀ ns : List Int, PyData.depthAll (ns.map .int) = 0
  | [] => rfl
  | n :: ns => by
    show max 0 (PyData.depthAll (ns.map .int)) = 0
    rw [depth_ints ns]
    rfl
theorem lay_row (ns : List Int) : PyData.canLay0 (rowD ns) = true := lay_ints ns
theorem depth_row (ns : List Int) : PyData.depth (rowD ns) = 1 := by
  show PyData.depthAll (ns.map .int) + 1 = 1
  rw [depth_ints]
theorem shaped_row (ns : List Int) : SeqAt.shaped (rowD ns) = true := by
  unfold SeqAt.shaped
  rw [lay_row, depth_row]
  rfl
theorem lay_alls : ∀ rs : List (List Int), PyData.canLayAll0 (rs.map rowD) = true
  | [] => rfl
  | n :: ns => by
    show (PyData.canLay0 (rowD n) && PyData.canLayAll0 (ns.map rowD)) = true
    rw [lay_alls ns, lay_row]
    rfl
theorem depth_alls : ∀ rs : List (List Int), PyData.depthAll (rs.map rowD) ≤ 1
  | [] => Nat.zero_le _
  | n :: ns => by
    show max (PyData.depth (rowD n)) (PyData.depthAll (ns.map rowD)) ≤ 1
    have := depth_alls ns
    rw [depth_row]
    omega
theorem shaped_rows (rs : List (List Int)) : SeqAt.shaped (rowsD rs) = true := by
  unfold SeqAt.shaped
  have h : PyData.canLay0 (rowsD rs) = true := lay_alls rs
  have g : PyData.depth (rowsD rs) ≤ 64 := by
    show PyData.depthAll (rs.map rowD) + 1 ≤ 64
    have := depth_alls rs
    omega
  rw [h, decide_eq_true g]
  rfl
theorem hu64 {A : Around} {k : Nat} (hr : Room k A) : A.units + 64 < cLine := hr.units
section
variable {P : Program} {w : World} {K : PySem.W.Frag} {mg : Str → Option Value} {base : Heap} {C : Addr}
def spGet (C : Addr) : Sp := fun vs H Q _ => ∃ (a : Addr) (z : Str) (v : Nat) (ys : List Str) (tab : Str → List Int), vs = [.ref a, .str z] ∧ RuleAt C H a v ys tab ∧ z ∈ ys ∧ ∀ H' x, Same H H' → IsRow H' x (tab z) → Q x H'
theorem in_strs {z : Str} : ∀ {ys : List Str}, z ∈ ys → inV (.str z) (ys.map V.str) = true
  | y :: ys, h => by
    unfold inV
    rw [List.map_cons, List.any_cons]
    rcases List.mem_cons.mp h with rfl | h
    · have : eqV (.str z) (.str z) = true := by show (z == z) = true; simp
      rw [this]
      rfl
    · have := in_strs h
      unfold inV at this
      rw [this, Bool.or_true]
theorem flat_strs (ys : List Str) : (ys.map V.str).all flatV = true := by
  rw [List.all_eq_true]
  intro x hx
  obtain ⟨z, _, rfl⟩ := List.mem_map.mp hx
  rfl
theorem ok_get {f : Addr} {fd : FuncData} (R : RuleC K C) (F : Fun K "__getitem__" "Rule.__getitem__" dGetitem f fd) : FnOk P w K mg base CX0 1 f fd ["self", "issue"] (spGet C) := by
  refine F.ok scGet (fun vs H Q E h => ?_) (fun cdv A outer s H vs Q E hr h => ?_)
  · obtain ⟨a, z, v, ys, tab, rfl, _⟩ := h
    rfl
  obtain ⟨a, z, v, ys, tab, rfl, ⟨dx, t, d, ha, ht, kvs, hd, hk⟩, hz, q⟩ := h
  refine ⟨_, pss_cons (ps_if (pt_cmpR op_notIn_seq (pv 1) (pe_fld (pv 0) rfl) (by rfl)) (pss_one ps_never) pss_nil)
    (pss_one (ps_ret (pe_dget (hu_of hr) (pe_fld (pv 0) rfl) (pv 1) (fun _ _ => rfl)))), ?_⟩
  refine ⟨.str z, rfl, .ref a, rfl, a, C, dx, _, .ref t, rfl, ha, R.cl, R.nI, rfl, t, _, rfl, .inr (.of ht), rfl, flat_strs ys, _, rfl, ?_⟩
  rw [in_strs hz]
  refine iteF ?_
  obtain ⟨x, g1, r1⟩ := tab_get hk hz
  refine ⟨.ref a, rfl, a, C, dx, _, .ref d, rfl, ha, R.cl, R.nT, rfl, .str z, rfl, d, x, rfl, ?_, q H x (Same.refl H) r1⟩
  rw [← g1]
  exact DGet.k (k := Sum.inr z) hd
end
end Ow

set_option Elab.async false
set_option linter.all false
set_option maxRecDepth 100000
set_option maxHeartbeats 4000000
set_option exponentiation.threshold 3000
namespace Ow
open PySem PySem.Spec PyProof.Rows L2
/-- the class has its own [] -/
structure RuleG (P : Program) (w : World) (K : PySem.W.Frag) (mg : Str → Option Value) (base : Heap) (C g : Addr) (gd : FuncData) : Prop where
  hn : PySem.W.noSeq K C = true
  hm : Meth K C "__getitem__" g
  fn : PySem.W.fnIn K g = true
  F : FnOk P w K mg base CX0 1 g gd ["self", "issue"] (spGet C)
  b : Binds K gd ["self", "issue"] []
def rShl : R2 := fun x y H Q => ∃ (i : Int) (k : Nat), x = .int i ∧ y = .int (k : Int) ∧ CShl i (k : Int) ∧ Q (.int (i * 2 ^ k)) H
def heardN (v : Nat) (ns : List Int) : List Nat := (List.range v).filter fun i => hangsB ns (2 ^ (v - 1 - i))
section
variable {P : Program} {w : World} {K : PySem.W.Frag} {mg : Str → Option Value} {base : Heap} {C : Addr}
def spHeard (C : Addr) : Sp := fun vs H Q _ => ∃ (a : Addr) (z : Str) (v : Nat) (ys : List Str) (tab : Str → List Int), vs = [.ref a, .str z] ∧ v ≤ 4 ∧ RuleAt C H a v ys tab ∧ z ∈ ys ∧ (tab z).length = 2 ^ v ∧
  ∀ H' p, Same H H' → H' p = some (.tup ((heardN v (tab z)).map fun i => V.int (i : Nat))) → Q (.ref p) H'
theorem ok_heard {f fT g : Addr} {fd fdT gd : FuncData} (R : RuleC K C) (G : RuleG P w K mg base C g gd) (F : Fun K "heard" "Rule.heard" dHeard f fd) (FT : FnOk P w K mg base CX0 1 fT fdT ["table", "step"] spHangs)
    (kT : PySem.W.keepIn K (.ref fT) = true) (bT : Binds K fdT ["table", "step"] []) (gT : mg "_hangs_on" = some (.ref fT)) (mr : mg "range" = none) (mt : mg "tuple" = none) (me : mg "enumerate" = none) : FnOk P w K mg base CX0 3 f fd ["self", "issue"] (spHeard C) := by
  refine F.ok scHeard (fun vs H Q E h => ?_) (fun cdv A outer s H vs Q E hr h => ?_)
  · obtain ⟨a, z, v, ys, tab, rfl, _⟩ := h
    rfl
  obtain ⟨a, z, v, ys, tab, rfl, hv, hR, hz, hlen, q⟩ := h
  refine ⟨_, pss_cons (ps_set (i := 2) scHeard.nd rfl (.inr rfl) (pe_ixO (pv 0) (pv 1) G.hn G.hm G.fn G.F (hr.mono (by decide)) G.b pass0))
    (pss_cons (ps_setLc (i := 3) (te := tOp rShl (tC (.int 1)) (tOp (rI0 fun i j => .int (i - j)) (tOp (rI0 fun i j => .int (i - j)) (tFld K (tVar 0) "_voters") (tC (.int 1))) (tVar 4))) (own := [("voter", 4)]) (g := gName 4) (tt := tYes) rfl scHeard.nd rfl rfl (sw_true rfl rfl rfl (by decide +kernel)) (pi_range1 (by rfl) mr (pa_cons (pe_fld (pv 0) rfl) pa_nil)) (blkOk_by (N := ["self", "issue", "table", "steps", "voter", "step"]) (sc := defScope dHeard) (by decide +kernel))
      (fun _ _ _ _ _ => pg_name (i := 4) scHeard.nd rfl (Or.inl rfl)) (fun _ _ _ _ _ => pts_nil)
      (fun _ _ _ _ _ => pe_op op_shlN pe_int (pe_op op_sub (pe_op op_sub (pe_fld (pv 0) rfl) pe_int) (pv 4))))
    (pss_one (ps_ret (pe_callTy call_tuple_of (by rfl) mt boot_tup (pa_cons
      (pe_lc (te := tVar 4) (own := [("voter", 4), ("step", 5)]) (g := gTup K 2 (gCons (gName 4) (gCons (gName 5) gNil))) rfl scHeard.nd (pi_enum (by rfl) me (pa_cons (pv 3) pa_nil)) (blkOk_by (N := ["self", "issue", "table", "steps", "voter", "step"]) (sc := defScope dHeard) (by decide +kernel))
        (fun _ _ _ _ _ => pg_tup rfl (pgs_cons (pg_name (i := 4) scHeard.nd rfl (Or.inl rfl)) (pgs_cons (pg_name (i := 5) scHeard.nd rfl (Or.inl rfl)) pgs_nil)))
        (fun _ _ _ _ _ => pts_one (pt_val (pe_call FT (hr.mono (by decide)) (by rfl) gT kT bT .nil pass0 (pa_cons (pv 2) (pa_cons (pv 5) pa_nil)))))
        (fun _ _ _ _ _ => pv 4)) pa_nil))))), ?_⟩
  obtain ⟨dx, t, d, ha, ht, _⟩ := id hR
  refine ⟨.ref a, rfl, .str z, rfl, a, dx, _, rfl, ha, a, z, v, ys, tab, rfl, hR, hz, fun H1 x s1 hx => ?_⟩
  obtain ⟨b, rfl, hb⟩ := hx
  refine ⟨.ref a, rfl, a, C, dx, _, .int v, rfl, s1 _ _ ha, R.cl, R.nV, rfl, v, rfl, by omega, by omega, fun D nD => ?_⟩
  refine lc_map (M := No) (walk_range (lo := 0) (n := v)) (by omega) Jg.no nD (fun i _ y => ∃ k, (List.range v)[i]? = some k ∧ y = .int ((2 ^ (v - 1 - k) : Nat) : Int)) (fun _ _ _ _ _ h => h) (fun Hx _ _ => trivial)
    (fun i x Hx Hx' Kk hi g _ hY hK => ?_) (fun Hx ws g _ eD hlen' hq => ?_)
  · obtain ⟨rfl, rfl⟩ := hY
    refine ⟨rfl, .ref a, rfl, a, C, dx, _, .int v, rfl, (s1.trans g.toSame) _ _ ha, R.cl, R.nV, rfl, _, _, rfl, rfl, _, rfl, _, _, rfl, rfl, 1, v - 1 - i, rfl, ?_, shl_ok (n := 1) (by decide) (by omega), hK _ _ (Gw.refl _) Jg.no ⟨i, List.getElem?_range hi, ?_⟩⟩
    · exact congrArg V.int (by omega)
    · refine congrArg V.int ?_
      rw [Int.one_mul]
      exact (Int.natCast_pow 2 _).symm
  · have e : ws = (List.range v).map fun k => V.int ((2 ^ (v - 1 - k) : Nat) : Int) := list_eq (f := fun k : Nat => V.int ((2 ^ (v - 1 - k) : Nat) : Int)) hlen' (by rw [List.length_range]) hq
    rw [e] at eD
    have sx := s1.trans g.toSame
    have hbx := g.toSame _ _ hb
    refine ⟨.ref D, rfl, D, _, rfl, .of eD, fun D2 nD2 => ?_⟩
    refine lc_it (walk_enum (K := K) (a := D) (xs := (List.range v).map fun k => V.int ((2 ^ (v - 1 - k) : Nat) : Int))) (fun i Hy => Same Hx Hy ∧ Hy D2 = some (.lst (((List.range i).filter fun i => hangsB (tab z) (2 ^ (v - 1 - i))).map fun i => V.int (i : Nat))))
      ⟨same_new nD2, upd_same⟩ (fun i Hy _ h => .of (h.1 _ _ eD)) (fun i x Hy Hy' hi h hY => ?_) (fun Hy h => ?_)
    · obtain ⟨sy, eD2⟩ := h
      obtain ⟨T, x, y, rfl, nT, rfl, hx, hy⟩ := hY
      cases hx
      have hi : i < v := by rw [List.length_map, List.length_range] at hi; exact hi
      have hy : ((List.range v).map fun k => V.int ((2 ^ (v - 1 - k) : Nat) : Int))[i]? = some y := hy
      rw [List.getElem?_map, List.getElem?_range hi] at hy
      cases hy
      refine ⟨T, [.int i, .int ((2 ^ (v - 1 - i) : Nat) : Int)], rfl, .of upd_same, rfl, _, _, rfl, _, _, rfl, rfl, rfl, ?_⟩
      refine ⟨.ref b, rfl, .int _, rfl, b, v, v - 1 - i, tab z, rfl, ?_, hv, by omega, hlen, fun H2 s2 => ⟨_, rfl, ?_⟩⟩
      · rw [upd_ne (ne_of_none (sy _ _ hbx) nT)]
        exact sy _ _ hbx
      have eD3 : H2 D2 = some (.lst (((List.range i).filter fun i => hangsB (tab z) (2 ^ (v - 1 - i))).map fun i => V.int (i : Nat))) := s2 _ _ (same_new nT _ _ eD2)
      have sy2 : Same Hx H2 := sy.trans ((same_new nT).trans s2)
      cases hb2 : hangsB (tab z) (2 ^ (v - 1 - i)) with
      | true =>
        refine iteT ⟨.int i, rfl, _, eD3, ?_, fun b o e => ?_, ?_⟩
        · rw [List.length_map]
          refine small60 (Nat.le_trans (List.length_filter_le _ _) ?_)
          rw [List.length_range]
          omega
        · rw [upd_ne (ne_of_none e nD2)]
          exact sy2 _ _ e
        · rw [upd_same, List.range_succ, List.filter_append, List.map_append]
          congr 3
          rw [List.filter_cons, hb2]
          rfl
      | false =>
        refine iteF ⟨sy2, ?_⟩
        rw [eD3, List.range_succ, List.filter_append]
        congr 3
        rw [List.filter_cons, hb2]
        simp
    · obtain ⟨sy, eD2⟩ := h
      rw [List.length_map, List.length_range] at eD2
      exact ⟨D2, _, rfl, .inl ⟨.of eD2, fun q1 nq => q _ q1 (sx.trans (sy.trans (same_new nq))) upd_same⟩⟩
end
end Ow

set_option Elab.async false
set_option linter.all false
set_option maxRecDepth 100000
set_option maxHeartbeats 4000000
set_option exponentiation.threshold 3000
namespace Ow
open PySem PySem.Spec PyProof.Rows L2
theorem rowsN_bit : ∀ v, ∀ r ∈ rowsN v, ∀ b ∈ r, b = 0 ∨ b = 1
  | 0, r, hr, b, hb => by rw [List.mem_singleton.mp hr] at hb; cases hb
  | n + 1, r, hr, b, hb => by
    obtain ⟨q, hq, hr⟩ := List.mem_flatMap.mp hr
    have ih := rowsN_bit n q hq
    simp only [List.mem_cons, List.not_mem_nil, or_false] at hr
    rcases hr with rfl | rfl
    · rcases List.mem_append.mp hb with hb | hb
      · exact ih b hb
      · exact .inl (List.mem_singleton.mp hb)
    · rcases List.mem_append.mp hb with hb | hb
      · exact ih b hb
      · exact .inr (List.mem_singleton.mp hb)
theorem rows_first : ∀ v ≤ 4, (rowsN v)[0]? = some (List.replicate v 0) := by decide
theorem rows_last : ∀ v ≤ 4, (rowsN v)[2 ^ v - 1]? = some (List.replicate v 1) := by decide
/-- a table made row by row -/
theorem good_of {v : Nat} (h1 : 1 ≤ v) (h4 : v ≤ 4) {g : List Int → Int} (hb : ∀ r ∈ rowsN v, g r = 0 ∨ g r = 1) (h0 : g (List.replicate v 0) = 0) (hl : g (List.replicate v 1) = 1) : GoodT v ((rowsN v).map g) := by
  refine ⟨by rw [List.length_map, rowsN_len], fun n hn => ?_, ?_, ?_⟩
  · obtain ⟨r, hr, rfl⟩ := List.mem_map.mp hn
    exact hb r hr
  · rw [List.getElem?_map, rows_first v h4]
    show some _ = _
    rw [h0]
  · rw [List.getElem?_map, rows_last v h4]
    show some _ = _
    rw [hl]
theorem follow_good {v i : Nat} (h4 : v ≤ 4) (hi : i < v) : GoodT v (followN v i) := by
  refine good_of (by omega) h4 (fun r hr => ?_) ?_ ?_
  · have lr := rowsN_size v r hr
    rw [List.getD_eq_getElem?_getD, List.getElem?_eq_getElem (by omega)]
    exact rowsN_bit v r hr _ (List.getElem_mem _)
  · rw [List.getD_eq_getElem?_getD, List.getElem?_replicate, if_pos hi]
    rfl
  · rw [List.getD_eq_getElem?_getD, List.getElem?_replicate, if_pos hi]
    rfl
theorem all_rep {α β : Type} {R : α → β → Prop} {x : α} {y : β} (h : R x y) : ∀ n, All2 R (List.replicate n x) (List.replicate n y)
  | 0 => .nil
  | n + 1 => .cons h (all_rep h n)
theorem rep_flat {α : Type} (x : α) : ∀ n, (List.replicate n [x]).flatten = List.replicate n x
  | 0 => rfl
  | n + 1 => by rw [List.replicate_succ, List.flatten_cons, rep_flat x n]; rfl
theorem rows_of {H : Hp} {v : Nat} : ∀ {xs : List V}, (∀ x ∈ xs, ∃ ns, IsRow H x ns ∧ GoodT v ns) → ∃ rs, All2 (IsRow H) xs rs ∧ ∀ r ∈ rs, GoodT v r
  | [], _ => ⟨[], .nil, fun _ h => nomatch h⟩
  | x :: xs, h => by
    obtain ⟨ns, h1, g1⟩ := h x List.mem_cons_self
    obtain ⟨rs, h2, g2⟩ := rows_of fun y hy => h y (List.mem_cons_of_mem _ hy)
    exact ⟨ns :: rs, .cons h1 h2, fun r hr => by
      rcases List.mem_cons.mp hr with rfl | hr
      · exact g1
      · exact g2 r hr⟩
end Ow

set_option Elab.async false
set_option linter.all false
set_option maxRecDepth 100000
set_option maxHeartbeats 4000000
namespace Ow
open PySem PySem.Spec PyProof.Rows L2
/-- the signs of a text, each a text -/
def signsV (z : Str) : List V := z.cps.toList.map fun c => .str ⟨#[c]⟩
def rListS : List V → Hp → VK → Prop := fun xs H Q => ∃ z, xs = [.str z] ∧ z.length ≤ 5000 ∧ ∀ p, H p = none → Q (.ref p) (upd H p (.lst (signsV z)))
theorem call_listS {X : Cx} (hc : X.calm = true) : CallR X (.type "list") rListS := by
  intro pins s σ H xs us Q I r h
  obtain ⟨z, rfl, hz, q⟩ := h
  obtain ⟨u, rfl, rx⟩ := vals1 r
  obtain ⟨t, rfl⟩ := rx
  have hsz : z.cps.size ≤ sizeLine := Nat.le_trans hz (by decide)
  refine call_list_str (I.ok.hd hc) z t (fun h' tk acc' c' hk hS hacc => ?_) hsz
  refine ⟨.ref s.heap.objs.size, _, I.laid (t' := tk) hk (Nat.le_refl _) (show ObjOk X.prog X.w _ h' _ (.lst (signsV z)) from ?_), rfl, q _ (I.hok.fresh (Nat.le_refl _))⟩
  refine ⟨by unfold signsV; rw [List.length_map, Array.length_toList]; exact hsz, acc'.toList, c', ?_, by rw [Array.toArray_toList]; exact hS⟩
  refine vals_of_at (by unfold signsV; rw [List.length_map, Array.length_toList, Array.length_toList]; exact hacc.1.symm) fun j x v hx hv => ?_
  obtain ⟨c, u, hc2, rfl⟩ := hacc.2 j v (by rw [Array.getElem?_toList] at hv; exact hv)
  unfold signsV at hx
  rw [List.getElem?_map, Array.getElem?_toList, hc2] at hx
  cases hx
  exact ⟨_, rfl⟩
end Ow

set_option Elab.async false
set_option linter.all false
set_option maxRecDepth 100000
set_option maxHeartbeats 4000000
set_option exponentiation.threshold 3000
namespace Ow
open PySem PySem.Spec PyProof.Rows L2
theorem scJumbled : FnScope ["jug", "items", "waits", "turn"] ["jug", "items"] (defScope dJumbled) := ⟨rfl, rfl, rfl, by decide +kernel, rfl, by decide +kernel, by decide +kernel⟩
/-- what a list is made of: a list, or a text's signs -/
def Src (H : Hp) (J : Addr) (x : V) (xs : List V) : Prop := (∃ L, x = .ref L ∧ L ≠ J ∧ H L = some (.lst xs)) ∨ ∃ z : Str, x = .str z ∧ z.length ≤ 60 ∧ xs = signsV z
def rListA (K : PySem.W.Frag) : List V → Hp → VK → Prop := fun xs H Q => (∃ p ys, xs = [.ref p] ∧ (SqL K H p ys ∨ SqT K H p ys) ∧ ∀ l, H l = none → Q (.ref l) (upd H l (.lst ys))) ∨ rListS xs H Q
theorem call_listA {X : Cx} (hc : X.calm = true) : CallR X (.type "list") (rListA X.K) := CallR.or call_list_of (call_listS hc)
theorem Src.call {K : PySem.W.Frag} {H : Hp} {J : Addr} {x : V} {xs : List V} {Q : VK} (h : Src H J x xs) (q : ∀ l, H l = none → Q (.ref l) (upd H l (.lst xs))) : rListA K [x] H Q := by
  rcases h with ⟨L, rfl, _, hL⟩ | ⟨z, rfl, hz, rfl⟩
  · exact .inl ⟨L, xs, rfl, .inl (.of hL), q⟩
  · exact .inr ⟨z, rfl, Nat.le_trans hz (by decide), q⟩
theorem Src.same {H H' : Hp} {J : Addr} {x : V} {xs : List V} (h : Src H J x xs) (s : Same H H') : Src H' J x xs := by
  rcases h with ⟨L, e, n, hL⟩ | h
  · exact .inl ⟨L, e, n, s _ _ hL⟩
  · exact .inr h
theorem perm_erase {α : Type} : ∀ (ws : List α) (k : Nat) (h : k < ws.length), (ws[k] :: ws.eraseIdx k).Perm ws
  | w :: ws, 0, _ => .refl _
  | w :: ws, k + 1, h => by
    show (ws[k]'(Nat.lt_of_succ_lt_succ h) :: w :: ws.eraseIdx k).Perm (w :: ws)
    exact (List.Perm.swap w _ _).trans ((perm_erase ws k (Nat.lt_of_succ_lt_succ h)).cons w)
theorem yes_of' {σ : L2.St} {H : Hp} {A B : Hp → Prop} (h : A H) : tYes σ H (fun b H3 => if b = true then A H3 else B H3) := by
  show if true = true then A H else B H
  rw [if_pos rfl]
  exact h
section
variable {P : Program} {w : World} {K : PySem.W.Frag} {mg : Str → Option Value} {base : Heap}
/-- the items in some order, a new list -/
def spJum : Sp := fun vs H Q _ => ∃ (J : Addr) (x0 : V) (xs : List V), vs = [.ref J, x0] ∧ Jug H J ∧ Src H J x0 xs ∧ xs.length ≤ 60 ∧ ∀ H' p ys, Sb J H H' → Jug H' J → H p = none → H' p = some (.lst ys) → ys.Perm xs → Q (.ref p) H'
theorem ok_jumbled {f fD : Addr} {fd fdD : FuncData} (F : Fun K "_law_jumbled" "_law_jumbled" dJumbled f fd)
    (FD : FnOk P w K mg base CX0 1 fD fdD ["jug", "total"] spDip) (kD : PySem.W.keepIn K (.ref fD) = true) (bD : Binds K fdD ["jug", "total"] []) (gD : mg "_law_dip" = some (.ref fD))
    (mls : mg "list" = none) (ml : mg "len" = none) : FnOk P w K mg base CX0 2 f fd ["jug", "items"] spJum := by
  refine F.ok scJumbled (fun vs H Q E h => ?_) (fun cdv A outer s H vs Q E hr h => ?_)
  · obtain ⟨J, x0, xs, rfl, _⟩ := h
    rfl
  obtain ⟨J, x0, xs, rfl, hJ, hL, hl, q⟩ := h
  refine ⟨_, pss_cons (ps_set (i := 2) scJumbled.nd rfl (.inr rfl) (pe_callTy (call_listA rfl) (by rfl) mls (by decide +kernel) (pa_cons (pv 1) pa_nil)))
    (pss_one (ps_ret (pe_lc (te := tBM K "list" rPopAt (tVar 2) (tCons (tCall spDip [] E0 (tCons (tVar 0) (tCons (tCB (fun xs H Q => ∃ p ys, xs = [.ref p] ∧ (SqL K H p ys ∨ SqT K H p ys) ∧ Q (.int ys.length) H) (tCons (tVar 2) tNil)) tNil))) tNil)) (own := [("turn", 3)]) (g := gName 3) (tt := tYes) rfl scJumbled.nd
      (pi_list (pe_callTy (call_listA rfl) (by rfl) mls (by decide +kernel) (pa_cons (pv 1) pa_nil))) (blkOk_by (N := ["jug", "items", "waits", "turn"]) (sc := defScope dJumbled) (by decide +kernel))
      (fun _ _ _ _ _ => pg_name (i := 3) scJumbled.nd rfl (Or.inl rfl)) (fun _ _ _ _ _ => pts_nil)
      (fun _ _ _ _ _ => pe_bm PySem.F.plainAttrs_list PySem.F.slot_list_pop PySem.F.type_list_pop mt_popAt (pv 2) (pa_cons (pe_call FD hr (by rfl) gD kD bD .nil pass0 (pa_cons (pv 0) (pa_cons (pe_callB call_len_seq (by rfl) ml PySem.boot_len (pa_cons (pv 2) pa_nil)) pa_nil))) pa_nil))))), ?_⟩
  refine ⟨x0, rfl, ?_⟩
  dsimp only [tNil]
  refine hL.call (K := K) fun W nW => ?_
  have sW := same_new (o := .lst xs) nW
  have eW : upd H W (.lst xs) W = some (.lst xs) := upd_same
  have hL1 := hL.same sW
  have j1 := jug_same sW hJ
  have WJ : W ≠ J := jug_none hJ nW
  have keep1 : ∀ b o, H b = some o → b ≠ W := fun b o e => ne_of_none e nW
  generalize upd H W (.lst xs) = H1 at sW eW hL1 j1 ⊢
  refine ⟨x0, rfl, ?_⟩
  dsimp only [tNil]
  refine hL1.call (K := K) fun T nT => ⟨T, rfl, ⟨xs, .of upd_same⟩, fun D nD => ?_⟩
  have sT := same_new (o := .lst xs) nT
  have eW2 := sT _ _ eW
  have TJ : T ≠ J := jug_none j1 nT
  have TW : T ≠ W := (ne_of_none eW nT).symm
  have j2 := jug_same sT j1
  have eT : upd H1 T (.lst xs) T = some (.lst xs) := upd_same
  have keep2 : ∀ b o, H b = some o → upd H1 T (.lst xs) b = some o := fun b o e => sT _ _ (sW _ _ e)
  have nD0 : H D = none := by
    cases e : H D with
    | none => rfl
    | some o => rw [keep2 D o e] at nD; cases nD
  generalize upd H1 T (.lst xs) = H2 at eW2 j2 eT keep2 nD ⊢
  have DJ : D ≠ J := jug_none j2 nD
  have DW : D ≠ W := (ne_of_none eW2 nD).symm
  have DT : D ≠ T := (ne_of_none eT nD).symm
  refine lc_it (walk_list (K := K) (a := T) (xs := xs)) (fun i Hx => (∀ b o, b ≠ J → b ≠ W → b ≠ D → H2 b = some o → Hx b = some o) ∧ Jug Hx J ∧ ∃ ws ys, Hx W = some (.lst ws) ∧ Hx D = some (.lst ys) ∧ (ys ++ ws).Perm xs ∧ ys.length = i)
    ⟨fun b o _ _ n e => by rw [upd_ne n]; exact e, jug_keep j2 DJ, xs, [], by rw [upd_ne DW.symm]; exact eW2, upd_same, .refl _, rfl⟩ (fun i Hx _ h => .of (h.1 _ _ TJ TW DT.symm eT)) (fun i x Hx Hx' hi h hY => ?_) (fun Hx h => ?_)
  · obtain ⟨rfl, hx⟩ := hY
    obtain ⟨kp, jx, ws, ys, ew, ed, pm, ly⟩ := h
    have lw : ys.length + ws.length = xs.length := by rw [← List.length_append]; exact pm.length_eq
    have pos : 0 < ws.length := by omega
    refine ⟨rfl, yes_of' ?_⟩
    refine ⟨.ref W, rfl, .inl ⟨rfl, _, .of ew⟩, .ref J, rfl, .ref W, rfl, W, ws, rfl, .inl (.of ew), J, ws.length, rfl, by omega, ?_, jx, fun H3 k sb3 j3 k0 kl => ?_⟩
    · exact Nat.lt_of_lt_of_le (by omega : ((ws.length : Nat) : Int).natAbs < 2 ^ 6) (Nat.pow_le_pow_right (by decide) (by decide))
    have ew3 := sb3 _ _ WJ ew
    have ed3 := sb3 _ _ DJ ed
    have kn : k.toNat < ws.length := by omega
    refine ⟨W, ws, k, k.toNat, ws[k.toNat], rfl, rfl, ew3, by omega, by omega, seqIndex_of k0 kl, List.getElem?_eq_getElem kn, ys, ?_, small60 (by omega), fun b o n1 n2 n3 e => ?_, ?_, ws.eraseIdx k.toNat, ys ++ [ws[k.toNat]], ?_, upd_same, ?_, by rw [List.length_append, ly]; rfl⟩
    · rw [upd_ne DW]
      exact ed3
    · rw [upd_ne n3, upd_ne n2]
      exact sb3 _ _ n1 (kp b o n1 n2 n3 e)
    · exact jug_keep (jug_keep j3 WJ) DJ
    · rw [upd_ne DW.symm]
      exact upd_same
    · have p1 : (ws[k.toNat] :: ws.eraseIdx k.toNat).Perm ws := perm_erase _ _ kn
      have : (ys ++ [ws[k.toNat]] ++ ws.eraseIdx k.toNat) = ys ++ (ws[k.toNat] :: ws.eraseIdx k.toNat) := by simp
      rw [this]
      exact (List.Perm.append_left ys p1).trans pm
  · obtain ⟨kp, jx, ws, ys, ew, ed, pm, ly⟩ := h
    have lw : ys.length + ws.length = xs.length := by rw [← List.length_append]; exact pm.length_eq
    have e0 : ws = [] := List.length_eq_zero_iff.mp (by omega)
    rw [e0, List.append_nil] at pm
    exact q Hx D ys (fun b o n e => kp b o n (keep1 b o e) (fun z => by rw [z, nD0] at e; cases e) (keep2 b o e)) jx nD0 ed pm
end
end Ow

set_option Elab.async false
set_option linter.all false
set_option maxRecDepth 100000
set_option maxHeartbeats 4000000
set_option exponentiation.threshold 3000
namespace Ow
open PySem PySem.Spec PyProof.Rows L2
/-- the tables by the names -/
def tabOf : List Str → List (List Int) → Str → List Int
  | z :: zs, r :: rs, y => if y = z then r else tabOf zs rs y
  | _, _, _ => []
theorem tab_all : ∀ {zs : List Str} {rs : List (List Int)}, zs.Nodup → zs.length = rs.length → zs.map (tabOf zs rs) = rs
  | [], [], _, _ => rfl
  | [], _ :: _, _, h => nomatch h
  | _ :: _, [], _, h => nomatch h
  | z :: zs, r :: rs, nd, h => by
    have nd' := List.nodup_cons.mp nd
    rw [List.map_cons]
    have e1 : tabOf (z :: zs) (r :: rs) z = r := if_pos rfl
    rw [e1]
    congr 1
    have e2 : zs.map (tabOf (z :: zs) (r :: rs)) = zs.map (tabOf zs rs) := List.map_congr_left fun y hy => if_neg fun e => nd'.1 (by rw [← e]; exact hy)
    rw [e2]
    exact tab_all nd'.2 (Nat.succ.inj h)
theorem tab_at {zs : List Str} {rs : List (List Int)} (nd : zs.Nodup) (h : zs.length = rs.length) {i : Nat} {z : Str} {r : List Int} (hz : zs[i]? = some z) (hr : rs[i]? = some r) : tabOf zs rs z = r := by
  have e := tab_all nd h
  have := congrArg (fun l => l[i]?) e
  simp only [List.getElem?_map, hz, hr] at this
  exact Option.some.inj this
theorem merge_new : ∀ (kvs acc : List (Key × V)), (∀ kv ∈ kvs, valV acc kv.1 = none) → (kvs.map (·.1)).Nodup → mergeK acc kvs = acc ++ kvs
  | [], acc, _, _ => by simp [mergeK]
  | kv :: kvs, acc, h, nd => by
    have nd' := List.nodup_cons.mp nd
    have e : mergeK acc (kv :: kvs) = mergeK (putK acc kv.1 kv.2) kvs := rfl
    rw [e, putK_new kv.2 (h kv List.mem_cons_self), merge_new kvs _ (fun p hp => ?_) nd'.2]
    · simp
    · rw [valV_snoc _ _ _ _ (h kv List.mem_cons_self), if_neg]
      · exact h p (List.mem_cons_of_mem _ hp)
      · intro e
        exact nd'.1 (List.mem_map.mpr ⟨p, hp, e⟩)
theorem paired_of {α β : Type} {F : α → β → Prop} : ∀ {xs : List α} {ys : List β}, All2 F xs ys → Paired F xs ys
  | _, _, .nil => .nil
  | _, _, .cons h t => .cons h (paired_of t)
theorem zip_tab {H : Hp} {tab : Str → List Int} : ∀ {zs : List Str} {xs : List V}, All2 (fun x z => IsRow H x (tab z)) xs zs → All2 (TabR H tab) (List.zipWith (fun z x => ((Sum.inr z : Key), x)) zs xs) zs
  | _, _, .nil => .nil
  | _, _, .cons h t => .cons ⟨rfl, h⟩ (zip_tab t)
theorem ltCps_tri : ∀ a b : List Nat, ltCps a b = false → ltCps b a = false → a = b
  | [], [], _, _ => rfl
  | [], _ :: _, h, _ => nomatch h
  | _ :: _, [], _, h => nomatch h
  | a :: r, b :: t, h, g => by
    unfold ltCps at h g
    have e : a = b := by
      by_cases h1 : a < b
      · simp [h1] at h
      · by_cases h2 : b < a
        · simp [h2] at g
        · omega
    subst e
    simp only [Nat.lt_irrefl, decide_false, Bool.false_or, beq_self_eq_true, Bool.true_and] at h g
    rw [ltCps_tri r t h g]
theorem str_ext {a b : Str} (h : a.cps.toList = b.cps.toList) : a = b := by
  cases a
  cases b
  congr 1
  exact Array.toList_inj.mp h
theorem risingS_all : ∀ (r : List Str) (p : Str), risingS p r = true → ∀ z ∈ r, ltCps z.cps.toList p.cps.toList = false
  | [], _, _, _, h => nomatch h
  | x :: r, p, h, z, hz => by
    unfold risingS at h
    rw [Bool.and_eq_true] at h
    have h1 : ltCps x.cps.toList p.cps.toList = false := by
      have := h.1
      cases q : ltCps x.cps.toList p.cps.toList with
      | true => rw [q] at this; cases this
      | false => rfl
    rcases List.mem_cons.mp hz with rfl | hz
    · exact h1
    · have h2 := risingS_all r x h.2 z hz
      cases q : ltCps x.cps.toList z.cps.toList with
      | false =>
        have e := ltCps_tri _ _ q h2
        rw [← e]
        exact h1
      | true =>
        rw [ltCps_eq] at h1 q ⊢
        exact decide_eq_false fun a3 => of_decide_eq_false h1 (List.lt_trans (of_decide_eq_true q) a3)
/-- a sorted list of texts without repeats is told by what it has -/
theorem sorted_unique : ∀ {ys zs : List Str}, ys.Perm zs → ys.Nodup → sortedS ys = true → sortedS zs = true → ys = zs
  | [], zs, p, _, _, _ => (List.nil_perm.mp p).symm
  | y :: ys, [], p, _, _, _ => absurd p.length_eq (by simp)
  | y :: ys, z :: zs, p, nd, h1, h2 => by
    have e : y = z := by
      have m1 : y ∈ z :: zs := p.mem_iff.mp List.mem_cons_self
      have m2 : z ∈ y :: ys := p.mem_iff.mpr List.mem_cons_self
      rcases List.mem_cons.mp m1 with e | m1
      · exact e
      · rcases List.mem_cons.mp m2 with e | m2
        · exact e.symm
        · exact str_ext (ltCps_tri _ _ (risingS_all zs z h2 y m1) (risingS_all ys y h1 z m2))
    subst e
    have nx : ∀ {p : Str} {l : List Str}, risingS p l = true → sortedS l = true := fun {p l} h => by
      cases l with
      | nil => rfl
      | cons x r =>
        unfold risingS at h
        rw [Bool.and_eq_true] at h
        exact h.2
    rw [sorted_unique (List.Perm.cons_inv p) (List.nodup_cons.mp nd).2 (nx h1) (nx h2)]
end Ow

set_option Elab.async false
set_option linter.all false
set_option maxRecDepth 100000
set_option maxHeartbeats 4000000
namespace Ow
open PySem PySem.Spec PyProof.Rows L2
/-! ### own in, not in, len, str, () -/
section
variable {X : Cx} {CX : CXT} {k : Nat} {f C : Addr} {fd : FuncData} {ps : List Str} {sp : Sp} {E : XK}
def rInO (C : Addr) (sp : Sp) (E : XK) (neg : Bool) : R2 := fun x y H Q => ∃ a dx fs, y = .ref a ∧ H a = some (.ins C dx fs) ∧ sp [.ref a, x] H (fun v H' => ∃ b : Bool, v = .bl b ∧ Q (.bl (if neg then !b else b)) H') E
theorem op_inO (hm : Meth X.K C "__contains__" f) (F : FnOk X.prog X.w X.K X.mg X.base CX k f fd ps sp) (hr : Room k X.A) (hb : Binds X.K fd ps []) (hx : Passes CX X E) : OpR X (compareOp .In) (rInO C sp E false) := by
  intro pins s σ H x y v u Q I rx ry h
  obtain ⟨a, dx, fs, rfl, ha, q⟩ := h
  cases ry
  obtain ⟨mA, J, _⟩ := ins_get I.hok ha
  obtain ⟨od, J, _⟩ := J.look
  obtain ⟨m, hF⟩ := I.fr
  have rr : Vals [V.ref a, x] [Value.ref a, v] := .cons rfl (.cons rx .nil)
  refine PySem.W.in_K hF I.ok.mod.kin J hm.at_ hm.fn (wpAny_mono (run_at (A := X.A) rfl F hr hb hx I rr q) (fun r s' hq => ?_) fun _ _ z => z)
  obtain ⟨z, H', I', rz, b, rfl, q'⟩ := hq
  cases rz
  exact wpAny_truthy_bool ⟨.bl b, H', I', rfl, q'⟩
theorem op_notInO (hm : Meth X.K C "__contains__" f) (F : FnOk X.prog X.w X.K X.mg X.base CX k f fd ps sp) (hr : Room k X.A) (hb : Binds X.K fd ps []) (hx : Passes CX X E) : OpR X (compareOp .NotIn) (rInO C sp E true) := by
  intro pins s σ H x y v u Q I rx ry h
  obtain ⟨a, dx, fs, rfl, ha, q⟩ := h
  cases ry
  obtain ⟨mA, J, _⟩ := ins_get I.hok ha
  obtain ⟨od, J, _⟩ := J.look
  obtain ⟨m, hF⟩ := I.fr
  have rr : Vals [V.ref a, x] [Value.ref a, v] := .cons rfl (.cons rx .nil)
  refine PySem.W.notIn_K hF I.ok.mod.kin J hm.at_ hm.fn (wpAny_mono (run_at (A := X.A) rfl F hr hb hx I rr q) (fun r s' hq => ?_) fun _ _ z => z)
  obtain ⟨z, H', I', rz, b, rfl, q'⟩ := hq
  cases rz
  exact wpAny_truthy_bool ⟨.bl (!b), H', I', rfl, q'⟩
/-- len(o) -/
theorem call_lenO (hm : Meth X.K C "__len__" f) (F : FnOk X.prog X.w X.K X.mg X.base CX k f fd ps sp) (hr : Room (k + 1) X.A) (hb : Binds X.K fd ps []) (hx : Passes CX X E) :
    CallR X (.builtin "len") (fun xs H Q => ∃ a dx fs, xs = [.ref a] ∧ H a = some (.ins C dx fs) ∧ sp [.ref a] H (fun v H' => ∃ n : Int, v = .int n ∧ 0 ≤ n ∧ n < 2 ^ 63 ∧ Q (.int n) H') E) := by
  intro pins s σ H xs us Q I r h
  obtain ⟨a, dx, fs, rfl, ha, q⟩ := h
  obtain ⟨u, rfl, rx⟩ := vals1 r
  cases rx
  obtain ⟨mA, J, _⟩ := ins_get I.hok ha
  obtain ⟨od, J, _⟩ := J.look
  obtain ⟨m, hF⟩ := I.fr
  have rr : Vals [V.ref a] [Value.ref a] := .cons rfl .nil
  refine PySem.W.len_K hF I.ok.mod.kin J hm.at_ hm.fn (wpAny_mono (run_at (A := X.A.in1) rfl F hr.in1 hb hx I rr q) (fun r s' hq => ?_) fun _ _ z => z)
  obtain ⟨z, H', I', rz, n, rfl, h0, h1, q'⟩ := hq
  obtain ⟨t, rfl⟩ := rz
  exact ⟨⟨h0, h1⟩, .int n, H', I'.tok _, ⟨_, rfl⟩, q'⟩
/-- str(o) -/
theorem call_strO (hm : Meth X.K C "__str__" f) (F : FnOk X.prog X.w X.K X.mg X.base CX k f fd ps sp) (hr : Room (k + 2) X.A) (hb : Binds X.K fd ps []) (hx : Passes CX X E) :
    CallR X (.type "str") (fun xs H Q => ∃ a dx fs, xs = [.ref a] ∧ H a = some (.ins C dx fs) ∧ sp [.ref a] H (fun v H' => ∃ z : Str, v = .str z ∧ Q (.str z) H') E) := by
  intro pins s σ H xs us Q I r h
  obtain ⟨a, dx, fs, rfl, ha, q⟩ := h
  obtain ⟨u, rfl, rx⟩ := vals1 r
  cases rx
  obtain ⟨mA, J, _⟩ := ins_get I.hok ha
  obtain ⟨od, J, _⟩ := J.look
  have rr : Vals [V.ref a] [Value.ref a] := .cons rfl .nil
  have hr2 : Room k X.A.in1.in1 := hr.in1.in1
  have hu : X.A.in1.in1.units < cLine := by have := hr2.un; omega
  refine PySem.W.kso_call hu I.kIn J hm.at_ hm.fn (wpAny_mono (run_at (A := X.A.in1.in1) rfl F hr2 hb hx I rr q) (fun r s' hq => ?_) fun _ _ z => z)
  obtain ⟨z, H', I', rz, t, rfl, q'⟩ := hq
  obtain ⟨t', rfl⟩ := rz
  exact ⟨.str t, H', I', ⟨_, rfl⟩, q'⟩
end
end Ow

set_option Elab.async false
set_option linter.all false
set_option maxRecDepth 100000
set_option maxHeartbeats 4000000
namespace Ow
open PySem PySem.Spec PyProof.Rows L2
open PySem.Calls in
theorem callWith_O {M : Model} {A : Around} {E : Value → Shared → Prop} {s : Shared} {K : PySem.W.Frag} {x C : Addr} {first : List Value} {Q : Value → Shared → Prop} {pos : Pos} {args : List (Bool × Sem Value)} {keywords : List (Option Str × Sem Value)}
    (hplain : (args.any (·.1) || keywords.any (·.1.isNone)) = false)
    (h : wpAny M A (evalArgs (.ref x) true args keywords) (fun a s₁ => (∃ ox od, PySem.W.InstAt s₁.heap x ox C od ∧ ox.data = .plain) ∧ wpAny M A (call (.ref x) (first ++ a.pos) a.kw) Q E s₁) E s) : wpAny M A (callWith pos (.ref x) first args keywords) Q E s := by
  unfold callWith
  refine wpAny_bind (wpAny_holding (wpAny_mono h (fun a s₁ h₁ => wpAny_bind (wpAny_standAt ?_)) fun _ _ y => y))
  obtain ⟨⟨ox, od, I, hd⟩, h2⟩ := h₁
  have L := PySem.W.kco_keeper (M := M) I hd
  simp only [hplain]
  refine wpAny_bind (L.here ?_)
  have tail : ∀ {t : Sem Value}, wpAny M A t Q E s₁ → wpAny M A (t >>= fun r => holding [r] point >>= fun _ => pure r) Q E s₁ :=
    fun ht => wpAny_bind (wpAny_mono ht (fun r s₂ hr => wpAny_bind (wpAny_holding (wpAny_point (wpAny_pure hr)))) fun _ _ y => y)
  exact tail (wpAny_operateT h2)
section
variable {X : Cx} {CX : CXT} {k : Nat} {f C : Addr} {fd : FuncData} {ps : List Str} {sp : Sp} {E : XK} {x : Str} {p pos : Pos} {e : Expr} {es : List Expr} {t : TA} {tf : TE}
/-- o(e, ..), o a name that holds an instance of an own class with its own () -/
def tCallO (C : Addr) (sp : Sp) (E : XK) (tf : TE) (t : TA) : TE := fun σ H Q => tf σ H fun y H1 => ∃ a, y = .ref a ∧ t σ H1 fun vs H2 => (∃ dx fs, H2 a = some (.ins C dx fs)) ∧ sp (.ref a :: vs) H2 Q E
theorem pe_callO (hf : PE X (.Name x p) tf) (hm : Meth X.K C "__call__" f) (hfn : PySem.W.fnIn X.K f = true) (F : FnOk X.prog X.w X.K X.mg X.base CX k f fd ps sp) (hr : Room k X.A) (hb : Binds X.K fd ps []) (hx : Passes CX X E) (ha : PA X (e :: es) t)
    (he : starEach (e :: es) X.env = (false, eval e X.env) :: starEach es X.env := by rfl) (hpl : (backTo pos (starEach es X.env)).any (·.1) = false := by rfl) : PE X (.Call (.Name x p) (e :: es) [] pos) (tCallO C sp E tf t) := by
  refine ⟨fun pins s σ H Q I h => ?_⟩
  refine wpAny_Call_Name_kw (thn (hf.run pins s σ H _ I h) fun u s1 ⟨y, H1, I1, r1, a, ey, q1⟩ => ?_)
  subst ey
  obtain rfl : u = Value.ref a := r1
  rw [he]
  refine callWith_O (C := C) (K := X.K) (by show ((false || (backTo pos (starEach es X.env)).any (·.1)) || false) = false; rw [hpl]; rfl) (Calls.evalArgs_plain ?_)
  have hA := ha.run pos pins s1 σ H1 _ I1 q1
  rw [he] at hA
  refine thn hA fun us s2 ⟨vs, H2, I2, r2, ⟨dx, fs, hins⟩, q2⟩ => ?_
  obtain ⟨mA, J, _⟩ := ins_get I2.hok hins
  obtain ⟨od, J, _⟩ := J.look
  refine ⟨⟨_, _, J, rfl⟩, ?_⟩
  have rr : Vals (V.ref a :: vs) (Value.ref a :: us) := .cons rfl r2
  have hl : (Value.ref a :: us).length = ps.length := by rw [← rr.length]; exact F.len _ _ _ _ q2
  have b := hb s2 (Value.ref a :: us) I2.kIn (by rw [List.append_nil]; exact hl)
  rw [List.append_nil] at b
  refine wpAny_call (PySem.W.kco_code I2.kIn J rfl hm.at_ hm.fn hfn (codeAny_mono (F.run X.A X.stack s2 H2 ⟨Value.ref a :: us, []⟩ _ (V.ref a :: vs) Q E hr I2.env0 b rr q2) fun o s' hq => ?_))
  cases o with
  | error e => exact hx pins σ H2 s2 e s' I2 hq
  | ok fl =>
    cases fl with
    | ret u => exact I2.after hq
    | next => exact False.elim hq
    | brk => exact False.elim hq
    | cont => exact False.elim hq
end
end Ow

set_option Elab.async false
set_option linter.all false
set_option maxRecDepth 100000
set_option maxHeartbeats 4000000
set_option exponentiation.threshold 3000
namespace Ow
open PySem PySem.Spec PyProof.Rows L2
theorem scPlace : FnScope ["values", "place", "value"] ["values"] (defScope dPlace) := ⟨rfl, rfl, rfl, by decide +kernel, rfl, by decide +kernel, by decide +kernel⟩
theorem scLen : FnScope ["self"] ["self"] (defScope dLen) := ⟨rfl, rfl, rfl, by decide +kernel, rfl, by decide +kernel, by decide +kernel⟩
theorem scContains : FnScope ["self", "value"] ["self", "value"] (defScope dContains) := ⟨rfl, rfl, rfl, by decide +kernel, rfl, by decide +kernel, by decide +kernel⟩
theorem scNeedIssues : FnScope ["issues"] ["issues"] (defScope dNeedIssues) := ⟨rfl, rfl, rfl, by decide +kernel, rfl, by decide +kernel, by decide +kernel⟩
def placeN (ns : List Int) : Int := ns.foldl (fun p n => 2 * p + n) 0
section
variable {P : Program} {w : World} {K : PySem.W.Frag} {mg : Str → Option Value} {base : Heap} {C : Addr}
def spPlace : Sp := fun vs H Q _ => ∃ (x : V) (ns : List Int), vs = [x] ∧ IsRow H x ns ∧ ∀ H', Same H H' → Q (.int (placeN ns)) H'
theorem ok_place {f : Addr} {fd : FuncData} (F : Fun K "place_of" "place_of" dPlace f fd) : FnOk P w K mg base CX0 1 f fd ["values"] spPlace := by
  refine F.ok scPlace (fun vs H Q E h => ?_) (fun cdv A outer s H vs Q E hr h => ?_)
  · obtain ⟨x, ns, rfl, _⟩ := h
    rfl
  obtain ⟨x, ns, rfl, ⟨a, rfl, ha⟩, q⟩ := h
  refine ⟨_, pss_cons (ps_set (i := 1) scPlace.nd rfl (.inl rfl) pe_int)
    (pss_cons (ps_for PassesOwn.never rfl (pi_tup (pv 0)) (pg_name (i := 2) scPlace.nd rfl (.inl rfl))
      (pss_one (ps_set (i := 1) scPlace.nd rfl (.inl rfl) (pe_op op_add (pe_op op_mul pe_int (pv 1)) (pv 2)))))
    (pss_one (ps_ret (pv 1)))), ?_⟩
  refine ⟨.ref a, rfl, a, rfl, ⟨_, .of ha⟩, ?_⟩
  refine for_it (walk_tup (K := K) (a := a) (xs := ns.map V.int)) (fun j σ Hy => ∃ y2, σ = [some (.ref a), some (.int (placeN (ns.take j))), y2] ∧ Hy = H)
    ⟨none, rfl, rfl⟩ (fun j σ Hy _ h => ?_) (fun j x σ Hy Hy' hj h hY => ?_) (fun σ Hy h => ?_)
  · obtain ⟨_, _, rfl⟩ := h
    exact .of ha
  · obtain ⟨y2, rfl, e⟩ := h
    have e := e.symm
    subst e
    obtain ⟨eH, hx⟩ := hY
    have eH := eH.symm
    subst eH
    rw [List.getElem?_map] at hx
    cases h1 : ns[j]? with
    | none => rw [h1] at hx; cases hx
    | some n =>
      rw [h1] at hx
      cases hx
      refine ⟨.int _, rfl, 2, _, rfl, rfl, .inl ⟨by decide, by decide⟩, .int n, rfl, _, _, rfl, rfl, some (.int n), ?_, rfl⟩
      rw [List.take_add_one, h1]
      show _ = [some (V.ref a), some (.int (placeN (ns.take j ++ [n]))), some (.int n)]
      have : placeN (ns.take j ++ [n]) = 2 * placeN (ns.take j) + n := by unfold placeN; rw [List.foldl_append]; rfl
      rw [this]
      rfl
  · obtain ⟨y2, rfl, e⟩ := h
    subst e
    rw [List.length_map, List.take_length]
    exact ⟨.int _, rfl, q _ (Same.refl _)⟩
def spLen (C : Addr) : Sp := fun vs H Q _ => ∃ (a : Addr) (v : Nat) (ys : List Str) (tab : Str → List Int), vs = [.ref a] ∧ RuleAt C H a v ys tab ∧ Q (.int ys.length) H
theorem ok_len {f : Addr} {fd : FuncData} (R : RuleC K C) (F : Fun K "__len__" "Rule.__len__" dLen f fd) (ml : mg "len" = none) : FnOk P w K mg base CX0 1 f fd ["self"] (spLen C) := by
  refine F.ok scLen (fun vs H Q E h => ?_) (fun cdv A outer s H vs Q E hr h => ?_)
  · obtain ⟨a, v, ys, tab, rfl, _⟩ := h
    rfl
  obtain ⟨a, v, ys, tab, rfl, ⟨dx, t, d, ha, ht, _⟩, q⟩ := h
  refine ⟨_, pss_one (ps_ret (pe_callB call_len_seq (by rfl) ml PySem.boot_len (pa_cons (pe_fld (pv 0) rfl) pa_nil))), ?_⟩
  refine ⟨.ref a, rfl, a, C, dx, _, .ref t, rfl, ha, R.cl, R.nI, rfl, t, _, rfl, .inr (.of ht), ?_⟩
  rw [List.length_map]
  exact q
def spNI : Sp := fun vs H Q _ => ∃ (a : Addr) (zs : List Str), vs = [.ref a] ∧ H a = some (.tup (zs.map V.str)) ∧ zs.length ≤ 60 ∧ Plain zs ∧ issuesB zs = true ∧ ∀ H', Same H H' → Q .non H'
theorem ok_needissues {f fI : Addr} {fd fdI : FuncData} (F : Fun K "need_issues" "need_issues" dNeedIssues f fd) (FI : FnOk P w K mg base CX0 3 fI fdI ["value"] (spTexts issuesB))
    (kI : PySem.W.keepIn K (.ref fI) = true) (bI : Binds K fdI ["value"] []) (gI : mg "is_issues" = some (.ref fI)) : FnOk P w K mg base CX0 4 f fd ["issues"] spNI := by
  refine F.ok scNeedIssues (fun vs H Q E h => ?_) (fun cdv A outer s H vs Q E hr h => ?_)
  · obtain ⟨a, zs, rfl, _⟩ := h
    rfl
  obtain ⟨a, zs, rfl, ha, hl, hp, hi, q⟩ := h
  refine ⟨_, pss_one (ps_if (pt_not (pt_val (pe_call FI hr (by rfl) gI kI bI .nil pass0 (pa_cons (pv 0) pa_nil)))) (pss_one ps_never) pss_nil), ?_⟩
  exact ⟨.ref a, rfl, a, zs, rfl, ha, hl, hp, fun H1 s1 => ⟨true, congrArg V.bl hi, iteF (q H1 s1)⟩⟩
end
end Ow

set_option Elab.async false
set_option linter.all false
set_option maxRecDepth 100000
set_option maxHeartbeats 4000000
set_option exponentiation.threshold 3000
namespace Ow
open PySem PySem.Spec PyProof.Rows L2
/-! ### x in t, t a tuple of data -/
section
variable {X : Cx}
def rInT (K : PySem.W.Frag) (neg : Bool) : R2 := fun x y H Q => ∃ d ds, Dp K H x d ∧ Dp K H y (.tuple ds) ∧ SeqAt.shaped d = true ∧ SeqAt.shaped (.list ds) = true ∧ Q (.bl (if neg then !ds.any fun z => PyData.eqv z d else ds.any fun z => PyData.eqv z d)) H
theorem op_inT (hu : X.A.units + 65 < cLine) : OpR X (compareOp .In) (rInT X.K false) := by
  intro pins s σ H x y v u Q I rx ry h
  obtain ⟨d, ds, hd, he, sd, se, q⟩ := h
  obtain ⟨as, r1⟩ := Dp.reads I d x v hd rx
  obtain ⟨bs, r2⟩ := Dp.reads I (.tuple ds) y u he ry
  exact SeqAt.in_tuple_reads r2 r1 (SeqAt.canLay_of_shaped se) (SeqAt.canLay_of_shaped sd) (room_in_shaped sd hu) ⟨.bl _, H, I, rfl, q⟩
theorem op_notInT (hu : X.A.units + 65 < cLine) : OpR X (compareOp .NotIn) (rInT X.K true) := by
  intro pins s σ H x y v u Q I rx ry h
  obtain ⟨d, ds, hd, he, sd, se, q⟩ := h
  obtain ⟨as, r1⟩ := Dp.reads I d x v hd rx
  obtain ⟨bs, r2⟩ := Dp.reads I (.tuple ds) y u he ry
  exact SeqAt.notIn_tuple_reads r2 r1 (SeqAt.canLay_of_shaped se) (SeqAt.canLay_of_shaped sd) (room_in_shaped sd hu) ⟨.bl _, H, I, rfl, q⟩
end
theorem dp_strs {K : PySem.W.Frag} {H : Hp} : ∀ ys : List Str, DpAll K H (ys.map V.str) (ys.map .str)
  | [] => .nil
  | y :: ys => .cons (.str y) (dp_strs ys)
section
variable {P : Program} {w : World} {K : PySem.W.Frag} {mg : Str → Option Value} {base : Heap} {C : Addr}
/-- value in rule, the value data -/
def spContains (K : PySem.W.Frag) (C : Addr) : Sp := fun vs H Q _ => ∃ (a : Addr) (x : V) (d : PyData) (v : Nat) (ys : List Str) (tab : Str → List Int), vs = [.ref a, x] ∧ RuleAt C H a v ys tab ∧ Dp K H x d ∧ SeqAt.shaped d = true ∧ SeqAt.shaped (.list (ys.map .str)) = true ∧ Q (.bl ((ys.map PyData.str).any fun z => PyData.eqv z d)) H
theorem ok_contains {f : Addr} {fd : FuncData} (R : RuleC K C) (F : Fun K "__contains__" "Rule.__contains__" dContains f fd) : FnOk P w K mg base CX0 1 f fd ["self", "value"] (spContains K C) := by
  refine F.ok scContains (fun vs H Q E h => ?_) (fun cdv A outer s H vs Q E hr h => ?_)
  · obtain ⟨a, x, d, v, ys, tab, rfl, _⟩ := h
    rfl
  obtain ⟨a, x, d, v, ys, tab, rfl, ⟨dx, t, d', ha, ht, _⟩, hd, sd, sy, q⟩ := h
  have hu65 : (A.deeper (envOfC "Rule.__contains__" (defScope dContains) s.heap.objs.size f cdv)).units + 65 < cLine := by
    have := hr.un
    omega
  refine ⟨_, pss_one (ps_ret (pe_cmpR (op_inT hu65) (pv 1) (pe_fld (pv 0) rfl) (by rfl))), ?_⟩
  exact ⟨x, rfl, .ref a, rfl, a, C, dx, _, .ref t, rfl, ha, R.cl, R.nI, rfl, d, ys.map .str, hd, .tup (.of ht) (dp_strs ys), sd, sy, q⟩
end
end Ow

set_option Elab.async false
set_option linter.all false
set_option maxRecDepth 100000
set_option maxHeartbeats 4000000
namespace Ow
open PySem PySem.Spec PyProof.Rows L2 ItX
/-! ### own __iter__ that returns iter(t), t a tuple -/
/-- at it an iterator over the tuple at t, at its begin -/
def TItO (t it : Addr) : HO := .ext fun h => h.IsTupleIter it t 0
theorem tItO_ok {P : Program} {w : World} {H : Hp} {h : Heap} {t it : Addr} (e : h.IsTupleIter it t 0) : ObjOk P w H h it (TItO t it) :=
  ⟨e, let ⟨o, e, _⟩ := e; ⟨o, e⟩, fun h1 h2 q k => let ⟨o, e, r⟩ := q; ⟨o, k _ e, r⟩⟩
theorem tItO_get {X : Cx} {pins : List (Addr × Obj)} {σ : L2.St} {H : Hp} {s : Shared} {t it : Addr} (I : Inv X pins σ H s) (e : H it = some (TItO t it)) : s.heap.IsTupleIter it t 0 := (I.hok it _ e).1
section
variable {prog : Program} {w : World} {A : Around} {E : Value → Shared → Prop} {s : Shared} {l : Addr} {items : Array Value}
theorem raw_iterT {Q : Value → Shared → Prop} (hl : s.heap.IsTuple l items) (h : Q (.ref s.heap.objs.size) { s with heap := s.heap.push { cls := .type "tuple_iterator", data := .fields #[.ref l, .int 0 0] } }) : wpAny (model prog w) A (call (.builtin "iter") [.ref l]) Q E s := by
  refine Calls.call_function_entry (by decide +kernel) (by decide +kernel) PySem.W.kdk_entry_iter (PySem.W.kdk_args_iter _) ?_
  unfold Builtin.«iter»
  refine wpAny_bind (m := someArgs "iter" 1 2 _) (wpAny_of_eq (a := [Value.ref l]) (by first | rfl | kernel_rfl!) ?_)
  show wpAny _ _ (pyIter (.ref l) >>= _) _ _ _
  refine wpAny_bind (wpAny_pyIter_tuple hl ?_)
  exact wpAny_pure ⟨_, rfl, h⟩
end
/-- iter(t), t a tuple; n is below it -/
def rIterT (K : PySem.W.Frag) (n : Nat) : List V → Hp → VK → Prop := fun xs H Q => ∃ (l : Addr) (zs : List V), xs = [.ref l] ∧ SqT K H l zs ∧ ∀ it, H it = none → n ≤ it → Q (.ref it) (upd H it (TItO l it))
theorem call_iterT {X : Cx} : CallR X (.builtin "iter") (rIterT X.K X.s_0.heap.objs.size) := by
  intro pins s σ H xs us Q I r h
  obtain ⟨l, zs, rfl, hq, q⟩ := h
  obtain ⟨u, rfl, ru⟩ := vals1 r
  cases ru
  obtain ⟨its, rv, pl, hz⟩ := I.tuple hq
  refine raw_iterT (show s.heap.IsTuple l its.toArray from pl) ?_
  exact ⟨.ref s.heap.objs.size, _, I.laid (t' := s.toks) (fun b u e => Heap.get?_push_of_some _ e) (Nat.le_refl _) (tItO_ok ⟨_, Heap.get?_push_size _ rfl, rfl, rfl⟩), rfl, q _ (I.hok.fresh (Nat.le_refl _)) I.sz⟩
/-- as FnOk, with the number of objects ahead of the call -/
structure FnN (P : Program) (w : World) (K : PySem.W.Frag) (mg : Str → Option Value) (base : Heap) (CX : CXT) (k : Nat) (f : Addr) (fd : FuncData) (ps : List Str) (sp : Nat → Sp) : Prop where
  len : ∀ n vs H Q E, sp n vs H Q E → vs.length = ps.length
  run : ∀ (A : Around) (outer : List Env) (s : Shared) (H : Hp) (args : Args) (us : List Value) (vs : List V) (Q : VK) (E : XK), Room k A → Env0 P w K mg base A outer s H → BindsTo s fd args (ps.zip us) → Vals vs us → sp s.heap.objs.size vs H Q E →
    codeAny (model P w) A (.call (.ref f) args) (CR CX outer P w H s Q E) s
section
variable {P : Program} {w : World} {K : PySem.W.Frag} {mg : Str → Option Value} {base : Heap}
theorem Fun.okN {x qual : Str} {st : Stmt} {f : Addr} {fd : FuncData} {N ps : List Str} {k : Nat} {sp : Nat → Sp} (F : Fun K x qual st f fd) (S : FnScope N ps (defScope st)) (len : ∀ n vs H Q E, sp n vs H Q E → vs.length = ps.length)
    (hbody : ∀ (cdv : Value) (A : Around) (outer : List Env) (s : Shared) (H : Hp) (vs : List V) (Q : VK) (E : XK), Room k (A.deeper (envOfC qual (defScope st) s.heap.objs.size f cdv)) → sp s.heap.objs.size vs H Q E →
      ∃ t, PSs (cxOf CX0 P w K mg base N qual (defScope st) f cdv A outer s H E).nox (defBody st) t ∧ t { nx := fun _ H' => Q .non H', rt := Q } (start N vs) H) : FnN P w K mg base CX0 (k + 1) f fd ps sp := by
  obtain ⟨oc, od, kV, doc, pm, an, cdv, ct, osl, rfl, lk, hcd⟩ := F.ex
  refine ⟨len, fun A outer s H args us vs Q E hr e0 hb r hsp => ?_⟩
  have hl := len _ _ _ _ _ hsp
  have F1 : FnOk P w K mg base CX0 (k + 1) f (PySem.W.fnOf x qual (defArgs st) (defBody st) (defScope st) .none kV doc pm an cdv ct) ps (fun vs' H' Q' E' => False) := fn_of lk hcd S (fun _ _ _ _ z => z.elim) fun _ _ _ _ _ _ _ _ z => z.elim
  have KX : K.In s.heap := e0.mod.kin.keeps fun b o e => (e0.bs b o e).1
  have lim : s.heap.NoLimit := e0.mod.nolimit.keeps fun b o e => (e0.bs b o e).1
  have hkind : ∀ y ∈ ps.zip us, (defScope st).names.lookup y.1 = some .local ∨ ((defScope st).names.lookup y.1 = some .cell ∧ ((cellsFrom (s.heap.objs.size + 1) (defScope st).names []).lookup y.1).isSome = true) := fun ⟨n, v⟩ hy => by
    rcases S.par n (List.of_mem_zip hy).1 with q | q
    · exact .inl q
    · exact .inr ⟨q, PySem.W.cellsFrom_some _ _ _ (.inl q)⟩
  refine codeAny_call_function hr.depth (KX _ _ lk) rfl S.co S.gen rfl (PySem.W.codeRec_of KX hcd) (hb _ _ _ _ ?_)
  refine wpAny_newFunctionEnv_cells S.kind hkind fun env he s1 x => ?_
  subst he
  refine ⟨lim.keeps x.toInCall.keep, codeAny_func ?_⟩
  obtain ⟨t, ht0, hq⟩ := hbody cdv A outer s H vs Q E (hr.deeper _) hsp
  have ht := ht0.nox
  have I : Inv (cxOf CX0 P w K mg base N qual (defScope st) f cdv A outer s H E) [] (start N vs) H s1 := inv_start S hr.hd e0 hl r x
  refine wpAny_mono (ht.run [] s1 (start N vs) H _ I hq) (fun fl s' hs => ?_) fun e s' hs => hs
  have fin : ∀ {σ' : L2.St} {H' : Hp} {v : V} {u : Value}, Inv (cxOf CX0 P w K mg base N qual (defScope st) f cdv A outer s H E) [] σ' H' s' → RelV v u → Q v H' → CE outer P w H s Q u s' :=
    fun {σ' H' v u} J rv q => ⟨v, H', J.os, J.bare, J.base, J.hok, rv, q⟩
  cases fl with
  | ret u =>
    obtain ⟨v, σ', H', J, rv, q⟩ := hs
    exact fin J rv q
  | next =>
    obtain ⟨σ', H', J, q⟩ := hs
    exact fin (v := V.non) (u := Value.none) J rfl q
  | brk =>
    obtain ⟨_, _, _, q⟩ := hs
    exact False.elim q
  | cont =>
    obtain ⟨_, _, _, q⟩ := hs
    exact False.elim q
end
section
variable {X : Cx} {CX : CXT} {k : Nat} {f C : Addr} {fd : FuncData} {ps : List Str} {sp : Nat → Sp} {E : XK}
theorem run_atN {A : Around} (hfr : A.frames = X.A.frames) {pins : List (Addr × Obj)} {σ : L2.St} {H : Hp} {s : Shared} {Q : VK} {us : List Value} {vs : List V} (F : FnN X.prog X.w X.K X.mg X.base CX k f fd ps sp) (hr : Room k A) (hb : Binds X.K fd ps []) (hx : Passes CX X E)
    (I : Inv X pins σ H s) (r : Vals vs us) (h : sp s.heap.objs.size vs H Q E) : wpAny (model X.prog X.w) A (call (.ref f) us) (EP X pins σ Q) X.xe s := by
  have hl : us.length = ps.length := by rw [← r.length]; exact F.len _ _ _ _ _ h
  have b := hb s us I.kIn (by rw [List.append_nil]; exact hl)
  rw [List.append_nil] at b
  have e0 : Env0 X.prog X.w X.K X.mg X.base A X.stack s H := by
    have e := I.env0
    exact ⟨hfr.trans e.frames, e.mod, e.bs, e.bsz, e.funs, e.frf, e.hok, e.bare⟩
  refine wpAny_call (codeAny_mono (F.run A X.stack s H ⟨us, []⟩ us vs Q E hr e0 b r h) fun o s' hq => ?_)
  cases o with
  | error e => exact hx pins σ H s e s' I hq
  | ok fl =>
    cases fl with
    | ret u => exact I.after hq
    | next => exact False.elim hq
    | brk => exact False.elim hq
    | cont => exact False.elim hq
/-- an instance whose __iter__ is iter(t) -/
def iOwn (K : PySem.W.Frag) (C : Addr) (sp : Nat → Sp) (E : XK) (te : TE) : TI := fun σ H R => te σ H fun x H1 => ∃ a dx fs t, x = .ref a ∧ H1 a = some (.ins C dx fs) ∧
  (∀ n, sp n [.ref a] H1 (fun v H2 => ∃ it, n ≤ it ∧ v = .ref it ∧ H1 it = none ∧ H2 = upd H1 it (TItO t it)) E) ∧ R (Itt K t) H1
theorem pi_own {tg l : Expr} {tl : TE} (hl : PE X l tl) (hm : Meth X.K C "__iter__" f) (F : FnN X.prog X.w X.K X.mg X.base CX k f fd ps sp) (hr : Room k X.A) (hb : Binds X.K fd ps []) (hx : Passes CX X E) : PI X tg l (iOwn X.K C sp E tl) := by
  refine ⟨fun pins s σ H R I h => ?_⟩
  refine thn (hl.run pins s σ H _ I h) fun v s1 ⟨x, H1, I1, r1, q1⟩ => ?_
  obtain ⟨a, dx, fs, t, rfl, ha, hsp, q⟩ := q1
  cases r1
  obtain ⟨mA, J, _⟩ := ins_get I1.hok ha
  obtain ⟨od, J, _⟩ := J.look
  obtain ⟨m, hF⟩ := I1.fr
  have rr : Vals [V.ref a] [Value.ref a] := .cons rfl .nil
  refine PySem.W.owit_iter hF I1.ok.mod.kin J hm.at_ hm.fn (wpAny_mono (run_atN (A := X.A) rfl F hr hb hx I1 rr (hsp _)) (fun r s' hq => ?_) fun _ _ z => z)
  obtain ⟨z, H', I', rz, it, hn, rfl, hit, eH⟩ := hq
  cases rz
  have hi : H' it = some (TItO t it) := by rw [eH, upd_same]
  have st := tItO_get I' hi
  have ed : dropH H' it = H1 := by rw [eH]; exact dropH_upd hit
  have Id := inv_drop I' (show H' it = some (.ext _) from hi)
  have fp := inv_fp I' hi (Nat.le_trans I1.sz hn)
  rw [ed] at Id fp
  unfold PySem.W.OwitIt
  refine wpAny_specialOf (name := Str.ofString "__next__") st.typeIs PySem.F.slot_tuple_iterator_next.lookup ?_
  refine ⟨it, [it], _, _, H1, rfl, Id, turn_tuple t it, st, fun b hb => ?_, q⟩
  have e : b = it := by simpa using hb
  rw [e]
  exact fp
end
end Ow

set_option Elab.async false
set_option linter.all false
set_option maxRecDepth 100000
set_option maxHeartbeats 4000000
namespace Ow
open PySem PySem.Spec PyProof.Rows L2
/-! ### own ==, whatever stands to the right; != by it -/
section
variable {prog : Program} {w : World} {A : Around} {E : Value → Shared → Prop} {s : Shared} {K : PySem.W.Frag} {x C L f : Addr} {h₀ : Heap} {m : Str → Option Value} {ox : Obj} {od : Option Obj} {b tb : Value}
theorem cmp_one {op : CmpOp} {Q : Value → Shared → Prop} (hu : A.units < cLine) (X : K.In s.heap) (I : PySem.W.InstAt s.heap x ox C od) (hb : PySem.W.Looks (model prog w) s.heap (typeOf b) tb) (hn : PySem.W.notFirst K C tb = true)
    (one : wpAny (model prog w) A (tryCompare (.ref x) (cmpInfo op).2.1 b) (fun r s' => ∃ v, r = some v ∧ Q v s') E s) : wpAny (model prog w) A (richCompare op (.ref x) b) Q E s := by
  unfold richCompare
  simp only [PySem.oneThing_ref]
  refine wpAny_holding (wpAny_bind (wpAny_cRoomFor hu ?_))
  refine wpAny_bind (I.type.here (wpAny_bind (hb.here ?_)))
  split
  · rename_i q
    have e : PySem.W.subIn K tb (.ref C) = some false := by
      rcases Bool.or_eq_true_iff.mp hn with e | e
      · rw [beq_iff_eq.mp e] at q; simp at q
      · exact beq_iff_eq.mp e
    refine wpAny_bind ((PySem.W.looks_subIn X e).here ?_)
    simp only [Bool.false_eq_true, if_false]
    refine wpAny_bind (wpAny_mono one (fun r s' z => ?_) fun _ _ e => e)
    obtain ⟨v, rfl, hq⟩ := z
    exact wpAny_pure hq
  · refine wpAny_bind (wpAny_pure ?_)
    simp only [Bool.false_eq_true, if_false]
    refine wpAny_bind (wpAny_mono one (fun r s' z => ?_) fun _ _ e => e)
    obtain ⟨v, rfl, hq⟩ := z
    exact wpAny_pure hq
theorem slot_onInst {M : Model} {name : Str} {id : String} {args : List Value} {Q : Option Value → Shared → Prop} (X : K.In s.heap) (I : PySem.W.InstAt s.heap x ox C od) (hs : PySem.W.findIn K (.ref C) name = some (some (.builtin id))) (S : Slot "object" name id)
    (hcall : wpAny M A (call (.builtin id) (.ref x :: args)) (fun v => Q (some v)) E s) : wpAny M A (callSpecialIfBound? (.ref x) name args) Q E s := by
  simp only [callSpecialIfBound?, bindSpecialIfBound?]
  refine wpAny_holding (wpAny_bind (wpAny_bind (wpAny_bind (I.type.here ((PySem.W.looks_findIn X hs).here ?_)))))
  refine wpAny_bind (wpAny_askSetting (wpAny_ite ?_))
  have fin : wpAny M A (call (.builtin id) ([.ref x] ++ args) >>= fun v => pure (some v)) Q E s :=
    wpAny_bind (wpAny_mono hcall (fun v s' h' => wpAny_pure h') fun _ _ h' => h')
  simp only [S.bind]
  split
  · exact wpAny_bind (wpAny_pure (wpAny_pure fin))
  · exact wpAny_tryCatch (wpAny_bind (wpAny_pure (wpAny_pure fin)))
theorem check_onInst {M : Model} {id owner n : String} {rest : List Value} {Q : Unit → Shared → Prop} (hk : builtinKind id = some .slot) (hs : splitId id = some (owner, n)) (ha : argsOk id ⟨.ref x :: rest, []⟩)
    (X : K.In s.heap) (I : PySem.W.InstAt s.heap x ox C od) (hob : PySem.W.subIn K (.ref C) (.type owner) = some true) (hq : Q () s) : wpAny M A (checkBuiltinCall id ⟨.ref x :: rest, []⟩) Q E s := by
  simp only [checkBuiltinCall, hk, hs]
  refine wpAny_bind ?_
  unfold isInstance
  refine wpAny_bind (I.type.here ((PySem.W.looks_subIn X hob).here ?_))
  simp only [Bool.not_true, Bool.false_eq_true, if_false]
  cases hsig : Manifest.signature? id with
  | none => exact wpAny_pure hq
  | some sig =>
    simp only [argsOk, hsig] at ha
    have h2 : Bind.checkArgs id sig ⟨.ref x :: rest, []⟩ = pure () := ha
    show wpAny M A (Bind.checkArgs id sig ⟨.ref x :: rest, []⟩) Q E _
    rw [h2]; exact wpAny_pure hq
/-- object.__ne__, over an own __eq__ -/
theorem ne_entry {Q : Value → Shared → Prop} (hu : A.in1.units < cLine) (X : K.In s.heap) (I : PySem.W.InstAt s.heap x ox C od) (hs : PySem.W.findIn K (.ref C) "__eq__" = some (some (.ref f))) (hf : PySem.W.isFn K (.ref f) = true)
    (hn : PySem.W.findIn K (.ref C) "__ne__" = some (some (.builtin "object.__ne__"))) (hob : PySem.W.subIn K (.ref C) (.type "object") = some true)
    (h : wpAny (model prog w) A.in1 (call (.ref f) [.ref x, b]) (fun v s' => ∃ r : Bool, v = .bool r ∧ Q (.bool (!r)) s') E s) :
    wpAny (model prog w) A (tryCompare (.ref x) "__ne__" b) (fun r s' => ∃ v, r = some v ∧ Q v s') E s := by
  unfold tryCompare
  refine wpAny_bind (slot_onInst X I hn PySem.F.cmp_object.ne (wpAny_call (codeAny_call_builtin PySem.F.cmp_object.ne.plain PySem.F.cmpEntry_ne (check_onInst PySem.F.cmpKind_ne PySem.F.cmpSplit_ne (PySem.F.cmpArgs_ne _ _) X I hob ?_))))
  unfold Builtin.«object.__ne__»
  refine wpAny_bind (wpAny_of_eq (a := (Value.ref x, [b])) (by first | rfl | kernel_rfl!) ?_)
  dsimp only
  refine wpAny_bind (wpAny_cRoomFor hu ?_)
  refine wpAny_bind (PySem.W.ifBound_K X I hs hf (wpAny_mono h (fun v s' hv => ?_) fun _ _ e => e))
  obtain ⟨r, rfl, hq⟩ := hv
  dsimp only
  refine wpAny_bind (wpAny_truthy_bool ?_)
  exact wpAny_pure (wpAny_pure ⟨_, rfl, hq⟩)
end
section
variable {X : Cx} {CX : CXT} {k : Nat} {f C : Addr} {fd : FuncData} {ps : List Str} {sp : Sp} {E : XK}
/-- o == y, o != y: y no instance of a class below -/
def rEqO (K : PySem.W.Frag) (C : Addr) (sp : Sp) (E : XK) (neg : Bool) : R2 := fun x y H Q => ∃ a dx fs t, x = .ref a ∧ H a = some (.ins C dx fs) ∧ TyX K H y t ∧ PySem.W.notFirst K C t = true ∧
  sp [.ref a, y] H (fun v H' => ∃ b : Bool, v = .bl b ∧ Q (.bl (if neg then !b else b)) H') E
theorem op_eqO (hm : Meth X.K C "__eq__" f) (F : FnOk X.prog X.w X.K X.mg X.base CX k f fd ps sp) (hr : Room k X.A) (hb : Binds X.K fd ps []) (hx : Passes CX X E) : OpR X (compareOp .Eq) (rEqO X.K C sp E false) := by
  intro pins s σ H x y v u Q I rx ry h
  obtain ⟨a, dx, fs, t, rfl, ha, ty, hn, q⟩ := h
  cases rx
  obtain ⟨mA, J, _⟩ := ins_get I.hok ha
  obtain ⟨od, J, _⟩ := J.look
  obtain ⟨m, hF⟩ := I.fr
  obtain ⟨PP, Z, hp, _⟩ := kit_of I ry ty
  have rr : Vals [V.ref a, y] [Value.ref a, u] := .cons rfl (.cons ry .nil)
  refine PySem.W.cmp_K (op := .Eq) hr.units0 hF I.ok.mod.kin J (Z.ty _ _ I.kIn hp) hn hm.at_ hm.fn (wpAny_mono (run_at (A := X.A) rfl F hr hb hx I rr q) (fun r s' hq => ?_) fun _ _ z => z)
  obtain ⟨z, H', I', rz, b, rfl, q'⟩ := hq
  cases rz
  exact ⟨.bl b, H', I', rfl, q'⟩
theorem op_neO (hm : Meth X.K C "__eq__" f) (hne : PySem.W.findIn X.K (.ref C) "__ne__" = some (some (.builtin "object.__ne__"))) (hob : PySem.W.subIn X.K (.ref C) (.type "object") = some true)
    (F : FnOk X.prog X.w X.K X.mg X.base CX k f fd ps sp) (hr : Room (k + 1) X.A) (hb : Binds X.K fd ps []) (hx : Passes CX X E) : OpR X (compareOp .NotEq) (rEqO X.K C sp E true) := by
  intro pins s σ H x y v u Q I rx ry h
  obtain ⟨a, dx, fs, t, rfl, ha, ty, hn, q⟩ := h
  cases rx
  obtain ⟨mA, J, _⟩ := ins_get I.hok ha
  obtain ⟨od, J, _⟩ := J.look
  obtain ⟨PP, Z, hp, _⟩ := kit_of I ry ty
  have rr : Vals [V.ref a, y] [Value.ref a, u] := .cons rfl (.cons ry .nil)
  show wpAny _ _ (richCompare .NotEq (.ref a) u) _ _ s
  refine cmp_one (op := .NotEq) hr.units0 I.kIn J (Z.ty _ _ I.kIn hp) hn ?_
  refine ne_entry hr.in1.units0 I.kIn J hm.at_ hm.fn hne hob (wpAny_mono (run_at (A := X.A.in1) rfl F hr.in1 hb hx I rr q) (fun r s' hq => ?_) fun _ _ z => z)
  obtain ⟨z, H', I', rz, b, rfl, q'⟩ := hq
  cases rz
  exact ⟨b, rfl, .bl (!b), H', I', rfl, q'⟩
end
end Ow

set_option Elab.async false
set_option linter.all false
set_option maxRecDepth 100000
set_option maxHeartbeats 4000000
set_option exponentiation.threshold 3000
namespace Ow
open PySem PySem.Spec PyProof.Rows L2
/-! ### == of two dicts of tables with the same keys -/
theorem hits_tab {X : Cx} {pins : List (Addr × Obj)} {σ : L2.St} {H : Hp} {s : Shared} (I : Inv X pins σ H s) {A : Around} (hu : A.in1.units + 64 < cLine) {tab tab' : Str → List Int} {ls : List (Key × V)} {vb : List (Key × Value)} {ys : List Str}
    (rb : KV ls vb) (hb : All2 (TabR H tab') ls ys) {ks : List (Key × V)} {va : List (Key × Value)} (ra : KV ks va) :
    ∀ {zs : List Str}, All2 (TabR H tab) ks zs → (∀ z ∈ zs, z ∈ ys) → PySem.W.KeqHits A.in1 s vb va (zs.all fun z => decide (tab z = tab' z)) := by
  unfold KV at ra
  induction ra with
  | nil =>
    intro zs h _
    cases h
    exact .nil
  | @cons p q ps qs h t ih =>
    intro zs hz sub
    cases hz with
    | @cons _ z _ zs r hz =>
      obtain ⟨h1, h2⟩ := h
      obtain ⟨x, hx, rx⟩ := tab_get hb (sub z List.mem_cons_self)
      have rr : RelO (some x) (valueAt vb (Sum.inr z)) := by rw [← hx]; exact rb.val _
      obtain ⟨y, hy, ry⟩ := rr.some_of
      obtain ⟨k, v⟩ := q
      have h1' : p.1 = k := h1
      rw [← h1', r.1]
      obtain ⟨as, r1⟩ := Dp.reads I (rowD (tab z)) p.2 v (dp_row r.2) h2
      obtain ⟨bs, r2⟩ := Dp.reads I (rowD (tab' z)) x y (dp_row rx) ry
      have eq := PySem.W.keq_at (A := A) r1 r2 (shaped_row _) (shaped_row _) hu
      rw [eqv_row] at eq
      rw [List.all_cons]
      exact .hit hy eq (ih hz fun z' hm => sub z' (List.mem_cons_of_mem _ hm))
def rEqTab : R2 := fun x y H Q => ∃ a b ks tab tab', x = .ref a ∧ y = .ref b ∧ TabD H a ks tab ∧ TabD H b ks tab' ∧ Q (.bl (ks.all fun z => decide (tab z = tab' z))) H
theorem op_eqTab {X : Cx} (hu : X.A.units < cLine) (hu64 : X.A.in1.units + 64 < cLine) : OpR X (compareOp .Eq) rEqTab := by
  intro pins s σ H x y v u Q I rx ry h
  obtain ⟨a, b, zs, tab, tab', rfl, rfl, ⟨ks, ea, ta⟩, ⟨ls, eb, tb⟩, q⟩ := h
  obtain rfl : v = Value.ref a := rx
  obtain rfl : u = Value.ref b := ry
  obtain ⟨_, ya, va, ra, da⟩ := (show ObjOk X.prog X.w H s.heap a (.dK ks) from I.hok a _ ea)
  obtain ⟨_, yb, vb, rb, db⟩ := (show ObjOk X.prog X.w H s.heap b (.dK ls) from I.hok b _ eb)
  have hl : va.length = vb.length := by rw [← ra.length, ← rb.length, ta.len, tb.len]
  exact PySem.W.keq_eq (knd := mixKind X.prog X.w) ya yb da db hu (fun _ => hits_tab I hu64 rb tb ra ta fun z h => h) (fin_bl I q (by simp [hl]))
/-- what isinstance and the comparisons ask of the class -/
def kinds : List String := ["NoneType", "int", "str", "tuple", "list"]
structure RuleI (K : PySem.W.Frag) (C : Addr) : Prop where
  ha : PySem.W.findIn K (.ref C) "__class__" = some (some (.builtin "object.__class__"))
  hn : PySem.W.specialIn K (.builtin "object.__class__") "__get__" = some (some (.builtin "getset_descriptor.__get__"))
  htk : PySem.W.takesIn K (.builtin "object.__class__") = some true
  hm : PySem.W.mroIn K C (.type "object") = some true
  own : PySem.W.kitOne K (.ref C) (.ref C) = some true
  non : ∀ T ∈ kinds, PySem.W.kitOne K (.type T) (.ref C) = some false ∧ PySem.W.notFirst K C (.type T) = true
theorem RuleI.ty {K : PySem.W.Frag} {C : Addr} {H : Hp} {a dx : Addr} {fs : List (Str × V)} (R : RuleI K C) (cl : Cls K C) (h : H a = some (.ins C dx fs)) : TyX K H (.ref a) (.ref C) := .base (.ins h cl R.ha R.hn R.htk R.hm)
theorem notFirst_self {K : PySem.W.Frag} {C : Addr} : PySem.W.notFirst K C (.ref C) = true := by
  unfold PySem.W.notFirst
  simp
theorem scEqR : FnScope ["self", "other"] ["self", "other"] (defScope dEq) := ⟨rfl, rfl, rfl, by decide +kernel, rfl, by decide +kernel, by decide +kernel⟩
theorem scIterR : FnScope ["self"] ["self"] (defScope dIter) := ⟨rfl, rfl, rfl, by decide +kernel, rfl, by decide +kernel, by decide +kernel⟩
section
variable {P : Program} {w : World} {K : PySem.W.Frag} {mg : Str → Option Value} {base : Heap} {C : Addr}
def spIter (C : Addr) : Nat → Sp := fun n vs H Q _ => ∃ (a : Addr) (v : Nat) (dx t d : Addr) (ys : List Str), vs = [.ref a] ∧ H a = some (.ins C dx (ruleF v t d)) ∧ H t = some (.tup (ys.map V.str)) ∧ ∀ it, H it = none → n ≤ it → Q (.ref it) (upd H it (TItO t it))
theorem ok_iter {f : Addr} {fd : FuncData} (R : RuleC K C) (F : Fun K "__iter__" "Rule.__iter__" dIter f fd) (mi : mg "iter" = none) : FnN P w K mg base CX0 1 f fd ["self"] (spIter C) := by
  refine Fun.okN F scIterR (fun n vs H Q E h => ?_) (fun cdv A outer s H vs Q E hr h => ?_)
  · obtain ⟨a, v, dx, t, d, ys, rfl, _⟩ := h
    rfl
  obtain ⟨a, v, dx, t, d, ys, rfl, ha, ht, q⟩ := h
  refine ⟨_, pss_one (ps_ret (pe_callB call_iterT (by rfl) mi PyProof.Rows.boot_iter (pa_cons (pe_fld (pv 0) rfl) pa_nil))), ?_⟩
  exact ⟨.ref a, rfl, a, C, dx, _, .ref t, rfl, ha, R.cl, R.nI, rfl, t, _, rfl, .of ht, q⟩
/-- rule == y: y of another kind, or a rule -/
def spEqR (K : PySem.W.Frag) (C : Addr) : Sp := fun vs H Q _ => ∃ (a : Addr) (y : V) (v : Nat) (ys : List Str) (tab : Str → List Int), vs = [.ref a, y] ∧ RuleAt C H a v ys tab ∧
  ((∃ T ∈ kinds, TyX K H y (.type T) ∧ Q (.bl false) H) ∨
   (∃ (b : Addr) (v' : Nat) (ys' : List Str) (tab' : Str → List Int), y = .ref b ∧ RuleAt C H b v' ys' tab' ∧ ((v ≠ v' ∧ Q (.bl false) H) ∨ (v = v' ∧ ys = ys' ∧ Q (.bl (ys.all fun z => decide (tab z = tab' z))) H))))
theorem ok_eqR {f : Addr} {fd : FuncData} (R : RuleC K C) (RI : RuleI K C) (F : Fun K "__eq__" "Rule.__eq__" dEq f fd) (mi : mg "isinstance" = none) (gR : mg "Rule" = some (.ref C)) : FnOk P w K mg base CX0 2 f fd ["self", "other"] (spEqR K C) := by
  refine F.ok scEqR (fun vs H Q E h => ?_) (fun cdv A outer s H vs Q E hr h => ?_)
  · obtain ⟨a, y, v, ys, tab, rfl, _⟩ := h
    rfl
  obtain ⟨a, y, v, ys, tab, rfl, ⟨dx, t, d, ha, ht, hd⟩, q⟩ := h
  refine ⟨_, pss_one (ps_ret (pe_and (pe_callB call_isi (by rfl) mi boot_isi (pa_cons (pv 1) (pa_cons (pe_glob (by rfl) gR (v := .ref C) rfl) pa_nil)))
    (pe_and (pe_cmpR op_eq (pe_fld (pv 0) rfl) (pe_fld (pv 1) rfl) (by rfl)) (pe_one (pe_cmpR (op_eqTab hr.units0 hr.in1.units) (pe_fld (pv 0) rfl) (pe_fld (pv 1) rfl) (by rfl)))))), ?_⟩
  rcases q with ⟨T, hT, ty, q⟩ | ⟨b, v', ys', tab', rfl, ⟨dx', t', d', hb, ht', hd'⟩, q⟩
  · exact ⟨y, rfl, y, .ref C, .type T, .ref C, false, rfl, .own C, ty, (RI.non T hT).1, false, rfl, iteF q⟩
  · refine ⟨.ref b, rfl, .ref b, .ref C, .ref C, .ref C, true, rfl, .own C, RI.ty R.cl hb, RI.own, true, rfl, iteT ?_⟩
    refine ⟨.ref a, rfl, a, C, dx, _, .int v, rfl, ha, R.cl, R.nV, rfl, .ref b, rfl, b, C, dx', _, .int v', rfl, hb, R.cl, R.nV, rfl, ?_⟩
    rcases q with ⟨hv, q⟩ | ⟨rfl, rfl, q⟩
    · refine ⟨rfl, false, ?_, iteF q⟩
      congr 1
      exact decide_eq_false fun e => hv (Int.ofNat.inj (V.int.inj e))
    · refine ⟨rfl, true, ?_, iteT ?_⟩
      · congr 1
        exact decide_eq_true rfl
      · exact ⟨.ref a, rfl, a, C, dx, _, .ref d, rfl, ha, R.cl, R.nT, rfl, .ref b, rfl, b, C, dx', _, .ref d', rfl, hb, R.cl, R.nT, rfl, d, d', ys, tab, tab', rfl, rfl, hd, hd', q⟩
end
end Ow

set_option Elab.async false
set_option linter.all false
set_option maxRecDepth 100000
set_option maxHeartbeats 4000000
set_option exponentiation.threshold 3000
namespace Ow
open PySem PySem.Spec PyProof.Rows L2
theorem scPV : FnScope ["self"] ["self"] (defScope dPVoters) := ⟨rfl, rfl, rfl, by decide +kernel, rfl, by decide +kernel, by decide +kernel⟩
theorem scPI : FnScope ["self"] ["self"] (defScope dPIssues) := ⟨rfl, rfl, rfl, by decide +kernel, rfl, by decide +kernel, by decide +kernel⟩
theorem scOfV : FnScope ["cls", "issues", "voters", "voter", "table", "issue"] ["cls", "issues", "voters", "voter"] (defScope dOfVoter) := ⟨rfl, rfl, rfl, by decide +kernel, rfl, by decide +kernel, by decide +kernel⟩
section
variable {P : Program} {w : World} {K : PySem.W.Frag} {mg : Str → Option Value} {base : Heap} {C : Addr}
theorem ok_pvoters {f : Addr} {fd : FuncData} (R : RuleC K C) (F : Fun K "voters" "Rule.voters" dPVoters f fd) : FnOk P w K mg base CX0 1 f fd ["self"] (getSp C "_voters") := by
  refine F.ok scPV (fun vs H Q E h => ?_) (fun cdv A outer s H vs Q E hr h => ?_)
  · obtain ⟨a, dx, fs, v, rfl, _⟩ := h
    rfl
  obtain ⟨a, dx, fs, v, rfl, ea, l, q⟩ := h
  refine ⟨_, pss_one (ps_ret (pe_fld (pv 0) rfl)), ?_⟩
  exact ⟨.ref a, rfl, a, C, dx, fs, v, rfl, ea, R.cl, R.nV, l, q⟩
theorem ok_pissues {f : Addr} {fd : FuncData} (R : RuleC K C) (F : Fun K "issues" "Rule.issues" dPIssues f fd) : FnOk P w K mg base CX0 1 f fd ["self"] (getSp C "_issues") := by
  refine F.ok scPI (fun vs H Q E h => ?_) (fun cdv A outer s H vs Q E hr h => ?_)
  · obtain ⟨a, dx, fs, v, rfl, _⟩ := h
    rfl
  obtain ⟨a, dx, fs, v, rfl, ea, l, q⟩ := h
  refine ⟨_, pss_one (ps_ret (pe_fld (pv 0) rfl)), ?_⟩
  exact ⟨.ref a, rfl, a, C, dx, fs, v, rfl, ea, R.cl, R.nI, l, q⟩
end
end Ow

set_option Elab.async false
set_option linter.all false
set_option maxRecDepth 100000
set_option maxHeartbeats 4000000
set_option exponentiation.threshold 3000
namespace Ow
open PySem PySem.Spec PyProof.Rows L2
/-! ### cls(..), cls a parameter that holds the class -/
section
variable {X : Cx} {CX : CXT} {k : Nat} {C f : Addr} {fd : FuncData} {ps : List Str} {ds : List Value} {dvs : List V} {sp : Sp} {E : XK} {x : Str} {p pos : Pos} {e : Expr} {es : List Expr} {t : TA} {tf : TE}
def tMakeV (C : Addr) (sp : Sp) (dvs : List V) (E : XK) (tf : TE) (t : TA) : TE := fun σ H Q => tf σ H fun y H1 => y = .ref C ∧ tMake C sp dvs E t σ H1 Q
theorem pe_makeV (M : Mk X.K C f) (hf : PE X (.Name x p) tf) (F : FnOk X.prog X.w X.K X.mg X.base CX k f fd ps sp) (hr : Room (k + 1) X.A) (hb : Binds X.K fd ps ds) (hd : Vals dvs ds) (hx : Passes CX X E)
    (ha : PA X (e :: es) t) (he : starEach (e :: es) X.env = (false, eval e X.env) :: starEach es X.env := by rfl) (hpl : (backTo pos (starEach es X.env)).any (·.1) = false := by rfl) :
    PE X (.Call (.Name x p) (e :: es) [] pos) (tMakeV C sp dvs E tf t) := by
  refine ⟨fun pins s σ H Q I h => ?_⟩
  refine wpAny_Call_Name_kw (thn (hf.run pins s σ H _ I h) fun u s1 ⟨y, H1, I1, r1, ey, q1⟩ => ?_)
  subst ey
  obtain rfl : u = Value.ref C := r1
  refine PySem.W.callWith_K (h₀ := X.base) I1.ok.mod.kin M.kp (thn (ha.run pos pins s1 σ H1 _ I1 q1) fun us s2 ⟨vs, H2, I2, r, q⟩ => ⟨I2.kIn, ?_⟩) he hpl
  exact run_make M F hr hb hd hx I2 r q
end
/-! ### str(rule) -/
section
variable {P : Program} {w : World} {K : PySem.W.Frag} {mg : Str → Option Value} {base : Heap} {C : Addr}
/-- Rule.of_voter, rightly called -/
def spOfV (C : Addr) : Sp := fun vs H Q _ => ∃ (a : Addr) (v i : Nat) (zs : List Str), vs = [.ref C, .ref a, .int v, .int i] ∧ H a = some (.tup (zs.map V.str)) ∧ 1 ≤ v ∧ v ≤ 4 ∧ i < v ∧ AllOk v zs (fun _ => followN v i) ∧ issuesB zs = true ∧
  ∀ H' x ys, Same H H' → H x = none → ys.Perm zs → sortedS ys = true → RuleAt C H' x v ys (fun _ => followN v i) → Q (.ref x) H'
theorem ok_ofvoter {f fI fN fV fT fM : Addr} {fd fdI fdN fdV fdT fdM : FuncData} (F : Fun K "of_voter" "Rule.of_voter" dOfVoter f fd) (FN : FnOk P w K mg base CX0 4 fN fdN ["issues"] spNI) (kN : PySem.W.keepIn K (.ref fN) = true) (bN : Binds K fdN ["issues"] []) (gN : mg "need_issues" = some (.ref fN))
    (FV : FnOk P w K mg base CX0 2 fV fdV ["voters"] spNV) (kV : PySem.W.keepIn K (.ref fV) = true) (bV : Binds K fdV ["voters"] []) (gV : mg "need_voters" = some (.ref fV))
    (FI : FnOk P w K mg base CX0 1 fI fdI ["value"] (spB fun _ => shortB)) (kI : PySem.W.keepIn K (.ref fI) = true) (bI : Binds K fdI ["value"] []) (gI : mg "is_integer" = some (.ref fI))
    (FT : FnOk P w K mg base CX0 2 fT fdT ["voters", "voter"] spFollow) (kT : PySem.W.keepIn K (.ref fT) = true) (bT : Binds K fdT ["voters", "voter"] []) (gT : mg "_follow_table" = some (.ref fT))
    (M : Mk K C fM) (FM : FnOk P w K mg base CX0 7 fM fdM ["self", "voters", "tables"] (spInit C)) (bM : Binds K fdM ["self", "voters", "tables"] []) : FnOk P w K mg base CX0 9 f fd ["cls", "issues", "voters", "voter"] (spOfV C) := by
  refine F.ok scOfV (fun vs H Q E h => ?_) (fun cdv A outer s H vs Q E hr h => ?_)
  · obtain ⟨a, v, i, zs, rfl, _⟩ := h
    rfl
  obtain ⟨a, v, i, zs, rfl, ha, h1, h4, hi, ok, hB, q⟩ := h
  refine ⟨_, pss_cons (ps_expr (pe_call FN (hr.mono (by decide)) (by rfl) gN kN bN .nil pass0 (pa_cons (pv 1) pa_nil)))
    (pss_cons (ps_expr (pe_call FV (hr.mono (by decide)) (by rfl) gV kV bV .nil pass0 (pa_cons (pv 2) pa_nil)))
    (pss_cons (ps_if (PW.pt (pw_or (pt_not (pt_val (pe_call FI (hr.mono (by decide)) (by rfl) gI kI bI .nil pass0 (pa_cons (pv 3) pa_nil))))
      (pw_or1 (pt_not (pt_chain op_le op_lt pe_int (pv 3) (pv 2)))))) (pss_one ps_never) pss_nil)
    (pss_cons (ps_set (i := 4) scOfV.nd rfl (.inr rfl) (pe_call FT (hr.mono (by decide)) (by rfl) gT kT bT .nil pass0 (pa_cons (pv 2) (pa_cons (pv 3) pa_nil))))
    (pss_one (ps_ret (pe_makeV M (pv 0) FM hr bM .nil pass0 (pa_cons (pv 2) (pa_cons
      (pe_dc (own := [("issue", 5)]) (g := gName 5) (tt := tYes) (tk := tVar 5) (tv := tVar 4) rfl scOfV.nd (pi_tup (pv 1)) (blkOk_by (N := ["cls", "issues", "voters", "voter", "table", "issue"]) (sc := defScope dOfVoter) (by decide +kernel))
        (fun _ _ _ _ _ => pg_name (i := 5) scOfV.nd rfl (Or.inl rfl)) (fun _ _ _ _ _ => pts_nil) (fun _ _ _ _ _ => pv 5) (fun _ _ _ _ _ => pv 4)) pa_nil)))))))), ?_⟩
  obtain ⟨g, hl, nd, hp, hio⟩ := id ok
  refine ⟨.ref a, rfl, a, zs, rfl, ha, by omega, hp, hB, fun H1 s1 => ?_⟩
  refine ⟨.int v, rfl, v, rfl, h1, h4, fun H2 s2 => ?_⟩
  refine ⟨.int i, rfl, .int i, 0, rfl, .inl (by show (i : Int).natAbs < 2 ^ 400; exact Nat.lt_of_lt_of_le (by omega : (i : Int).natAbs < 2 ^ 3) (Nat.pow_le_pow_right (by decide) (by decide))), fun H3 s3 => ⟨true, ?_, iteF ?_⟩⟩
  · exact congrArg V.bl (shortB_small (Int.natCast_nonneg i) (by omega))
  refine ⟨.int i, rfl, 0, i, rfl, rfl, _, rfl, ?_⟩
  rw [decide_eq_true (show (0 : Int) ≤ (i : Int) by omega)]
  refine iteT ⟨.int v, rfl, _, _, rfl, rfl, _, rfl, ?_⟩
  rw [decide_eq_true (show (i : Int) < (v : Int) by omega)]
  refine iteF ?_
  refine ⟨.int v, rfl, .int i, rfl, v, i, rfl, h4, hi, fun H4 p s4 hpt => ?_⟩
  have s14 := s1.trans (s2.trans (s3.trans s4))
  have ha4 := s14 _ _ ha
  refine ⟨.ref C, rfl, rfl, .int v, rfl, .ref a, rfl, a, rfl, ⟨_, .of ha4⟩, fun D nD => ?_⟩
  refine dc_tup (K := K) (a := a) (xs := zs.map V.str) (fun j Hx => Same H4 Hx ∧ ∃ kv2, Hx D = some (.dK kv2) ∧ All2 (TabR Hx (fun _ => followN v i)) kv2 (zs.take j)) ⟨same_new nD, [], upd_same, .nil⟩ (fun j Hx _ h => .of (h.1 _ _ ha4)) (fun j x Hx hx h => ?_) (fun Hx h => ?_)
  · obtain ⟨sx, kv2, eD, a2⟩ := h
    rw [List.getElem?_map] at hx
    cases hz : zs[j]? with
    | none => rw [hz] at hx; cases hx
    | some z =>
      rw [hz] at hx
      cases hx
      have l2 := a2.len
      rw [List.length_take] at l2
      refine ⟨rfl, ?_⟩
      refine yes_of ?_
      refine ⟨.str z, rfl, .ref p, rfl, kv2, .inr z, rfl, eD, small60 (by omega), ?_⟩
      rw [putK_new (.ref p) (tab_none a2 (nodup_take nd hz))]
      refine ⟨fun b o e => ?_, _, upd_same, ?_⟩
      · rw [upd_ne (ne_of_none e nD)]
        exact sx _ _ e
      · rw [List.take_add_one, hz]
        exact (a2.imp fun _ _ r => ⟨r.1, row_at r.2 eD⟩).app (.cons ⟨rfl, row_at ⟨p, rfl, sx _ _ hpt⟩ eD⟩ .nil)
  · obtain ⟨sx, kv2, eD, a2⟩ := h
    rw [List.length_map, List.take_length] at a2
    intro x dx nx ndx nex
    have sn : Same Hx (upd (upd Hx dx (.own x)) x (.ins C dx [])) := (same_new ndx).trans (same_new (by rw [upd_ne (fun e => nex e.symm)]; exact nx))
    have nx0 : H x = none := by
      cases e : H x with
      | none => rfl
      | some o => rw [sx _ _ (s14 _ _ e)] at nx; cases nx
    refine ⟨x, dx, D, v, zs, _, rfl, upd_same, h1, h4, ⟨_, sn _ _ eD, TabR.tk (Tk.same sn) a2⟩, ok, fun H5 ys sb pm so hR => ⟨rfl, ?_⟩⟩
    have s5 : Same Hx H5 := fun b o e => sb b o (fun z => by rw [z, nx] at e; cases e) (sn _ _ e)
    exact q H5 x ys (s14.trans (sx.trans s5)) nx0 pm so hR
end
end Ow

set_option Elab.async false
set_option linter.all false
set_option maxRecDepth 100000
set_option maxHeartbeats 4000000
set_option exponentiation.threshold 3000
namespace Ow
open PySem PySem.Spec PyProof.Rows L2
/-! ### data whose text fits -/
structure Fit (d : PyData) (k w : Nat) : Prop where
  sh : d.showable = true
  nd : d.hasDict = false
  dp : d.depth ≤ k
  ln : d.shown.length ≤ w
theorem Fit.mono {d : PyData} {k w k' w' : Nat} (h : Fit d k w) (hk : k ≤ k') (hw : w ≤ w') : Fit d k' w' := ⟨h.sh, h.nd, Nat.le_trans h.dp hk, Nat.le_trans h.ln hw⟩
theorem shAll (ds : List PyData) : PyData.shownAll ds = ds.map PyData.shown := by
  induction ds with
  | nil => rfl
  | cons d ds ih => rw [List.map_cons, ← ih]; rfl
theorem sumLe {α : Type} {f : α → Nat} {c : Nat} : ∀ {xs : List α}, (∀ x ∈ xs, f x ≤ c) → (xs.map f).sum ≤ c * xs.length
  | [], _ => by simp
  | x :: xs, h => by
    rw [List.map_cons, List.sum_cons, List.length_cons, Nat.mul_succ]
    have a := h x List.mem_cons_self
    have b := sumLe (xs := xs) fun y hy => h y (List.mem_cons_of_mem _ hy)
    omega
theorem fitAll {k w : Nat} : ∀ {ds : List PyData}, (∀ d ∈ ds, Fit d k w) → PyData.showableAll ds = true ∧ PyData.hasDictAll ds = false ∧ PyData.depthAll ds ≤ k
  | [], _ => ⟨rfl, rfl, Nat.zero_le _⟩
  | d :: ds, h => by
    obtain ⟨a, b, c⟩ := fitAll fun e he => h e (List.mem_cons_of_mem _ he)
    have hd := h d List.mem_cons_self
    refine ⟨?_, ?_, ?_⟩
    · show (PyData.showable d && PyData.showableAll ds) = true
      rw [hd.sh, a]
      rfl
    · show (PyData.hasDict d || PyData.hasDictAll ds) = false
      rw [hd.nd, b]
      rfl
    · show max (PyData.depth d) (PyData.depthAll ds) ≤ k
      have := hd.dp
      omega
theorem Fit.list {ds : List PyData} {k w : Nat} (h : ∀ d ∈ ds, Fit d k w) : Fit (.list ds) (k + 1) ((w + 2) * ds.length + 3) := by
  obtain ⟨a, b, c⟩ := fitAll h
  refine ⟨a, b, Nat.succ_le_succ c, ?_⟩
  have e : (PyData.list ds).shown = listText (PyData.shownAll ds) := rfl
  rw [e, shAll]
  have := listText_len_le (ds.map PyData.shown)
  rw [List.map_map, List.length_map] at this
  have s := sumLe (f := (fun s : Str => s.length) ∘ PyData.shown) (c := w) (xs := ds) fun d hd => (h d hd).ln
  have m : (w + 2) * ds.length = w * ds.length + 2 * ds.length := Nat.add_mul _ _ _
  omega
theorem Fit.tuple {ds : List PyData} {k w : Nat} (h : ∀ d ∈ ds, Fit d k w) : Fit (.tuple ds) (k + 1) ((w + 2) * ds.length + 3) := by
  obtain ⟨a, b, c⟩ := fitAll h
  refine ⟨a, b, Nat.succ_le_succ c, ?_⟩
  have e : (PyData.tuple ds).shown = tupleText (PyData.shownAll ds) := rfl
  rw [e, shAll]
  have := tupleText_len_le (ds.map PyData.shown)
  rw [List.map_map, List.length_map] at this
  have s := sumLe (f := (fun s : Str => s.length) ∘ PyData.shown) (c := w) (xs := ds) fun d hd => (h d hd).ln
  have m : (w + 2) * ds.length = w * ds.length + 2 * ds.length := Nat.add_mul _ _ _
  omega
theorem small_fit : ∀ i < 60, (PyData.int ((i : Nat) : Int)).showable = true ∧ (PyData.int ((i : Nat) : Int)).shown.length ≤ 2 := by decide +kernel
theorem Fit.nat {i : Nat} (h : i < 60) : Fit (.int (i : Int)) 0 2 := ⟨(small_fit i h).1, rfl, Nat.le_refl _, (small_fit i h).2⟩
theorem Fit.bit {i : Int} (h : i = 0 ∨ i = 1) : Fit (.int i) 0 2 := by
  rcases h with rfl | rfl
  · exact Fit.nat (i := 0) (by decide)
  · exact Fit.nat (i := 1) (by decide)
theorem Fit.bool (b : Bool) : Fit (.bool b) 0 5 := ⟨rfl, rfl, Nat.zero_le _, by cases b <;> decide +kernel⟩
theorem Fit.str {z : Str} (h : z.length ≤ 8 ∧ ∀ c ∈ z.cps.toList, c < 128) : Fit (.str z) 0 82 := by
  refine ⟨rfl, rfl, Nat.zero_le _, ?_⟩
  have e : (PyData.str z).shown = reprText z := rfl
  rw [e]
  have := PySem.StrLaws.reprText_len z fun c hc => Nat.lt_of_lt_of_le (h.2 c hc) (by decide)
  omega
theorem name_fit {z : Str} (h : nameB (.str z) = true) : z.length ≤ 8 ∧ ∀ c ∈ z.cps.toList, c < 128 := by
  unfold nameB at h
  rw [Bool.and_eq_true, Bool.and_eq_true] at h
  refine ⟨of_decide_eq_true h.1.2, fun c hc => ?_⟩
  have := List.all_eq_true.mp h.2 c hc
  unfold signB at this
  rw [Bool.and_eq_true] at this
  have h2 := of_decide_eq_true this.2
  omega
theorem row_fit {r : List Int} {n : Nat} (hl : r.length ≤ n) (hb : ∀ b ∈ r, b = 0 ∨ b = 1) : Fit (rowD r) 1 (4 * n + 3) := by
  refine (Fit.tuple (ds := r.map PyData.int) (k := 0) (w := 2) fun d hd => ?_).mono (Nat.le_refl _) (by rw [List.length_map]; omega)
  obtain ⟨b, hb', rfl⟩ := List.mem_map.mp hd
  exact Fit.bit (hb b hb')
end Ow

set_option Elab.async false
set_option linter.all false
set_option maxRecDepth 100000
set_option maxHeartbeats 4000000
set_option exponentiation.threshold 3000
namespace Ow
open PySem PySem.Spec PyProof.Rows L2
theorem scIsAns : FnScope ["value"] ["value"] (defScope dIsAnswer) := ⟨rfl, rfl, rfl, by decide +kernel, rfl, by decide +kernel, by decide +kernel⟩
theorem scAnsTo : FnScope ["issues", "value"] ["issues", "value"] (defScope dAnswerTo) := ⟨rfl, rfl, rfl, by decide +kernel, rfl, by decide +kernel, by decide +kernel⟩
theorem scAreVt : FnScope ["value", "voters", "voter"] ["value", "voters"] (defScope dAreVoters) := ⟨rfl, rfl, rfl, by decide +kernel, rfl, by decide +kernel, by decide +kernel⟩
theorem scNeedAny : FnScope ["rule"] ["rule"] (defScope dNeedAny) := ⟨rfl, rfl, rfl, by decide +kernel, rfl, by decide +kernel, by decide +kernel⟩
theorem scNeedAns : FnScope ["rule", "answer"] ["rule", "answer"] (defScope dNeedAns) := ⟨rfl, rfl, rfl, by decide +kernel, rfl, by decide +kernel, by decide +kernel⟩
def ascI (ns : List Int) : Bool := (ns.zip ns.tail).all fun p => decide (p.1 < p.2)
/-- voters, ascending -/
def VtOk (v : Nat) (ns : List Int) : Prop := ns.length ≤ 4 ∧ (∀ n ∈ ns, 0 ≤ n ∧ n < (v : Int)) ∧ ascI ns = true
def AnsAt (H : Hp) (a : Addr) (z : Str) (c : Int) : Prop := H a = some (.tup [.str z, .int c])
/-- a property's getter -/
structure RuleP (P : Program) (w : World) (K : PySem.W.Frag) (mg : Str → Option Value) (base : Heap) (C : Addr) (nm fld : Str) (p g : Addr) (gd : FuncData) : Prop where
  hp : PropOf K C nm p g
  F : FnOk P w K mg base CX0 1 g gd ["self"] (getSp C fld)
  b : Binds K gd ["self"] []
section
variable {P : Program} {w : World} {K : PySem.W.Frag} {mg : Str → Option Value} {base : Heap} {C : Addr}
def spAscI : Sp := fun vs H Q _ => ∃ (a : Addr) (ns : List Int), vs = [.ref a] ∧ H a = some (.tup (ns.map V.int)) ∧ ns.length ≤ 60 ∧ ∀ H', Same H H' → Q (.bl (ascI ns)) H'
theorem ok_asci {f : Addr} {fd : FuncData} (F : Fun K "is_ascending" "is_ascending" dAscending f fd) (mz : mg "zip" = none) (ma : mg "all" = none) : FnOk P w K mg base CX0 1 f fd ["items"] spAscI := by
  refine F.ok scAsc (fun vs H Q E h => ?_) (fun cdv A outer s H vs Q E hr h => ?_)
  · obtain ⟨a, ns, rfl, _⟩ := h
    rfl
  obtain ⟨a, ns, rfl, ha, hl, q⟩ := h
  refine ⟨_, pss_one (ps_ret (pe_callB (cr_all rfl) (by rfl) ma boot_all (pa_cons
    (pe_lc (own := [("one", 1), ("other", 2)]) (g := gTup K 2 (gCons (gName 1) (gCons (gName 2) gNil))) (tt := tYes) rfl scAsc.nd
      (RZ.pi_zipA (by rfl) mz (pa_cons (pv 0) (pa_cons (pe_slice sl_tup (pv 0) (po_some pe_int) po_none) pa_nil)))
      (blkOk_by (N := ["items", "one", "other"]) (sc := defScope dAscending) (by decide +kernel))
      (fun _ _ _ _ _ => pg_tup rfl (pgs_cons (pg_name (i := 1) scAsc.nd rfl (Or.inl rfl)) (pgs_cons (pg_name (i := 2) scAsc.nd rfl (Or.inl rfl)) pgs_nil)))
      (fun _ _ _ _ _ => pts_nil) (fun _ _ _ _ _ => pe_cmpR op_lt (pv 1) (pv 2) (nomark _))) pa_nil))), ?_⟩
  refine ⟨.ref a, rfl, .ref a, rfl, 1, rfl, a, ns.map V.int, rfl, ha, fun H1 b s1 hb => ?_⟩
  rw [cut_tail, ← List.map_tail] at hb
  refine ⟨a, b, ns.map V.int, ns.tail.map V.int, rfl, .inr ⟨.of (s1 _ _ ha), .of hb, fun D nD => ?_⟩⟩
  refine lc_map (M := No) (walk_zipT (K := K) (a := a) (b := b) (xs := ns.map V.int) (ys := ns.tail.map V.int) rfl) (by rw [List.length_map, List.length_map, List.length_tail]; omega) Jg.no nD
    (fun i _ y => ∃ p, (ns.zip ns.tail)[i]? = some p ∧ y = .bl (decide (p.1 < p.2))) (fun _ _ _ _ _ h => h) (fun Hx g _ => ⟨.of (g.toSame _ _ (s1 _ _ ha)), .of (g.toSame _ _ hb)⟩)
    (fun i x Hx Hx' Kk hi g _ hY hK => ?_) (fun Hx ys g _ eD hlen hp => ?_)
  · obtain ⟨T, x, y, rfl, nT, rfl, hx, hy⟩ := hY
    have hx : (ns.map V.int)[i]? = some x := hx
    have hy : (ns.tail.map V.int)[i]? = some y := hy
    rw [List.getElem?_map] at hx hy
    cases h1 : ns[i]? with
    | none => rw [h1] at hx; cases hx
    | some c =>
      cases h2 : ns.tail[i]? with
      | none => rw [h2] at hy; cases hy
      | some d =>
        rw [h1] at hx
        rw [h2] at hy
        cases hx
        cases hy
        exact ⟨T, [.int c, .int d], rfl, .of upd_same, rfl, _, _, rfl, _, _, rfl, rfl, rfl, .int c, rfl, .int d, rfl, c, d, rfl, rfl, hK _ _ (Gw.new nT) Jg.no ⟨(c, d), List.getElem?_zip_eq_some.mpr ⟨h1, h2⟩, rfl⟩⟩
  · have e : ys = ((ns.zip ns.tail).map fun p => decide (p.1 < p.2)).map V.bl := by
      rw [List.map_map]
      exact list_eq (f := V.bl ∘ fun p : Int × Int => decide (p.1 < p.2)) hlen (by rw [List.length_zip, List.length_map, List.length_map]) hp
    rw [e] at eD
    refine ⟨D, _, rfl, .of eD, ?_⟩
    have e2 : ((ns.zip ns.tail).map fun p => decide (p.1 < p.2)).all id = ascI ns := by rw [List.all_map]; rfl
    rw [e2]
    exact q _ (s1.trans g.toSame)
def spAreVt : Sp := fun vs H Q _ => ∃ (b : Addr) (v : Nat) (ns : List Int), vs = [.ref b, .int v] ∧ H b = some (.tup (ns.map V.int)) ∧ v ≤ 4 ∧ VtOk v ns ∧ ∀ H', Same H H' → Q (.bl true) H'
theorem ok_arevoters {f fI fA : Addr} {fd fdI fdA : FuncData} (F : Fun K "are_voters" "are_voters" dAreVoters f fd) (FI : FnOk P w K mg base CX0 1 fI fdI ["value"] (spB fun _ => shortB)) (kI : PySem.W.keepIn K (.ref fI) = true) (bI : Binds K fdI ["value"] []) (gI : mg "is_integer" = some (.ref fI))
    (FA : FnOk P w K mg base CX0 1 fA fdA ["items"] spAscI) (kA : PySem.W.keepIn K (.ref fA) = true) (bA : Binds K fdA ["items"] []) (gA : mg "is_ascending" = some (.ref fA)) (mi : mg "isinstance" = none) (mt : mg "tuple" = none) (ma : mg "all" = none) : FnOk P w K mg base CX0 2 f fd ["value", "voters"] spAreVt := by
  refine F.ok scAreVt (fun vs H Q E h => ?_) (fun cdv A outer s H vs Q E hr h => ?_)
  · obtain ⟨b, v, ns, rfl, _⟩ := h
    rfl
  obtain ⟨b, v, ns, rfl, hb, hv, ⟨l4, hn, ha⟩, q⟩ := h
  refine ⟨_, pss_cons (ps_if (PW.pt (pw_or (pt_not (pt_val (pe_isi (T := "tuple") (by rfl) mi (pv 0) (by rfl) mt boot_tup))) (pw_or1 (pt_not (pt_val (pe_callB (cr_all rfl) (by rfl) ma boot_all (pa_cons
      (pe_lc (te := tAndV (tCall (spB fun _ => shortB) [] E0 (tCons (tVar 2) tNil)) (tChain (rI0 fun i j => .bl (decide (i ≤ j))) (rI0 fun i j => .bl (decide (i < j))) (tC (.int 0)) (tVar 2) (tVar 1))) (own := [("voter", 2)]) (g := gName 2) (tt := tYes) rfl scAreVt.nd (pi_tup (pv 0)) (blkOk_by (N := ["value", "voters", "voter"]) (sc := defScope dAreVoters) (by decide +kernel))
        (fun _ _ _ _ _ => pg_name (i := 2) scAreVt.nd rfl (Or.inl rfl)) (fun _ _ _ _ _ => pts_nil)
        (fun _ _ _ _ _ => pe_and (pe_call FI hr (by rfl) gI kI bI .nil pass0 (pa_cons (pv 2) pa_nil)) (pe_one (pe_chain op_le op_lt pe_int (pv 2) (pv 1))))) pa_nil))))))) (pss_one (ps_ret pe_bl)) pss_nil)
    (pss_one (ps_ret (pe_call FA hr (by rfl) gA kA bA .nil pass0 (pa_cons (pv 0) pa_nil)))), ?_⟩
  refine isi_at "tuple" rfl (.base (.tup hb)) (b := true) (by decide +kernel) ⟨true, rfl, iteF ?_⟩
  refine ⟨.ref b, rfl, b, rfl, ⟨_, .of hb⟩, fun D nD => ?_⟩
  refine lc_map (M := No) (walk_tup (K := K) (a := b) (xs := ns.map V.int)) (by rw [List.length_map]; omega) Jg.no nD (fun i _ y => ∃ z, (ns.map fun _ => true)[i]? = some z ∧ y = .bl z) (fun _ _ _ _ _ h => h) (fun Hx g _ => .of (g.toSame _ _ hb))
    (fun i x Hx Hx' Kk hi g _ hY hK => ?_) (fun Hx ys g _ eD hlen hq => ?_)
  · obtain ⟨rfl, hx⟩ := hY
    rw [List.getElem?_map] at hx
    cases h1 : ns[i]? with
    | none => rw [h1] at hx; cases hx
    | some c =>
      rw [h1] at hx
      cases hx
      obtain ⟨c0, c4⟩ := hn c (List.mem_of_getElem? h1)
      have sh : shortB (.int c) = true := by
        show (decide (-(10 ^ 60) < c) && decide (c < 10 ^ 60)) = true
        rw [decide_eq_true (by omega), decide_eq_true (by omega)]
        rfl
      refine ⟨rfl, .int c, rfl, .int c, 0, rfl, .inl (show c.natAbs < 2 ^ 400 from Nat.lt_of_lt_of_le (show c.natAbs < 8 by omega) (by decide +kernel)), fun H2 s2 => ⟨true, congrArg V.bl sh, iteT ?_⟩⟩
      refine ⟨.int c, rfl, 0, c, rfl, rfl, true, congrArg V.bl (decide_eq_true c0), iteT ⟨.int v, rfl, c, v, rfl, rfl, ?_⟩⟩
      dsimp only
      rw [decide_eq_true c4]
      exact hK _ _ (Gw.same s2) Jg.no ⟨true, by rw [List.getElem?_map, h1]; rfl, rfl⟩
  · have e : ys = (ns.map fun _ => true).map V.bl := by
      rw [← List.map_id (ns.map fun _ => true), List.map_id]
      exact list_eq hlen (by rw [List.length_map, List.length_map]) hq
    rw [e] at eD
    refine ⟨D, _, rfl, .of eD, true, ?_, iteF ?_⟩
    · refine congrArg V.bl ?_
      rw [List.all_map]
      exact List.all_eq_true.mpr fun _ _ => rfl
    · refine ⟨.ref b, rfl, b, ns, rfl, g.toSame _ _ hb, by omega, fun H2 s2 => ?_⟩
      rw [ha]
      exact q H2 (g.toSame.trans s2)
def spIsAns : Sp := fun vs H Q _ => ∃ (a : Addr) (z : Str) (c : Int), vs = [.ref a] ∧ AnsAt H a z c ∧ nameB (.str z) = true ∧ (c = 0 ∨ c = 1) ∧ ∀ H', Same H H' → Q (.bl true) H'
theorem ok_isans {f fN fV : Addr} {fd fdN fdV : FuncData} (F : Fun K "is_answer" "is_answer" dIsAnswer f fd) (FN : FnOk P w K mg base CX0 1 fN fdN ["value"] (spB fun _ => nameB)) (kN : PySem.W.keepIn K (.ref fN) = true) (bN : Binds K fdN ["value"] []) (gN : mg "is_name" = some (.ref fN))
    (FV : FnOk P w K mg base CX0 2 fV fdV ["value"] (spB fun _ => bitB)) (kV : PySem.W.keepIn K (.ref fV) = true) (bV : Binds K fdV ["value"] []) (gV : mg "is_value" = some (.ref fV)) (mi : mg "isinstance" = none) (mt : mg "tuple" = none) (ml : mg "len" = none) : FnOk P w K mg base CX0 3 f fd ["value"] spIsAns := by
  refine F.ok scIsAns (fun vs H Q E h => ?_) (fun cdv A outer s H vs Q E hr h => ?_)
  · obtain ⟨a, z, c, rfl, _⟩ := h
    rfl
  obtain ⟨a, z, c, rfl, ha, hz, hc, q⟩ := h
  refine ⟨_, pss_one (ps_ret (pe_and (pe_isi (T := "tuple") (by rfl) mi (pv 0) (by rfl) mt boot_tup) (pe_and (pe_cmpR op_eq (pe_callB call_len_seq (by rfl) ml PySem.boot_len (pa_cons (pv 0) pa_nil)) pe_int (nomark _))
    (pe_and (pe_call FN (hr.mono (by decide)) (by rfl) gN kN bN .nil pass0 (pa_cons (pe_ix ix_tup (pv 0) pe_int (fun _ _ => rfl)) pa_nil)) (pe_one (pe_call FV (hr.mono (by decide)) (by rfl) gV kV bV .nil pass0 (pa_cons (pe_ix ix_tup (pv 0) pe_int (fun _ _ => rfl)) pa_nil))))))), ?_⟩
  refine isi_at "tuple" rfl (.base (.tup ha)) (b := true) (by decide +kernel) ⟨true, rfl, iteT ?_⟩
  have fit := name_fit hz
  refine ⟨.ref a, rfl, a, _, rfl, .inr (.of ha), rfl, true, rfl, iteT ?_⟩
  refine ⟨.ref a, rfl, a, _, 0, .str z, rfl, rfl, .of ha, atI_nat (j := 0) rfl, .str z, 0, rfl, .inl ⟨by omega, fit.2⟩, fun H1 s1 => ⟨true, congrArg V.bl hz, iteT ?_⟩⟩
  have ha1 := s1 _ _ ha
  refine ⟨.ref a, rfl, a, _, 1, .int c, rfl, rfl, .of ha1, atI_nat (j := 1) rfl, .int c, 0, rfl, .inl (show c.natAbs < 2 ^ 400 from Nat.lt_of_lt_of_le (show c.natAbs < 8 by omega) (by decide +kernel)), fun H2 s2 => ?_⟩
  have hb : bitB (.int c) = true := by
    rcases hc with rfl | rfl
    · rfl
    · rfl
  show Q (.bl (bitB (.int c))) H2
  rw [hb]
  exact q H2 (s1.trans s2)
def spAnsTo : Sp := fun vs H Q _ => ∃ (t a : Addr) (ys : List Str) (z : Str) (c : Int), vs = [.ref t, .ref a] ∧ H t = some (.tup (ys.map V.str)) ∧ z ∈ ys ∧ AnsAt H a z c ∧ nameB (.str z) = true ∧ (c = 0 ∨ c = 1) ∧ ∀ H', Same H H' → Q (.bl true) H'
theorem ok_ansto {f fI : Addr} {fd fdI : FuncData} (F : Fun K "is_answer_to" "is_answer_to" dAnswerTo f fd) (FI : FnOk P w K mg base CX0 3 fI fdI ["value"] spIsAns) (kI : PySem.W.keepIn K (.ref fI) = true) (bI : Binds K fdI ["value"] []) (gI : mg "is_answer" = some (.ref fI)) : FnOk P w K mg base CX0 4 f fd ["issues", "value"] spAnsTo := by
  refine F.ok scAnsTo (fun vs H Q E h => ?_) (fun cdv A outer s H vs Q E hr h => ?_)
  · obtain ⟨t, a, ys, z, c, rfl, _⟩ := h
    rfl
  obtain ⟨t, a, ys, z, c, rfl, ht, hz, ha, nz, hc, q⟩ := h
  refine ⟨_, pss_one (ps_ret (pe_and (pe_call FI (hr.mono (by decide)) (by rfl) gI kI bI .nil pass0 (pa_cons (pv 1) pa_nil)) (pe_one (pe_cmpR op_in_seq (pe_ix ix_tup (pv 1) pe_int (fun _ _ => rfl)) (pv 0) (by rfl))))), ?_⟩
  refine ⟨.ref a, rfl, a, z, c, rfl, ha, nz, hc, fun H1 s1 => ⟨true, rfl, iteT ?_⟩⟩
  refine ⟨.ref a, rfl, a, _, 0, .str z, rfl, rfl, .of (s1 _ _ ha), atI_nat (j := 0) rfl, .ref t, rfl, t, _, rfl, .inr (.of (s1 _ _ ht)), rfl, flat_strs ys, ?_⟩
  rw [in_strs hz]
  exact q H1 s1
def spNeedAny (C : Addr) : Sp := fun vs H Q _ => ∃ (a : Addr) (v : Nat) (ys : List Str) (tab : Str → List Int), vs = [.ref a] ∧ RuleAt C H a v ys tab ∧ Q .non H
theorem ok_needany {f : Addr} {fd : FuncData} (R : RuleC K C) (RI : RuleI K C) (F : Fun K "need_any_rule" "need_any_rule" dNeedAny f fd) (mi : mg "isinstance" = none) (gR : mg "Rule" = some (.ref C)) : FnOk P w K mg base CX0 1 f fd ["rule"] (spNeedAny C) := by
  refine F.ok scNeedAny (fun vs H Q E h => ?_) (fun cdv A outer s H vs Q E hr h => ?_)
  · obtain ⟨a, v, ys, tab, rfl, _⟩ := h
    rfl
  obtain ⟨a, v, ys, tab, rfl, ⟨dx, t, d, ha, ht, hd⟩, q⟩ := h
  refine ⟨_, pss_one (ps_if (pt_not (pt_val (pe_callB call_isi (by rfl) mi boot_isi (pa_cons (pv 0) (pa_cons (pe_glob (by rfl) gR (v := .ref C) rfl) pa_nil))))) (pss_one ps_never) pss_nil), ?_⟩
  exact ⟨.ref a, rfl, .ref a, .ref C, .ref C, .ref C, true, rfl, .own C, RI.ty R.cl ha, RI.own, true, rfl, iteF q⟩
def spNeedAns (C : Addr) : Sp := fun vs H Q _ => ∃ (a b : Addr) (v : Nat) (ys : List Str) (tab : Str → List Int) (z : Str) (c : Int), vs = [.ref a, .ref b] ∧ RuleAt C H a v ys tab ∧ z ∈ ys ∧ AnsAt H b z c ∧ nameB (.str z) = true ∧ (c = 0 ∨ c = 1) ∧ ∀ H', Same H H' → Q .non H'
theorem ok_needans {f fT pi gi : Addr} {fd fdT gdi : FuncData} (R : RuleC K C) (PI : RuleP P w K mg base C "issues" "_issues" pi gi gdi) (F : Fun K "_need_answer_to" "_need_answer_to" dNeedAns f fd)
    (FT : FnOk P w K mg base CX0 4 fT fdT ["issues", "value"] spAnsTo) (kT : PySem.W.keepIn K (.ref fT) = true) (bT : Binds K fdT ["issues", "value"] []) (gT : mg "is_answer_to" = some (.ref fT)) : FnOk P w K mg base CX0 5 f fd ["rule", "answer"] (spNeedAns C) := by
  refine F.ok scNeedAns (fun vs H Q E h => ?_) (fun cdv A outer s H vs Q E hr h => ?_)
  · obtain ⟨a, b, v, ys, tab, z, c, rfl, _⟩ := h
    rfl
  obtain ⟨a, b, v, ys, tab, z, c, rfl, ⟨dx, t, d, ha, ht, hd⟩, hz, hb, nz, hc, q⟩ := h
  refine ⟨_, pss_one (ps_if (pt_not (pt_val (pe_call FT hr (by rfl) gT kT bT .nil pass0 (pa_cons (pe_prop (pv 0) R.cl PI.hp PI.F (hr.mono (by decide)) PI.b .nil pass0 (by rfl)) (pa_cons (pv 1) pa_nil))))) (pss_one ps_never) pss_nil), ?_⟩
  refine ⟨.ref a, rfl, a, dx, _, rfl, ha, a, dx, _, .ref t, rfl, ha, rfl, .ref b, rfl, t, b, ys, z, c, rfl, ht, hz, hb, nz, hc, fun H1 s1 => ⟨true, rfl, iteF (q H1 s1)⟩⟩
end
end Ow

set_option Elab.async false
set_option linter.all false
set_option maxRecDepth 100000
set_option maxHeartbeats 4000000
set_option exponentiation.threshold 3000
namespace Ow
open PySem PySem.Spec PyProof.Rows L2
theorem scWins : FnScope ["rule", "voters", "answer", "issue", "said", "voter"] ["rule", "voters", "answer"] (defScope dWins) := ⟨rfl, rfl, rfl, by decide +kernel, rfl, by decide +kernel, by decide +kernel⟩
theorem scDoesWin : FnScope ["rule", "voters", "answer"] ["rule", "voters", "answer"] (defScope dDoesWin) := ⟨rfl, rfl, rfl, by decide +kernel, rfl, by decide +kernel, by decide +kernel⟩
/-! ### who wins -/
def saysN (v : Nat) (c : Int) (ns : List Int) : List Int := (List.range v).map fun i : Nat => if (i : Int) ∈ ns then c else 1 - c
def winsB (v : Nat) (r : List Int) (c : Int) (ns : List Int) : Bool := decide (r.getD (placeN (saysN v c ns)).toNat 0 = c)
theorem place_snoc (r : List Int) (b : Int) : placeN (r ++ [b]) = 2 * placeN r + b := by
  unfold placeN
  rw [List.foldl_append]
  rfl
theorem place_lt : ∀ (r : List Int), (∀ b ∈ r, b = 0 ∨ b = 1) → 0 ≤ placeN r ∧ placeN r < (2 : Int) ^ r.length := by
  intro r
  induction hn : r.length generalizing r with
  | zero =>
    intro _
    rw [List.eq_nil_of_length_eq_zero hn]
    exact ⟨by decide, by decide⟩
  | succ n ih =>
    intro hb
    have hne : r ≠ [] := fun e => by rw [e] at hn; cases hn
    have e := List.dropLast_concat_getLast hne
    obtain ⟨a, c⟩ := ih r.dropLast (by rw [List.length_dropLast, hn]; rfl) fun b hm => hb b ((List.dropLast_sublist _).subset hm)
    have hl := hb _ (List.getLast_mem hne)
    rw [← e, place_snoc, Int.pow_succ]
    generalize placeN r.dropLast = p at a c ⊢
    generalize (2 : Int) ^ n = q at c ⊢
    omega
theorem says_bit {v : Nat} {c : Int} {ns : List Int} (hc : c = 0 ∨ c = 1) : ∀ b ∈ saysN v c ns, b = 0 ∨ b = 1 := fun b hb => by
  obtain ⟨i, _, rfl⟩ := List.mem_map.mp hb
  split
  · exact hc
  · omega
theorem in_ints (i : Int) : ∀ ns : List Int, inV (.int i) (ns.map V.int) = decide (i ∈ ns)
  | [] => rfl
  | n :: ns => by
    have ih := in_ints i ns
    unfold inV at ih ⊢
    rw [List.map_cons, List.any_cons, ih]
    show ((n == i) || decide (i ∈ ns)) = decide (i ∈ n :: ns)
    rw [Bool.eq_iff_iff, Bool.or_eq_true, beq_iff_eq, decide_eq_true_iff, decide_eq_true_iff, List.mem_cons]
    exact ⟨fun h => h.elim (fun e => .inl e.symm) .inr, fun h => h.elim (fun e => .inl e.symm) .inr⟩
theorem flat_ints (ns : List Int) : (ns.map V.int).all flatV = true := by
  rw [List.all_map]
  exact List.all_eq_true.mpr fun _ _ => rfl
section
variable {P : Program} {w : World} {K : PySem.W.Frag} {mg : Str → Option Value} {base : Heap} {C : Addr}
def spPlaceL : Sp := fun vs H Q _ => ∃ (a : Addr) (ns : List Int), vs = [.ref a] ∧ H a = some (.lst (ns.map V.int)) ∧ ∀ H', Same H H' → Q (.int (placeN ns)) H'
theorem ok_placel {f : Addr} {fd : FuncData} (F : Fun K "place_of" "place_of" dPlace f fd) : FnOk P w K mg base CX0 1 f fd ["values"] spPlaceL := by
  refine F.ok scPlace (fun vs H Q E h => ?_) (fun cdv A outer s H vs Q E hr h => ?_)
  · obtain ⟨a, ns, rfl, _⟩ := h
    rfl
  obtain ⟨a, ns, rfl, ha, q⟩ := h
  refine ⟨_, pss_cons (ps_set (i := 1) scPlace.nd rfl (.inl rfl) pe_int)
    (pss_cons (ps_for PassesOwn.never rfl (pi_list (pv 0)) (pg_name (i := 2) scPlace.nd rfl (.inl rfl))
      (pss_one (ps_set (i := 1) scPlace.nd rfl (.inl rfl) (pe_op op_add (pe_op op_mul pe_int (pv 1)) (pv 2)))))
    (pss_one (ps_ret (pv 1)))), ?_⟩
  refine ⟨.ref a, rfl, a, rfl, ⟨_, .of ha⟩, ?_⟩
  refine for_it (walk_list (K := K) (a := a) (xs := ns.map V.int)) (fun j σ Hy => ∃ y2, σ = [some (.ref a), some (.int (placeN (ns.take j))), y2] ∧ Hy = H)
    ⟨none, rfl, rfl⟩ (fun j σ Hy _ h => ?_) (fun j x σ Hy Hy' hj h hY => ?_) (fun σ Hy h => ?_)
  · obtain ⟨_, _, rfl⟩ := h
    exact .of ha
  · obtain ⟨y2, rfl, e⟩ := h
    have e := e.symm
    subst e
    obtain ⟨eH, hx⟩ := hY
    have eH := eH.symm
    subst eH
    rw [List.getElem?_map] at hx
    cases h1 : ns[j]? with
    | none => rw [h1] at hx; cases hx
    | some n =>
      rw [h1] at hx
      cases hx
      refine ⟨.int _, rfl, 2, _, rfl, rfl, .inl ⟨by decide, by decide⟩, .int n, rfl, _, _, rfl, rfl, some (.int n), ?_, rfl⟩
      rw [List.take_add_one, h1]
      show _ = [some (V.ref a), some (.int (placeN (ns.take j ++ [n]))), some (.int n)]
      rw [place_snoc]
      rfl
  · obtain ⟨y2, rfl, e⟩ := h
    subst e
    rw [List.length_map, List.take_length]
    exact ⟨.int _, rfl, q _ (Same.refl _)⟩
def spWins (C : Addr) : Sp := fun vs H Q _ => ∃ (a b t : Addr) (v : Nat) (ys : List Str) (tab : Str → List Int) (z : Str) (c : Int) (ns : List Int), vs = [.ref a, .ref b, .ref t] ∧ RuleAt C H a v ys tab ∧ v ≤ 4 ∧ z ∈ ys ∧ (tab z).length = 2 ^ v ∧ H b = some (.tup (ns.map V.int)) ∧ AnsAt H t z c ∧ (c = 0 ∨ c = 1) ∧
  ∀ H', Same H H' → Q (.bl (winsB v (tab z) c ns)) H'
theorem ok_wins {f g pv1 gv fP : Addr} {fd gd gdv fdP : FuncData} (R : RuleC K C) (G : RuleG P w K mg base C g gd) (PV : RuleP P w K mg base C "voters" "_voters" pv1 gv gdv) (F : Fun K "_wins" "_wins" dWins f fd)
    (FP : FnOk P w K mg base CX0 1 fP fdP ["values"] spPlaceL) (kP : PySem.W.keepIn K (.ref fP) = true) (bP : Binds K fdP ["values"] []) (gP : mg "place_of" = some (.ref fP)) (mr : mg "range" = none) : FnOk P w K mg base CX0 3 f fd ["rule", "voters", "answer"] (spWins C) := by
  refine F.ok scWins (fun vs H Q E h => ?_) (fun cdv A outer s H vs Q E hr h => ?_)
  · obtain ⟨a, b, t, v, ys, tab, z, c, ns, rfl, _⟩ := h
    rfl
  obtain ⟨a, b, t, v, ys, tab, z, c, ns, rfl, hR, hv, hz, hl, hb, ht, hc, q⟩ := h
  refine ⟨_, pss_cons (ps_asg (pv 2) (pg_tup (by rfl) (pgs_cons (pg_name (i := 3) scWins.nd rfl (.inl rfl)) (pgs_cons (pg_name (i := 4) scWins.nd rfl (.inr rfl)) pgs_nil))))
    (pss_one (ps_ret (pe_cmpR op_eq (pe_ix ix_tup (pe_ixO (pv 0) (pv 3) G.hn G.hm G.fn G.F (hr.mono (by decide)) G.b pass0) (pe_call FP (hr.mono (by decide)) (by rfl) gP kP bP .nil pass0 (pa_cons
      (pe_lc (te := tIf (tTest (tOp (rIn K false) (tVar 5) (tVar 1))) (tVar 4) (tOp (rI0 fun i j => .int (i - j)) (tC (.int 1)) (tVar 4))) (own := [("voter", 5)]) (g := gName 5) (tt := tYes) rfl scWins.nd (pi_range1 (by rfl) mr (pa_cons (pe_prop (pv 0) R.cl PV.hp PV.F (hr.mono (by decide)) PV.b .nil pass0 (by rfl)) pa_nil))
        (blkOk_by (N := ["rule", "voters", "answer", "issue", "said", "voter"]) (sc := defScope dWins) (by decide +kernel))
        (fun _ _ _ _ _ => pg_name (i := 5) scWins.nd rfl (Or.inl rfl)) (fun _ _ _ _ _ => pts_nil)
        (fun _ _ _ _ _ => pe_ifExp (pt_cmpR op_in_seq (pv 5) (pv 1) (by rfl)) (pv 4) (pe_op op_sub pe_int (pv 4)))) pa_nil)) (fun _ _ => rfl)) (pv 4) (nomark _)))), ?_⟩
  obtain ⟨dx, u, d, ha, hu, hd⟩ := id hR
  refine ⟨.ref t, rfl, t, _, rfl, .of ht, rfl, _, _, rfl, _, _, rfl, rfl, ?_⟩
  refine ⟨.ref a, rfl, .str z, rfl, a, dx, _, rfl, ha, a, z, v, ys, tab, rfl, hR, hz, fun H1 x s1 hx => ?_⟩
  have ha1 := s1 _ _ ha
  refine ⟨.ref a, rfl, a, dx, _, rfl, ha1, a, dx, _, .int v, rfl, ha1, rfl, v, rfl, by omega, by omega, fun D nD => ?_⟩
  refine lc_map (M := No) (walk_range (lo := 0) (n := v)) (by omega) Jg.no nD (fun i _ y => ∃ k, (saysN v c ns)[i]? = some k ∧ y = .int k) (fun _ _ _ _ _ h => h) (fun Hx _ _ => trivial)
    (fun i x Hx Hx' Kk hi g _ hY hK => ?_) (fun Hx ws g _ eD hlen hq => ?_)
  · obtain ⟨rfl, rfl⟩ := hY
    have hb1 := (s1.trans g.toSame) _ _ hb
    refine ⟨rfl, .int (0 + (i : Int)), rfl, .ref b, rfl, b, ns.map V.int, rfl, .inr (.of hb1), rfl, flat_ints ns, ?_⟩
    have e0 : (0 : Int) + (i : Int) = (i : Int) := Int.zero_add _
    rw [e0, in_ints]
    have ek : (saysN v c ns)[i]? = some (if (i : Int) ∈ ns then c else 1 - c) := by
      unfold saysN
      rw [List.getElem?_map, List.getElem?_range hi]
      rfl
    by_cases m : (i : Int) ∈ ns
    · rw [decide_eq_true m]
      rw [if_pos m] at ek
      exact ⟨true, rfl, iteT ⟨.int c, rfl, hK _ _ (Gw.refl _) Jg.no ⟨c, ek, rfl⟩⟩⟩
    · rw [decide_eq_false m]
      rw [if_neg m] at ek
      exact ⟨false, rfl, iteF ⟨.int c, rfl, 1, c, rfl, rfl, hK _ _ (Gw.refl _) Jg.no ⟨_, ek, rfl⟩⟩⟩
  · have e : ws = (saysN v c ns).map V.int := list_eq hlen (by unfold saysN; rw [List.length_map, List.length_range]) hq
    rw [e] at eD
    refine ⟨D, saysN v c ns, rfl, eD, fun H2 s2 => ?_⟩
    obtain ⟨p0, p1⟩ := place_lt (saysN v c ns) (says_bit hc)
    have ll : (saysN v c ns).length = v := by unfold saysN; rw [List.length_map, List.length_range]
    rw [ll] at p1
    obtain ⟨r, rfl, hr'⟩ := hx
    have p2 : (placeN (saysN v c ns)).toNat < (tab z).length := by
      have : ((2 ^ v : Nat) : Int) = (2 : Int) ^ v := Int.natCast_pow 2 _
      rw [hl]
      omega
    have s12 := g.toSame.trans s2
    refine ⟨r, _, _, .int ((tab z).getD (placeN (saysN v c ns)).toNat 0), rfl, rfl, .of (s12 _ _ hr'), at_of (show placeN (saysN v c ns) = ((placeN (saysN v c ns)).toNat : Int) by omega) ?_, .int c, rfl, rfl, ?_⟩
    · rw [List.getElem?_map, List.getD_eq_getElem?_getD, List.getElem?_eq_getElem p2]
      rfl
    · have e3 : decide (V.int ((tab z).getD (placeN (saysN v c ns)).toNat 0) = V.int c) = winsB v (tab z) c ns := decide_eq_decide.mpr ⟨fun e => V.int.inj e, fun e => congrArg V.int e⟩
      rw [e3]
      exact q H2 (s1.trans s12)
def spDoesWin (C : Addr) : Sp := fun vs H Q _ => ∃ (a b t : Addr) (v : Nat) (ys : List Str) (tab : Str → List Int) (z : Str) (c : Int) (ns : List Int), vs = [.ref a, .ref b, .ref t] ∧ RuleAt C H a v ys tab ∧ v ≤ 4 ∧ z ∈ ys ∧ nameB (.str z) = true ∧ (tab z).length = 2 ^ v ∧ H b = some (.tup (ns.map V.int)) ∧ VtOk v ns ∧ AnsAt H t z c ∧ (c = 0 ∨ c = 1) ∧
  ∀ H', Same H H' → Q (.bl (winsB v (tab z) c ns)) H'
theorem ok_doeswin {f fA fV fN fW pv1 gv : Addr} {fd fdA fdV fdN fdW gdv : FuncData} (R : RuleC K C) (PV : RuleP P w K mg base C "voters" "_voters" pv1 gv gdv) (F : Fun K "does_win" "does_win" dDoesWin f fd)
    (FA : FnOk P w K mg base CX0 1 fA fdA ["rule"] (spNeedAny C)) (kA : PySem.W.keepIn K (.ref fA) = true) (bA : Binds K fdA ["rule"] []) (gA : mg "need_any_rule" = some (.ref fA))
    (FV : FnOk P w K mg base CX0 2 fV fdV ["value", "voters"] spAreVt) (kV : PySem.W.keepIn K (.ref fV) = true) (bV : Binds K fdV ["value", "voters"] []) (gV : mg "are_voters" = some (.ref fV))
    (FN : FnOk P w K mg base CX0 5 fN fdN ["rule", "answer"] (spNeedAns C)) (kN : PySem.W.keepIn K (.ref fN) = true) (bN : Binds K fdN ["rule", "answer"] []) (gN : mg "_need_answer_to" = some (.ref fN))
    (FW : FnOk P w K mg base CX0 3 fW fdW ["rule", "voters", "answer"] (spWins C)) (kW : PySem.W.keepIn K (.ref fW) = true) (bW : Binds K fdW ["rule", "voters", "answer"] []) (gW : mg "_wins" = some (.ref fW)) : FnOk P w K mg base CX0 6 f fd ["rule", "voters", "answer"] (spDoesWin C) := by
  refine F.ok scDoesWin (fun vs H Q E h => ?_) (fun cdv A outer s H vs Q E hr h => ?_)
  · obtain ⟨a, b, t, v, ys, tab, z, c, ns, rfl, _⟩ := h
    rfl
  obtain ⟨a, b, t, v, ys, tab, z, c, ns, rfl, hR, hv, hz, nz, hl, hb, vt, ht, hc, q⟩ := h
  refine ⟨_, pss_cons (ps_expr (pe_call FA (hr.mono (by decide)) (by rfl) gA kA bA .nil pass0 (pa_cons (pv 0) pa_nil)))
    (pss_cons (ps_if (pt_not (pt_val (pe_call FV (hr.mono (by decide)) (by rfl) gV kV bV .nil pass0 (pa_cons (pv 1) (pa_cons (pe_prop (pv 0) R.cl PV.hp PV.F (hr.mono (by decide)) PV.b .nil pass0 (by rfl)) pa_nil))))) (pss_one ps_never) pss_nil)
    (pss_cons (ps_expr (pe_call FN hr (by rfl) gN kN bN .nil pass0 (pa_cons (pv 0) (pa_cons (pv 2) pa_nil))))
    (pss_one (ps_ret (pe_call FW (hr.mono (by decide)) (by rfl) gW kW bW .nil pass0 (pa_cons (pv 0) (pa_cons (pv 1) (pa_cons (pv 2) pa_nil)))))))), ?_⟩
  obtain ⟨dx, u, d, ha, hu, hd⟩ := id hR
  refine ⟨.ref a, rfl, a, v, ys, tab, rfl, hR, ?_⟩
  refine ⟨.ref b, rfl, .ref a, rfl, a, dx, _, rfl, ha, a, dx, _, .int v, rfl, ha, rfl, b, v, ns, rfl, hb, hv, vt, fun H1 s1 => ⟨true, rfl, iteF ?_⟩⟩
  refine ⟨.ref a, rfl, .ref t, rfl, a, t, v, ys, tab, z, c, rfl, hR.tk (Tk.same s1), hz, s1 _ _ ht, nz, hc, fun H2 s2 => ?_⟩
  have s12 := s1.trans s2
  exact ⟨.ref a, rfl, .ref b, rfl, .ref t, rfl, a, b, t, v, ys, tab, z, c, ns, rfl, hR.tk (Tk.same s12), hv, hz, hl, s12 _ _ hb, s12 _ _ ht, hc, fun H3 s3 => q H3 (s12.trans s3)⟩
end
end Ow

set_option Elab.async false
set_option linter.all false
set_option maxRecDepth 100000
set_option maxHeartbeats 4000000
namespace Ow
open PySem PySem.Spec PyProof.Rows L2
/-! ### sorted of tuples of ints, of unlike lengths -/
/-- the rank: the ints one up, and places without one 0 -/
def rk (B : Int) : Nat → List Int → Int
  | 0, _ => 0
  | k + 1, [] => 0
  | k + 1, n :: r => (n + 1) * B ^ k + rk B k r
def Fits (B : Int) (ns : List Int) : Prop := ∀ m ∈ ns, 0 ≤ m ∧ m + 1 < B
theorem Fits.tl {B n : Int} {r : List Int} (h : Fits B (n :: r)) : Fits B r := fun m hm => h m (List.mem_cons_of_mem _ hm)
theorem rk_nil {B : Int} : ∀ k, rk B k [] = 0
  | 0 => rfl
  | _ + 1 => rfl
theorem rk_bd {B : Int} (hB : 1 ≤ B) : ∀ (k : Nat) (ns : List Int), ns.length ≤ k → Fits B ns → 0 ≤ rk B k ns ∧ rk B k ns < B ^ k
  | 0, ns, _, _ => ⟨Int.le_refl _, by show (0 : Int) < B ^ 0; rw [Int.pow_zero]; decide⟩
  | k + 1, [], _, _ => ⟨Int.le_refl _, Int.pow_pos (by omega)⟩
  | k + 1, n :: r, hl, h => by
    have hl' : r.length ≤ k := by simpa using hl
    obtain ⟨a, b⟩ := rk_bd hB k r hl' h.tl
    obtain ⟨c, d⟩ := h n List.mem_cons_self
    have z := TS.num1 (P := B ^ k) (d := n + 1) (B := B) a b (by omega) d
    rw [← Int.pow_succ] at z
    exact z
theorem rk_lt {B : Int} (hB : 1 ≤ B) : ∀ (k : Nat) (ns ms : List Int), ns.length ≤ k → ms.length ≤ k → Fits B ns → Fits B ms → decide (rk B k ns < rk B k ms) = HT.lexLt ns ms
  | 0, [], [], _, _, _, _ => rfl
  | 0, _ :: _, _, h, _, _, _ => absurd h (by simp)
  | 0, _, _ :: _, _, h, _, _ => absurd h (by simp)
  | k + 1, [], [], _, _, _, _ => decide_eq_false (Int.lt_irrefl _)
  | k + 1, [], m :: q, _, h2, _, g2 => by
    have hl : q.length ≤ k := by simpa using h2
    obtain ⟨a, _⟩ := rk_bd hB k q hl g2.tl
    obtain ⟨c, _⟩ := g2 m List.mem_cons_self
    have p : 0 < (m + 1) * B ^ k := Int.mul_pos (by omega) (Int.pow_pos (by omega))
    refine decide_eq_true ?_
    show (0 : Int) < (m + 1) * B ^ k + rk B k q
    omega
  | k + 1, n :: r, [], h1, _, g1, _ => by
    have hl : r.length ≤ k := by simpa using h1
    obtain ⟨a, _⟩ := rk_bd hB k r hl g1.tl
    obtain ⟨c, _⟩ := g1 n List.mem_cons_self
    have p : 0 < (n + 1) * B ^ k := Int.mul_pos (by omega) (Int.pow_pos (by omega))
    refine decide_eq_false ?_
    show ¬ ((n + 1) * B ^ k + rk B k r < 0)
    omega
  | k + 1, n :: r, m :: q, h1, h2, g1, g2 => by
    have l1 : r.length ≤ k := by simpa using h1
    have l2 : q.length ≤ k := by simpa using h2
    obtain ⟨a, b⟩ := rk_bd hB k r l1 g1.tl
    obtain ⟨c, d⟩ := rk_bd hB k q l2 g2.tl
    show decide ((n + 1) * B ^ k + rk B k r < (m + 1) * B ^ k + rk B k q) = _
    rw [HT.lexLt_cons]
    by_cases e : n = m
    · subst e
      rw [if_pos rfl, ← rk_lt hB k r q l1 l2 g1.tl g2.tl]
      exact decide_eq_decide.mpr ⟨fun z => by omega, fun z => by omega⟩
    · rw [if_neg e]
      refine decide_eq_decide.mpr ⟨fun z => ?_, fun z => TS.num2 a b c (by omega)⟩
      rcases Int.lt_trichotomy n m with y | y | y
      · exact y
      · exact absurd y e
      · have := TS.num2 (P := B ^ k) (d := m + 1) (e := n + 1) c d a (by omega)
        omega
theorem lex_ne : ∀ {ns ms : List Int}, ns ≠ ms → HT.lexLt ns ms = false → HT.lexLt ms ns = true
  | [], [], h, _ => absurd rfl h
  | [], _ :: _, _, h => nomatch h
  | _ :: _, [], _, _ => rfl
  | n :: r, m :: q, h, g => by
    rw [HT.lexLt_cons] at g ⊢
    by_cases e : n = m
    · subst e
      rw [if_pos rfl] at g ⊢
      exact lex_ne (fun z => h (by rw [z])) g
    · rw [if_neg e] at g
      rw [if_neg (fun z => e z.symm)]
      have := of_decide_eq_false g
      exact decide_eq_true (by omega)
section
variable {prog : Program} {w : World} {A : Around} {E : Value → Shared → Prop} {s : Shared}
/-- one tuple of ints against another one, as a sort of tuples does it where one of them is () -/
theorem one_tups {x y : Value} {ns ms : List Int} {Q : Bool → Shared → Prop} (hu : A.units < cLine) (hx : TS.TupInts s.heap x ns) (hy : TS.TupInts s.heap y ms) (h : Q (HT.lexLt ns ms) s) : wpAny (model prog w) A (keyLt' oneType' x y) Q E s := by
  obtain ⟨a, xs, rfl, ⟨⟨cls, dd, data, sl⟩, ho, hc, n, hd⟩, hi⟩ := hx
  obtain ⟨b, ys, rfl, ⟨⟨cls2, dd2, data2, sl2⟩, ho2, hc2, n2, hd2⟩, hj⟩ := hy
  simp only at hc hd hc2 hd2
  subst hc hd hc2 hd2
  rw [keyLt'_oneType, oneLt'_eq]
  simp only [if_true]
  refine wpAny_bind (wpAny_cRoomFor hu (wpAny_bind (wpAny_callSpecialIfBound?_slot (T := "tuple") ⟨_, ho, rfl⟩ PySem.F.slot_tuple_lt ?_)))
  refine call_meets PySem.F.slot_tuple_lt ⟨_, ho, rfl⟩ PySem.F.entry_tuple_lt (PySem.F.args_tuple_lt_2 _ _) (HT.tuple_lt_ints a b xs ys n n2 dd dd2 sl sl2 ns ms hi hj) ⟨ho, ho2, ?_⟩
  exact wpAny_truthy_bool h
/-- .. where none is () -/
theorem lexes {b : Bool} {xs ys : List Value} {ns ms : List Int} {Q : Bool → Shared → Prop} (i : Nat) (hx : IntsAre xs ns) (hy : IntsAre ys ms) (h : Q (HT.lexLt ns ms) s) : PySem.W.KatLex prog w A b (decide (xs.length < ys.length)) Q (xs.zip ys) i s := by
  induction hx generalizing ys ms i with
  | nil =>
    cases hy with
    | nil => exact PySem.W.kat_nil h
    | cons q u hy => exact PySem.W.kat_nil h
  | @cons p t xs ns hx ih =>
    cases hy with
    | nil => exact PySem.W.kat_nil h
    | @cons q u ys ms hy =>
      refine PySem.W.kat_cons (wpAny_eqBool_int ?_)
      rw [HT.lexLt_cons] at h
      by_cases e : p = q
      · rw [beq_iff_eq.mpr e]
        rw [if_pos e] at h
        have e2 : decide ((Value.int p t :: xs).length < (Value.int q u :: ys).length) = decide (xs.length < ys.length) := decide_eq_decide.mpr (by simp)
        rw [e2]
        exact PySem.W.kat_yes (ih (i + 1) hy h)
      · rw [beq_eq_false_iff_ne.mpr e]
        rw [if_neg e] at h
        exact PySem.W.kat_no (TS.oneLt_ints _ h)
theorem two_tups {b : Bool} {x y : Value} {ns ms : List Int} {Q : Bool → Shared → Prop} (hx : TS.TupInts s.heap x ns) (hy : TS.TupInts s.heap y ms) (h : Q (HT.lexLt ns ms) s) : wpAny (model prog w) A (keyLt' (tuples' b) x y) Q E s := by
  obtain ⟨a, xs, rfl, ⟨o, ho, hc, n, hd⟩, hi⟩ := hx
  obtain ⟨c, ys, rfl, ⟨o2, ho2, hc2, n2, hd2⟩, hj⟩ := hy
  refine PySem.W.kat_lt ho hd ho2 hd2 ?_
  have e : decide (xs.size < ys.size) = decide (xs.toList.length < ys.toList.length) := by rw [Array.length_toList, Array.length_toList]
  rw [e]
  exact lexes 0 hi hj h
end
end Ow

set_option Elab.async false
set_option linter.all false
set_option maxRecDepth 100000
set_option maxHeartbeats 4000000
namespace Ow
open PySem PySem.Spec PyProof.Rows L2
section
variable {M : Model} {A : Around} {E : Value → Shared → Prop} {s : Shared}
theorem mapM_fn {α β : Type} {f : α → Sem β} {g : α → β} : ∀ (l : List α) {R : List β → Shared → Prop}, (∀ v ∈ l, ∀ R' : β → Shared → Prop, R' (g v) s → wpAny M A (f v) R' E s) → R (l.map g) s → wpAny M A (l.mapM f) R E s
  | [], _, _, k => by
    rw [List.mapM_nil]
    exact wpAny_pure k
  | z :: l, R, hf, k => by
    rw [List.mapM_cons]
    refine wpAny_bind (hf z List.mem_cons_self _ (wpAny_bind ?_))
    exact mapM_fn l (R := fun ys s' => wpAny M A (pure (g z :: ys)) R E s') (fun v hv => hf v (List.mem_cons_of_mem _ hv)) (wpAny_pure k)
end
/-- the first item of a tuple, if it has one -/
def headOf (h : Heap) : Value → Option Value
  | .ref a => (h.get? a).bind fun o => match o.data with
    | .seq xs _ => xs[0]?
    | _ => none
  | _ => none
theorem headOf_at {h : Heap} {a : Addr} {o : Obj} {xs : Array Value} {n : Nat} (ho : h.get? a = some o) (hd : o.data = .seq xs n) : headOf h (.ref a) = xs[0]? := by
  show ((h.get? a).bind _) = _
  rw [ho, Option.bind_some, hd]
section
variable {M : Model} {A : Around} {E : Value → Shared → Prop} {s : Shared}
theorem first_tup {v : Value} {ns : List Int} {R : Option Value → Shared → Prop} (h : TS.TupInts s.heap v ns) (k : R (headOf s.heap v) s) : wpAny M A (firstOfTuple' v) R E s := by
  obtain ⟨a, xs, rfl, ⟨o, ho, hc, n, hd⟩, hi⟩ := h
  rw [headOf_at ho hd] at k
  rw [PySem.W.kas_first_eq]
  refine wpAny_bind (PySem.W.Looks.here (show PySem.W.Looks M s.heap (typeOf (.ref a)) o.cls from (PySem.W.Looks.ld ho).andThen .now) ?_)
  rw [hc, if_neg (by decide)]
  exact wpAny_bind (listItems_at ho hd (wpAny_pure k))
theorem head_nil {v : Value} (h : TS.TupInts s.heap v []) : headOf s.heap v = none := by
  obtain ⟨a, xs, rfl, ⟨o, ho, hc, n, hd⟩, hi⟩ := h
  rw [headOf_at ho hd]
  have l := hi.length
  rw [Array.length_toList] at l
  exact Array.getElem?_eq_none (by simpa using Nat.le_of_eq l)
theorem type_tup {v : Value} {ns : List Int} (h : TS.TupInts s.heap v ns) : PySem.W.Looks M s.heap (typeOf v) (.type "tuple") := by
  obtain ⟨a, xs, rfl, ⟨o, ho, hc, n, hd⟩, hi⟩ := h
  rw [← hc]
  exact (PySem.W.Looks.ld ho).andThen .now
/-- the kind of a sort of tuples whose first one is () -/
theorem kind_nil {v u : Value} {r : List Value} {R : SortKind → Shared → Prop} (hv : TS.TupInts s.heap v []) (hr : ∀ x ∈ u :: r, ∃ ns, TS.TupInts s.heap x ns) (k : R oneType' s) : wpAny M A (keyKind' (v :: u :: r).toArray) R E s := by
  have all : ∀ x ∈ v :: u :: r, ∃ ns, TS.TupInts s.heap x ns := fun x hx => by
    rcases List.mem_cons.mp hx with rfl | hx
    · exact ⟨[], hv⟩
    · exact hr x hx
  rw [keyKind'_eq, List.mapM_toArray, map_eq_pure_bind]
  refine wpAny_bind (wpAny_bind (mapM_fn (g := headOf s.heap) _ (fun x hx R' q => ?_) (wpAny_pure ?_)))
  · obtain ⟨ns, t⟩ := all x hx
    exact first_tup t q
  · have e : (v :: u :: r).map (headOf s.heap) = none :: (u :: r).map (headOf s.heap) := by rw [List.map_cons, head_nil hv]
    rw [e, if_neg (by simp), if_neg (by simp)]
    rw [oneTypeOnly'_eq, List.mapM_toArray, map_eq_pure_bind]
    refine wpAny_bind (wpAny_bind (wpAny_bind (mapM_fn (g := fun _ => Value.type "tuple") _ (fun x hx R' q => ?_) (wpAny_pure ?_))))
    · obtain ⟨ns, t⟩ := all x hx
      exact (type_tup t).here q
    · have a0 : (List.map (fun _ => Value.type "tuple") (v :: u :: r)).toArray[0]? = some (Value.type "tuple") := by simp
      have a1 : ((List.map (fun _ => Value.type "tuple") (v :: u :: r)).toArray.all fun x => x == Value.type "tuple") = true := by
        rw [List.all_toArray, List.all_map, List.all_eq_true]
        intro _ _
        rfl
      rw [a0]
      simp only [a1, if_true]
      exact wpAny_pure (wpAny_pure k)
/-- .. of which none is () -/
theorem firsts_ne {h : Heap} : ∀ vs : List Value, (∀ v ∈ vs, ∃ ns, TS.TupInts h v ns ∧ ns ≠ []) → ∃ fs, PySem.W.KatTups h vs fs ∧ fs.length = vs.length ∧ ∀ f ∈ fs, ∃ n t, f = Value.int n t
  | [], _ => ⟨[], .nil, rfl, fun _ z => nomatch z⟩
  | v :: vs, x => by
    obtain ⟨fs, k1, k2, k3⟩ := firsts_ne vs fun u hu => x u (List.mem_cons_of_mem _ hu)
    obtain ⟨ns, ⟨a, xs, rfl, ⟨o, ho, hc, n, hd⟩, hi⟩, hn⟩ := x v List.mem_cons_self
    have l := hi.length
    cases q : xs.toList with
    | nil =>
      rw [q] at l
      exact absurd (List.eq_nil_of_length_eq_zero l.symm) hn
    | cons y ys =>
      obtain ⟨m, t, hy⟩ := hi.all y (by rw [q]; exact List.mem_cons_self)
      have h0 : xs[0]? = some y := by
        have z := congrArg (fun l : List Value => l[0]?) q
        simpa using z
      refine ⟨y :: fs, .cons ho hc hd h0 k1, by rw [List.length_cons, List.length_cons, k2], fun f hf => ?_⟩
      rcases List.mem_cons.mp hf with rfl | hf
      · exact ⟨m, t, hy⟩
      · exact k3 f hf
theorem kind_ne {vs : List Value} {R : SortKind → Shared → Prop} (h2 : 2 ≤ vs.length) (hv : ∀ v ∈ vs, ∃ ns, TS.TupInts s.heap v ns ∧ ns ≠ []) (k : ∀ b, R (tuples' b) s) : wpAny M A (keyKind' vs.toArray) R E s := by
  obtain ⟨fs, k1, k2, k3⟩ := firsts_ne vs hv
  refine PySem.W.kat_kind (T := Value.type "int") k1 (by omega) (fun f hf => ?_) rfl (k _)
  obtain ⟨n, t, rfl⟩ := k3 f hf
  exact PySem.W.Looks.of_pure rfl
end
/-- what such a sort is given -/
def TupsS (h : Heap) (vs : List Value) : Prop := (∀ v ∈ vs, ∃ ns, TS.TupInts h v ns) ∧ ((∀ v ∈ vs, ∃ ns, TS.TupInts h v ns ∧ ns ≠ []) ∨ ∃ v r, vs = v :: r ∧ TS.TupInts h v [])
section
variable {prog : Program} {w : World} {A : Around} {E : Value → Shared → Prop} {s : Shared}
theorem kind_tupsS {vs : List Value} {B : Int} {k : Nat} (hB : 1 ≤ B) (hu : A.units < cLine) (h2 : 2 ≤ vs.length) (x : TupsS s.heap vs) (hf : ∀ v ∈ vs, ∀ ns, TS.TupInts s.heap v ns → ns.length ≤ k ∧ Fits B ns) (r : Value → Int) (hr : ∀ v ∈ vs, ∀ ns, TS.TupInts s.heap v ns → r v = rk B k ns)
    (R : SortKind → Shared → Prop) (h : ∀ κ, TS.Cmp prog w A s κ (pairsOf vs) r → R κ s) : wpAny (model prog w) A (keyKind' vs.toArray) R E s := by
  have cmp : ∀ κ, (κ = oneType' ∨ ∃ b, κ = tuples' b) → TS.Cmp prog w A s κ (pairsOf vs) r := fun κ hκ p q hp hq R' E' hR => by
    rw [pairsOf_toList] at hp hq
    have mp := (mem_zip_self hp).2
    have mq := (mem_zip_self hq).2
    obtain ⟨ns, tp⟩ := x.1 _ mp
    obtain ⟨ms, tq⟩ := x.1 _ mq
    obtain ⟨l1, f1⟩ := hf _ mp _ tp
    obtain ⟨l2, f2⟩ := hf _ mq _ tq
    rw [hr _ mp _ tp, hr _ mq _ tq, rk_lt hB k ns ms l1 l2 f1 f2] at hR
    rcases hκ with rfl | ⟨b, rfl⟩
    · exact one_tups hu tp tq hR
    · exact two_tups tp tq hR
  rcases x.2 with hn | ⟨v, t, rfl, hv⟩
  · exact kind_ne h2 hn fun b => h _ (cmp _ (.inr ⟨b, rfl⟩))
  · cases t with
    | nil => exact absurd h2 (by simp)
    | cons u t => exact kind_nil hv (fun z hz => x.1 z (List.mem_cons_of_mem _ hz)) (h _ (cmp _ (.inl rfl)))
end
end Ow

set_option Elab.async false
set_option linter.all false
set_option maxRecDepth 100000
set_option maxHeartbeats 4000000
namespace Ow
open PySem PySem.Spec PyProof.Rows L2
theorem TupsS.mono {h h' : Heap} {vs : List Value} (x : TupsS h vs) (k : ∀ b o, h.get? b = some o → o.cls = .type "tuple" → h'.get? b = some o) : TupsS h' vs := by
  refine ⟨fun v hv => ?_, ?_⟩
  · obtain ⟨ns, t⟩ := x.1 v hv
    exact ⟨ns, t.keeps k⟩
  · rcases x.2 with q | ⟨v, r, e, t⟩
    · refine .inl fun v hv => ?_
      obtain ⟨ns, t, n⟩ := q v hv
      exact ⟨ns, t.keeps k, n⟩
    · exact .inr ⟨v, r, e, t.keeps k⟩
abbrev rkOf (h : Heap) (B : Int) (k : Nat) (v : Value) : Int := rk B k (TS.intsOf h v)
section
variable {prog : Program} {w : World} {A : Around} {E : Value → Shared → Prop} {s : Shared}
theorem sort_inS {h0 : Heap} {a : Addr} {vs : List Value} {n k : Nat} {B : Int} {P : PySem.Fin → Shared → Prop} (hB : 1 ≤ B) (hu : A.units < cLine) (ho : s.heap.get? a = some (seqObj "list" vs.toArray n)) (few : vs.length < 64)
    (x : TupsS h0 vs) (hf : ∀ v ∈ vs, ∀ ns, TS.TupInts h0 v ns → ns.length ≤ k ∧ Fits B ns) (kp : ∀ b o, h0.get? b = some o → o.cls = .type "tuple" → s.heap.get? b = some o)
    (q : ∀ out : Array Value, out.toList.Perm vs → out.toList.Pairwise (fun u v => rkOf h0 B k u ≤ rkOf h0 B k v) → P (.done (.ret .none)) { s with heap := sortedHeap s.heap a vs out }) :
    wpAny (model prog w) A (Builtin.«list.sort» ⟨[.ref a], []⟩) P E s := by
  have kp2 : ∀ b o, h0.get? b = some o → o.cls = .type "tuple" → (TS.midHeap s.heap a vs).get? b = some o := fun b o e hc => by
    have e2 := kp b o e hc
    refine TS.midHeap_old (fun z => ?_) e2
    rw [z, ho] at e2
    rw [← Option.some.inj e2] at hc
    exact absurd (Value.type.inj (show Value.type "list" = Value.type "tuple" from hc)) (by decide)
  have same : ∀ v ∈ vs, ∀ ns, TS.TupInts (TS.midHeap s.heap a vs) v ns → TS.TupInts h0 v ns := fun v hv ns t => by
    obtain ⟨ms, t0⟩ := x.1 v hv
    have e : ns = ms := t.ints.symm.trans (t0.keeps kp2).ints
    rw [e]
    exact t0
  refine SK.plain_sort (r := rkOf h0 B k) ho few (fun two R hR => ?_) fun ps out e pm so => ?_
  · exact kind_tupsS (s := { s with heap := TS.midHeap s.heap a vs }) hB hu two (x.mono kp2) (fun v hv ns t => hf v hv ns (same v hv ns t)) _ (fun v hv ns t => by rw [rkOf, (same v hv ns t).ints]) R hR
  · obtain ⟨p1, p2⟩ := TS.out_rank e pm so
    exact q out p1 p2
/-- sorted(xs), xs a list of tuples of ints -/
theorem sorted_raw {l : Addr} {vs : List Value} {k : Nat} {B : Int} {R : Value → Shared → Prop} (hB : 1 ≤ B) (hu : A.units + 4 < cLine) (hl : s.heap.IsList l vs.toArray) (few : vs.length < 64) (x : TupsS s.heap vs)
    (hf : ∀ v ∈ vs, ∀ ns, TS.TupInts s.heap v ns → ns.length ≤ k ∧ Fits B ns)
    (q : ∀ out : Array Value, out.toList.Perm vs → out.toList.Pairwise (fun u v => rkOf s.heap B k u ≤ rkOf s.heap B k v) → R (.ref (s.heap.objs.size + 1)) { s with heap := sortedAll s.heap vs out }) :
    wpAny (model prog w) A (call (.builtin "sorted") [.ref l]) R E s := by
  have room : vs.length ≤ sizeLine := by
    rw [sizeLine_eq]
    omega
  refine Calls.call_function_entry (b := Builtin.«sorted») kind_sorted plain_sorted entry_sorted (args_sorted1 (.ref l)) ?_
  unfold Builtin.«sorted»
  refine wpAny_bind (m := checkCount "sorted" 1 1 _) (wpAny_pure (wpAny_bind (collect_list hl ?_ (by simpa using room))))
  refine wpAny_bind (wpAny_newList ?_ room)
  generalize hg : (s.heap.push (seqObj "list" #[] 0)).update s.heap.objs.size (Obj.mapSeq (· ++ vs.toArray)) = g
  have gs : g.objs.size = s.heap.objs.size + 1 := by rw [← hg, Heap.size_update, size_push']
  have at_ : (g.push (seqObj "list" vs.toArray 0)).get? (s.heap.objs.size + 1) = some (seqObj "list" vs.toArray 0) := by
    rw [← gs]
    exact Heap.get?_push_size g rfl
  have old : ∀ b o, s.heap.get? b = some o → o.cls = .type "tuple" → (g.push (seqObj "list" vs.toArray 0)).get? b = some o := fun b o e _ => by
    have lt := Heap.lt_size e
    have n1 : b ≠ s.heap.objs.size := Nat.ne_of_lt lt
    have n2 : b ≠ g.objs.size := gs ▸ Nat.ne_of_lt (Nat.lt_succ_of_lt lt)
    rw [Heap.get?_push_ne _ _ _ n2, ← hg, Heap.get?_update_ne _ _ _ _ n1, Heap.get?_push_ne _ _ _ n1]
    exact e
  show wpAny _ _ _ _ _ { s with heap := g.push (seqObj "list" vs.toArray 0) }
  have eg : (g.objs.size : Nat) = s.heap.objs.size + 1 := gs
  rw [eg]
  refine wpAny_bind (wpAny_holding (wpAny_call_entry slot_list_sort ⟨_, at_, rfl⟩ entry_list_sort ?_ (args_list_sort _)))
  refine sort_inS (h0 := s.heap) hB (show _ < cLine from ?_) at_ few x hf old fun out p1 p2 => ?_
  · rw [Around.in1_units, Around.in1_units]
    omega
  refine ⟨_, rfl, wpAny_pure ⟨_, rfl, ?_⟩⟩
  rw [← hg]
  exact q out p1 p2
end
end Ow

set_option Elab.async false
set_option linter.all false
set_option maxRecDepth 100000
set_option maxHeartbeats 4000000
namespace Ow
open PySem PySem.Spec PyProof.Rows L2
/-! ### sorted of a list of tuples of ints: the one result -/
/-- x is a tuple of these ints -/
def TpI (K : PySem.W.Frag) (H : Hp) (x : V) (ns : List Int) : Prop := ∃ t, x = .ref t ∧ H t = some (.tup (ns.map V.int))
inductive AllT (K : PySem.W.Frag) (H : Hp) : List V → List (List Int) → Prop
  | nil : AllT K H [] []
  | cons {x : V} {xs : List V} {ns : List Int} {nss : List (List Int)} : TpI K H x ns → AllT K H xs nss → AllT K H (x :: xs) (ns :: nss)
theorem AllT.len {K : PySem.W.Frag} {H : Hp} {xs : List V} {nss : List (List Int)} (h : AllT K H xs nss) : xs.length = nss.length := by
  induction h with
  | nil => rfl
  | cons _ _ ih => rw [List.length_cons, List.length_cons, ih]
theorem AllT.mem {K : PySem.W.Frag} {H : Hp} {xs : List V} {nss : List (List Int)} (h : AllT K H xs nss) : ∀ x ∈ xs, ∃ ns ∈ nss, TpI K H x ns := by
  induction h with
  | nil => exact fun _ z => nomatch z
  | cons t _ ih =>
    intro x hx
    rcases List.mem_cons.mp hx with rfl | hx
    · exact ⟨_, List.mem_cons_self, t⟩
    · obtain ⟨ns, m, t⟩ := ih x hx
      exact ⟨ns, List.mem_cons_of_mem _ m, t⟩
/-- ascending in Python's order of tuples -/
def AscT (nss : List (List Int)) : Prop := nss.Pairwise fun a b => lexB a b = true
where lexB (a b : List Int) : Bool := HT.lexLt a b || decide (a = b)
theorem lex_irr : ∀ a : List Int, HT.lexLt a a = false
  | [] => rfl
  | x :: r => by rw [HT.lexLt_cons, if_pos rfl]; exact lex_irr r
theorem lex_asym {B : Int} {k : Nat} (hB : 1 ≤ B) {a b : List Int} (l1 : a.length ≤ k) (l2 : b.length ≤ k) (f1 : Fits B a) (f2 : Fits B b) (h : rk B k a ≤ rk B k b) : AscT.lexB a b = true := by
  unfold AscT.lexB
  by_cases e : a = b
  · rw [decide_eq_true e, Bool.or_true]
  · have : HT.lexLt b a = false := by
      rw [← rk_lt hB k b a l2 l1 f2 f1]
      exact decide_eq_false (by omega)
    rw [lex_ne (fun z => e z.symm) this]
    rfl
/-- the texts read off -/
theorem AllT.raw {X : Cx} {pins : List (Addr × Obj)} {σ : L2.St} {H : Hp} {s : Shared} (I : Inv X pins σ H s) {x : V} {u : Value} {ns : List Int} (r : RelV x u) (h : TpI X.K H x ns) : TS.TupInts s.heap u ns := by
  obtain ⟨t, rfl, ht⟩ := h
  cases r
  obtain ⟨its, rv, pl, hz⟩ := I.tuple (.of ht)
  exact ⟨t, its.toArray, rfl, pl, by simpa using rv.ints⟩
theorem AllT.raws {X : Cx} {pins : List (Addr × Obj)} {σ : L2.St} {H : Hp} {s : Shared} (I : Inv X pins σ H s) : ∀ {xs : List V} {us : List Value} {nss : List (List Int)}, Vals xs us → AllT X.K H xs nss → us.map (TS.intsOf s.heap) = nss
  | [], [], _, _, .nil => rfl
  | x :: xs, u :: us, _, .cons r rs, .cons t ts => by
    rw [List.map_cons, (AllT.raw I r t).ints, AllT.raws I rs ts]
theorem AllT.rawM {X : Cx} {pins : List (Addr × Obj)} {σ : L2.St} {H : Hp} {s : Shared} (I : Inv X pins σ H s) : ∀ {xs : List V} {us : List Value} {nss : List (List Int)}, Vals xs us → AllT X.K H xs nss → ∀ u ∈ us, ∃ ns ∈ nss, TS.TupInts s.heap u ns ∧ TpI X.K H (bkV u) ns
  | [], [], _, _, .nil, _, m => nomatch m
  | x :: xs, u :: us, _, .cons r rs, .cons t ts, v, m => by
    rcases List.mem_cons.mp m with rfl | m
    · refine ⟨_, List.mem_cons_self, AllT.raw I r t, ?_⟩
      obtain ⟨b, rfl, hb⟩ := t
      cases r
      exact ⟨b, rfl, hb⟩
    · obtain ⟨ns, a, b⟩ := AllT.rawM I rs ts v m
      exact ⟨ns, List.mem_cons_of_mem _ a, b⟩
def rSortS (K : PySem.W.Frag) : List V → Hp → VK → Prop := fun vs H Q => ∃ (a : Addr) (xs : List V) (nss : List (List Int)) (B : Int) (k : Nat), vs = [.ref a] ∧ SqL K H a xs ∧ xs.length < 64 ∧ AllT K H xs nss ∧ 1 ≤ B ∧ (∀ ns ∈ nss, ns.length ≤ k ∧ Fits B ns) ∧ ((∀ ns ∈ nss, ns ≠ []) ∨ ∃ r, nss = [] :: r) ∧
  ∀ ys mss p, AllT K H ys mss → mss.Perm nss → AscT mss → H p = none → Q (.ref p) (upd H p (.lst ys))
theorem allT_map {K : PySem.W.Frag} {H : Hp} {f : Value → V} {g : Value → List Int} : ∀ {us : List Value}, (∀ u ∈ us, TpI K H (f u) (g u)) → AllT K H (us.map f) (us.map g)
  | [], _ => .nil
  | u :: us, h => .cons (h u List.mem_cons_self) (allT_map fun v hv => h v (List.mem_cons_of_mem _ hv))
theorem cr_sortS {X : Cx} (hu : X.A.units + 4 < cLine) : CallR X (.builtin "sorted") (rSortS X.K) := by
  intro pins s σ H vs us Q I r h
  obtain ⟨a, xs, nss, B, k, rfl, hs, few, ht, hB, hf, alt, q⟩ := h
  obtain ⟨its, rv, pl, room⟩ := I.list hs
  rw [Vals.ref1 r]
  have lx := rv.length
  have mem := AllT.rawM I rv ht
  have whole := AllT.raws I rv ht
  obtain ⟨e1, e2⟩ := bkV_refs rv fun x m => by
    obtain ⟨ns, _, t, e, _⟩ := ht.mem x m
    exact ⟨t, e⟩
  have ok : TupsS s.heap its := by
    refine ⟨fun v hv => ?_, ?_⟩
    · obtain ⟨ns, _, t, _⟩ := mem v hv
      exact ⟨ns, t⟩
    · rcases alt with n | ⟨t, e⟩
      · refine .inl fun v hv => ?_
        obtain ⟨ns, m, t, _⟩ := mem v hv
        exact ⟨ns, t, n ns m⟩
      · cases its with
        | nil =>
          rw [e] at whole
          cases whole
        | cons v vs =>
          refine .inr ⟨v, vs, rfl, ?_⟩
          obtain ⟨ns, _, t, _⟩ := mem v List.mem_cons_self
          rw [e, List.map_cons] at whole
          have z := (List.cons.inj whole).1
          rw [t.ints] at z
          rw [← z]
          exact t
  refine sorted_raw (k := k) (B := B) hB hu pl.isList (by omega) ok (fun v hv ns t => ?_) fun out p1 p2 => ?_
  · obtain ⟨ms, m, t2, _⟩ := mem v hv
    have e : ns = ms := t.ints.symm.trans t2.ints
    rw [e]
    exact hf ms m
  · obtain ⟨ep, he⟩ := PyProof.Rows.sortedAll_at s.heap its out
    have sub : ∀ u ∈ out.toList, u ∈ its := fun u hu => p1.mem_iff.mp hu
    have hT : ∀ u ∈ out.toList, TpI X.K H (bkV u) (TS.intsOf s.heap u) := fun u hu => by
      obtain ⟨ns, _, t, t2⟩ := mem u (sub u hu)
      rw [t.ints]
      exact t2
    have lo : (out.toList.map bkV).length ≤ sizeLine := by
      rw [List.length_map, p1.length_eq, ← lx]
      exact room
    refine ⟨.ref _, upd H (s.heap.objs.size + 1) (.lst (out.toList.map bkV)), I.laid (t' := s.toks) (fun b o e => PyProof.Rows.sortedAll_old e) (Nat.le_add_right _ 1) ⟨lo, out.toList, ep, bkV_vals fun u hu => e2 u (sub u hu), he⟩, rfl, ?_⟩
    refine q _ (out.toList.map (TS.intsOf s.heap)) _ (allT_map hT) ?_ ?_ (I.hok.fresh (Nat.le_add_right _ 1))
    · rw [← whole]
      exact p1.map _
    · unfold AscT
      rw [List.pairwise_map]
      refine List.Pairwise.imp_of_mem (fun {u v} hu hv le => ?_) p2
      obtain ⟨ns, m1, t1, _⟩ := mem u (sub u hu)
      obtain ⟨ms, m2, t2, _⟩ := mem v (sub v hv)
      have l1 := hf ns m1
      have l2 := hf ms m2
      unfold rkOf at le
      rw [t1.ints, t2.ints] at le ⊢
      exact lex_asym hB l1.1 l2.1 l1.2 l2.2 le
theorem lex_no : ∀ {a b : List Int}, HT.lexLt b a = true → HT.lexLt a b = false
  | [], [], h => nomatch h
  | [], _ :: _, h => nomatch h
  | _ :: _, [], _ => rfl
  | x :: r, y :: q, h => by
    rw [HT.lexLt_cons] at h ⊢
    by_cases e : x = y
    · rw [if_pos e.symm] at h
      rw [if_pos e]
      exact lex_no h
    · rw [if_neg fun z => e z.symm] at h
      rw [if_neg e]
      have := of_decide_eq_true h
      exact decide_eq_false (by omega)
/-- ascending lists of the same tuples are one -/
theorem lexB_anti {a b : List Int} (h : AscT.lexB a b = true) (g : AscT.lexB b a = true) : a = b := by
  by_cases e : a = b
  · exact e
  · unfold AscT.lexB at h g
    rw [decide_eq_false e, Bool.or_false] at h
    rw [decide_eq_false (fun z => e z.symm), Bool.or_false] at g
    exact absurd h (by rw [lex_no g]; decide)
theorem asc_unique : ∀ {l m : List (List Int)}, l.Perm m → AscT l → AscT m → l = m
  | [], m, p, _, _ => (List.nil_perm.mp p).symm
  | a :: l, [], p, _, _ => absurd p.length_eq (by simp)
  | a :: l, b :: m, p, h, g => by
    have h1 := List.pairwise_cons.mp h
    have g1 := List.pairwise_cons.mp g
    have e : a = b := by
      rcases List.mem_cons.mp (p.mem_iff.mp List.mem_cons_self) with e | m1
      · exact e
      · rcases List.mem_cons.mp (p.mem_iff.mpr List.mem_cons_self) with e | m2
        · exact e.symm
        · exact lexB_anti (h1.1 b m2) (g1.1 a m1)
    subst e
    rw [asc_unique (List.Perm.cons_inv p) h1.2 g1.2]
end Ow

set_option Elab.async false
set_option linter.all false
set_option maxRecDepth 100000
set_option maxHeartbeats 4000000
namespace Ow
open PySem PySem.Spec PyProof.Rows L2
/-! ### {x for .. for ..}, x an int -/
abbrev sc2 (elt t0 i0 t1 i1 : Expr) (scope : Scope) (pos : Pos) : Expr := .SetComp elt [⟨t0, i0, [], 0⟩, ⟨t1, i1, [], 0⟩] scope pos
theorem turn_out (elt t0 i0 t1 i1 : Expr) (scope : Scope) (pos : Pos) (it acc : Value) (env : Env) : compTurn (sc2 elt t0 i0 t1 i1 scope pos) 0 it acc env = (do
    standAt i0.pos
    let got ← pyNext it
    match got with
    | none => pure (.done .next)
    | some v => do
      letOwnedTupleGo t0 it v
      assign t0 env v
      let src ← eval i1 env
      standAt i1.pos
      let src ← foldedSetIterable i1 env src
      let _ ← runOwn (.compStart (sc2 elt t0 i0 t1 i1 scope pos) 1 (← holding [src] (pyIter src)) acc env) env
      again (.compLoop (sc2 elt t0 i0 t1 i1 scope pos) 0 it acc env)) := by rfl
theorem turn_in (elt t0 i0 t1 i1 : Expr) (scope : Scope) (pos : Pos) (it acc : Value) (env : Env) : compTurn (sc2 elt t0 i0 t1 i1 scope pos) 1 it acc env = (do
    standAt i1.pos
    let got ← pyNext it
    match got with
    | none => pure (.done .next)
    | some v => do
      letOwnedTupleGo t1 it v
      assign t1 env v
      (do let y ← eval elt env; standAt elt.pos; let _ ← call (.builtin "set.add") [acc, y])
      again (.compLoop (sc2 elt t0 i0 t1 i1 scope pos) 1 it acc env)) := by rfl
abbrev no : Value → Shared → Prop := fun _ _ => False
section
variable {prog : Program} {w : World} {A : Around} {R : Result → Shared → Prop} {s : Shared} {elt t0 i0 t1 i1 : Expr} {scope : Scope} {pos : Pos} {it acc : Value} {env : Env}
theorem bnd {α β : Type} {M : Model} {m : Sem α} {f : α → Sem β} {P : β → Shared → Prop} {E : Value → Shared → Prop} (h : wpAny M A m (fun a s' => wpAny M A (f a) P E s') no s) : wpAny M A (m >>= f) P E s := wpAny_bind (thnF h fun _ _ z => z)
/-- the loop over the second source -/
theorem sc2_inner (J : Nat → Shared → Prop) (turn : ∀ n s, J n s → wpAny (model prog w) A (pyNext it) (fun got s1 => match got with
      | none => R (.ok .next) s1
      | some v => wpAny (model prog w) A (letOwnedTupleGo t1 it v) (fun _ s2 => wpAny (model prog w) A (assign t1 env v) (fun _ s3 => wpAny (model prog w) A (eval elt env) (fun y s4 =>
          wpAny (model prog w) A (call (.builtin "set.add") [acc, y]) (fun _ s5 => ∃ m, m < n ∧ J m s5) no s4) no s3) no s2) no s1) no s)
    (n : Nat) (h : J n s) : codeAny (model prog w) A (.compLoop (sc2 elt t0 i0 t1 i1 scope pos) 1 it acc env) R s := by
  refine codeAny_loop rfl J (fun n s hJ => ?_) n h
  show wpAny _ A ((compTurn (sc2 elt t0 i0 t1 i1 scope pos) 1 it acc env).onRaise _) _ _ s
  refine wpAny_noted ?_
  rw [turn_in]
  refine wpAny_bind (wpAny_standAt (bnd (thn (turn n s hJ) fun got s1 hg => ?_)))
  cases got with
  | none => exact wpAny_pure hg
  | some v => exact bnd (thn hg fun _ s2 h2 => bnd (thn h2 fun _ s3 h3 => wpAny_bind (bnd (thn h3 fun y s4 h4 => wpAny_bind (wpAny_standAt (bnd (thn h4 fun _ s5 h5 => wpAny_pure (wpAny_pure ⟨rfl, h5⟩)))))))) 
/-- the loop over the first one -/
theorem sc2_outer (hs : ∀ x, foldedSetIterable i1 env x = pure x) (I : Nat → Shared → Prop) (turn : ∀ n s, I n s → wpAny (model prog w) A (pyNext it) (fun got s1 => match got with
      | none => R (.ok .next) s1
      | some v => wpAny (model prog w) A (letOwnedTupleGo t0 it v) (fun _ s2 => wpAny (model prog w) A (assign t0 env v) (fun _ s3 => wpAny (model prog w) A (eval i1 env) (fun x s4 => wpAny (model prog w) A (pyIter x) (fun it1 s5 =>
          codeAny (model prog w) A (.compStart (sc2 elt t0 i0 t1 i1 scope pos) 1 it1 acc env) (fun r s6 => match r with
            | .ok _ => ∃ m, m < n ∧ I m s6
            | .error _ => False) s5) no s4) no s3) no s2) no s1) no s)
    (n : Nat) (h : I n s) : codeAny (model prog w) A (.compLoop (sc2 elt t0 i0 t1 i1 scope pos) 0 it acc env) R s := by
  refine codeAny_loop rfl I (fun n s hI => ?_) n h
  show wpAny _ A ((compTurn (sc2 elt t0 i0 t1 i1 scope pos) 0 it acc env).onRaise _) _ _ s
  refine wpAny_noted ?_
  rw [turn_out]
  refine wpAny_bind (wpAny_standAt (bnd (thn (turn n s hI) fun got s1 hg => ?_)))
  cases got with
  | none => exact wpAny_pure hg
  | some v =>
    refine bnd (thn hg fun _ s2 h2 => bnd (thn h2 fun _ s3 h3 => bnd (thn h3 fun x s4 h4 => wpAny_bind (wpAny_standAt (wpAny_bind (wpAny_of_eq (hs x) ?_))))))
    refine wpAny_bind (wpAny_holding (thnF h4 fun it1 s5 h5 => wpAny_bind (wpAny_runOwn ?_)))
    rw [Around.mark_none]
    refine codeAny_mono h5 fun r s6 h6 => ?_
    cases r with
    | ok f => exact wpAny_pure ⟨rfl, h6⟩
    | error e => exact h6.elim
/-- the second source's begin -/
theorem sc2_start (h0 : codeAny (model prog w) A (.compLoop (sc2 elt t0 i0 t1 i1 scope pos) 1 it acc env) R s)
    (h : wpAny (model prog w) A (pyIter it) (fun it' s' => codeAny (model prog w) A (.compLoop (sc2 elt t0 i0 t1 i1 scope pos) 1 it' acc env) R s') (notedBy (model prog w) A env fun x s' => R (.error x) s') s) :
    codeAny (model prog w) A (.compStart (sc2 elt t0 i0 t1 i1 scope pos) 1 it acc env) R s := by
  refine codeAny_of_tree ?_
  show wpAny _ _ ((compStart (sc2 elt t0 i0 t1 i1 scope pos) 1 it acc env).onRaise _) _ _ s
  refine wpAny_notedAt ?_
  unfold compStart
  show wpAny _ _ (ask >>= _) _ _ s
  refine wpAny_bind (wpAny_askSetting (wpAny_ite ?_))
  split
  · exact wpAny_pure (And.intro rfl h0)
  · refine wpAny_bind (wpAny_rule ?_)
    show wpAny _ _ (standAt i1.pos >>= _) _ _ s
    exact wpAny_bind (wpAny_standAt (wpAny_bind (thn h fun it' s' q => wpAny_pure (And.intro rfl q))))
end
end Ow


set_option Elab.async false
set_option linter.all false
set_option maxRecDepth 100000
set_option maxHeartbeats 4000000
namespace Ow
open PySem PySem.Spec PyProof.Rows L2 PpSet
section
variable {X : Cx}
/-- set.add of an int -/
theorem addI {pins : List (Addr × Obj)} {σ : L2.St} {H : Hp} {s : Shared} {E : Value → Shared → Prop} {D : Addr} {S : Int → Bool} {n : Nat} {c : Int} {u : Value} {P : Value → Shared → Prop} (I : Inv X pins σ H s) (r : RelV (.int c) u) (hD : H D = some (SetO X.w D S n)) (few : n + 1 < scanBound)
    (k : ∀ s', Inv X pins σ (upd H D (SetO X.w D (fun j => S j || decide (j = c)) (if S c = true then n else n + 1))) s' → P .none s') : wpAny (model X.prog X.w) X.A (call (.builtin "set.add") [.ref D, u]) P E s := by
  obtain ⟨t, rfl⟩ := r
  refine setR_add (setO_get I hD) few fun g sb new => ?_
  obtain ⟨o, _, _, _, at_, _⟩ := id new
  exact k _ (I.write (e := D) (t' := s.toks + 1) (by rw [hD]; trivial) (.inl rfl) (fun b z hb hz => (sb.2 b hb).trans hz) ⟨o, at_⟩ (setO_new new))
/-- {y for tg in iter for tg1 in iter1}: D the new set -/
def tSc2 (w : World) (wi : TI) (g : TG) (wi1 : TI) (g1 : TG) (te : TE) (vs vs1 : List Nat) : TE := fun σ H Q => wi σ H fun J H1 => ∀ D, H1 D = none → ∃ W : Nat → Nat → Hp → Prop, (∃ m, W 0 m (upd H1 D (SetO w D (fun _ => false) 0))) ∧ ∀ i m H, W i m H →
  (J.stop i H ∧ Q (.ref D) H) ∨ (J.go i H ∧ ∃ Nx : Hp → Prop, (∀ H', Nx H' → ∃ m', m' < m ∧ W (i + 1) m' H') ∧ ∀ x H', J.yld i H x H' → g x (wipe σ vs) H' fun σ2 H2 => wipe σ2 vs = wipe σ vs ∧
    wi1 σ2 H2 fun J1 H4 => ∃ W1 : Nat → Nat → Hp → Prop, (∃ m, W1 0 m H4) ∧ ∀ j k H, W1 j k H →
      (J1.stop j H ∧ Nx H) ∨ (J1.go j H ∧ ∃ Nx1 : Hp → Prop, (∀ H', Nx1 H' → ∃ k', k' < k ∧ W1 (j + 1) k' H') ∧ ∀ x H', J1.yld j H x H' → g1 x (wipe σ2 vs1) H' fun σ3 H5 => wipe σ3 vs1 = wipe σ2 vs1 ∧
        te σ3 H5 fun y H7 => ∃ (c : Int) (S : Int → Bool) (n : Nat), y = .int c ∧ H7 D = some (SetO w D S n) ∧ n + 1 < scanBound ∧ Nx1 (upd H7 D (SetO w D (fun j => S j || decide (j = c)) (if S c = true then n else n + 1)))))
/-- what the block's clauses and its value are -/
structure Blk2 (X : Cx) (scope : Scope) (tg tg1 iter1 elt : Expr) (g : TG) (wi1 : TI) (g1 : TG) (te : TE) : Prop where
  g : ∀ (s : Shared) (H : Hp) (C : Addr) (cl : List (Str × Addr)) (fp : List Addr), PG (X.blk s H scope (compEnvC scope cl C X.env) fp) tg g
  i : ∀ (s : Shared) (H : Hp) (C : Addr) (cl : List (Str × Addr)) (fp : List Addr), PI (X.blk s H scope (compEnvC scope cl C X.env) fp) tg1 iter1 wi1
  g1 : ∀ (s : Shared) (H : Hp) (C : Addr) (cl : List (Str × Addr)) (fp : List Addr), PG (X.blk s H scope (compEnvC scope cl C X.env) fp) tg1 g1
  e : ∀ (s : Shared) (H : Hp) (C : Addr) (cl : List (Str × Addr)) (fp : List Addr), PE (X.blk s H scope (compEnvC scope cl C X.env) fp) elt te
abbrev newS (w : World) : Obj := { cls := .type "set", dict := none, data := .set #[] 0 (.fresh 0 0 (!w.params.followText "set-order")) }
theorem sc2_core {pins : List (Addr × Obj)} {s : Shared} {σ : L2.St} {H : Hp} {Q : VK} {elt tg iter tg1 iter1 : Expr} {scope : Scope} {own : List (Str × Nat)} {vs1 : List Nat} {pos pos2 : Pos} {wi wi1 : TI} {g g1 : TG} {te : TE} {use : Option (Value → Sem Unit)} {Qf : Value → Shared → Prop}
    (calm : X.calm = true) (nd : X.N.Nodup) (I0 : Inv X pins σ H s) (src : PI X tg iter wi) (ok : BlkOk X.N X.env.scope scope own) (sub : ∀ i ∈ vs1, i ∈ own.map (·.2)) (B : Blk2 X scope tg tg1 iter1 elt g wi1 g1 te)
    (f0 : ∀ x, foldedSetIterable iter X.env x = pure x) (f1 : ∀ env x, foldedSetIterable iter1 env x = pure x) (h : tSc2 X.w wi g wi1 g1 te (own.map (·.2)) vs1 σ H Q)
    (fin : ∀ D C s' m H', Inv X pins σ H' s' → Q (.ref D) H' → s'.heap.Ns C m → FpOk X pins H' C → compPost (model X.prog X.w) X.A X.xe use Qf (.ref D) C (.ok .next) s') :
    wpAny (model X.prog X.w) X.A (comprehension (sc2 elt tg iter tg1 iter1 scope pos) scope X.env pos2 (newSet (.type "set")) false (eval iter X.env) use) Qf X.xe s := by
  have cells : ∀ y ∈ scope.names, y.2 = .free → ∃ c, X.env.cells.lookup y.1 = some c := fun y my e => (ok.free y my e).elim (fun z => I0.ok.has _ (.inl z)) fun z => I0.ok.has _ (.inr z)
  refine wpAny_comprehension_free (use := use) rfl f0 (closure_ok cells) ok.kind (fun y my e => (ok.uniq y my).trans (congrArg some e)) (thn (src.run pins s σ H _ I0 h) fun xv sa ha => thn ha fun itv sb hb => ?_)
  obtain ⟨it, fp, tn, J, H1, rfl, I1, T, st1, fo, loopQ⟩ := hb
  refine newSet_ok (newEnv_comp ?_)
  generalize eD : sb.heap.objs.size = D
  obtain ⟨W, ⟨m0, w0⟩, go_on⟩ := loopQ D (I1.hok.fresh (Nat.le_of_eq eD))
  -- the set is laid
  generalize es : ({ sb with heap := sb.heap.push (newS X.w) } : Shared) = sc
  have hc : sc.heap = sb.heap.push (newS X.w) := by rw [← es]
  have I2 : Inv X pins σ (upd H1 D (SetO X.w D (fun _ => false) 0)) sc := by
    subst es
    refine I1.laid (t' := sb.toks) (fun b o z => Heap.get?_push_of_some _ z) (Nat.le_of_eq eD) ?_
    subst eD
    exact setO_new (setR_fresh X.w)
  have low : ∀ b ∈ fp, b < sb.heap.objs.size := fun b mb => by
    obtain ⟨o, z, _⟩ := T.obj _ _ st1 b mb
    exact Heap.lt_size z
  have fo2 : ∀ b ∈ fp, FpOk X pins (upd H1 D (SetO X.w D (fun _ => false) 0)) b ∧ b < sc.heap.objs.size := fun b mb => by
    have lt := low b mb
    have ne : b ≠ D := fun z => Nat.lt_irrefl _ (by rw [← eD] at z; exact z ▸ lt)
    exact ⟨⟨(upd_ne ne).trans (fo b mb).1, (fo b mb).2⟩, by rw [hc, Heap.size_push]; exact Nat.lt_succ_of_lt lt⟩
  have st2 : tn 0 sc.heap := T.keep _ _ _ st1 fun b _ o z => by
    rw [hc]
    exact Heap.get?_push_of_some _ z
  have I3 := block_start I2 ok nd fo2
  generalize eH : upd H1 D (SetO X.w D (fun _ => false) 0) = H2 at I2 I3 w0 fo2
  generalize eC : cellsFrom (sc.heap.objs.size + 1) scope.names (cloFrom X.env.cells scope.names []) = cl at I3 ⊢
  have pg := B.g sc H2 sc.heap.objs.size cl fp
  have pi := B.i sc H2 sc.heap.objs.size cl fp
  have pg1 := B.g1 sc H2 sc.heap.objs.size cl fp
  have pe := B.e sc H2 sc.heap.objs.size cl fp
  have gone : ∀ b ∈ fp, H2 b = none := fun b mb => (fo2 b mb).1.1
  show codeAny _ _ (.compStart (sc2 elt tg iter tg1 iter1 scope pos) 0 (.ref it) (.ref D) (compEnvC scope cl sc.heap.objs.size X.env)) (compPost (model X.prog X.w) X.A X.xe use Qf (.ref D) sc.heap.objs.size) { sc with heap := pushCells (sc.heap.push { cls := .type "dict", data := .dict #[] }) scope.names }
  generalize eE : compEnvC scope cl sc.heap.objs.size X.env = ce at I3 pg pi pg1 pe ⊢
  have loc : ce.locals = sc.heap.objs.size := by rw [← eE]; rfl
  generalize ed : ({ sc with heap := pushCells (sc.heap.push { cls := .type "dict", data := .dict #[] }) scope.names } : Shared) = sd at I3 ⊢
  have st3 : tn 0 sd.heap := T.keep _ _ _ st2 fun b _ o z => by
    rw [← ed]
    exact pushCells_keeps _ _ _ _ (Heap.get?_push_of_some _ z)
  have stat : ∀ {σ' : L2.St} {H' : Hp} {s' : Shared}, Inv (X.blk sc H2 scope ce fp) [] σ' H' s' → (∀ b ∈ fp, H' b = none) → ∀ b ∈ fp, FpOk (X.blk sc H2 scope ce fp) [] H' b := fun {σ' H' s'} K n b mb =>
    ⟨n b mb, (K.ok.exf b mb).1, K.ok.exfs b mb, .inl mb, (K.ok.exf b mb).2, fun p mp => absurd (show p ∈ ([] : List (Addr × Obj)) from mp) (fun z => nomatch z)⟩
  have loop : codeAny (model X.prog X.w) X.A (.compLoop (sc2 elt tg iter tg1 iter1 scope pos) 0 (.ref it) (.ref D) ce) (compPost (model X.prog X.w) X.A X.xe use Qf (.ref D) sc.heap.objs.size) sd := by
    refine sc2_outer (f1 ce) (fun n s' => ∃ i H', Inv (X.blk sc H2 scope ce fp) [] (wipe σ (own.map (·.2))) H' s' ∧ tn i s'.heap ∧ (∀ b ∈ fp, H' b = none) ∧ W i n H') (fun n se ⟨i, H5, I5, st5, n5, w5⟩ => ?_) m0 ⟨0, H2, I3, st3, gone, w0⟩
    rcases go_on i n H5 w5 with ⟨stop, done⟩ | ⟨more, Nx, down, step⟩
    · -- nothing left: back in the def
      refine thnF (T.done (X.blk sc H2 scope ce fp) rfl rfl rfl calm i [] se _ H5 no I5 (stat I5 n5) st5 stop) fun r sf ⟨er, I6⟩ => ?_
      subst er
      have I7 : Inv X pins σ H5 sf := I2.call' (ch := fp) I6.os I6.base I6.hok I6.bare fun b mb => let z := (fo2 b mb).1.2; ⟨z.2.2.1, z.1, z.2.2.2.1, z.2.2.2.2⟩
      have unC : H5 sc.heap.objs.size = none := loc ▸ (show H5 ce.locals = none from I6.free)
      obtain ⟨m, ns, _⟩ := I6.loc
      exact fin D sc.heap.objs.size sf m H5 I7 done (loc ▸ (show sf.heap.Ns ce.locals m from ns)) (I2.fpOk (Nat.le_refl _) unC)
    · refine thnF (T.item (X.blk sc H2 scope ce fp) rfl rfl rfl calm i [] se _ H5 no I5 (stat I5 n5) st5 more) fun r sf ⟨u, er, h6⟩ => ?_
      subst er
      refine thnF h6 fun _ sg ⟨x, H7, I7, r7, y7, st7, n7⟩ => ?_
      have P7 := I7.pinned (stat I7 n7) (T.obj _ _ st7)
      refine thnF (pg.run _ sg _ H7 x u _ P7 r7 (step x H7 y7)) fun _ sh ⟨σ8, H8, I8, e8, q8⟩ => ?_
      have len8 : (wipe σ (own.map (·.2))).length = σ8.length := (congrArg List.length e8).symm.trans (wipe_length _ _)
      have know : ∀ (j : Nat) v, (wipe σ (own.map (·.2)))[j]? = some (some v) → (wipe σ8 vs1)[j]? = some (some v) := fun j v z => by
        rw [← e8] at z
        obtain ⟨z1, z2⟩ := wipe_some z
        rw [wipe_out fun mj => z2 (sub j mj)]
        exact z1
      -- the end of a turn
      have turned : ∀ {s' : Shared} {H' : Hp}, Inv (X.blk sc H2 scope ce fp) ([] ++ pinsAt fp sg.heap) (wipe σ8 vs1) H' s' → Nx H' → ∃ m, m < n ∧ ∃ i H', Inv (X.blk sc H2 scope ce fp) [] (wipe σ (own.map (·.2))) H' s' ∧ tn i s'.heap ∧ (∀ b ∈ fp, H' b = none) ∧ W i m H' := fun {s' H'} K nx => by
        obtain ⟨m', lt, w'⟩ := down H' nx
        have held : ∀ b ∈ fp, ∀ o, sg.heap.get? b = some o → s'.heap.get? b = some o ∧ H' b = none := fun b mb o z =>
          have y := K.pin (b, o) (List.mem_append_right _ (List.mem_append_right _ (mem_pinsAt mb z)))
          ⟨y.1, y.2.1⟩
        refine ⟨m', lt, i + 1, H', (K.unpinned (pins := [])).weak (len8.trans (wipe_length _ _).symm) know, T.keep _ _ _ st7 fun b mb o z => (held b mb o z).1, fun b mb => ?_, w'⟩
        obtain ⟨o, z, _⟩ := T.obj _ _ st7 b mb
        exact (held b mb o z).2
      refine thnF (pi.run _ sh σ8 H8 _ I8 q8) fun xv1 si hx => thnF hx fun itv1 sj ⟨it1, fp1, tn1, J1, H11, e11, I11, T1, st11, fo1, W1, ⟨m1, w1⟩, turn1⟩ => ?_
      subst e11
      have stat1 : ∀ {H' : Hp}, (∀ b ∈ fp1, H' b = none) → ∀ b ∈ fp1, FpOk (X.blk sc H2 scope ce fp) ([] ++ pinsAt fp sg.heap) H' b := fun n b mb => ⟨n b mb, (fo1 b mb).2⟩
      have inner : codeAny (model X.prog X.w) X.A (.compLoop (sc2 elt tg iter tg1 iter1 scope pos) 1 (.ref it1) (.ref D) ce) (fun r s6 => match r with
          | .ok _ => ∃ m, m < n ∧ ∃ i H', Inv (X.blk sc H2 scope ce fp) [] (wipe σ (own.map (·.2))) H' s6 ∧ tn i s6.heap ∧ (∀ b ∈ fp, H' b = none) ∧ W i m H'
          | .error _ => False) sj := by
        refine sc2_inner (fun k s' => ∃ j H', Inv (X.blk sc H2 scope ce fp) ([] ++ pinsAt fp sg.heap) (wipe σ8 vs1) H' s' ∧ tn1 j s'.heap ∧ (∀ b ∈ fp1, H' b = none) ∧ W1 j k H') (fun k sk ⟨j, H12, I12, st12, n12, w12⟩ => ?_) m1
          ⟨0, H11, I11.weak (wipe_length _ _) (fun j v z => (wipe_some z).1), st11, fun b mb => (fo1 b mb).1, w1⟩
        rcases turn1 j k H12 w12 with ⟨stop1, nx1⟩ | ⟨more1, Nx1, down1, step1⟩
        · refine thnF (T1.done (X.blk sc H2 scope ce fp) rfl rfl rfl calm j _ sk (wipe σ8 vs1) H12 no I12 (stat1 n12) st12 stop1) fun r sl ⟨er, I13⟩ => ?_
          subst er
          exact turned I13 nx1
        · refine thnF (T1.item (X.blk sc H2 scope ce fp) rfl rfl rfl calm j _ sk (wipe σ8 vs1) H12 no I12 (stat1 n12) st12 more1) fun r sl ⟨u1, er, h13⟩ => ?_
          subst er
          refine thnF h13 fun _ sm ⟨x1, H14, I14, r14, y14, st14, n14⟩ => ?_
          have P14 := I14.pinned (stat1 n14) (T1.obj _ _ st14)
          refine thnF (pg1.run _ sm (wipe σ8 vs1) H14 x1 u1 _ P14 r14 (step1 x1 H14 y14)) fun _ sn ⟨σ15, H15, I15, e15, q15⟩ => ?_
          refine thnF (pe.run _ sn σ15 H15 _ I15 q15) fun z so ⟨yv, H16, I16, r16, c, S, cnt, ey, hD, few, nx⟩ => ?_
          subst ey
          refine addI (X := X.blk sc H2 scope ce fp) I16 r16 hD few fun sp I17 => ?_
          obtain ⟨m', lt, w'⟩ := down1 _ nx
          have held : ∀ b ∈ fp1, ∀ o, sm.heap.get? b = some o → sp.heap.get? b = some o ∧ _ = none := fun b mb o z =>
            have y := I17.pin (b, o) (List.mem_append_right _ (List.mem_append_right _ (mem_pinsAt mb z)))
            ⟨y.1, y.2.1⟩
          refine ⟨m', lt, j + 1, _, I17.unpinned.weak ((wipe_length _ _).trans ?_) (fun a v z => ?_), T1.keep _ _ _ st14 fun b mb o z => (held b mb o z).1, fun b mb => ?_, w'⟩
          · rw [← wipe_length σ15 vs1, e15, wipe_length]
          · rw [← e15] at z
            exact (wipe_some z).1
          · obtain ⟨o, z, _⟩ := T1.obj _ _ st14 b mb
            exact (held b mb o z).2
      exact sc2_start inner (T1.self X.A 0 _ _ _ st11 inner)
  exact codeAny_compStart_set loop (T.self X.A 0 _ _ _ st3 loop)
end
end Ow

set_option Elab.async false
set_option linter.all false
set_option maxRecDepth 100000
set_option maxHeartbeats 4000000
namespace Ow
open PySem PySem.Spec PyProof.Rows L2 PpSet
section
variable {X : Cx}
theorem pe_sc2 {elt tg iter tg1 iter1 : Expr} {scope : Scope} {own : List (Str × Nat)} {vs1 : List Nat} {pos : Pos} {wi wi1 : TI} {g g1 : TG} {te : TE} (calm : X.calm = true) (nd : X.N.Nodup) (src : PI X tg iter wi) (ok : BlkOk X.N X.env.scope scope own) (sub : ∀ i ∈ vs1, i ∈ own.map (·.2))
    (B : Blk2 X scope tg tg1 iter1 elt g wi1 g1 te) (f0 : ∀ x, foldedSetIterable iter X.env x = pure x := by intro _; rfl) (f1 : ∀ env x, foldedSetIterable iter1 env x = pure x := by intro _ _; rfl) : PE X (sc2 elt tg iter tg1 iter1 scope pos) (tSc2 X.w wi g wi1 g1 te (own.map (·.2)) vs1) := by
  refine ⟨fun pins s σ H Q I h => ?_⟩
  show wpAny _ _ (eval (.SetComp elt [⟨tg, iter, [], 0⟩, ⟨tg1, iter1, [], 0⟩] scope pos) X.env) _ _ s
  rw [eval_SetComp]
  exact sc2_core calm nd I src ok sub B f0 f1 h fun D C s' m H' I' q ns f => ⟨m, ns, fun h2 sb => ⟨.ref D, H', I'.turned (t' := s'.toks) (fun b o ne e => (sb.2 b ne).trans e) f.1 f.2.1 f.2.2.2.1 f.2.2.2.2.1 f.2.2.2.2.2, rfl, q⟩⟩
end
/-- the walk over the second source, for one item of the first one -/
def InnerS (w : World) (te : TE) (g1 : TG) (vs1 : List Nat) (D : Addr) (After : Hp → Prop) (σ2 : L2.St) (J1 : It) (H4 : Hp) : Prop :=
  ∃ (n1 : Nat) (G1 : Hp → Prop) (Y1 : Nat → Hp → V → Hp → Prop) (P1 : Nat → Hp → Prop), Walk J1 n1 G1 Y1 ∧ P1 0 H4 ∧ (∀ j H, j ≤ n1 → P1 j H → G1 H) ∧ (∀ H, P1 n1 H → After H) ∧
    ∀ j x H H', j < n1 → P1 j H → Y1 j H x H' → g1 x (wipe σ2 vs1) H' fun σ3 H5 => wipe σ3 vs1 = wipe σ2 vs1 ∧ te σ3 H5 fun y H7 => ∃ (c : Int) (S : Int → Bool) (m : Nat), y = .int c ∧ H7 D = some (SetO w D S m) ∧ m + 1 < scanBound ∧ P1 (j + 1) (upd H7 D (SetO w D (fun j => S j || decide (j = c)) (if S c = true then m else m + 1)))
theorem sc2_it {w : World} {J : It} {n : Nat} {G : Hp → Prop} {Y : Nat → Hp → V → Hp → Prop} (wk : Walk J n G Y) {g g1 : TG} {wi1 : TI} {te : TE} {vs vs1 : List Nat} {σ : L2.St} {H1 : Hp} {D : Addr} {Qd : Hp → Prop} (Pv : Nat → Hp → Prop)
    (h0 : Pv 0 (upd H1 D (SetO w D (fun _ => false) 0))) (hG : ∀ i H, i ≤ n → Pv i H → G H)
    (hs : ∀ i x H H' (Kg : L2.St → Hp → Prop), i < n → Pv i H → Y i H x H' → (∀ σ2 H2, wipe σ2 vs = wipe σ vs → (∀ Ki : It → Hp → Prop, (∀ J1 H4, InnerS w te g1 vs1 D (Pv (i + 1)) σ2 J1 H4 → Ki J1 H4) → wi1 σ2 H2 Ki) → Kg σ2 H2) → g x (wipe σ vs) H' Kg)
    (hd : ∀ H, Pv n H → Qd H) :
    ∃ W : Nat → Nat → Hp → Prop, (∃ m, W 0 m (upd H1 D (SetO w D (fun _ => false) 0))) ∧ ∀ i m H, W i m H →
      (J.stop i H ∧ Qd H) ∨ (J.go i H ∧ ∃ Nx : Hp → Prop, (∀ H', Nx H' → ∃ m', m' < m ∧ W (i + 1) m' H') ∧ ∀ x H', J.yld i H x H' → g x (wipe σ vs) H' fun σ2 H2 => wipe σ2 vs = wipe σ vs ∧
        wi1 σ2 H2 fun J1 H4 => ∃ W1 : Nat → Nat → Hp → Prop, (∃ m, W1 0 m H4) ∧ ∀ j k H, W1 j k H →
          (J1.stop j H ∧ Nx H) ∨ (J1.go j H ∧ ∃ Nx1 : Hp → Prop, (∀ H', Nx1 H' → ∃ k', k' < k ∧ W1 (j + 1) k' H') ∧ ∀ x H', J1.yld j H x H' → g1 x (wipe σ2 vs1) H' fun σ3 H5 => wipe σ3 vs1 = wipe σ2 vs1 ∧
            te σ3 H5 fun y H7 => ∃ (c : Int) (S : Int → Bool) (n : Nat), y = .int c ∧ H7 D = some (SetO w D S n) ∧ n + 1 < scanBound ∧ Nx1 (upd H7 D (SetO w D (fun j => S j || decide (j = c)) (if S c = true then n else n + 1))))) := by
  refine ⟨fun i m H => i + m = n ∧ Pv i H, ⟨n, Nat.zero_add n, h0⟩, fun i m H ⟨e, p⟩ => ?_⟩
  have le : i ≤ n := by omega
  have q := hG i H le p
  cases m with
  | zero =>
    have : i = n := by omega
    subst this
    exact .inl ⟨wk.stops H q, hd H p⟩
  | succ m =>
    have lt : i < n := by omega
    refine .inr ⟨wk.goes i H lt q, Pv (i + 1), fun H' p' => ⟨m, Nat.lt_succ_self m, by omega, p'⟩, fun x H' y => hs i x H H' _ lt p (wk.yields i H x H' lt q y) fun σ2 H2 e2 ask => ⟨e2, ask _ fun J1 H4 ⟨n1, G1, Y1, P1, w1, b1, g1', a1, t1⟩ => ?_⟩⟩
    refine ⟨fun j k H => j + k = n1 ∧ P1 j H, ⟨n1, Nat.zero_add n1, b1⟩, fun j k H ⟨ej, pj⟩ => ?_⟩
    have lej : j ≤ n1 := by omega
    have qj := g1' j H lej pj
    cases k with
    | zero =>
      have : j = n1 := by omega
      subst this
      exact .inl ⟨w1.stops H qj, a1 H pj⟩
    | succ k =>
      have ltj : j < n1 := by omega
      exact .inr ⟨w1.goes j H ltj qj, P1 (j + 1), fun H' p' => ⟨k, Nat.lt_succ_self k, by omega, p'⟩, fun x H' y => t1 j x H H' ltj pj (w1.yields j H x H' ltj qj y)⟩
end Ow

set_option Elab.async false
set_option linter.all false
set_option maxRecDepth 100000
set_option maxHeartbeats 4000000
set_option exponentiation.threshold 3000
namespace Ow
open PySem PySem.Spec PyProof.Rows L2
theorem allT_of {K : PySem.W.Frag} {H : Hp} : ∀ {xs : List V} {rs : List (List Int)}, All2 (IsRow H) xs rs → AllT K H xs rs
  | _, _, .nil => .nil
  | _, _, .cons r rs => .cons r (allT_of rs)
theorem all_ofT {K : PySem.W.Frag} {H : Hp} : ∀ {xs : List V} {rs : List (List Int)}, AllT K H xs rs → All2 (IsRow H) xs rs
  | _, _, .nil => .nil
  | _, _, .cons r rs => .cons r (all_ofT rs)
abbrev asN : List Str := ["items", "chosen", "values", "pairs", "item", "value"]
theorem scAllSets : FnScope asN ["items"] (defScope dAllSets) := ⟨rfl, rfl, rfl, by decide +kernel, rfl, by decide +kernel, by decide +kernel⟩
def sPairs : Scope := { kind := .function, names := [(".0", .local), ("pairs", .local), ("tuple", .globalImplicit)], isGenerator := false, isCoroutine := false }
def sItem : Scope := { kind := .function, names := [(".0", .local), ("item", .local), ("value", .local)], isGenerator := false, isCoroutine := false }
/-! ### all sets of some voters -/
def onesN (v : Nat) (r : List Int) : List Int := ((List.range v).filter fun i => decide (r.getD i 0 = 1)).map fun i : Nat => (i : Int)
def setsS : Nat → List (List Int)
  | 0 => [[]]
  | 1 => [[], [0]]
  | 2 => [[], [0], [0, 1], [1]]
  | 3 => [[], [0], [0, 1], [0, 1, 2], [0, 2], [1], [1, 2], [2]]
  | _ => [[], [0], [0, 1], [0, 1, 2], [0, 1, 2, 3], [0, 1, 3], [0, 2], [0, 2, 3], [0, 3], [1], [1, 2], [1, 2, 3], [1, 3], [2], [2, 3], [3]]
theorem sets_perm : ∀ v < 5, (setsS v).Perm ((rowsN v).map (onesN v)) := by decide +kernel
theorem sets_fit : ∀ v < 5, ∀ ns ∈ setsS v, ns.length ≤ 4 ∧ (∀ n ∈ ns, 0 ≤ n ∧ n < (v : Int)) ∧ ascI ns = true := by decide +kernel
instance : DecidablePred AscT := fun l => by unfold AscT; infer_instance
theorem sets_asc : ∀ v < 5, AscT (setsS v) := by decide +kernel
theorem ones_head : ∀ v < 5, ((rowsN v).map (onesN v)).head? = some [] := by decide +kernel
def rTupOf (K : PySem.W.Frag) : List V → Hp → VK → Prop := fun xs H Q => ∃ p ys, xs = [.ref p] ∧ ((SqL K H p ys ∧ ∀ l, H l = none → Q (.ref l) (upd H l (.tup ys))) ∨ (SqT K H p ys ∧ Q (.ref p) H))
def idxV (v : Nat) : List V := (List.range v).map fun i : Nat => V.int (i : Int)
theorem range_next {p : Nat → Bool} {j : Nat} : (List.range (j + 1)).filter p = if p j = true then (List.range j).filter p ++ [j] else (List.range j).filter p := by
  rw [List.range_succ, List.filter_append]
  split <;> rename_i h
  · rw [List.filter_cons, if_pos h]
    rfl
  · rw [List.filter_cons, if_neg h]
    exact List.append_nil _
theorem idx_len (v : Nat) : (idxV v).length = v := by
  unfold idxV
  rw [List.length_map, List.length_range]
theorem idx_at {v j : Nat} {x : V} (h : (idxV v)[j]? = some x) : j < v ∧ x = .int (j : Int) := by
  unfold idxV at h
  rw [List.getElem?_map] at h
  by_cases hj : j < v
  · rw [List.getElem?_range hj] at h
    cases h
    exact ⟨hj, rfl⟩
  · rw [List.getElem?_eq_none (by rw [List.length_range]; omega)] at h
    cases h
theorem map_at' {r : List Int} {j : Nat} {y : V} (h : (r.map V.int)[j]? = some y) : y = .int (r.getD j 0) := by
  rw [List.getElem?_map] at h
  rw [List.getD_eq_getElem?_getD]
  cases e : r[j]? with
  | none => rw [e] at h; cases h
  | some b => rw [e] at h; cases h; rfl
/-- a list of pairs (place, value), not at D -/
def PairsL (D : Addr) (v : Nat) (H : Hp) (y : V) (r : List Int) : Prop := ∃ (p : Addr) (ts : List Addr), y = .ref p ∧ p ≠ D ∧ H p = some (.lst (ts.map V.ref)) ∧ ts.length = v ∧ ∀ (j : Nat) (t : Addr), ts[j]? = some t → H t = some (.tup [.int (j : Int), .int (r.getD j 0)])
theorem PairsL.same {D : Addr} {v : Nat} {H H' : Hp} {y : V} {r : List Int} (h : PairsL D v H y r) (s : Same H H') : PairsL D v H' y r := by
  obtain ⟨p, ts, e, n, hp, l, ht⟩ := h
  exact ⟨p, ts, e, n, s _ _ hp, l, fun j t hj => s _ _ (ht j t hj)⟩
theorem PairsL.put {D : Addr} {v : Nat} {H : Hp} {y : V} {r : List Int} {xs : List V} {o : HO} (h : PairsL D v H y r) (hD : H D = some (.lst xs)) : PairsL D v (upd H D o) y r := by
  obtain ⟨p, ts, e, n, hp, l, ht⟩ := h
  exact ⟨p, ts, e, n, (upd_ne n).trans hp, l, fun j t hj => (upd_ne (ne_of (ht j t hj) hD (by intro z; cases z))).trans (ht j t hj)⟩
section
variable {P : Program} {w : World} {K : PySem.W.Frag} {mg : Str → Option Value} {base : Heap} {C : Addr}
def spSets : Sp := fun vs H Q _ => ∃ (l : Addr) (v : Nat), vs = [.ref l] ∧ H l = some (.lst (idxV v)) ∧ v ≤ 4 ∧ ∀ H' t xs, Same H H' → H' t = some (.tup xs) → All2 (IsRow H') xs (setsS v) → Q (.ref t) H'
theorem ok_allsets {f fV : Addr} {fd fdV : FuncData} (F : Fun K "all_sets" "all_sets" dAllSets f fd) (FV : FnOk P w K mg base CX0 1 fV fdV ["many"] spRowsT) (kV : PySem.W.keepIn K (.ref fV) = true) (bV : Binds K fdV ["many"] []) (gV : mg "all_values" = some (.ref fV))
    (ml : mg "len" = none) (mls : mg "list" = none) (mz : mg "zip" = none) (mt : mg "tuple" = none) (mo : mg "sorted" = none) : FnOk P w K mg base CX0 4 f fd ["items"] spSets := by
  refine F.ok scAllSets (fun vs H Q E h => ?_) (fun cdv A outer s H vs Q E hr h => ?_)
  · obtain ⟨l, v, rfl, _⟩ := h
    rfl
  obtain ⟨l, v, rfl, hl, hv, q⟩ := h
  have hu4 : (A.deeper (envOfC "all_sets" (defScope dAllSets) s.heap.objs.size f cdv)).units + 4 < cLine := by
    have := hr.units
    omega
  refine ⟨_, pss_cons (ps_setLc (i := 1) (te := tLZip K (tCons (tVar 0) (tCons (tVar 2) tNil))) (own := [("values", 2)]) (g := gName 2) (tt := tYes) rfl scAllSets.nd rfl rfl (sw_true rfl rfl rfl (by decide +kernel))
        (pi_tup (pe_call FV (hr.mono (by decide)) (by rfl) gV kV bV .nil pass0 (pa_cons (pe_callB call_len_seq (by rfl) ml PySem.boot_len (pa_cons (pv 0) pa_nil)) pa_nil))) (blkOk_by (N := asN) (sc := defScope dAllSets) (by decide +kernel))
        (fun _ _ _ _ _ => pg_name (i := 2) scAllSets.nd rfl (Or.inl rfl)) (fun _ _ _ _ _ => pts_nil)
        (fun _ _ _ _ _ => pe_lzip rfl (by rfl) mls (by rfl) mz (by decide +kernel) (pa_cons (pv 0) (pa_cons (pv 2) pa_nil))))
    (pss_one (ps_ret (pe_callTy call_tuple_of (by rfl) mt boot_tup (pa_cons (pe_callB (cr_sortS hu4) (by rfl) mo (by decide +kernel) (pa_cons
      (pe_lc (te := tCB (rTupOf K) (tCons (tLc (iList K (tVar 3)) (gTup K 2 (gCons (gName 4) (gCons (gName 5) gNil))) (tTest (tOp rEq (tVar 5) (tC (.int 1)))) (tVar 4) ([(("item" : Str), 4), ("value", 5)].map (·.2))) tNil)) (own := [("pairs", 3)]) (g := gName 3) (tt := tYes) rfl scAllSets.nd (pi_list (pv 1)) (blkOk_by (N := asN) (sc := defScope dAllSets) (by decide +kernel))
        (fun _ _ _ _ _ => pg_name (i := 3) scAllSets.nd rfl (Or.inl rfl)) (fun _ _ _ _ _ => pts_nil)
        (fun _ _ _ _ _ => pe_callTy call_tuple_of (by rfl) mt boot_tup (pa_cons
          (pe_lc (own := [("item", 4), ("value", 5)]) (g := gTup K 2 (gCons (gName 4) (gCons (gName 5) gNil))) rfl scAllSets.nd (pi_list (pv 3)) (blkOk_by (N := asN) (sc := sPairs) (scope := sItem) (own := [("item", 4), ("value", 5)]) (by decide +kernel))
            (fun _ _ _ _ _ => pg_tup rfl (pgs_cons (pg_name (i := 4) scAllSets.nd rfl (Or.inl rfl)) (pgs_cons (pg_name (i := 5) scAllSets.nd rfl (Or.inl rfl)) pgs_nil)))
            (fun _ _ _ _ _ => pts_one (pt_cmpR op_eq (pv 5) pe_int (nomark _))) (fun _ _ _ _ _ => pv 4)) pa_nil))) pa_nil)) pa_nil)))), ?_⟩
  refine ⟨.ref l, rfl, l, idxV v, rfl, .inl (.of hl), v, by rw [idx_len]; rfl, by omega, fun H1 t rows s1 ht hrows => ?_⟩
  have hl1 := s1 _ _ hl
  have lr := hrows.len
  rw [rowsN_len] at lr
  have l16 : 2 ^ v ≤ 16 := (by decide : ∀ v < 5, 2 ^ v ≤ 16) v (by omega)
  refine ⟨t, rfl, ⟨_, .of ht⟩, fun D nD => ?_⟩
  refine lc_it (walk_tup (K := K) (a := t) (xs := rows)) (fun i Hy => Same H1 Hy ∧ ∃ ys, Hy D = some (.lst ys) ∧ ys.length = i ∧ ∀ (j : Nat) y, ys[j]? = some y → ∃ r, (rowsN v)[j]? = some r ∧ PairsL D v Hy y r)
    ⟨same_new nD, [], upd_same, rfl, fun _ _ z => nomatch z⟩ (fun i Hy _ h => .of (h.1 _ _ ht)) (fun i x Hx Hx' hi ⟨sx, ys, eD, ly, hy⟩ hY => ?_) (fun Hy ⟨sx, ys, eD, ly, hy⟩ => ?_)
  · obtain ⟨rfl, hx⟩ := hY
    obtain ⟨r, hr, b, rfl, hb⟩ := hrows.get hx
    have size := rowsN_size v r (List.mem_of_getElem? hr)
    refine ⟨rfl, yes_of ?_⟩
    refine ⟨.ref l, rfl, .ref b, rfl, l, b, idxV v, r.map V.int, rfl, .inl (.of (sx _ _ hl1)), .inr (.of (sx _ _ hb)), fun H2 p ts s2 np hp htl hts => ⟨ys, s2 _ _ eD, small60 (by omega), ?_⟩⟩
    have eD2 := s2 _ _ eD
    rw [idx_len, List.length_map, size, Nat.min_self] at htl
    have new : PairsL D v H2 (.ref p) r := ⟨p, ts, rfl, (fun z => by rw [z, eD] at np; cases np), hp, htl, fun j t' hj => by
      obtain ⟨x1, y1, e1, e2, _, e3⟩ := hts j t' hj
      rw [(idx_at e1).2, map_at' e2] at e3
      exact e3⟩
    refine ⟨fun c o e => (upd_ne (ne_of_none e nD)).trans (s2 _ _ (sx _ _ e)), ys ++ [.ref p], upd_same, by rw [List.length_append, ly]; rfl, fun j y hj => ?_⟩
    by_cases lt : j < ys.length
    · rw [List.getElem?_append_left lt] at hj
      obtain ⟨r', e', pl⟩ := hy j y hj
      exact ⟨r', e', (pl.same s2).put eD2⟩
    · rw [List.getElem?_append_right (by omega)] at hj
      have ej : j = i := by
        have := (List.getElem?_eq_some_iff.mp hj).1
        rw [List.length_singleton] at this
        omega
      rw [ej, ly, Nat.sub_self] at hj
      cases hj
      exact ⟨r, by rw [ej]; exact hr, new.put eD2⟩
  have hly : ys.length = 2 ^ v := by rw [ly, lr]
  refine ⟨.ref D, rfl, D, rfl, ⟨_, .of eD⟩, fun D2 nD2 => ?_⟩
  refine lc_map (M := No) (walk_list (K := K) (a := D) (xs := ys)) (by omega) Jg.no nD2 (fun i Hz y => ∃ r, (rowsN v)[i]? = some r ∧ IsRow Hz y (onesN v r)) (fun _ _ _ _ tk ⟨r, e, h⟩ => ⟨r, e, h.tk tk⟩) (fun Hz g _ => .of (g.toSame _ _ eD))
    (fun i x Hz Hz' Kk hi g _ hY hK => ?_) (fun Hz ws g _ eD2 hlen hq => ?_)
  · obtain ⟨rfl, hx⟩ := hY
    obtain ⟨r, hr, p, ts, rfl, _, hp, htl, hts⟩ := hy i x hx
    have sz := g.toSame
    refine ⟨rfl, .ref p, rfl, p, rfl, ⟨_, .of (sz _ _ hp)⟩, fun D3 nD3 => ?_⟩
    refine lc_it (walk_list (K := K) (a := p) (xs := ts.map V.ref)) (fun j Hw => Same Hz' Hw ∧ Hw D3 = some (.lst (((List.range j).filter fun i => decide (r.getD i 0 = 1)).map fun i : Nat => V.int (i : Int))))
      ⟨same_new nD3, upd_same⟩ (fun j Hw _ h => .of (h.1 _ _ (sz _ _ hp))) (fun j y Hw Hw' hj ⟨sw, ew⟩ hY2 => ?_) (fun Hw ⟨sw, ew⟩ => ?_)
    · obtain ⟨rfl, hy2⟩ := hY2
      rw [List.getElem?_map] at hy2
      cases et : ts[j]? with
      | none => rw [et] at hy2; cases hy2
      | some t' =>
        rw [et] at hy2
        cases hy2
        have ht' := sw _ _ (sz _ _ (hts j t' et))
        refine ⟨t', [.int j, .int (r.getD j 0)], rfl, .of ht', rfl, _, _, rfl, _, _, rfl, rfl, rfl, .int (r.getD j 0), rfl, rfl, _, rfl, ?_⟩
        have e0 : decide (V.int (r.getD j 0) = V.int 1) = decide (r.getD j 0 = 1) := decide_eq_decide.mpr ⟨fun e => V.int.inj e, fun e => congrArg V.int e⟩
        rw [e0]
        by_cases e : r.getD j 0 = 1
        · rw [decide_eq_true e]
          refine iteT ⟨.int j, rfl, _, ew, ?_, fun c o ec => ?_, ?_⟩
          · rw [List.length_map]
            refine small60 (Nat.le_trans (List.length_filter_le _ _) ?_)
            rw [List.length_range]
            rw [List.length_map] at hj
            omega
          · rw [upd_ne (ne_of_none ec nD3)]
            exact sw _ _ ec
          · rw [upd_same, range_next, if_pos (decide_eq_true e), List.map_append]
            rfl
        · rw [decide_eq_false e]
          refine iteF ⟨sw, ?_⟩
          rw [ew, range_next, if_neg (by rw [decide_eq_false e]; decide)]
    · rw [List.length_map, htl] at ew
      refine ⟨D3, _, rfl, .inl ⟨.of ew, fun u nu => hK _ _ (Gw.same (sw.trans (same_new nu))) Jg.no ⟨r, hr, u, rfl, ?_⟩⟩⟩
      rw [upd_same]
      unfold onesN
      rw [List.map_map]
      rfl
  have sy := sx.trans g.toSame
  have rows2 : All2 (IsRow Hz) ws ((rowsN v).map (onesN v)) := by
    refine All2.of_get (by rw [hlen, List.length_map, rowsN_len, hly]) fun i y r ey er => ?_
    obtain ⟨r', er', row⟩ := hq i y ey
    rw [List.getElem?_map, er'] at er
    cases er
    exact row
  have l2 := rows2.len
  rw [List.length_map, rowsN_len] at l2
  have v5 : v < 5 := by omega
  have pm := sets_perm v v5
  refine ⟨D2, ws, _, 5, 4, rfl, .of eD2, by omega, allT_of rows2, by decide, fun ns m => ?_, .inr ?_, fun zs mss u ht' p2 asc nu => ?_⟩
  · obtain ⟨a1, a2, _⟩ := sets_fit v v5 ns (pm.mem_iff.mpr m)
    exact ⟨a1, fun n hn => by have := a2 n hn; omega⟩
  · cases hc : (rowsN v).map (onesN v) with
    | nil =>
      have := ones_head v v5
      rw [hc] at this
      cases this
    | cons a b =>
      have := ones_head v v5
      rw [hc] at this
      cases this
      exact ⟨b, rfl⟩
  · have e : mss = setsS v := asc_unique (p2.trans pm.symm) asc (sets_asc v v5)
    subst e
    have su : Same Hz (upd Hz u (.lst zs)) := same_new nu
    have rowsU := all_tk (Tk.same su) (all_ofT ht')
    have eu : upd Hz u (.lst zs) u = some (.lst zs) := upd_same
    generalize upd Hz u (.lst zs) = Hv at su rowsU eu ⊢
    exact ⟨u, zs, rfl, .inl ⟨.of eu, fun T nT => q _ T zs (s1.trans (sy.trans (su.trans (same_new nT)))) upd_same (all_tk (Tk.new nT) rowsU)⟩⟩
end
end Ow

set_option Elab.async false
set_option linter.all false
set_option maxRecDepth 100000
set_option maxHeartbeats 4000000
set_option exponentiation.threshold 3000
namespace Ow
open PySem PySem.Spec PyProof.Rows L2
theorem scWinners : FnScope ["rule", "answer", "voters"] ["rule", "answer"] (defScope dWinners) := ⟨rfl, rfl, rfl, by decide +kernel, rfl, by decide +kernel, by decide +kernel⟩
theorem scAllHeard : FnScope ["rule", "issue", "voter"] ["rule"] (defScope dAllHeard) := ⟨rfl, rfl, rfl, by decide +kernel, rfl, by decide +kernel, by decide +kernel⟩
theorem rg_idx (v : Nat) : rgV 0 (v : Int) = idxV v := by
  unfold rgV idxV
  have : ((v : Int) - 0).toNat = v := by omega
  rw [this]
  exact List.map_congr_left fun i _ => congrArg V.int (Int.zero_add _)
def winnersN (v : Nat) (r : List Int) (c : Int) : List (List Int) := (setsS v).filter (winsB v r c)
theorem filter_next {α : Type} {p : α → Bool} {l : List α} {i : Nat} {x : α} (h : l[i]? = some x) : (l.take (i + 1)).filter p = if p x = true then (l.take i).filter p ++ [x] else (l.take i).filter p := by
  rw [List.take_add_one, h, List.filter_append]
  split <;> rename_i h'
  · show _ ++ [x].filter p = _
    rw [List.filter_cons, if_pos h']
    rfl
  · show _ ++ [x].filter p = _
    rw [List.filter_cons, if_neg h']
    exact List.append_nil _
section
variable {P : Program} {w : World} {K : PySem.W.Frag} {mg : Str → Option Value} {base : Heap} {C : Addr}
def spWinners (C : Addr) : Sp := fun vs H Q _ => ∃ (a t : Addr) (v : Nat) (ys : List Str) (tab : Str → List Int) (z : Str) (c : Int), vs = [.ref a, .ref t] ∧ RuleAt C H a v ys tab ∧ v ≤ 4 ∧ z ∈ ys ∧ nameB (.str z) = true ∧ (tab z).length = 2 ^ v ∧ AnsAt H t z c ∧ (c = 0 ∨ c = 1) ∧
  ∀ H' u xs, Same H H' → H' u = some (.tup xs) → All2 (IsRow H') xs (winnersN v (tab z) c) → Q (.ref u) H'
theorem ok_winners {f fA fN fW fS pv1 gv : Addr} {fd fdA fdN fdW fdS gdv : FuncData} (R : RuleC K C) (PV : RuleP P w K mg base C "voters" "_voters" pv1 gv gdv) (F : Fun K "winners" "winners" dWinners f fd)
    (FA : FnOk P w K mg base CX0 1 fA fdA ["rule"] (spNeedAny C)) (kA : PySem.W.keepIn K (.ref fA) = true) (bA : Binds K fdA ["rule"] []) (gA : mg "need_any_rule" = some (.ref fA))
    (FN : FnOk P w K mg base CX0 5 fN fdN ["rule", "answer"] (spNeedAns C)) (kN : PySem.W.keepIn K (.ref fN) = true) (bN : Binds K fdN ["rule", "answer"] []) (gN : mg "_need_answer_to" = some (.ref fN))
    (FW : FnOk P w K mg base CX0 3 fW fdW ["rule", "voters", "answer"] (spWins C)) (kW : PySem.W.keepIn K (.ref fW) = true) (bW : Binds K fdW ["rule", "voters", "answer"] []) (gW : mg "_wins" = some (.ref fW))
    (FS : FnOk P w K mg base CX0 4 fS fdS ["items"] spSets) (kS : PySem.W.keepIn K (.ref fS) = true) (bS : Binds K fdS ["items"] []) (gS : mg "all_sets" = some (.ref fS)) (mt : mg "tuple" = none) (mls : mg "list" = none) (mr : mg "range" = none) : FnOk P w K mg base CX0 6 f fd ["rule", "answer"] (spWinners C) := by
  refine F.ok scWinners (fun vs H Q E h => ?_) (fun cdv A outer s H vs Q E hr h => ?_)
  · obtain ⟨a, t, v, ys, tab, z, c, rfl, _⟩ := h
    rfl
  obtain ⟨a, t, v, ys, tab, z, c, rfl, hR, hv, hz, nz, hl, ht, hc, q⟩ := h
  refine ⟨_, pss_cons (ps_expr (pe_call FA (hr.mono (by decide)) (by rfl) gA kA bA .nil pass0 (pa_cons (pv 0) pa_nil)))
    (pss_cons (ps_expr (pe_call FN hr (by rfl) gN kN bN .nil pass0 (pa_cons (pv 0) (pa_cons (pv 1) pa_nil))))
    (pss_one (ps_ret (pe_callTy call_tuple_of (by rfl) mt boot_tup (pa_cons
      (pe_lc (te := tVar 2) (own := [("voters", 2)]) (g := gName 2) (tt := tTest (tCall (spWins C) [] E0 (tCons (tVar 0) (tCons (tVar 2) (tCons (tVar 1) tNil))))) rfl scWinners.nd
        (pi_tup (pe_call FS (hr.mono (by decide)) (by rfl) gS kS bS .nil pass0 (pa_cons (pe_listRg rfl (by rfl) mls (prg_1 (by rfl) mr (pe_prop (pv 0) R.cl PV.hp PV.F (hr.mono (by decide)) PV.b .nil pass0 (by rfl)))) pa_nil))) (blkOk_by (N := ["rule", "answer", "voters"]) (sc := defScope dWinners) (by decide +kernel))
        (fun _ _ _ _ _ => pg_name (i := 2) scWinners.nd rfl (Or.inl rfl))
        (fun _ _ _ _ _ => pts_one (pt_val (pe_call FW (hr.mono (by decide)) (by rfl) gW kW bW .nil pass0 (pa_cons (pv 0) (pa_cons (pv 2) (pa_cons (pv 1) pa_nil)))))) (fun _ _ _ _ _ => pv 2)) pa_nil))))), ?_⟩
  obtain ⟨dx, u, d, ha, hu, hd⟩ := id hR
  refine ⟨.ref a, rfl, a, v, ys, tab, rfl, hR, .ref a, rfl, .ref t, rfl, a, t, v, ys, tab, z, c, rfl, hR, hz, ht, nz, hc, fun H1 s1 => ?_⟩
  have ha1 := s1 _ _ ha
  refine ⟨.ref a, rfl, a, dx, _, rfl, ha1, a, dx, _, .int v, rfl, ha1, rfl, ?_⟩
  refine ⟨v, rfl, .of_le (by decide) (by omega) (by decide) (by omega), fun l nl => ?_⟩
  rw [rg_idx]
  have sl : Same H1 (upd H1 l (.lst (idxV v))) := same_new nl
  refine ⟨l, v, rfl, upd_same, hv, fun H2 T xs s2 hT rows => ?_⟩
  have s12 := s1.trans (sl.trans s2)
  have lx := rows.len
  have l16 : (setsS v).length ≤ 16 := (by decide : ∀ v < 5, (setsS v).length ≤ 16) v (by omega)
  refine ⟨T, rfl, ⟨_, .of hT⟩, fun D nD => ?_⟩
  refine lc_it (walk_tup (K := K) (a := T) (xs := xs)) (fun i Hy => Same H2 Hy ∧ ∃ ws, Hy D = some (.lst ws) ∧ All2 (IsRow Hy) ws (((setsS v).take i).filter (winsB v (tab z) c)))
    ⟨same_new nD, [], upd_same, .nil⟩ (fun i Hy _ h => .of (h.1 _ _ hT)) (fun i x Hx Hx' hi ⟨sx, ws, eD, aw⟩ hY => ?_) (fun Hy ⟨sx, ws, eD, aw⟩ => ?_)
  · obtain ⟨rfl, hx⟩ := hY
    obtain ⟨ns, hns, b, rfl, hb⟩ := rows.get hx
    have s3 := s12.trans sx
    refine ⟨rfl, .ref a, rfl, .ref b, rfl, .ref t, rfl, a, b, t, v, ys, tab, z, c, ns, rfl, hR.tk (Tk.same s3), hv, hz, hl, sx _ _ hb, s3 _ _ ht, hc, fun H4 s4 => ?_⟩
    refine ⟨_, rfl, ?_⟩
    have eD4 := s4 _ _ eD
    have aw4 := all_tk (Tk.same s4) aw
    by_cases hw : winsB v (tab z) c ns = true
    · rw [hw]
      have lw := aw.len
      have le : ws.length ≤ 16 := by
        rw [lw]
        refine Nat.le_trans (List.length_filter_le _ _) ?_
        rw [List.length_take]
        omega
      refine iteT ⟨.ref b, rfl, ws, eD4, small60 (by omega), fun c' o e => (upd_ne (ne_of_none e nD)).trans ((sx.trans s4) _ _ e), ws ++ [.ref b], upd_same, ?_⟩
      rw [filter_next hns, if_pos hw]
      refine all_tk (Tk.lst eD4) (aw4.app (.cons ⟨b, rfl, (sx.trans s4) _ _ hb⟩ .nil))
    · have hw' : winsB v (tab z) c ns = false := by
        cases e : winsB v (tab z) c ns with
        | true => exact absurd e hw
        | false => rfl
      rw [hw']
      refine iteF ⟨sx.trans s4, ws, eD4, ?_⟩
      rw [filter_next hns, if_neg hw]
      exact aw4
  · rw [lx, List.take_length] at aw
    exact ⟨D, ws, rfl, .inl ⟨.of eD, fun u2 nu2 => q _ u2 ws (s12.trans (sx.trans (same_new nu2))) upd_same (all_tk (Tk.new nu2) aw)⟩⟩
/-! ### who is heard -/
def heardP (v : Nat) (rs : List (List Int)) (i : Nat) : Bool := rs.any fun r => hangsB r (2 ^ (v - 1 - i))
def allHN (v : Nat) (rs : List (List Int)) : List Int := ((List.range v).filter (heardP v rs)).map fun i : Nat => (i : Int)
theorem asc_ext : ∀ {l m : List Int}, l.Pairwise (· < ·) → m.Pairwise (· < ·) → (∀ k, k ∈ l ↔ k ∈ m) → l = m
  | [], [], _, _, _ => rfl
  | [], b :: m, _, _, h => absurd ((h b).mpr List.mem_cons_self) (fun z => nomatch z)
  | a :: l, [], _, _, h => absurd ((h a).mp List.mem_cons_self) (fun z => nomatch z)
  | a :: l, b :: m, p, q, h => by
    have p1 := List.pairwise_cons.mp p
    have q1 := List.pairwise_cons.mp q
    have e : a = b := by
      rcases List.mem_cons.mp ((h a).mp List.mem_cons_self) with e | m1
      · exact e
      · rcases List.mem_cons.mp ((h b).mpr List.mem_cons_self) with e | m2
        · exact e.symm
        · have := p1.1 b m2
          have := q1.1 a m1
          omega
    subst e
    rw [asc_ext p1.2 q1.2 fun k => ?_]
    constructor
    · intro hk
      rcases List.mem_cons.mp ((h k).mp (List.mem_cons_of_mem _ hk)) with e | hm
      · rw [e] at hk
        exact absurd (p1.1 a hk) (Int.lt_irrefl _)
      · exact hm
    · intro hk
      rcases List.mem_cons.mp ((h k).mpr (List.mem_cons_of_mem _ hk)) with e | hm
      · rw [e] at hk
        exact absurd (q1.1 a hk) (Int.lt_irrefl _)
      · exact hm
theorem heard_asc (v : Nat) (rs : List (List Int)) : (allHN v rs).Pairwise (· < ·) := by
  unfold allHN
  rw [List.pairwise_map]
  refine List.Pairwise.filter _ (List.Pairwise.imp (fun h => by omega) List.pairwise_lt_range)
theorem mem_heard {v : Nat} {rs : List (List Int)} {k : Int} : k ∈ allHN v rs ↔ ∃ r ∈ rs, ∃ i ∈ heardN v r, k = (i : Int) := by
  unfold allHN heardP heardN
  constructor
  · intro h
    obtain ⟨i, hi, e⟩ := List.mem_map.mp h
    obtain ⟨h1, h2⟩ := List.mem_filter.mp hi
    obtain ⟨r, hr, h3⟩ := List.any_eq_true.mp h2
    exact ⟨r, hr, i, List.mem_filter.mpr ⟨h1, h3⟩, e.symm⟩
  · rintro ⟨r, hr, i, hi, rfl⟩
    obtain ⟨h1, h2⟩ := List.mem_filter.mp hi
    exact List.mem_map.mpr ⟨i, List.mem_filter.mpr ⟨h1, List.any_eq_true.mpr ⟨r, hr, h2⟩⟩, rfl⟩
theorem heard_len (v : Nat) (r : List Int) : (heardN v r).length ≤ v := by
  unfold heardN
  refine Nat.le_trans (List.length_filter_le _ _) ?_
  rw [List.length_range]
  exact Nat.le_refl _
def spAllH (C : Addr) : Sp := fun vs H Q _ => ∃ (a : Addr) (v : Nat) (ys : List Str) (tab : Str → List Int), vs = [.ref a] ∧ RuleAt C H a v ys tab ∧ v ≤ 4 ∧ ys.length ≤ 6 ∧ (∀ z ∈ ys, (tab z).length = 2 ^ v) ∧ ∀ H' u, Same H H' → H' u = some (.tup ((allHN v (ys.map tab)).map V.int)) → Q (.ref u) H'
theorem ok_allheard {f fA fH fI : Addr} {fd fdA fdH fdI : FuncData} (R : RuleC K C) (F : Fun K "all_heard" "all_heard" dAllHeard f fd)
    (FA : FnOk P w K mg base CX0 1 fA fdA ["rule"] (spNeedAny C)) (kA : PySem.W.keepIn K (.ref fA) = true) (bA : Binds K fdA ["rule"] []) (gA : mg "need_any_rule" = some (.ref fA))
    (mH : Meth K C "heard" fH) (FH : FnOk P w K mg base CX0 3 fH fdH ["self", "issue"] (spHeard C)) (bH : Binds K fdH ["self", "issue"] []) (mI : Meth K C "__iter__" fI) (FI : FnN P w K mg base CX0 1 fI fdI ["self"] (spIter C)) (bI : Binds K fdI ["self"] [])
    (mt : mg "tuple" = none) (mo : mg "sorted" = none) : FnOk P w K mg base CX0 4 f fd ["rule"] (spAllH C) := by
  refine F.ok scAllHeard (fun vs H Q E h => ?_) (fun cdv A outer s H vs Q E hr h => ?_)
  · obtain ⟨a, v, ys, tab, rfl, _⟩ := h
    rfl
  obtain ⟨a, v, ys, tab, rfl, hR, hv, h6, hl, q⟩ := h
  refine ⟨_, pss_cons (ps_expr (pe_call FA (hr.mono (by decide)) (by rfl) gA kA bA .nil pass0 (pa_cons (pv 0) pa_nil)))
    (pss_one (ps_ret (pe_callTy call_tuple_of (by rfl) mt boot_tup (pa_cons (pe_callB (cr_sortedSet rfl) (by rfl) mo (by decide +kernel) (pa_cons
      (pe_sc2 (wi1 := iTup K (tMeth C "heard" (spHeard C) [] E0 (tVar 0) (tCons (tVar 1) tNil))) (g := gName 1) (g1 := gName 2) (te := tVar 2) (own := [("issue", 1), ("voter", 2)]) (vs1 := [2]) rfl scAllHeard.nd (pi_own (pv 0) mI FI (hr.mono (by decide)) bI pass0) (blkOk_by (N := ["rule", "issue", "voter"]) (sc := defScope dAllHeard) (by decide +kernel)) (by decide)
        ⟨fun _ _ _ _ _ => pg_name (i := 1) scAllHeard.nd rfl (Or.inl rfl), fun _ _ _ _ _ => pi_tup (pe_meth (pv 0) R.cl mH FH hr bH .nil pass0 (pa_cons (pv 1) pa_nil)), fun _ _ _ _ _ => pg_name (i := 2) scAllHeard.nd rfl (Or.inl rfl), fun _ _ _ _ _ => pv 2⟩) pa_nil)) pa_nil)))), ?_⟩
  obtain ⟨dx, t, d, ha, ht, hd⟩ := id hR
  refine ⟨.ref a, rfl, a, v, ys, tab, rfl, hR, ?_⟩
  refine ⟨.ref a, rfl, a, dx, _, t, rfl, ha, (fun n => ⟨a, v, dx, t, d, ys, rfl, ha, ht, fun it nit le => ⟨it, le, rfl, nit, rfl⟩⟩), fun D nD => ?_⟩
  have lyV : (ys.map V.str).length = ys.length := List.length_map ..
  refine sc2_it (walk_tup (K := K) (a := t) (xs := ys.map V.str)) (fun i Hy => Same H Hy ∧ ∃ S m, Hy D = some (SetO w D S m) ∧ m ≤ 4 * i ∧ ∀ k, S k = true ↔ ∃ z ∈ ys.take i, ∃ q ∈ heardN v (tab z), k = (q : Int))
    ⟨same_new nD, _, 0, upd_same, Nat.zero_le _, fun k => ⟨(fun z => nomatch z), (fun ⟨_, z, _⟩ => nomatch z)⟩⟩ (fun i Hy _ h => .of (h.1 _ _ ht)) (fun i x Hx Hx' Kg hi ⟨sx, S, m, eD, lm, hS⟩ hY hK => ?_) (fun Hy ⟨sx, S, m, eD, lm, hS⟩ => ?_)
  · obtain ⟨rfl, hx⟩ := hY
    rw [List.getElem?_map] at hx
    cases ez : ys[i]? with
    | none => rw [ez] at hx; cases hx
    | some z =>
      rw [ez] at hx
      cases hx
      have mz := List.mem_of_getElem? ez
      refine hK _ _ rfl fun Ki hKi => ?_
      refine ⟨.ref a, rfl, a, dx, _, rfl, sx _ _ ha, rfl, .str z, rfl, a, z, v, ys, tab, rfl, hv, hR.tk (Tk.same sx), mz, hl z mz, fun H2 p s2 hp => ⟨p, rfl, ⟨_, .of hp⟩, hKi _ _ ?_⟩⟩
      have hlen := heard_len v (tab z)
      refine ⟨_, _, _, fun j Hz => Same H Hz ∧ Hz p = some (.tup ((heardN v (tab z)).map fun i : Nat => V.int (i : Int))) ∧ ∃ S1 m1, Hz D = some (SetO w D S1 m1) ∧ m1 ≤ 4 * i + j ∧ ∀ k, S1 k = true ↔ S k = true ∨ ∃ q ∈ (heardN v (tab z)).take j, k = (q : Int),
        walk_tup (K := K) (a := p) (xs := (heardN v (tab z)).map fun i : Nat => V.int (i : Int)), ⟨sx.trans s2, hp, S, m, s2 _ _ eD, lm, fun k => ⟨.inl, fun h => h.elim id (fun ⟨_, z, _⟩ => nomatch z)⟩⟩, (fun j Hz _ h => .of h.2.1), (fun Hz ⟨sz, _, S1, m1, e1, l1, h1⟩ => ?_), fun j y Hz Hz' hj ⟨sz, ep, S1, m1, e1, l1, h1⟩ hY2 => ?_⟩
      · rw [List.length_map] at l1 h1
        refine ⟨sz, S1, m1, e1, by omega, fun k => ?_⟩
        rw [h1, hS, List.take_length]
        constructor
        · rintro (⟨z', hz', q⟩ | ⟨q, hq, e⟩)
          · exact ⟨z', by rw [List.take_add_one]; exact List.mem_append_left _ hz', q⟩
          · exact ⟨z, by rw [List.take_add_one, ez]; exact List.mem_append_right _ List.mem_cons_self, q, hq, e⟩
        · rintro ⟨z', hz', q⟩
          rw [List.take_add_one, ez] at hz'
          rcases List.mem_append.mp hz' with h | h
          · exact .inl ⟨z', h, q⟩
          · rw [List.mem_singleton.mp h] at q
            exact .inr q
      · obtain ⟨rfl, hy⟩ := hY2
        rw [List.length_map] at hj
        rw [List.getElem?_map] at hy
        cases eq : (heardN v (tab z))[j]? with
        | none => rw [eq] at hy; cases hy
        | some qn =>
          rw [eq] at hy
          cases hy
          have li : i < 6 := by rw [lyV] at hi; omega
          refine ⟨rfl, .int qn, rfl, (qn : Int), S1, m1, rfl, e1, Nat.lt_of_le_of_lt (show m1 + 1 ≤ 100 by omega) (by decide), fun b o e => ?_, ?_, _, _, upd_same, ?_, fun k => ?_⟩
          · exact (upd_ne (ne_of_none e nD)).trans (sz _ _ e)
          · exact (upd_ne (fun z => by rw [z, e1] at ep; cases ep)).trans ep
          · split <;> omega
          · rw [Bool.or_eq_true, decide_eq_true_iff, h1, List.take_add_one, eq]
            constructor
            · rintro ((h | ⟨q, hq, e⟩) | e)
              · exact .inl h
              · exact .inr ⟨q, List.mem_append_left _ hq, e⟩
              · exact .inr ⟨qn, List.mem_append_right _ List.mem_cons_self, e⟩
            · rintro (h | ⟨q, hq, e⟩)
              · exact .inl (.inl h)
              · rcases List.mem_append.mp hq with h | h
                · exact .inl (.inr ⟨q, h, e⟩)
                · rw [List.mem_singleton.mp h] at e
                  exact .inr e
  · rw [lyV] at lm hS
    refine ⟨D, S, m, rfl, eD, by omega, fun ns p pw mem _ np => ?_⟩
    have e : ns = allHN v (ys.map tab) := asc_ext pw (heard_asc _ _) fun k => by
      rw [mem, hS, List.take_length, mem_heard]
      constructor
      · rintro ⟨z, hz, q⟩
        exact ⟨tab z, List.mem_map.mpr ⟨z, hz, rfl⟩, q⟩
      · rintro ⟨r, hr, q⟩
        obtain ⟨z, hz, rfl⟩ := List.mem_map.mp hr
        exact ⟨z, hz, q⟩
    subst e
    have sp : Same Hy (upd Hy p (.lst ((allHN v (ys.map tab)).map V.int))) := same_new np
    exact ⟨p, _, rfl, .inl ⟨.of upd_same, fun u nu => q _ u (sx.trans (sp.trans (same_new nu))) upd_same⟩⟩
end
end Ow

set_option Elab.async false
set_option linter.all false
set_option maxRecDepth 100000
set_option maxHeartbeats 4000000
set_option exponentiation.threshold 3000
namespace Ow
open PySem PySem.Spec PyProof.Rows L2
theorem scMadeR : FnScope ["plain", "voters", "tables"] ["plain", "voters", "tables"] (defScope dMadeRule) := ⟨rfl, rfl, rfl, by decide +kernel, rfl, by decide +kernel, by decide +kernel⟩
theorem scAnyTb : FnScope ["jug", "size", "voters", "found", "at", "inner", "spot"] ["jug", "size", "voters"] (defScope dAnyTabs) := ⟨rfl, rfl, rfl, by decide +kernel, rfl, by decide +kernel, by decide +kernel⟩
theorem scFlipped : FnScope ["table", "at", "step"] ["table", "at", "step"] (defScope dFlipped) := ⟨rfl, rfl, rfl, by decide +kernel, rfl, by decide +kernel, by decide +kernel⟩
theorem scLawSets : FnScope ["voters", "found", "voter", "some"] ["voters"] (defScope dLawSets) := ⟨rfl, rfl, rfl, by decide +kernel, rfl, by decide +kernel, by decide +kernel⟩
theorem flip_up : ∀ v < 5, ∀ k < v, ∀ i < 2 ^ v, ¬ (i / 2 ^ k) % 2 = 1 → i + 2 ^ k = i ^^^ 2 ^ k := by decide +kernel
theorem flip_down : ∀ v < 5, ∀ k < v, ∀ i < 2 ^ v, (i / 2 ^ k) % 2 = 1 → i - 2 ^ k = i ^^^ 2 ^ k ∧ 2 ^ k ≤ i := by decide +kernel
theorem flip_lt : ∀ v < 5, ∀ k < v, ∀ i < 2 ^ v, i ^^^ 2 ^ k < 2 ^ v := by decide +kernel
def lawS : Nat → List (List Int)
  | 0 => [[]]
  | v + 1 => lawS v ++ (lawS v).map fun r => r ++ [(v : Int)]
theorem lawS_ok : ∀ v < 5, ∀ ns ∈ lawS v, ns.length ≤ 4 ∧ (∀ n ∈ ns, 0 ≤ n ∧ n < (v : Int)) ∧ ascI ns = true := by decide +kernel
theorem lawS_len : ∀ v < 5, (lawS v).length ≤ 16 := by decide +kernel
section
variable {P : Program} {w : World} {K : PySem.W.Frag} {mg : Str → Option Value} {base : Heap} {C : Addr}
def spFlip : Sp := fun vs H Q _ => ∃ (a : Addr) (v k i : Nat) (ns : List Int), vs = [.ref a, .int i, .int (2 ^ k : Nat)] ∧ H a = some (.tup (ns.map V.int)) ∧ v ≤ 4 ∧ k < v ∧ i < 2 ^ v ∧ ns.length = 2 ^ v ∧ Q (.int (ns.getD (i ^^^ 2 ^ k) 0)) H
theorem ok_flipped {f : Addr} {fd : FuncData} (F : Fun K "_law_flipped" "_law_flipped" dFlipped f fd) (mi : mg "int" = none) : FnOk P w K mg base CX0 1 f fd ["table", "at", "step"] spFlip := by
  refine F.ok scFlipped (fun vs H Q E h => ?_) (fun cdv A outer s H vs Q E hr h => ?_)
  · obtain ⟨a, v, k, i, ns, rfl, _⟩ := h
    rfl
  obtain ⟨a, v, k, i, ns, rfl, ha, hv, hk, hi, hl, q⟩ := h
  refine ⟨_, pss_one (ps_ret (pe_ifExp (pt_cmpR op_eq (pe_op op_mod (pe_callTy call_int1 (by rfl) mi boot_int (pa_cons (pe_op op_fdiv (pv 1) (pv 2)) pa_nil)) pe_int) pe_int (nomark _))
    (pe_ix ix_tup (pv 0) (pe_op op_sub (pv 1) (pv 2)) (fun _ _ => rfl)) (pe_ix ix_tup (pv 0) (pe_op op_add (pv 1) (pv 2)) (fun _ _ => rfl)))), ?_⟩
  have v5 : v < 5 := by omega
  have p16 : 2 ^ k ≤ 8 := (by decide : ∀ v < 5, ∀ k < v, 2 ^ k ≤ 8) v v5 k hk
  have p0 : 0 < 2 ^ k := Nat.two_pow_pos k
  have lt := flip_lt v v5 k hk i hi
  have at_ : (ns.map V.int)[i ^^^ 2 ^ k]? = some (.int (ns.getD (i ^^^ 2 ^ k) 0)) := by
    rw [List.getElem?_map, List.getD_eq_getElem?_getD, List.getElem?_eq_getElem (by omega)]
    rfl
  refine ⟨.int i, rfl, .int _, rfl, i, ((2 ^ k : Nat) : Int), rfl, rfl, ⟨by omega, by omega⟩, .inl ⟨_, rfl, _, 2, rfl, rfl, (by show (0 : Int) < 2; decide), rfl, _, rfl, ?_⟩⟩
  have ed : ((i : Int) / ((2 ^ k : Nat) : Int)) % 2 = (((i / 2 ^ k) % 2 : Nat) : Int) := by omega
  by_cases e : (i / 2 ^ k) % 2 = 1
  · obtain ⟨e1, e2⟩ := flip_down v v5 k hk i hi e
    have : decide (V.int (((i : Int) / ((2 ^ k : Nat) : Int)) % 2) = V.int 1) = true := decide_eq_true (by rw [ed, e]; rfl)
    rw [this]
    refine iteT ⟨.ref a, rfl, .int i, rfl, .int _, rfl, _, _, rfl, rfl, a, _, _, .int (ns.getD (i ^^^ 2 ^ k) 0), rfl, rfl, .of ha, at_of (show (i : Int) - ((2 ^ k : Nat) : Int) = ((i ^^^ 2 ^ k : Nat) : Int) by omega) at_, q⟩
  · have e1 := flip_up v v5 k hk i hi e
    have : decide (V.int (((i : Int) / ((2 ^ k : Nat) : Int)) % 2) = V.int 1) = false := decide_eq_false fun z => e (by have := V.int.inj z; omega)
    rw [this]
    refine iteF ⟨.ref a, rfl, .int i, rfl, .int _, rfl, _, _, rfl, rfl, a, _, _, .int (ns.getD (i ^^^ 2 ^ k) 0), rfl, rfl, .of ha, at_of (show (i : Int) + ((2 ^ k : Nat) : Int) = ((i ^^^ 2 ^ k : Nat) : Int) by omega) at_, q⟩
def spLawS : Sp := fun vs H Q _ => ∃ v : Nat, vs = [.int v] ∧ v ≤ 4 ∧ ∀ H' l xs, Same H H' → H' l = some (.lst xs) → All2 (IsRow H') xs (lawS v) → Q (.ref l) H'
theorem ok_lawsets {f : Addr} {fd : FuncData} (F : Fun K "_law_all_sets" "_law_all_sets" dLawSets f fd) (mr : mg "range" = none) : FnOk P w K mg base CX0 1 f fd ["voters"] spLawS := by
  refine F.ok scLawSets (fun vs H Q E h => ?_) (fun cdv A outer s H vs Q E hr h => ?_)
  · obtain ⟨v, rfl, _⟩ := h
    rfl
  obtain ⟨v, rfl, hv, q⟩ := h
  refine ⟨_, pss_cons (ps_set (i := 1) scLawSets.nd rfl (.inl rfl) (pe_lst (pa_cons (pe_tup pa_nil) pa_nil)))
    (pss_cons (ps_for PassesOwn.never rfl (pi_range1 (by rfl) mr (pa_cons (pv 0) pa_nil)) (pg_name (i := 2) scLawSets.nd rfl (.inr rfl))
      (pss_one (ps_set (i := 1) scLawSets.nd rfl (.inl rfl) (pe_op op_cat (pv 1)
        (pe_lc (te := tOp rTCat (tVar 3) (tTup (tCons (tVar 2) tNil))) (own := [("some", 3)]) (g := gName 3) (tt := tYes) rfl scLawSets.nd (pi_list (pv 1)) (blkOk_by (N := ["voters", "found", "voter", "some"]) (sc := defScope dLawSets) (by decide +kernel))
          (fun _ _ _ _ _ => pg_name (i := 3) scLawSets.nd rfl (Or.inl rfl)) (fun _ _ _ _ _ => pts_nil)
          (fun _ _ _ _ _ => pe_op op_tcat (pv 3) (pe_tup (pa_cons (pv 2) pa_nil))))))))
    (pss_one (ps_ret (pv 1)))), ?_⟩
  refine ⟨Nat.zero_le _, fun p1 n1 => ⟨(by show 1 ≤ sizeLine; decide), fun p2 n2 => ⟨.int v, rfl, v, rfl, by omega, by omega, ?_⟩⟩⟩
  have s1 : Same H (upd H p1 (.tup [])) := same_new n1
  have s2 := same_new (o := .lst [.ref p1]) n2
  have e1 := s2 p1 (.tup []) upd_same
  refine for_range (lo := 0) (n := v) (fun i σ Hx => ∃ L xs y2 y3, σ = [some (.int v), some (.ref L), y2, y3] ∧ Same H Hx ∧ Hx L = some (.lst xs) ∧ All2 (IsRow Hx) xs (lawS i))
    ⟨p2, [.ref p1], none, none, rfl, s1.trans s2, upd_same, .cons ⟨p1, rfl, e1⟩ .nil⟩ (fun i σ Hx hi ⟨L, xs, y2, y3, eσ, sx, eL, ax⟩ => ?_) (fun σ Hx ⟨L, xs, y2, y3, eσ, sx, eL, ax⟩ => ?_)
  · subst eσ
    have lx := ax.len
    have l16 := lawS_len i (by omega)
    refine ⟨.ref L, rfl, .ref L, rfl, L, rfl, ⟨_, .of eL⟩, fun D nD => ?_⟩
    refine lc_map (M := No) (walk_list (K := K) (a := L) (xs := xs)) (by omega) Jg.no nD (fun j Hz y => ∃ r, (lawS i)[j]? = some r ∧ IsRow Hz y (r ++ [(i : Int)])) (fun _ _ _ _ tk ⟨r, e, h⟩ => ⟨r, e, h.tk tk⟩) (fun Hz g _ => .of (g.toSame _ _ eL))
      (fun j x Hz Hz' Kk hj g _ hY hK => ?_) (fun Hz ws g _ eD hlen hq => ?_)
    · obtain ⟨rfl, hx⟩ := hY
      obtain ⟨r, hr, b, rfl, hb⟩ := ax.get hx
      have lr := (lawS_ok i (by omega) r (List.mem_of_getElem? hr)).1
      have hb' := g.toSame _ _ hb
      refine ⟨rfl, .ref b, rfl, .int (0 + (i : Int)), rfl, (by show 1 ≤ sizeLine; decide), fun T nT => ?_⟩
      refine ⟨b, T, r.map V.int, [.int (0 + (i : Int))], rfl, rfl, same_new nT _ _ hb', upd_same, (by rw [List.length_map]; show r.length + 1 ≤ 5000; omega), fun H3 p3 s3 hp3 => hK _ _ (Gw.same ((same_new nT).trans s3)) Jg.no ⟨r, hr, p3, rfl, ?_⟩⟩
      rw [hp3, List.map_append, Int.zero_add]
      rfl
    · have sz := g.toSame
      have rows : All2 (IsRow Hz) ws ((lawS i).map fun r => r ++ [(i : Int)]) := by
        refine All2.of_get (by rw [hlen, List.length_map, lx]) fun j y r ey er => ?_
        obtain ⟨r', er', row⟩ := hq j y ey
        rw [List.getElem?_map, er'] at er
        cases er
        exact row
      have lw := rows.len
      rw [List.length_map] at lw
      have tot : xs.length + ws.length ≤ 60 := by omega
      refine ⟨L, D, xs, ws, rfl, rfl, sz _ _ eL, eD, Nat.le_of_lt (small60 (n := xs.length + ws.length) (by omega)), fun p np => ?_⟩
      have sp : Same Hz (upd Hz p (.lst (xs ++ ws))) := same_new np
      exact ⟨p, xs ++ ws, _, _, rfl, sx.trans (sz.trans sp), upd_same, (all_tk (Tk.same (sz.trans sp)) ax).app (all_tk (Tk.same sp) rows)⟩
  · subst eσ
    exact ⟨.ref L, rfl, q Hx L xs sx eL ax⟩
end
end Ow

set_option Elab.async false
set_option linter.all false
set_option maxRecDepth 100000
set_option maxHeartbeats 4000000
set_option exponentiation.threshold 3000
namespace Ow
open PySem PySem.Spec PyProof.Rows L2
def spMade (C : Addr) : Sp := fun vs H Q _ => ∃ (pd tn lt : Addr) (v : Nat) (zs : List Str) (rs : List (List Int)), vs = [.ref pd, .int v, .ref lt] ∧ H pd = some (.dK [(Sum.inr "issues", .ref tn)]) ∧ 1 ≤ v ∧ v ≤ 4 ∧ H tn = some (.tup (zs.map V.str)) ∧ IsRows H (.ref lt) rs ∧ zs.length = rs.length ∧ AllOk v zs (tabOf zs rs) ∧
  ∀ H' x ys, Same H H' → ys.Perm zs → sortedS ys = true → RuleAt C H' x v ys (tabOf zs rs) → Q (.ref x) H'
section
variable {P : Program} {w : World} {K : PySem.W.Frag} {mg : Str → Option Value} {base : Heap} {C : Addr}
theorem ok_maderule {f fI : Addr} {fd fdI : FuncData} (F : Fun K "_law_made_rule" "_law_made_rule" dMadeRule f fd) (M : Mk K C fI) (FI : FnOk P w K mg base CX0 7 fI fdI ["self", "voters", "tables"] (spInit C)) (bI : Binds K fdI ["self", "voters", "tables"] []) (gC : mg "Rule" = some (.ref C))
    (md : mg "dict" = none) (mls : mg "list" = none) (mz : mg "zip" = none) : FnOk P w K mg base CX0 9 f fd ["plain", "voters", "tables"] (spMade C) := by
  refine F.ok scMadeR (fun vs H Q E h => ?_) (fun cdv A outer s H vs Q E hr h => ?_)
  · obtain ⟨pd, tn, lt, v, zs, rs, rfl, _⟩ := h
    rfl
  obtain ⟨pd, tn, lt, v, zs, rs, rfl, hpd, h1, h4, hln, ⟨lt', xs, e0, hlt, hx⟩, hl, ok, q⟩ := h
  cases e0
  refine ⟨_, pss_one (ps_ret (pe_make M FI hr (by rfl) gC bI .nil pass0 (pa_cons (pv 1) (pa_cons (pe_callTy (call_dictP rfl) (by rfl) md (by decide +kernel) (pa_cons (pe_lzip rfl (by rfl) mls (by rfl) mz (by decide +kernel) (pa_cons (pe_dget (hu_of hr) (pv 0) pe_str (fun _ _ => rfl)) (pa_cons (pv 2) pa_nil))) pa_nil)) pa_nil)))), ?_⟩
  have lx := hx.len
  refine ⟨.int v, rfl, .ref pd, rfl, pd, .ref tn, rfl, DGet.k (k := Sum.inr "issues") hpd, .ref lt, rfl, tn, lt, zs.map V.str, xs, rfl, .inr (.of hln), .inr (.of hlt), fun H1 p ts s1 np hp htl hts => ?_⟩
  rw [List.length_map] at htl
  have nd := ok.2.2.1
  have hx2 : All2 (fun x z => IsRow H1 x (tabOf zs rs z)) xs zs := .of_get (by omega) fun i x z ex ez => by
    obtain ⟨r, er, hr⟩ := hx.get ex
    rw [tab_at nd hl ez er]
    exact hr.tk (Tk.same s1)
  have ht := zip_tab hx2
  have lk : (List.zipWith (fun z x => ((Sum.inr z : Key), x)) zs xs).length = zs.length := ht.len
  have hm : mergeK [] (List.zipWith (fun z x => ((Sum.inr z : Key), x)) zs xs) = List.zipWith (fun z x => ((Sum.inr z : Key), x)) zs xs := by
    rw [merge_new _ [] (fun _ _ => rfl) (by rw [tab_keys ht]; exact List.Pairwise.map _ (fun a b h e => h (Sum.inr.inj e)) nd)]
    rfl
  refine ⟨p, ts, List.zipWith (fun z x => ((Sum.inr z : Key), x)) zs xs, rfl, .of hp, paired_of (.of_get (by omega) fun i t kv et ekv => ?_), fun d nD => ?_⟩
  · obtain ⟨x, y, ex, ey, _, e3⟩ := hts i t et
    rw [List.getElem?_zipWith] at ekv
    rw [List.getElem?_map] at ex
    cases ez : zs[i]? with
    | none => rw [ez] at ex; cases ex
    | some z =>
      rw [ez] at ex
      cases ex
      rw [ez, ey] at ekv
      cases ekv
      exact .of e3
  · rw [hm]
    intro x dx nx ndx nex
    have sd : Same H1 (upd H1 d (.dK (List.zipWith (fun z x => ((Sum.inr z : Key), x)) zs xs))) := same_new nD
    have sx : Same (upd H1 d (.dK (List.zipWith (fun z x => ((Sum.inr z : Key), x)) zs xs))) (upd (upd (upd H1 d (.dK (List.zipWith (fun z x => ((Sum.inr z : Key), x)) zs xs))) dx (.own x)) x (.ins C dx [])) := (same_new ndx).trans (same_new (by rw [upd_ne (fun e => nex e.symm)]; exact nx))
    refine ⟨x, dx, d, v, zs, tabOf zs rs, rfl, upd_same, h1, h4, ⟨_, sx _ _ upd_same, TabR.tk (Tk.same (sd.trans sx)) ht⟩, ok, fun H2 ys sb pm so hR => ⟨rfl, ?_⟩⟩
    refine q H2 x ys (fun b o e => ?_) pm so hR
    have e1 := (s1.trans sd) _ _ e
    exact sb b o (fun z => by rw [z, nx] at e1; cases e1) (sx _ _ e1)
/-- a drawn table -/
theorem good_mid {v : Nat} {bs : List Int} (h1 : 1 ≤ v) (hl : bs.length + 2 = 2 ^ v) (hb : ∀ b ∈ bs, b = 0 ∨ b = 1) : GoodT v (([0] ++ bs) ++ [1]) := by
  refine ⟨by rw [List.length_append, List.length_append]; show 1 + bs.length + 1 = _; omega, fun b hm => ?_, rfl, ?_⟩
  · rcases List.mem_append.mp hm with h | h
    · rcases List.mem_append.mp h with h | h
      · exact .inl (List.mem_singleton.mp h)
      · exact hb b h
    · exact .inr (List.mem_singleton.mp h)
  · have e : ([0] ++ bs).length = 2 ^ v - 1 := by
      rw [List.length_append]
      show 1 + bs.length = _
      omega
    rw [List.getElem?_append_right (by omega), e, Nat.sub_self]
    rfl
theorem bits_ex : ∀ {ys : List V}, (∀ y ∈ ys, ∃ b : Int, (b = 0 ∨ b = 1) ∧ y = .int b) → ∃ r : List Int, ys = r.map V.int ∧ ∀ b ∈ r, b = 0 ∨ b = 1
  | [], _ => ⟨[], rfl, fun _ h => nomatch h⟩
  | y :: ys, h => by
    obtain ⟨b, hb, rfl⟩ := h y List.mem_cons_self
    obtain ⟨r, rfl, hr⟩ := bits_ex fun z hz => h z (List.mem_cons_of_mem _ hz)
    exact ⟨b :: r, rfl, fun q hq => by
      rcases List.mem_cons.mp hq with rfl | hq
      · exact hb
      · exact hr q hq⟩
def spAnyTb : Sp := fun vs H Q _ => ∃ (J : Addr) (n v : Nat), vs = [.ref J, .int n, .int v] ∧ Jug H J ∧ 1 ≤ n ∧ n ≤ 60 ∧ 1 ≤ v ∧ v ≤ 4 ∧ ∀ H' x rs, Sb J H H' → Jug H' J → IsRows H' x rs → rs.length = n → (∀ r ∈ rs, GoodT v r) → Q x H'
theorem ok_anytabs {f fD fA : Addr} {fd fdD fdA : FuncData} (F : Fun K "_law_any_tables" "_law_any_tables" dAnyTabs f fd)
    (FD : FnOk P w K mg base CX0 1 fD fdD ["jug", "total"] spDip) (kD : PySem.W.keepIn K (.ref fD) = true) (bD : Binds K fdD ["jug", "total"] []) (gD : mg "_law_dip" = some (.ref fD))
    (FA : FnOk P w K mg base CX0 1 fA fdA ["size"] spRowsL) (kA : PySem.W.keepIn K (.ref fA) = true) (bA : Binds K fdA ["size"] []) (gA : mg "_law_all_rows" = some (.ref fA)) (mr : mg "range" = none) (ml : mg "len" = none) (mt : mg "tuple" = none) : FnOk P w K mg base CX0 2 f fd ["jug", "size", "voters"] spAnyTb := by
  refine F.ok scAnyTb (fun vs H Q E h => ?_) (fun cdv A outer s H vs Q E hr h => ?_)
  · obtain ⟨J, n, v, rfl, _⟩ := h
    rfl
  obtain ⟨J, n, v, rfl, hJ, hn1, hn, h1, h4, q⟩ := h
  refine ⟨_, pss_cons (ps_set (i := 3) scAnyTb.nd rfl (.inl rfl) (pe_lst pa_nil))
    (pss_cons (ps_for PassesOwn.never rfl (pi_range1 (by rfl) mr (pa_cons (pv 1) pa_nil)) (pg_name (i := 4) scAnyTb.nd rfl (.inl rfl))
      (pss_cons (ps_setLc (i := 5) (te := tCall spDip [] E0 (tCons (tVar 0) (tCons (tC (.int 2)) tNil))) (own := [("spot", 6)]) (g := gName 6) (tt := tYes) rfl scAnyTb.nd rfl rfl (sw_true rfl rfl rfl (by decide +kernel))
          (pi_range1 (by rfl) mr (pa_cons (pe_op op_sub (pe_callB call_len_seq (by rfl) ml PySem.boot_len (pa_cons (pe_call FA hr (by rfl) gA kA bA .nil pass0 (pa_cons (pv 2) pa_nil)) pa_nil)) pe_int) pa_nil)) (blkOk_by (N := ["jug", "size", "voters", "found", "at", "inner", "spot"]) (sc := defScope dAnyTabs) (by decide +kernel))
          (fun _ _ _ _ _ => pg_name (i := 6) scAnyTb.nd rfl (Or.inl rfl)) (fun _ _ _ _ _ => pts_nil) (fun _ _ _ _ _ => pe_call FD hr (by rfl) gD kD bD .nil pass0 (pa_cons (pv 0) (pa_cons pe_int pa_nil))))
      (pss_one (ps_expr (pe_bm PySem.F.plainAttrs_list PySem.F.slot_list_append PySem.F.type_list_append mt_append (pv 3) (pa_cons (pe_op op_tcat (pe_op op_tcat (pe_tup (pa_cons pe_int pa_nil)) (pe_callTy call_tuple_of (by rfl) mt boot_tup (pa_cons (pv 5) pa_nil))) (pe_tup (pa_cons pe_int pa_nil))) pa_nil))))))
    (pss_one (ps_ret (pe_callTy call_tuple_of (by rfl) mt boot_tup (pa_cons (pv 3) pa_nil))))), ?_⟩
  refine ⟨Nat.zero_le _, fun L nL => ⟨.int n, rfl, n, rfl, by omega, by omega, ?_⟩⟩
  have sL : Same H (upd H L (.lst [])) := same_new nL
  have LJ : L ≠ J := jug_none hJ nL
  refine for_range (lo := 0) (n := n) (fun i σ Hx => ∃ xs rs y4 y5 y6, σ = [some (.ref J), some (.int n), some (.int v), some (.ref L), y4, y5, y6] ∧ Sb J H Hx ∧ Jug Hx J ∧ Hx L = some (.lst xs) ∧ All2 (IsRow Hx) xs rs ∧ rs.length = i ∧ ∀ r ∈ rs, GoodT v r)
    ⟨[], [], none, none, none, rfl, .same sL, jug_same sL hJ, upd_same, .nil, rfl, fun _ z => nomatch z⟩ (fun i σ Hx hi ⟨xs, rs, y4, y5, y6, eσ, sx, jx, eL, ax, lr, hg⟩ => ?_) (fun σ Hx ⟨xs, rs, y4, y5, y6, eσ, sx, jx, eL, ax, lr, hg⟩ => ?_)
  · subst eσ
    have p2 : 2 ≤ 2 ^ v ∧ 2 ^ v ≤ 16 := (by decide : ∀ v < 5, 1 ≤ v → 2 ≤ 2 ^ v ∧ 2 ^ v ≤ 16) v (by omega) h1
    refine ⟨.int v, rfl, v, rfl, by omega, fun H1 p rows s1 _ hp hrows => ?_⟩
    have lrow := hrows.len
    rw [rowsN_len] at lrow
    have j1 := jug_same s1 jx
    have eL1 := s1 _ _ eL
    refine ⟨p, rows, rfl, .inl (.of hp), _, 2, rfl, rfl, ((2 ^ v - 2 : Nat) : Int), ?_, by omega, by omega, fun D nD => ?_⟩
    · rw [lrow]
      have e : (((2 ^ v : Nat) : Int) - 2) = ((2 ^ v - 2 : Nat) : Int) := by omega
      exact congrArg (fun i => [V.int i]) e
    refine lc_map (M := At J) (walk_range (lo := 0) (n := 2 ^ v - 2)) (by omega) (Jg.at_ j1) nD (fun _ _ y => ∃ b : Int, (b = 0 ∨ b = 1) ∧ y = .int b) (fun _ _ _ _ _ h => h) (fun Hz _ _ => trivial)
      (fun j x Hz Hz' Kk hj g jg hY hK => ?_) (fun Hz ws g jg eD hlen hq => ?_)
    · obtain ⟨rfl, rfl⟩ := hY
      exact ⟨rfl, .ref J, rfl, J, 2, rfl, by decide, by decide, jg.jug, fun H2 k sb2 j2 k0 k1 => hK _ _ sb2.gw (Jg.at_ j2) ⟨k, by omega, rfl⟩⟩
    · obtain ⟨bs, rfl, hb⟩ := bits_ex (ys := ws) fun y hy => by
        obtain ⟨j, hj⟩ := List.mem_iff_getElem?.mp hy
        exact hq j y hj
      rw [List.length_map] at hlen
      have sw : Sb J H1 Hz := fun b o ne e => g b o ne e
      have eL2 := sw L _ LJ eL1
      have jz := jg.jug
      have ax2 := all_tk (g.tk (Jg.at_ j1)) (all_tk (Tk.same s1) ax)
      refine ⟨.ref L, rfl, .inl ⟨rfl, _, .of eL2⟩, (by show 1 ≤ sizeLine; decide), fun T1 nT1 => ?_⟩
      have sT1 : Same Hz (upd Hz T1 (.tup [.int 0])) := same_new nT1
      have eT1 : upd Hz T1 (.tup [.int 0]) T1 = some (.tup [.int 0]) := upd_same
      generalize upd Hz T1 (.tup [.int 0]) = H3 at sT1 eT1 ⊢
      refine ⟨.ref D, rfl, D, _, rfl, .inl ⟨.of (sT1 _ _ eD), fun T2 nT2 => ?_⟩⟩
      have sT2 : Same H3 (upd H3 T2 (.tup (bs.map V.int))) := same_new nT2
      have eT2 : upd H3 T2 (.tup (bs.map V.int)) T2 = some (.tup (bs.map V.int)) := upd_same
      generalize upd H3 T2 (.tup (bs.map V.int)) = H4 at sT2 eT2 ⊢
      refine ⟨T1, T2, [.int 0], bs.map V.int, rfl, rfl, sT2 _ _ eT1, eT2, (by rw [List.length_map]; show 1 + bs.length ≤ 5000; omega), fun H5 T3 s5 eT3 => ⟨(by show 1 ≤ sizeLine; decide), fun T4 nT4 => ?_⟩⟩
      have sT4 : Same H5 (upd H5 T4 (.tup [.int 1])) := same_new nT4
      have eT4 : upd H5 T4 (.tup [.int 1]) T4 = some (.tup [.int 1]) := upd_same
      generalize upd H5 T4 (.tup [.int 1]) = H6 at sT4 eT4 ⊢
      refine ⟨T3, T4, [.int 0] ++ bs.map V.int, [.int 1], rfl, rfl, sT4 _ _ eT3, eT4, (by rw [List.length_append, List.length_map]; show 1 + bs.length + 1 ≤ 5000; omega), fun H7 T5 s7 eT5 => ?_⟩
      have s37 := sT1.trans (sT2.trans (s5.trans (sT4.trans s7)))
      have eL7 := s37 _ _ eL2
      have lxs := ax.len
      refine ⟨L, _, _, rfl, rfl, eL7, small60 (by omega), xs ++ [.ref T5], rs ++ [([0] ++ bs) ++ [1]], _, _, _, rfl, ?_, ?_, upd_same, ?_, by rw [List.length_append, lr]; rfl, fun r hr' => ?_⟩
      · intro b o ne e
        have e1 := s37 _ _ (sw b o ne (s1 _ _ (sx b o ne e)))
        by_cases z : b = L
        · rw [z, nL] at e
          cases e
        · exact (upd_ne z).trans e1
      · have j7 := jug_same s37 jz
        obtain ⟨a1, a2, a3, ej⟩ := j7
        exact ⟨a1, a2, a3, (upd_ne (fun z => LJ z.symm)).trans ej⟩
      · have tk : Tk H7 (upd H7 L (.lst (xs ++ [.ref T5]))) := Tk.lst eL7
        refine (all_tk tk (all_tk (Tk.same s37) ax2)).app (.cons ⟨T5, rfl, ?_⟩ .nil)
        rw [tk.tup eT5, List.map_append, List.map_append]
        rfl
      · rcases List.mem_append.mp hr' with h | h
        · exact hg r h
        · rw [List.mem_singleton.mp h]
          exact good_mid h1 (by omega) hb
  · subst eσ
    exact ⟨.ref L, rfl, L, xs, rfl, .inl ⟨.of eL, fun u nu => q _ (.ref u) rs (sx.trans (.same (same_new nu))) (jug_same (same_new nu) jx) ⟨u, xs, rfl, upd_same, all_tk (Tk.new nu) ax⟩ lr hg⟩⟩
end
end Ow

set_option Elab.async false
set_option linter.all false
set_option maxRecDepth 100000
set_option maxHeartbeats 4000000
set_option exponentiation.threshold 3000
namespace Ow
open PySem PySem.Spec PyProof.Rows L2
abbrev woN : List Str := ["voters", "table", "value", "found", "at", "votes", "some", "voter"]
theorem scWinOf : FnScope woN ["voters", "table", "value"] (defScope dWinnersOf) := ⟨rfl, rfl, rfl, by decide +kernel, rfl, by decide +kernel, by decide +kernel⟩
def setcN (v : Nat) (c : Int) (r : List Int) : List Int := ((List.range v).filter fun i => decide (r.getD i 0 = c)).map fun i : Nat => (i : Int)
def dueU (v : Nat) (t : List Int) (c : Int) (n : Nat) : List (List Int) := ((List.range n).filter fun k => decide (t.getD k 0 = c)).map fun k => setcN v c ((rowsN v).getD k [])
theorem setc_perm0 : ∀ v < 5, (setsS v).Perm ((List.range (2 ^ v)).map fun k => setcN v 0 ((rowsN v).getD k [])) := by decide +kernel
theorem setc_perm1 : ∀ v < 5, (setsS v).Perm ((List.range (2 ^ v)).map fun k => setcN v 1 ((rowsN v).getD k [])) := by decide +kernel
theorem setc_place0 : ∀ v < 5, ∀ k < 2 ^ v, placeN (saysN v 0 (setcN v 0 ((rowsN v).getD k []))) = (k : Int) := by decide +kernel
theorem setc_place1 : ∀ v < 5, ∀ k < 2 ^ v, placeN (saysN v 1 (setcN v 1 ((rowsN v).getD k []))) = (k : Int) := by decide +kernel
theorem setc_nil0 : ∀ v < 5, 1 ≤ v → ∀ k < 2 ^ v, setcN v 0 ((rowsN v).getD k []) = [] → k = 2 ^ v - 1 := by decide +kernel
theorem setc_nil1 : ∀ v < 5, 1 ≤ v → ∀ k < 2 ^ v, setcN v 1 ((rowsN v).getD k []) = [] → k = 0 := by decide +kernel
theorem setc_fit (v : Nat) (c : Int) (r : List Int) : (setcN v c r).length ≤ v ∧ ∀ n ∈ setcN v c r, 0 ≤ n ∧ n < (v : Int) := by
  unfold setcN
  constructor
  · rw [List.length_map]
    refine Nat.le_trans (List.length_filter_le _ _) ?_
    rw [List.length_range]
    exact Nat.le_refl _
  · intro n hn
    obtain ⟨i, hi, rfl⟩ := List.mem_map.mp hn
    have := List.mem_range.mp (List.mem_filter.mp hi).1
    omega
theorem good_first {v : Nat} {t : List Int} (g : GoodT v t) : t.getD 0 0 = 0 := by
  rw [List.getD_eq_getElem?_getD, g.fst]
  rfl
theorem good_last {v : Nat} {t : List Int} (g : GoodT v t) : t.getD (2 ^ v - 1) 0 = 1 := by
  rw [List.getD_eq_getElem?_getD, g.lst]
  rfl
theorem due_ne {v : Nat} {t : List Int} {c : Int} (h1 : 1 ≤ v) (h4 : v ≤ 4) (g : GoodT v t) (hc : c = 0 ∨ c = 1) : ∀ ns ∈ dueU v t c (2 ^ v), ns ≠ [] := fun ns hn e => by
  obtain ⟨k, hk, rfl⟩ := List.mem_map.mp hn
  obtain ⟨k1, k2⟩ := List.mem_filter.mp hk
  have kl := List.mem_range.mp k1
  have k2 := of_decide_eq_true k2
  rcases hc with rfl | rfl
  · have := setc_nil0 v (by omega) h1 k kl e
    rw [this, good_last g] at k2
    cases k2
  · have := setc_nil1 v (by omega) h1 k kl e
    rw [this, good_first g] at k2
    cases k2
theorem due_perm {v : Nat} {t : List Int} {c : Int} (h4 : v ≤ 4) (hc : c = 0 ∨ c = 1) : (dueU v t c (2 ^ v)).Perm (winnersN v t c) := by
  have v5 : v < 5 := by omega
  have p : (setsS v).Perm ((List.range (2 ^ v)).map fun k => setcN v c ((rowsN v).getD k [])) := by
    rcases hc with rfl | rfl
    · exact setc_perm0 v v5
    · exact setc_perm1 v v5
  have pl : ∀ k < 2 ^ v, placeN (saysN v c (setcN v c ((rowsN v).getD k []))) = (k : Int) := by
    rcases hc with rfl | rfl
    · exact setc_place0 v v5
    · exact setc_place1 v v5
  have f := p.filter (winsB v t c)
  rw [List.filter_map] at f
  refine List.Perm.trans (List.Perm.of_eq ?_) f.symm
  unfold dueU
  refine congrArg (List.map _) (List.filter_congr fun k hk => ?_)
  show decide (t.getD k 0 = c) = winsB v t c _
  unfold winsB
  rw [pl k (List.mem_range.mp hk)]
  rfl
theorem winners_asc (v : Nat) (h : v < 5) (t : List Int) (c : Int) : AscT (winnersN v t c) := List.Pairwise.filter _ (sets_asc v h)
theorem due_next {v : Nat} {t : List Int} {c : Int} {i : Nat} : dueU v t c (i + 1) = dueU v t c i ++ (if t.getD i 0 = c then [setcN v c ((rowsN v).getD i [])] else []) := by
  unfold dueU
  rw [range_next]
  by_cases e : t.getD i 0 = c
  · rw [if_pos (decide_eq_true e), if_pos e, List.map_append]
    rfl
  · rw [if_neg (by rw [decide_eq_false e]; decide), if_neg e, List.append_nil]
section
variable {P : Program} {w : World} {K : PySem.W.Frag} {mg : Str → Option Value} {base : Heap} {C : Addr}
def spWinOf : Sp := fun vs H Q _ => ∃ (lt : Addr) (v : Nat) (t : List Int) (c : Int), vs = [.int v, .ref lt, .int c] ∧ H lt = some (.tup (t.map V.int)) ∧ GoodT v t ∧ 1 ≤ v ∧ v ≤ 4 ∧ (c = 0 ∨ c = 1) ∧ ∀ H' l xs, Same H H' → H l = none → H' l = some (.lst xs) → All2 (IsRow H') xs (winnersN v t c) → Q (.ref l) H'
theorem ok_winof {f fA : Addr} {fd fdA : FuncData} (F : Fun K "_law_winners_of" "_law_winners_of" dWinnersOf f fd) (FA : FnOk P w K mg base CX0 1 fA fdA ["size"] spRowsL) (kA : PySem.W.keepIn K (.ref fA) = true) (bA : Binds K fdA ["size"] []) (gA : mg "_law_all_rows" = some (.ref fA))
    (me : mg "enumerate" = none) (mt : mg "tuple" = none) (mr : mg "range" = none) (mi : mg "int" = none) (mo : mg "sorted" = none) : FnOk P w K mg base CX0 3 f fd ["voters", "table", "value"] spWinOf := by
  refine F.ok scWinOf (fun vs H Q E h => ?_) (fun cdv A outer s H vs Q E hr h => ?_)
  · obtain ⟨lt, v, t, c, rfl, _⟩ := h
    rfl
  obtain ⟨lt, v, t, c, rfl, hlt, g, h1, h4, hc, q⟩ := h
  have hu4 : (A.deeper (envOfC "_law_winners_of" (defScope dWinnersOf) s.heap.objs.size f cdv)).units + 4 < cLine := by
    have := hr.units
    omega
  refine ⟨_, pss_cons (ps_set (i := 3) scWinOf.nd rfl (.inl rfl) (pe_lst pa_nil))
    (pss_cons (ps_for PassesOwn.never rfl (pi_enum (by rfl) me (pa_cons (pe_call FA (hr.mono (by decide)) (by rfl) gA kA bA .nil pass0 (pa_cons (pv 0) pa_nil)) pa_nil)) (pg_tup rfl (pgs_cons (pg_name (i := 4) scWinOf.nd rfl (.inl rfl)) (pgs_cons (pg_name (i := 5) scWinOf.nd rfl (.inr rfl)) pgs_nil)))
      (pss_cons (ps_set (i := 6) scWinOf.nd rfl (.inl rfl) (pe_callTy call_tuple_of (by rfl) mt boot_tup (pa_cons
        (pe_lc (te := tVar 7) (own := [("voter", 7)]) (g := gName 7) (tt := tTest (tOp rEq (tOp (rIxT K) (tVar 5) (tVar 7)) (tVar 2))) rfl scWinOf.nd (pi_range1 (by rfl) mr (pa_cons (pv 0) pa_nil)) (blkOk_by (N := woN) (sc := defScope dWinnersOf) (by decide +kernel))
          (fun _ _ _ _ _ => pg_name (i := 7) scWinOf.nd rfl (Or.inl rfl)) (fun _ _ _ _ _ => pts_one (pt_cmpR op_eq (pe_ix ix_tup (pv 5) (pv 7) (fun _ _ => rfl)) (pv 2) (nomark _))) (fun _ _ _ _ _ => pv 7)) pa_nil)))
      (pss_one (ps_set (i := 3) scWinOf.nd rfl (.inl rfl) (pe_op op_cat (pv 3) (pe_op op_rep (pe_lst (pa_cons (pv 6) pa_nil)) (pe_callTy call_int1 (by rfl) mi boot_int (pa_cons (pe_cmpR op_eq (pe_ix ix_tup (pv 1) (pv 4) (fun _ _ => rfl)) (pv 2) (nomark _)) pa_nil))))))))
    (pss_one (ps_ret (pe_callB (cr_sortS hu4) (by rfl) mo (by decide +kernel) (pa_cons (pv 3) pa_nil))))), ?_⟩
  have v5 : v < 5 := by omega
  have l16 : 2 ^ v ≤ 16 := (by decide : ∀ v < 5, 2 ^ v ≤ 16) v v5
  refine ⟨Nat.zero_le _, fun L0 nL0 => ?_⟩
  have s0 : Same H (upd H L0 (.lst [])) := same_new nL0
  have e0 : upd H L0 (.lst []) L0 = some (.lst []) := upd_same
  have nL0H : H L0 = none := nL0
  generalize upd H L0 (.lst []) = H0 at s0 e0 ⊢
  refine ⟨.int v, rfl, v, rfl, by omega, fun H1 R rows s1 nR hR hrows => ?_⟩
  have lrow := hrows.len
  rw [rowsN_len] at lrow
  refine ⟨R, rows, rfl, .of hR, ?_⟩
  refine for_it (walk_enum (K := K) (a := R) (xs := rows)) (fun i σ Hx => ∃ L xs y4 y5 y6 y7, σ = [some (.int v), some (.ref lt), some (.int c), some (.ref L), y4, y5, y6, y7] ∧ Same H1 Hx ∧ Hx L = some (.lst xs) ∧ All2 (IsRow Hx) xs (dueU v t c i))
    ⟨L0, [], none, none, none, none, rfl, Same.refl _, s1 _ _ e0, .nil⟩ (fun i σ Hx _ ⟨L, xs, y4, y5, y6, y7, eσ, sx, eL, ax⟩ => .of (sx _ _ hR)) (fun i x σ Hx Hx' hi ⟨L, xs, y4, y5, y6, y7, eσ, sx, eL, ax⟩ hY => ?_) (fun σ Hx ⟨L, xs, y4, y5, y6, y7, eσ, sx, eL, ax⟩ => ?_)
  · subst eσ
    obtain ⟨T, x, y, rfl, nT, rfl, hx, hy⟩ := hY
    cases hx
    have hy : rows[i]? = some y := hy
    obtain ⟨r, hr, b, rfl, hb⟩ := hrows.get hy
    have size := rowsN_size v r (List.mem_of_getElem? hr)
    have er : (rowsN v).getD i [] = r := by rw [List.getD_eq_getElem?_getD, hr]; rfl
    have iv : i < 2 ^ v := by omega
    have sT : Same Hx (upd Hx T (.tup [.int i, .ref b])) := same_new nT
    have eT : upd Hx T (.tup [.int i, .ref b]) T = some (.tup [.int i, .ref b]) := upd_same
    generalize upd Hx T (.tup [.int i, .ref b]) = H2 at sT eT ⊢
    have s12 := sx.trans sT
    refine ⟨T, _, rfl, .of eT, rfl, _, _, rfl, _, _, rfl, rfl, ?_⟩
    refine ⟨.int v, rfl, v, rfl, by omega, by omega, fun D nD => ?_⟩
    refine lc_it (walk_range (lo := 0) (n := v)) (fun j Hw => Same H2 Hw ∧ Hw D = some (.lst (((List.range j).filter fun i => decide (r.getD i 0 = c)).map fun i : Nat => V.int (i : Int))))
      ⟨same_new nD, upd_same⟩ (fun _ _ _ _ => trivial) (fun j z Hw Hw' hj ⟨sw, ew⟩ hY2 => ?_) (fun Hw ⟨sw, ew⟩ => ?_)
    · obtain ⟨rfl, rfl⟩ := hY2
      have hb' := sw _ _ (s12 _ _ hb)
      have ga : (r.map V.int)[j]? = some (.int (r.getD j 0)) := by
        rw [List.getElem?_map, List.getD_eq_getElem?_getD, List.getElem?_eq_getElem (by omega)]
        rfl
      refine ⟨rfl, .ref b, rfl, .int (0 + (j : Int)), rfl, b, _, _, .int (r.getD j 0), rfl, rfl, .of hb', at_of (Int.zero_add _) ga, .int c, rfl, rfl, _, rfl, ?_⟩
      have e0 : decide (V.int (r.getD j 0) = V.int c) = decide (r.getD j 0 = c) := decide_eq_decide.mpr ⟨fun e => V.int.inj e, fun e => congrArg V.int e⟩
      rw [e0]
      by_cases e : r.getD j 0 = c
      · rw [decide_eq_true e]
        refine iteT ⟨.int (0 + (j : Int)), rfl, _, ew, ?_, fun c' o ec => (upd_ne (ne_of_none ec nD)).trans (sw _ _ ec), ?_⟩
        · rw [List.length_map]
          refine small60 (Nat.le_trans (List.length_filter_le _ _) ?_)
          rw [List.length_range]
          omega
        · rw [upd_same, range_next, if_pos (decide_eq_true e), List.map_append, Int.zero_add]
          rfl
      · rw [decide_eq_false e]
        refine iteF ⟨sw, ?_⟩
        rw [ew, range_next, if_neg (by rw [decide_eq_false e]; decide)]
    · refine ⟨D, _, rfl, .inl ⟨.of ew, fun U nU => ?_⟩⟩
      have sU : Same Hw (upd Hw U (.tup (((List.range v).filter fun i => decide (r.getD i 0 = c)).map fun i : Nat => V.int (i : Int)))) := same_new nU
      have eU : upd Hw U (.tup (((List.range v).filter fun i => decide (r.getD i 0 = c)).map fun i : Nat => V.int (i : Int))) U = _ := upd_same
      generalize upd Hw U (.tup (((List.range v).filter fun i => decide (r.getD i 0 = c)).map fun i : Nat => V.int (i : Int))) = H3 at sU eU ⊢
      have s13 := s12.trans (sw.trans sU)
      have s13x := sT.trans (sw.trans sU)
      refine ⟨.ref L, rfl, .ref U, rfl, (by show 1 ≤ sizeLine; decide), fun M nM => ?_⟩
      have sM : Same H3 (upd H3 M (.lst [.ref U])) := same_new nM
      have eM : upd H3 M (.lst [.ref U]) M = some (.lst [.ref U]) := upd_same
      generalize upd H3 M (.lst [.ref U]) = H4 at sM eM ⊢
      have hlt4 := sM _ _ (s13 _ _ (s1 _ _ (s0 _ _ hlt)))
      have ga : (t.map V.int)[i]? = some (.int (t.getD i 0)) := by
        rw [List.getElem?_map, List.getD_eq_getElem?_getD, List.getElem?_eq_getElem (by rw [g.len]; exact iv)]
        rfl
      refine ⟨.ref lt, rfl, .int i, rfl, lt, _, _, .int (t.getD i 0), rfl, rfl, .of hlt4, atI_nat ga, .int c, rfl, rfl, .inr ⟨_, rfl, ?_⟩⟩
      have e0 : decide (V.int (t.getD i 0) = V.int c) = decide (t.getD i 0 = c) := decide_eq_decide.mpr ⟨fun e => V.int.inj e, fun e => congrArg V.int e⟩
      rw [e0]
      have eL4 := sM _ _ (s13x _ _ eL)
      have ax4 := all_tk (Tk.same (s13x.trans sM)) ax
      have lax := ax.len
      have ldu : (dueU v t c i).length ≤ i := by
        unfold dueU
        rw [List.length_map]
        refine Nat.le_trans (List.length_filter_le _ _) ?_
        rw [List.length_range]
        exact Nat.le_refl _
      have rowU : IsRow H4 (.ref U) (setcN v c r) := ⟨U, rfl, by
        rw [sM _ _ eU]
        unfold setcN
        rw [List.map_map]
        rfl⟩
      by_cases e : t.getD i 0 = c
      · rw [decide_eq_true e]
        refine ⟨M, 1, [.ref U], rfl, rfl, eM, by decide, by decide, (by show 1 ≤ sizeLine; decide), fun N nN => ?_⟩
        have sN : Same H4 (upd H4 N (.lst (List.replicate (1 : Int).toNat [V.ref U]).flatten)) := same_new nN
        have eN : upd H4 N (.lst (List.replicate (1 : Int).toNat [V.ref U]).flatten) N = some (.lst [.ref U]) := upd_same
        generalize upd H4 N (.lst (List.replicate (1 : Int).toNat [V.ref U]).flatten) = H5 at sN eN ⊢
        refine ⟨L, N, xs, [.ref U], rfl, rfl, sN _ _ eL4, eN, Nat.le_of_lt (small60 (n := xs.length + 1) (by omega)), fun p np => ?_⟩
        have sp : Same H5 (upd H5 p (.lst (xs ++ [.ref U]))) := same_new np
        refine ⟨p, xs ++ [.ref U], _, _, _, _, rfl, sx.trans (s13x.trans (sM.trans (sN.trans sp))), upd_same, ?_⟩
        rw [due_next, if_pos e, er]
        exact (all_tk (Tk.same (sN.trans sp)) ax4).app (.cons (rowU.tk (Tk.same (sN.trans sp))) .nil)
      · rw [decide_eq_false e]
        refine ⟨M, 0, [.ref U], rfl, rfl, eM, by decide, by decide, Nat.zero_le _, fun N nN => ?_⟩
        have sN : Same H4 (upd H4 N (.lst (List.replicate (0 : Int).toNat [V.ref U]).flatten)) := same_new nN
        have eN : upd H4 N (.lst (List.replicate (0 : Int).toNat [V.ref U]).flatten) N = some (.lst []) := upd_same
        generalize upd H4 N (.lst (List.replicate (0 : Int).toNat [V.ref U]).flatten) = H5 at sN eN ⊢
        refine ⟨L, N, xs, [], rfl, rfl, sN _ _ eL4, eN, Nat.le_of_lt (small60 (n := xs.length + 0) (by omega)), fun p np => ?_⟩
        have sp : Same H5 (upd H5 p (.lst (xs ++ []))) := same_new np
        refine ⟨p, xs ++ [], _, _, _, _, rfl, sx.trans (s13x.trans (sM.trans (sN.trans sp))), upd_same, ?_⟩
        rw [due_next, if_neg e]
        exact (all_tk (Tk.same (sN.trans sp)) ax4).app .nil
  · subst eσ
    rw [lrow] at ax
    have lax := ax.len
    have pm := due_perm (t := t) h4 hc
    have l2 : (dueU v t c (2 ^ v)).length ≤ 2 ^ v := by
      unfold dueU
      rw [List.length_map]
      refine Nat.le_trans (List.length_filter_le _ _) ?_
      rw [List.length_range]
      exact Nat.le_refl _
    refine ⟨.ref L, rfl, L, xs, _, 5, 4, rfl, .of eL, by omega, allT_of ax, by decide, fun ns m => ?_, .inl (due_ne h1 h4 g hc), fun zs mss u ht' p2 asc nu => ?_⟩
    · obtain ⟨k, _, rfl⟩ := List.mem_map.mp m
      obtain ⟨a1, a2⟩ := setc_fit v c ((rowsN v).getD k [])
      exact ⟨by omega, fun n hn => by have := a2 n hn; omega⟩
    · have e : mss = winnersN v t c := asc_unique (p2.trans pm) asc (winners_asc v v5 t c)
      subst e
      have su : Same Hx (upd Hx u (.lst zs)) := same_new nu
      have nuH : H u = none := by
        cases ez : H u with
        | none => rfl
        | some o => rw [sx _ _ (s1 _ _ (s0 _ _ ez))] at nu; cases nu
      exact q _ u zs (s0.trans (s1.trans (sx.trans su))) nuH upd_same (all_tk (Tk.same su) (all_ofT ht'))
end
end Ow

set_option Elab.async false
set_option linter.all false
set_option maxRecDepth 100000
set_option maxHeartbeats 4000000
namespace Ow
open PySem PySem.Spec PyProof.Rows
open Sem (wp)
/-! ### zip of any number of tuples of one length -/
/-- a source of a zip: its iterator, the tuple, its items -/
structure ZSrc where
  it : Addr
  l : Addr
  xs : Array Value
abbrev IsTupOf (h : Heap) (T : Addr) (xs : List Value) : Prop := h.get? T = some { cls := .type "tuple", data := .seq xs.toArray }
abbrev itsOf (ps : List ZSrc) : List Value := ps.map fun p => Value.ref p.it
/-- the i-th items -/
abbrev colOf (ps : List ZSrc) (i : Nat) : List Value := ps.map fun p => p.xs.getD i .none
/-- the places lie apart, all below S -/
structure ZA (z TI TO : Addr) (ps : List ZSrc) (S : Addr) : Prop where
  nd : (ps.map (·.it)).Nodup
  TIz : TI ≠ z
  TOz : TO ≠ z
  TITO : TI ≠ TO
  zi : ∀ p ∈ ps, z ≠ p.it ∧ TI ≠ p.it ∧ TO ≠ p.it
  zl : ∀ p ∈ ps, z ≠ p.l ∧ TO ≠ p.l
  il : ∀ p ∈ ps, ∀ q ∈ ps, p.it ≠ q.l
  bz : z < S
  bI : TI < S
  bO : TO < S
  bi : ∀ p ∈ ps, p.it < S
  bl : ∀ p ∈ ps, p.l < S
/-- each iterator stands ahead of turn i -/
def AtI (h : Heap) (i : Nat) (ps : List ZSrc) : Prop := ∀ p ∈ ps, h.IsTupleIter p.it p.l i ∧ h.IsTuple p.l p.xs
def NotIt (ps : List ZSrc) (c : Addr) : Prop := ∀ p ∈ ps, c ≠ p.it
theorem AtI.mono {h h' : Heap} {i : Nat} {ps : List ZSrc} (x : AtI h i ps) (k : ∀ p ∈ ps, ∀ o, (h.get? p.it = some o → h'.get? p.it = some o) ∧ (h.get? p.l = some o → h'.get? p.l = some o)) : AtI h' i ps := fun p hp => by
  obtain ⟨⟨o, e, r⟩, o2, e2, r2⟩ := x p hp
  exact ⟨⟨o, (k p hp o).1 e, r⟩, o2, (k p hp o2).2 e2, r2⟩
section
variable {prog : Program} {w : World} {A : Around} {E : Value → Shared → Prop} {s : Shared} {z TI TO T S : Addr} {ps : List ZSrc} {i N : Nat} {oT : Obj}
theorem src_draws (hh : A.handled = none) (p : ZSrc) (hne : p.l ≠ p.it) : Draws prog w A p.it [p.it, p.l] p.xs.size (fun i v => p.xs[i]? = some v) (fun i h => h.IsTupleIter p.it p.l i ∧ h.IsTuple p.l p.xs) := Draws.tuple hh p.it p.l hne p.xs
theorem updateSeq_tup {T : Addr} {x : Value} {k : Nat} {ys : List Value} {Q : Unit → Shared → Prop} (hT : IsTupOf s.heap T ys) (hl : ys.length ≤ sizeLine)
    (h : ∀ h', IsTupOf h' T (ys.set k x) → Heap.SameBut T s.heap h' → Q () { s with heap := h' }) :
    wpAny (model prog w) A (updateSeq T (·.setIfInBounds k x)) Q E s := by
  refine wpAny_updateSeq hT rfl (h _ ?_ (Heap.SameBut.update ..)) (by rw [List.size_toArray]; exact hl) (by rw [Array.size_setIfInBounds, List.size_toArray]; exact Nat.le_succ_of_le hl)
  unfold IsTupOf
  rw [Heap.get?_update_self _ hT rfl]
  simp [Obj.mapSeq]
/-- the first next: the tuple of its own is filled, a copy is handed out -/
theorem zn_first {Q : Value → Shared → Prop} (hh : A.handled = none) (S0 : ZA z TI TO ps S) (hlen : ps.length ≤ sizeLine) (hz : IsZip s.heap z TI TO .none) (hTI : IsTupOf s.heap TI (itsOf ps)) {ys0 : List Value} (hTO : IsTupOf s.heap TO ys0) (hy0 : ys0.length = ps.length)
    (st : AtI s.heap i ps) (hne : ps ≠ []) (hN : ∀ p ∈ ps, p.xs.size = N) (hlt : i < N)
    (hQ : ∀ h' tk, IsZip h' z TI TO (rawInt s.heap.objs.size) → AtI h' (i + 1) ps → IsTupOf h' s.heap.objs.size (colOf ps i) → h'.objs.size = s.heap.objs.size + 1 →
      (∀ c o, c ≠ z → c ≠ TO → NotIt ps c → s.heap.get? c = some o → h'.get? c = some o) → Q (.ref s.heap.objs.size) { s with heap := h', toks := tk }) :
    wpAny (model prog w) A (Builtin.«zip.__next__» ⟨[.ref z], []⟩) (fun fin s' => ∃ v, fin = .done (.ret v) ∧ Q v s') E s := by
  obtain ⟨hp, g, d, tk0, os⟩ := s
  show wpAny _ _ (field (.ref z) 2 >>= _) _ _ _
  refine wpAny_bind (wpAny_field hz rfl (x := .bool false) rfl ?_)
  show wpAny _ _ (field (.ref z) 3 >>= _) _ _ _
  refine wpAny_bind (wpAny_field hz rfl (x := .ref TI) rfl ?_)
  refine wpAny_bind (wpAny_seqItems hTI rfl ?_)
  have ne : ((itsOf ps).toArray).isEmpty = false := by
    cases ps with
    | nil => exact absurd rfl hne
    | cons p ps => rfl
  dsimp only
  rw [ne]
  simp only [Bool.false_eq_true, if_false]
  show wpAny _ _ (Builtin.SmallTypes.ownedTupleIsFree (.ref z) >>= _) _ _ _
  refine wpAny_bind ?_
  unfold Builtin.SmallTypes.ownedTupleIsFree
  refine wpAny_bind (wpAny_field hz rfl (x := .none) rfl (wpAny_pure ?_))
  simp only [if_true]
  refine wpAny_bind (wpAny_rule ?_)
  refine wpAny_bind (wpAny_field hz rfl (x := .ref TO) rfl ?_)
  refine wpAny_bind (wpAny_setField_rec hz (by simp) fun g0 hz0 hs0 => ?_)
  replace hz0 : IsZip g0 z TI TO .ellipsis := hz0
  replace hs0 : Heap.SameBut z hp g0 := hs0
  refine wpAny_bind ?_
  refine wpAny_forIn_list _ (fun rest b s' => b.1 = none ∧ ∃ dn rs ys g' tk', s' = ⟨g', g, d, tk', os⟩ ∧ ps = dn ++ rs ∧ rest = (itsOf rs).zipIdx dn.length ∧ AtI g' (i + 1) dn ∧ AtI g' i rs ∧ IsTupOf g' TO ys ∧ ys.length = ps.length ∧
    ys.take dn.length = colOf dn i ∧ IsZip g' z TI TO .ellipsis ∧ g'.objs.size = hp.objs.size ∧ ∀ c o, c ≠ z → c ≠ TO → NotIt ps c → hp.get? c = some o → g'.get? c = some o) _ ?turn ?fin _ _ ?start
  case start =>
    refine ⟨rfl, [], ps, ys0, g0, tk0, rfl, rfl, by simp, (fun _ h => nomatch h), ?_, hs0.extBut _ _ S0.TOz hTO, hy0, by simp, hz0, hs0.1, fun c o cz _ _ e => hs0.extBut _ _ cz e⟩
    exact st.mono fun p hp' o => ⟨fun e => hs0.extBut _ _ (S0.zi p hp').1.symm e, fun e => hs0.extBut _ _ (S0.zl p hp').1.symm e⟩
  case turn =>
    rintro ⟨iv, k⟩ rest b s' ⟨hb, dn, rs, ys, g', tk', rfl, eps, er, sd, sr, hT, hyl, hyt, hz', hsz, hk⟩
    cases rs with
    | nil => simp at er
    | cons p rs =>
      have hmem : p ∈ ps := by rw [eps]; exact List.mem_append_right _ List.mem_cons_self
      have hmd : ∀ q ∈ dn, q ∈ ps := fun q h => by rw [eps]; exact List.mem_append_left _ h
      have hmr : ∀ q ∈ rs, q ∈ ps := fun q h => by rw [eps]; exact List.mem_append_right _ (List.mem_cons_of_mem _ h)
      have nd := S0.nd
      rw [eps, List.map_append, List.map_cons] at nd
      have ndd : ∀ q ∈ dn, p.it ≠ q.it := fun q h e => (List.nodup_append.mp nd).2.2 q.it (List.mem_map.mpr ⟨q, h, rfl⟩) p.it List.mem_cons_self e.symm
      have ndr : ∀ q ∈ rs, p.it ≠ q.it := fun q h e => (List.nodup_cons.mp (List.nodup_append.mp nd).2.1).1 (List.mem_map.mpr ⟨q, h, e.symm⟩)
      rw [itsOf, List.map_cons, List.zipIdx_cons] at er
      injection er with e1 e2
      injection e1 with e3 e4
      subst e3 e4
      have D := src_draws (prog := prog) (w := w) (A := A) hh p (fun e => S0.il p hmem p hmem e.symm)
      refine wpAny_bind (wpAny_onRaise ?_)
      show wpAny _ _ (Builtin.SmallTypes.nextOf (.ref p.it) >>= _) _ _ ⟨g', g, d, tk', os⟩
      refine wpAny_bind (D.item i _ _ _ (by rw [hN p hmem]; exact hlt) (sr p List.mem_cons_self) fun x g1 tk1 hx sn hs1 => wpAny_pure ?_)
      replace hs1 : Heap.SameBut p.it g' g1 := hs1
      have hU : IsTupOf g1 TO ys := hs1.extBut _ _ (S0.zi p hmem).2.2 hT
      refine wpAny_bind (wpAny_seqItems (s := ⟨g1, g, d, tk1, os⟩) hU rfl ?_)
      refine wpAny_bind (updateSeq_tup (s := ⟨g1, g, d, tk1, os⟩) hU (by rw [hyl]; exact hlen) fun g2 hT2 hs2 => ?_)
      replace hs2 : Heap.SameBut TO g1 g2 := hs2
      refine wpAny_bind (wpAny_letGo (wpAny_pure ?_))
      have hl1 : dn.length < ys.length := by rw [hyl, eps, List.length_append, List.length_cons]; omega
      have hg : p.xs.getD i Value.none = x := by rw [Array.getD_eq_getD_getElem?, hx]; rfl
      refine ⟨rfl, dn ++ [p], rs, ys.set dn.length x, g2, tk1, rfl, by rw [eps, List.append_assoc]; rfl, by rw [e2, List.length_append]; rfl, ?_, ?_, hT2, by rw [List.length_set]; exact hyl, ?_, ?_, ?_, ?_⟩
      · intro q hq
        rcases List.mem_append.mp hq with hq | hq
        · exact (sd.mono (h' := g2) fun q hq o => ⟨fun e => hs2.extBut _ _ (S0.zi q (hmd q hq)).2.2.symm (hs1.extBut _ _ (ndd q hq).symm e), fun e => hs2.extBut _ _ (S0.zl q (hmd q hq)).2.symm (hs1.extBut _ _ (S0.il p hmem q (hmd q hq)).symm e)⟩) q hq
        · rw [List.mem_singleton.mp hq]
          exact D.over sn hs2 (by simp only [List.mem_cons, List.mem_nil_iff, or_false, not_or]; exact ⟨(S0.zi p hmem).2.2, (S0.zl p hmem).2⟩)
      · exact AtI.mono (h := g') (fun q hq => sr q (List.mem_cons_of_mem _ hq)) fun q hq o => ⟨fun e => hs2.extBut _ _ (S0.zi q (hmr q hq)).2.2.symm (hs1.extBut _ _ (ndr q hq).symm e), fun e => hs2.extBut _ _ (S0.zl q (hmr q hq)).2.symm (hs1.extBut _ _ (S0.il p hmem q (hmr q hq)).symm e)⟩
      · rw [List.length_append, List.length_singleton, colOf, List.map_append, List.map_cons, List.map_nil, hg]
        have : (ys.set dn.length x).take (dn.length + 1) = ys.take dn.length ++ [x] := by
          rw [List.take_add_one, List.take_set_of_le (Nat.le_refl _), List.getElem?_set_self hl1]
          rfl
        rw [this, hyt]
      · exact hs2.extBut _ _ S0.TOz.symm (hs1.extBut _ _ (S0.zi p hmem).1 hz')
      · rw [hs2.1, hs1.1, hsz]
      · exact fun c o cz cT ci e => hs2.extBut _ _ cT (hs1.extBut _ _ (ci p hmem) (hk c o cz cT ci e))
  case fin =>
    rintro b s' ⟨hb, dn, rs, ys, g2, tk2, rfl, eps, er, sd, sr, hT2, hyl, hyt, hzz, hsz, hkk⟩
    have ers : rs = [] := by
      cases rs with
      | nil => rfl
      | cons p rs => simp at er
    subst ers
    rw [List.append_nil] at eps
    subst eps
    rw [← hyl, List.take_length] at hyt
    subst hyt
    obtain ⟨b1, b2⟩ := b
    have hb' : b1 = none := hb
    subst hb'
    dsimp only
    refine wpAny_bind (wpAny_seqItems (s := ⟨g2, g, d, tk2, os⟩) hT2 rfl ?_)
    refine wpAny_bind (wpAny_newTuple ?_)
    have hzlt : z < g2.objs.size := Heap.lt_size hzz
    have el : (colOf ps i).toArray.toList = colOf ps i := rfl
    rw [el]
    show wpAny _ _ (Builtin.SmallTypes.ownedTupleHandOut (.ref z) (.ref g2.objs.size) >>= _) _ _ ⟨g2.push { cls := .type "tuple", data := .seq (colOf ps i).toArray }, g, d, tk2, os⟩
    refine wpAny_bind ?_
    unfold Builtin.SmallTypes.ownedTupleHandOut
    have hz₆ : IsZip (g2.push { cls := .type "tuple", data := .seq (colOf ps i).toArray }) z TI TO .ellipsis := Heap.get?_push_of_some _ hzz
    refine wpAny_bind (wpAny_setField_rec hz₆ (by simp) fun h₇ hz₇ hs₇ => ?_)
    replace hz₇ : IsZip h₇ z TI TO (rawInt g2.objs.size) := hz₇
    refine wpAny_setField_rec hz₇ (by simp) fun h₈ hz₈ hs₈ => ?_
    replace hz₈ : IsZip h₈ z TI TO (rawInt g2.objs.size) := hz₈
    replace hs₇ : Heap.SameBut z (g2.push { cls := .type "tuple", data := .seq (colOf ps i).toArray }) h₇ := hs₇
    replace hs₈ : Heap.SameBut z h₇ h₈ := hs₈
    have up : ∀ c o, c ≠ z → g2.get? c = some o → h₈.get? c = some o := fun c o c1 e => hs₈.extBut _ _ c1 (hs₇.extBut _ _ c1 (Heap.get?_push_of_some _ e))
    have hT₈ : IsTupOf h₈ g2.objs.size (colOf ps i) := hs₈.extBut _ _ (Nat.ne_of_gt hzlt) (hs₇.extBut _ _ (Nat.ne_of_gt hzlt) (Heap.get?_push_size _ rfl))
    have hz8 : h₈.objs.size = g2.objs.size + 1 := by rw [hs₈.1, hs₇.1, Heap.size_push]
    rw [hsz] at hz₈ hT₈ hz8
    refine wpAny_pure ⟨_, rfl, ?_⟩
    show Q (.ref g2.objs.size) ⟨h₈, g, d, tk2, os⟩
    rw [hsz]
    exact hQ h₈ tk2 hz₈ (sd.mono fun p hp' o => ⟨fun e => up _ _ (S0.zi p hp').1.symm e, fun e => up _ _ (S0.zl p hp').1.symm e⟩) hT₈ hz8 fun c o cz cT ci e => up c o cz (hkk c o cz cT ci e)
end
end Ow

set_option Elab.async false
set_option linter.all false
set_option maxRecDepth 100000
set_option maxHeartbeats 4000000
namespace Ow
open PySem PySem.Spec PyProof.Rows
open Sem (wp)
section
variable {prog : Program} {w : World} {A : Around} {E : Value → Shared → Prop} {s : Shared} {z TI TO T S : Addr} {ps : List ZSrc} {i N : Nat} {oT : Obj}
/-- a later next: the tuple that was handed out is still held -/
theorem zn_more {Q : Value → Shared → Prop} (hh : A.handled = none) (S0 : ZA z TI TO ps S) (hlen : ps.length ≤ sizeLine) (hz : ZipO s.heap z TI TO T) (hT : s.heap.get? T = some oT) (hTI : IsTupOf s.heap TI (itsOf ps))
    (st : AtI s.heap i ps) (hne : ps ≠ []) (hN : ∀ p ∈ ps, p.xs.size = N) (hlt : i < N)
    (hQ : ∀ h' tk, ZipO h' z TI TO T → AtI h' (i + 1) ps → IsTupOf h' s.heap.objs.size (colOf ps i) → h'.objs.size = s.heap.objs.size + 1 →
      (∀ c o, c ≠ z → NotIt ps c → s.heap.get? c = some o → h'.get? c = some o) → Q (.ref s.heap.objs.size) { s with heap := h', toks := tk }) :
    wpAny (model prog w) A (Builtin.«zip.__next__» ⟨[.ref z], []⟩) (fun fin s' => ∃ v, fin = .done (.ret v) ∧ Q v s') E s := by
  obtain ⟨hp, g, d, tk0, os⟩ := s
  obtain ⟨fl, hz0⟩ := id hz
  show wpAny _ _ (field (.ref z) 2 >>= _) _ _ _
  refine wpAny_bind (wpAny_field hz0 rfl (x := .bool false) rfl ?_)
  show wpAny _ _ (field (.ref z) 3 >>= _) _ _ _
  refine wpAny_bind (wpAny_field hz0 rfl (x := .ref TI) rfl ?_)
  refine wpAny_bind (wpAny_seqItems hTI rfl ?_)
  have ne : ((itsOf ps).toArray).isEmpty = false := by
    cases ps with
    | nil => exact absurd rfl hne
    | cons p ps => rfl
  dsimp only
  rw [ne]
  simp only [Bool.false_eq_true, if_false]
  show wpAny _ _ (Builtin.SmallTypes.ownedTupleIsFree (.ref z) >>= _) _ _ _
  refine wpAny_bind (zipO_free hz hT fun g0 hz1 hs0 => ?_)
  simp only [Bool.false_eq_true, if_false]
  have hs0' : Heap.SameBut z hp g0 := hs0
  rw [← Array.forIn_toList]
  refine wpAny_bind ?_
  refine wpAny_forIn_list _ (fun rest b s' => b.1 = none ∧ ∃ dn rs g' tk', s' = ⟨g', g, d, tk', os⟩ ∧ ps = dn ++ rs ∧ rest = itsOf rs ∧ AtI g' (i + 1) dn ∧ AtI g' i rs ∧ b.2.toList = colOf dn i ∧
    ZipO g' z TI TO T ∧ g'.objs.size = hp.objs.size ∧ ∀ c o, c ≠ z → NotIt ps c → hp.get? c = some o → g'.get? c = some o) _ ?turn ?fin _ _ ?start
  case start =>
    refine ⟨rfl, [], ps, g0, tk0, rfl, rfl, rfl, (fun _ h => nomatch h), ?_, rfl, hz1, hs0.1, fun c o cz _ e => hs0.extBut _ _ cz e⟩
    exact st.mono fun p hp' o => ⟨fun e => hs0.extBut _ _ (S0.zi p hp').1.symm e, fun e => hs0.extBut _ _ (S0.zl p hp').1.symm e⟩
  case turn =>
    rintro iv rest b s' ⟨hb, dn, rs, g', tk', rfl, eps, er, sd, sr, hbl, hz', hsz, hk⟩
    cases rs with
    | nil => simp at er
    | cons p rs =>
      have hmem : p ∈ ps := by rw [eps]; exact List.mem_append_right _ List.mem_cons_self
      have hmd : ∀ q ∈ dn, q ∈ ps := fun q h => by rw [eps]; exact List.mem_append_left _ h
      have hmr : ∀ q ∈ rs, q ∈ ps := fun q h => by rw [eps]; exact List.mem_append_right _ (List.mem_cons_of_mem _ h)
      have nd := S0.nd
      rw [eps, List.map_append, List.map_cons] at nd
      have ndd : ∀ q ∈ dn, p.it ≠ q.it := fun q h e => (List.nodup_append.mp nd).2.2 q.it (List.mem_map.mpr ⟨q, h, rfl⟩) p.it List.mem_cons_self e.symm
      have ndr : ∀ q ∈ rs, p.it ≠ q.it := fun q h e => (List.nodup_cons.mp (List.nodup_append.mp nd).2.1).1 (List.mem_map.mpr ⟨q, h, e.symm⟩)
      rw [itsOf, List.map_cons] at er
      injection er with e3 e2
      subst e3
      have D := src_draws (prog := prog) (w := w) (A := A) hh p (fun e => S0.il p hmem p hmem e.symm)
      refine wpAny_bind (wpAny_holding ?_)
      show wpAny _ _ (Builtin.SmallTypes.nextOf (.ref p.it) >>= _) _ _ ⟨g', g, d, tk', os⟩
      refine wpAny_bind (D.item i _ _ _ (by rw [hN p hmem]; exact hlt) (sr p List.mem_cons_self) fun x g1 tk1 hx sn hs1 => wpAny_pure ?_)
      replace hs1 : Heap.SameBut p.it g' g1 := hs1
      refine wpAny_pure ?_
      have hg : p.xs.getD i Value.none = x := by rw [Array.getD_eq_getD_getElem?, hx]; rfl
      refine ⟨rfl, dn ++ [p], rs, g1, tk1, rfl, by rw [eps, List.append_assoc]; rfl, e2, ?_, ?_, ?_, ?_, ?_, ?_⟩
      · intro q hq
        rcases List.mem_append.mp hq with hq | hq
        · exact (sd.mono (h' := g1) fun q hq o => ⟨fun e => hs1.extBut _ _ (ndd q hq).symm e, fun e => hs1.extBut _ _ (S0.il p hmem q (hmd q hq)).symm e⟩) q hq
        · rw [List.mem_singleton.mp hq]
          exact sn
      · exact AtI.mono (h := g') (fun q hq => sr q (List.mem_cons_of_mem _ hq)) fun q hq o => ⟨fun e => hs1.extBut _ _ (ndr q hq).symm e, fun e => hs1.extBut _ _ (S0.il p hmem q (hmr q hq)).symm e⟩
      · show (b.2.push x).toList = _
        rw [Array.toList_push, hbl, colOf, colOf, List.map_append, List.map_cons, List.map_nil, hg]
      · obtain ⟨f2, hz2⟩ := hz'
        exact ⟨f2, hs1.extBut _ _ (S0.zi p hmem).1 hz2⟩
      · rw [hs1.1, hsz]
      · exact fun c o cz ci e => hs1.extBut _ _ (ci p hmem) (hk c o cz ci e)
  case fin =>
    rintro b s' ⟨hb, dn, rs, g2, tk2, rfl, eps, er, sd, sr, hbl, hzz, hsz, hkk⟩
    have ers : rs = [] := by
      cases rs with
      | nil => rfl
      | cons p rs => simp at er
    subst ers
    rw [List.append_nil] at eps
    subst eps
    obtain ⟨b1, b2⟩ := b
    have hb' : b1 = none := hb
    subst hb'
    dsimp only
    show wpAny _ _ (newTuple b2.toList >>= _) _ _ ⟨g2, g, d, tk2, os⟩
    rw [show b2.toList = colOf ps i from hbl]
    refine wpAny_bind (wpAny_newTuple ?_ (by rw [colOf, List.length_map]; exact hlen))
    refine wpAny_pure ⟨_, rfl, ?_⟩
    have up : ∀ c o, g2.get? c = some o → (g2.push { cls := .type "tuple", data := .seq (colOf ps i).toArray }).get? c = some o := fun c o e => Heap.get?_push_of_some _ e
    obtain ⟨f2, hz2⟩ := hzz
    have hT8 : IsTupOf (g2.push { cls := .type "tuple", data := .seq (colOf ps i).toArray }) g2.objs.size (colOf ps i) := Heap.get?_push_size _ rfl
    have hz8 : (g2.push { cls := .type "tuple", data := .seq (colOf ps i).toArray }).objs.size = g2.objs.size + 1 := Heap.size_push ..
    rw [hsz] at hT8 hz8
    show Q (.ref g2.objs.size) _
    rw [hsz]
    exact hQ _ tk2 ⟨f2, up _ _ hz2⟩ (sd.mono fun p hp' o => ⟨up _ _, up _ _⟩) hT8 hz8 fun c o cz ci e => up c o (hkk c o cz ci e)
/-- no turn is left -/
theorem zn_endF {Q : Fin → Shared → Prop} (hh : A.handled = none) (S0 : ZA z TI TO ps S) (hz : IsZip s.heap z TI TO .none) (hTI : IsTupOf s.heap TI (itsOf ps)) (st : AtI s.heap N ps) (hne : ps ≠ []) (hN : ∀ p ∈ ps, p.xs.size = N)
    (hE : ∀ h' tk e, (∀ c o, c ≠ z → NotIt ps c → s.heap.get? c = some o → h'.get? c = some o) → (∃ o, h'.get? e = some o ∧ o.cls = .type "StopIteration") → E (.ref e) { s with heap := h', toks := tk }) :
    wpAny (model prog w) A (Builtin.«zip.__next__» ⟨[.ref z], []⟩) Q E s := by
  obtain ⟨hp, g, d, tk0, os⟩ := s
  show wpAny _ _ (field (.ref z) 2 >>= _) _ _ _
  refine wpAny_bind (wpAny_field hz rfl (x := .bool false) rfl ?_)
  show wpAny _ _ (field (.ref z) 3 >>= _) _ _ _
  refine wpAny_bind (wpAny_field hz rfl (x := .ref TI) rfl ?_)
  refine wpAny_bind (wpAny_seqItems hTI rfl ?_)
  cases ps with
  | nil => exact absurd rfl hne
  | cons p ps =>
    dsimp only
    rw [show ((itsOf (p :: ps)).toArray).isEmpty = false from rfl]
    simp only [Bool.false_eq_true, if_false]
    show wpAny _ _ (Builtin.SmallTypes.ownedTupleIsFree (.ref z) >>= _) _ _ _
    refine wpAny_bind ?_
    unfold Builtin.SmallTypes.ownedTupleIsFree
    refine wpAny_bind (wpAny_field hz rfl (x := .none) rfl (wpAny_pure ?_))
    simp only [if_true]
    refine wpAny_bind (wpAny_rule ?_)
    refine wpAny_bind (wpAny_field hz rfl (x := .ref TO) rfl ?_)
    refine wpAny_bind (wpAny_setField_rec hz (by simp) fun g0 hz0 hs0 => ?_)
    replace hz0 : IsZip g0 z TI TO .ellipsis := hz0
    replace hs0 : Heap.SameBut z hp g0 := hs0
    refine wpAny_bind ?_
    have hmem : p ∈ p :: ps := List.mem_cons_self
    have D := src_draws (prog := prog) (w := w) (A := A) hh p (fun e => S0.il p hmem p hmem e.symm)
    simp only [itsOf, List.map_cons, List.zipIdx_cons, List.forIn_cons]
    refine wpAny_bind (wpAny_bind (wpAny_onRaise ?_))
    show wpAny _ _ (Builtin.SmallTypes.nextOf (.ref p.it) >>= _) _ _ ⟨g0, g, d, tk0, os⟩
    have st1 := (st.mono (h' := g0) fun p hp' o => ⟨fun e => hs0.extBut _ _ (S0.zi p hp').1.symm e, fun e => hs0.extBut _ _ (S0.zl p hp').1.symm e⟩) p hmem
    refine wpAny_bind (D.done ⟨g0, g, d, tk0, os⟩ _ _ (by rw [hN p hmem]; exact st1) fun q e hq he => ?_)
    replace hq : Heap.ExtBut p.it g0 q := hq
    obtain ⟨oe, hoe, hce⟩ := he
    replace hoe : q.get? e = some oe := hoe
    have hzq : IsZip q z TI TO .ellipsis := hq _ _ (S0.zi p hmem).1 hz0
    have hez : e ≠ z := fun x => by subst x; rw [hzq] at hoe; cases hoe; simp at hce
    refine wpAny_setField_rec (s := ⟨q, g, d, tk0, os⟩) hzq (by simp) fun q' _ hq' => ?_
    replace hq' : Heap.SameBut z q q' := hq'
    exact hE q' tk0 e (fun c o cz ci x => hq'.extBut _ _ cz (hq _ _ (ci p hmem) (hs0.extBut _ _ cz x))) ⟨oe, hq'.extBut _ _ hez hoe, hce⟩
theorem zn_endM {Q : Fin → Shared → Prop} (hh : A.handled = none) (S0 : ZA z TI TO ps S) (hz : ZipO s.heap z TI TO T) (hT : s.heap.get? T = some oT) (hTI : IsTupOf s.heap TI (itsOf ps)) (st : AtI s.heap N ps) (hne : ps ≠ []) (hN : ∀ p ∈ ps, p.xs.size = N)
    (hE : ∀ h' tk e, (∀ c o, c ≠ z → NotIt ps c → s.heap.get? c = some o → h'.get? c = some o) → (∃ o, h'.get? e = some o ∧ o.cls = .type "StopIteration") → E (.ref e) { s with heap := h', toks := tk }) :
    wpAny (model prog w) A (Builtin.«zip.__next__» ⟨[.ref z], []⟩) Q E s := by
  obtain ⟨hp, g, d, tk0, os⟩ := s
  obtain ⟨fl, hz0⟩ := id hz
  show wpAny _ _ (field (.ref z) 2 >>= _) _ _ _
  refine wpAny_bind (wpAny_field hz0 rfl (x := .bool false) rfl ?_)
  show wpAny _ _ (field (.ref z) 3 >>= _) _ _ _
  refine wpAny_bind (wpAny_field hz0 rfl (x := .ref TI) rfl ?_)
  refine wpAny_bind (wpAny_seqItems hTI rfl ?_)
  cases ps with
  | nil => exact absurd rfl hne
  | cons p ps =>
    dsimp only
    rw [show ((itsOf (p :: ps)).toArray).isEmpty = false from rfl]
    simp only [Bool.false_eq_true, if_false]
    show wpAny _ _ (Builtin.SmallTypes.ownedTupleIsFree (.ref z) >>= _) _ _ _
    refine wpAny_bind (zipO_free hz hT fun g0 hz1 hs0 => ?_)
    simp only [Bool.false_eq_true, if_false]
    have hs0' : Heap.SameBut z hp g0 := hs0
    rw [← Array.forIn_toList]
    have hmem : p ∈ p :: ps := List.mem_cons_self
    have D := src_draws (prog := prog) (w := w) (A := A) hh p (fun e => S0.il p hmem p hmem e.symm)
    simp only [itsOf, List.map_cons, List.forIn_cons]
    refine wpAny_bind (wpAny_bind (wpAny_bind (wpAny_holding ?_)))
    show wpAny _ _ (Builtin.SmallTypes.nextOf (.ref p.it) >>= _) _ _ ⟨g0, g, d, tk0, os⟩
    have st1 := (st.mono (h' := g0) fun p hp' o => ⟨fun e => hs0'.extBut _ _ (S0.zi p hp').1.symm e, fun e => hs0'.extBut _ _ (S0.zl p hp').1.symm e⟩) p hmem
    refine wpAny_bind (D.done ⟨g0, g, d, tk0, os⟩ _ _ (by rw [hN p hmem]; exact st1) fun q e hq he => ?_)
    exact hE q tk0 e (fun c o cz ci x => hq _ _ (ci p hmem) (hs0'.extBut _ _ cz x)) he
/-! ### next(zip), before and behind the first item -/
def ZnS (h : Heap) (z TI TO : Addr) (ps : List ZSrc) (lo : Addr) : Prop := (IsZip h z TI TO .none ∧ ∃ ys, IsTupOf h TO ys ∧ ys.length = ps.length) ∨ ∃ T oT, ZipO h z TI TO T ∧ h.get? T = some oT ∧ lo < T
theorem znS_item {Q : Option Value → Shared → Prop} (hh : A.in1.handled = none) (S0 : ZA z TI TO ps S) (hlen : ps.length ≤ sizeLine) (hz : ZnS s.heap z TI TO ps S) (hlo : S < s.heap.objs.size) (hTI : IsTupOf s.heap TI (itsOf ps))
    (st : AtI s.heap i ps) (hne : ps ≠ []) (hN : ∀ p ∈ ps, p.xs.size = N) (hlt : i < N)
    (hQ : ∀ h' tk, ZnS h' z TI TO ps S → IsTupOf h' TI (itsOf ps) → AtI h' (i + 1) ps → IsTupOf h' s.heap.objs.size (colOf ps i) → h'.objs.size = s.heap.objs.size + 1 →
      (∀ c o, c ≠ z → c ≠ TO → NotIt ps c → s.heap.get? c = some o → h'.get? c = some o) → Q (some (.ref s.heap.objs.size)) { s with heap := h', toks := tk }) :
    wpAny (model prog w) A (pyNext (.ref z)) Q E s := by
  have nTI : NotIt ps TI := fun p hp => (S0.zi p hp).2.1
  rcases hz with ⟨hz, ys, hTO, hyl⟩ | ⟨T, oT, hz, hT, hl⟩
  · have hTy : s.TypeIs (.ref z) "zip" := ⟨_, hz, rfl⟩
    unfold pyNext
    refine wpAny_bind (wpAny_attempt (wpAny_callSpecial?_slot (name := Str.ofString "__next__") hTy PySem.F.slot_zip_next (wpAny_call_entry PySem.F.slot_zip_next hTy PySem.F.entry_zip_next
      (zn_first hh S0 hlen hz hTI hTO hyl st hne hN hlt fun h' tk hz' st' hn hsz hk => wpAny_pure ?_) (PySem.F.args_zip_next_1 _))))
    exact hQ h' tk (.inr ⟨s.heap.objs.size, _, ⟨false, hz'⟩, hn, hlo⟩) (hk _ _ S0.TIz S0.TITO nTI hTI) st' hn hsz hk
  · obtain ⟨fl, hz0⟩ := id hz
    have hTy : s.TypeIs (.ref z) "zip" := ⟨_, hz0, rfl⟩
    unfold pyNext
    refine wpAny_bind (wpAny_attempt (wpAny_callSpecial?_slot (name := Str.ofString "__next__") hTy PySem.F.slot_zip_next (wpAny_call_entry PySem.F.slot_zip_next hTy PySem.F.entry_zip_next
      (zn_more hh S0 hlen hz hT hTI st hne hN hlt fun h' tk hz' st' hn hsz hk => wpAny_pure ?_) (PySem.F.args_zip_next_1 _))))
    have nT : ∀ x, x < S → T ≠ x := fun x hx e => by rw [e] at hl; exact absurd (Nat.lt_trans hl hx) (Nat.lt_irrefl _)
    exact hQ h' tk (.inr ⟨T, oT, hz', hk T oT (nT z S0.bz) (fun p hp => nT p.it (S0.bi p hp)) hT, hl⟩) (hk _ _ S0.TIz nTI hTI) st' hn hsz fun c o cz _ ci e => hk c o cz ci e
theorem znS_end {Q : Option Value → Shared → Prop} (hh : A.in1.handled = none) (S0 : ZA z TI TO ps S) (hz : ZnS s.heap z TI TO ps S) (hTI : IsTupOf s.heap TI (itsOf ps)) (st : AtI s.heap N ps) (hne : ps ≠ []) (hN : ∀ p ∈ ps, p.xs.size = N)
    (hQ : ∀ h' tk, (∀ c o, c ≠ z → NotIt ps c → s.heap.get? c = some o → h'.get? c = some o) → Q none { s with heap := h', toks := tk }) : wpAny (model prog w) A (pyNext (.ref z)) Q E s := by
  rcases hz with ⟨hz, ys, hTO, hyl⟩ | ⟨T, oT, hz, hT, hl⟩
  · have hTy : s.TypeIs (.ref z) "zip" := ⟨_, hz, rfl⟩
    unfold pyNext
    refine wpAny_bind (wpAny_attempt (wpAny_callSpecial?_slot (name := Str.ofString "__next__") hTy PySem.F.slot_zip_next (wpAny_call_entry PySem.F.slot_zip_next hTy PySem.F.entry_zip_next
      (zn_endF hh S0 hz hTI st hne hN fun h' tk e hk he => ?_) (PySem.F.args_zip_next_1 _))))
    obtain ⟨o, ho, hc⟩ := he
    refine wpAny_bind (wpAny_isInstance (T := "StopIteration") (b := true) ⟨o, ho, hc⟩ isSubtype_stop ?_)
    exact wpAny_pure (hQ _ _ hk)
  · obtain ⟨fl, hz0⟩ := id hz
    have hTy : s.TypeIs (.ref z) "zip" := ⟨_, hz0, rfl⟩
    unfold pyNext
    refine wpAny_bind (wpAny_attempt (wpAny_callSpecial?_slot (name := Str.ofString "__next__") hTy PySem.F.slot_zip_next (wpAny_call_entry PySem.F.slot_zip_next hTy PySem.F.entry_zip_next
      (zn_endM hh S0 hz hT hTI st hne hN fun h' tk e hk he => ?_) (PySem.F.args_zip_next_1 _))))
    obtain ⟨o, ho, hc⟩ := he
    refine wpAny_bind (wpAny_isInstance (T := "StopIteration") (b := true) ⟨o, ho, hc⟩ isSubtype_stop ?_)
    exact wpAny_pure (hQ _ _ hk)
end
end Ow

set_option Elab.async false
set_option linter.all false
set_option maxRecDepth 100000
set_option maxHeartbeats 4000000
namespace Ow
open PySem PySem.Spec PyProof.Rows
open Sem (wp)
def srcs : Nat → List (Addr × Array Value) → List ZSrc
  | _, [] => []
  | n, p :: r => ⟨n, p.1, p.2⟩ :: srcs (n + 1) r
theorem srcs_app : ∀ (a : List (Addr × Array Value)) (n : Nat) (p : Addr × Array Value), srcs n (a ++ [p]) = srcs n a ++ [⟨n + a.length, p.1, p.2⟩]
  | [], n, p => rfl
  | q :: a, n, p => by
    show _ :: srcs (n + 1) (a ++ [p]) = _ :: (srcs (n + 1) a ++ _)
    rw [srcs_app a (n + 1) p, List.length_cons, Nat.add_right_comm, Nat.add_assoc n]
theorem srcs_it : ∀ {ls : List (Addr × Array Value)} {n : Nat} {p : ZSrc}, p ∈ srcs n ls → n ≤ p.it ∧ (p.it : Nat) < n + ls.length
  | [], n, p, h => nomatch h
  | q :: a, n, p, h => by
    rcases List.mem_cons.mp h with rfl | h
    · exact ⟨Nat.le_refl _, by rw [List.length_cons]; show n < _; omega⟩
    · obtain ⟨h1, h2⟩ := srcs_it h
      rw [List.length_cons]
      exact ⟨Nat.le_trans (Nat.le_succ n) h1, Nat.lt_of_lt_of_le h2 (by omega)⟩
theorem srcs_src : ∀ {ls : List (Addr × Array Value)} {n : Nat} {p : ZSrc}, p ∈ srcs n ls → (p.l, p.xs) ∈ ls
  | [], n, p, h => nomatch h
  | q :: a, n, p, h => by
    rcases List.mem_cons.mp h with rfl | h
    · exact List.mem_cons_self
    · exact List.mem_cons_of_mem _ (srcs_src h)
theorem srcs_nd : ∀ (ls : List (Addr × Array Value)) (n : Nat), ((srcs n ls).map (·.it)).Nodup
  | [], n => List.nodup_nil
  | q :: a, n => by
    refine List.nodup_cons.mpr ⟨fun h => ?_, srcs_nd a (n + 1)⟩
    obtain ⟨p, hp, e⟩ := List.mem_map.mp h
    have := (srcs_it hp).1
    have e' : n = p.it := e.symm
    rw [← e'] at this
    exact absurd this (Nat.not_succ_le_self n)
theorem srcs_len : ∀ (ls : List (Addr × Array Value)) (n : Nat), (srcs n ls).length = ls.length
  | [], n => rfl
  | q :: a, n => by rw [srcs, List.length_cons, List.length_cons, srcs_len a (n + 1)]
theorem tupIter_new {h : Heap} {l : Addr} : (h.push { cls := .type "tuple_iterator", data := .fields #[.ref l, .int 0 0] }).IsTupleIter h.objs.size l 0 := ⟨_, Heap.get?_push_size _ rfl, rfl, rfl⟩
theorem meets_zipN (ls : List (Addr × Array Value)) :
    Meets (Builtin.«zip.__new__» ⟨.type "zip" :: ls.map (fun p => .ref p.1), []⟩) (fun _ R s => (∀ p ∈ ls, s.heap.IsTuple p.1 p.2) ∧ ls.length ≤ sizeLine ∧
      ∀ h', IsZip h' (s.heap.objs.size + ls.length + 2) (s.heap.objs.size + ls.length) (s.heap.objs.size + ls.length + 1) .none → IsTupOf h' (s.heap.objs.size + ls.length) (itsOf (srcs s.heap.objs.size ls)) →
        (∃ ys, IsTupOf h' (s.heap.objs.size + ls.length + 1) ys ∧ ys.length = ls.length) → AtI h' 0 (srcs s.heap.objs.size ls) → h'.objs.size = s.heap.objs.size + ls.length + 3 → (∀ c o, s.heap.get? c = some o → h'.get? c = some o) →
        R (.ok (.ret (.ref (s.heap.objs.size + ls.length + 2)))) { s with heap := h' }) :=
  .of_wp fun prog w A R s h => by
    obtain ⟨hp, g, d, tk, os⟩ := s
    obtain ⟨hl, hn, h⟩ := h
    have hsub := sub_zip
    wp_walk using wpAny_forIn_list _ (fun rest b s' => ∃ dn rs g', s' = ⟨g', g, d, tk, os⟩ ∧ ls = dn ++ rs ∧ rest = rs.map (fun p => Value.ref p.1) ∧ b.toList = itsOf (srcs hp.objs.size dn) ∧ g'.objs.size = hp.objs.size + dn.length ∧
      AtI g' 0 (srcs hp.objs.size dn) ∧ ∀ c o, hp.get? c = some o → g'.get? c = some o) _
    case turn =>
      rintro iv rest b s' ⟨dn, rs, g', rfl, els, er, hb, hsz, hat, hk⟩
      cases rs with
      | nil => simp at er
      | cons p rs =>
        rw [List.map_cons] at er
        injection er with e1 e2
        subst e1
        have hp' := hl p (by rw [els]; exact List.mem_append_right _ List.mem_cons_self)
        obtain ⟨o, ho, hr⟩ := hp'
        have up : ∀ c o, g'.get? c = some o → (g'.push { cls := .type "tuple_iterator", data := .fields #[.ref p.1, .int 0 0] }).get? c = some o := fun c o e => Heap.get?_push_of_some _ e
        refine wpAny_bind (wpAny_holding (wpAny_pyIter_tuple (s := ⟨g', g, d, tk, os⟩) ⟨o, hk _ _ ho, hr⟩ (wpAny_pure ?_)))
        refine ⟨dn ++ [p], rs, _, rfl, by rw [els, List.append_assoc]; rfl, e2, ?_, ?_, ?_, fun c o e => up c o (hk c o e)⟩
        · rw [Array.toList_push, hb, srcs_app, itsOf, itsOf, List.map_append, List.map_cons, List.map_nil]
          show _ ++ [Value.ref g'.objs.size] = _
          rw [hsz]
        · show (Heap.push _ _).objs.size = _
          rw [Heap.size_push, hsz, List.length_append, List.length_singleton, Nat.add_assoc]
        · rw [srcs_app]
          intro q hq
          rcases List.mem_append.mp hq with hq | hq
          · exact (hat.mono fun q _ o => ⟨up _ _, up _ _⟩) q hq
          · rw [List.mem_singleton.mp hq]
            dsimp only
            rw [← hsz]
            exact ⟨tupIter_new, o, up _ _ (hk _ _ ho), hr⟩
    case fin =>
      rintro b s' ⟨dn, rs, g', rfl, els, er, hb, hsz, hat, hk⟩
      have ers : rs = [] := by
        cases rs with
        | nil => rfl
        | cons p rs => simp at er
      subst ers
      rw [List.append_nil] at els
      subst els
      have h0 : ∀ h' : Heap, IsZip h' (hp.objs.size + ls.length + 2) (hp.objs.size + ls.length) (hp.objs.size + ls.length + 1) .none → IsTupOf h' (hp.objs.size + ls.length) (itsOf (srcs hp.objs.size ls)) →
        (∃ ys, IsTupOf h' (hp.objs.size + ls.length + 1) ys ∧ ys.length = ls.length) → AtI h' 0 (srcs hp.objs.size ls) → h'.objs.size = hp.objs.size + ls.length + 3 → (∀ c o, hp.get? c = some o → h'.get? c = some o) →
        R (.ok (.ret (.ref (hp.objs.size + ls.length + 2)))) ⟨h', g, d, tk, os⟩ := h
      refine wpAny_pure ?_
      rw [hb]
      refine wpAny_bind (wpAny_newTuple ?_ (by rw [itsOf, List.length_map, srcs_len]; exact hn))
      refine wpAny_bind (wpAny_newTuple ?_ (by rw [List.length_map, itsOf, List.length_map, srcs_len]; exact hn))
      show wpAny _ _ (newObj (.type "zip") (.fields #[.none, .bool false, .bool false, .ref g'.objs.size, .ref (g'.push { cls := .type "tuple", data := .seq (itsOf (srcs hp.objs.size ls)).toArray }).objs.size]) >>= _) _ _ _
      refine wpAny_bind (wpAny_newObj_type ?_)
      have z1 : (g'.push { cls := .type "tuple", data := .seq (itsOf (srcs hp.objs.size ls)).toArray }).objs.size = hp.objs.size + ls.length + 1 := by rw [Heap.size_push, hsz]
      have z2 : ((g'.push { cls := .type "tuple", data := .seq (itsOf (srcs hp.objs.size ls)).toArray }).push { cls := .type "tuple", data := .seq ((itsOf (srcs hp.objs.size ls)).map fun _ => Value.none).toArray }).objs.size = hp.objs.size + ls.length + 2 := by rw [Heap.size_push, z1]
      refine wpAny_pure ⟨_, rfl, ?_⟩
      show R (.ok (.ret (.ref (Heap.push _ _).objs.size))) _
      rw [z2]
      have up : ∀ c o, g'.get? c = some o → _ := fun c o e => Heap.get?_push_of_some { cls := .type "zip", data := .fields #[.none, .bool false, .bool false, .ref g'.objs.size, .ref (g'.push { cls := .type "tuple", data := .seq (itsOf (srcs hp.objs.size ls)).toArray }).objs.size] }
        (Heap.get?_push_of_some { cls := .type "tuple", data := .seq ((itsOf (srcs hp.objs.size ls)).map fun _ => Value.none).toArray } (Heap.get?_push_of_some { cls := .type "tuple", data := .seq (itsOf (srcs hp.objs.size ls)).toArray } e))
      refine h0 _ ?_ ?_ ⟨(itsOf (srcs hp.objs.size ls)).map fun _ => Value.none, ?_, by rw [List.length_map, itsOf, List.length_map, srcs_len]⟩ (hat.mono fun q _ o => ⟨up _ _, up _ _⟩) ?_ fun c o e => up c o (hk c o e)
      · have e3 := Heap.get?_push_size ((g'.push { cls := .type "tuple", data := .seq (itsOf (srcs hp.objs.size ls)).toArray }).push { cls := .type "tuple", data := .seq ((itsOf (srcs hp.objs.size ls)).map fun _ => Value.none).toArray }) (o := { cls := .type "zip", data := .fields #[.none, .bool false, .bool false, .ref g'.objs.size, .ref (g'.push { cls := .type "tuple", data := .seq (itsOf (srcs hp.objs.size ls)).toArray }).objs.size] }) rfl
        rw [z2] at e3
        refine Eq.trans e3 ?_
        rw [z1, hsz]
      · have e1 := Heap.get?_push_size g' (o := { cls := .type "tuple", data := .seq (itsOf (srcs hp.objs.size ls)).toArray }) rfl
        rw [hsz] at e1
        exact Heap.get?_push_of_some _ (Heap.get?_push_of_some _ e1)
      · have e2 := Heap.get?_push_size (g'.push { cls := .type "tuple", data := .seq (itsOf (srcs hp.objs.size ls)).toArray }) (o := { cls := .type "tuple", data := .seq ((itsOf (srcs hp.objs.size ls)).map fun _ => Value.none).toArray }) rfl
        rw [z1] at e2
        exact Heap.get?_push_of_some _ e2
      · show (Heap.push _ _).objs.size = _
        rw [Heap.size_push, z2]
    case h => exact ⟨[], ls, hp, rfl, rfl, rfl, rfl, rfl, (fun _ h => nomatch h), fun _ _ e => e⟩
end Ow

set_option Elab.async false
set_option linter.all false
set_option maxRecDepth 100000
set_option maxHeartbeats 4000000
namespace Ow
open PySem PySem.Spec PyProof.Rows
open Sem (wp)
theorem tc_zipN (args : List Value) : checkTypeCall "zip" ⟨args, []⟩ = pure () := by kernel_rfl
theorem nc_zipN : ∀ (args : List Value), args.length ≤ 6 → checkBuiltinCall "zip.__new__" ⟨.type "zip" :: args, []⟩ = pure ()
  | [], _ => by kernel_rfl
  | [_], _ => by kernel_rfl
  | [_, _], _ => by kernel_rfl
  | [_, _, _], _ => by kernel_rfl
  | [_, _, _, _], _ => by kernel_rfl
  | [_, _, _, _, _], _ => by kernel_rfl
  | [_, _, _, _, _, _], _ => by kernel_rfl
  | _ :: _ :: _ :: _ :: _ :: _ :: _ :: _, h => by simp at h
theorem ao_zipN (o : Value) (args : List Value) : argsOk "object.__init__" ⟨o :: args, []⟩ := by
  unfold argsOk; rw [signature?_of (id := "object.__init__") (n := ['_', '_', 't', 'i', 'n', 'i', '_', '_']) (o := ['t', 'c', 'e', 'j', 'b', 'o']) (by kernel_rfl) PySem.F.owner_object]; kernel_rfl
section
variable {prog : Program} {w : World} {A : Around} {E : Value → Shared → Prop} {s : Shared}
theorem call_zipN {ls : List (Addr × Array Value)} {Q : Value → Shared → Prop} (hl : ∀ p ∈ ls, s.heap.IsTuple p.1 p.2) (hn : ls.length ≤ 6)
    (h : ∀ h', IsZip h' (s.heap.objs.size + ls.length + 2) (s.heap.objs.size + ls.length) (s.heap.objs.size + ls.length + 1) .none → IsTupOf h' (s.heap.objs.size + ls.length) (itsOf (srcs s.heap.objs.size ls)) →
      (∃ ys, IsTupOf h' (s.heap.objs.size + ls.length + 1) ys ∧ ys.length = ls.length) → AtI h' 0 (srcs s.heap.objs.size ls) → h'.objs.size = s.heap.objs.size + ls.length + 3 → (∀ c o, s.heap.get? c = some o → h'.get? c = some o) →
      Q (.ref (s.heap.objs.size + ls.length + 2)) { s with heap := h' }) :
    wpAny (model prog w) A (call (.type "zip") (ls.map fun p => .ref p.1)) Q E s := by
  refine callType_new PySem.F.called_zip (by decide) (tc_zipN _) (nc_zipN _ (by rw [List.length_map]; exact hn)) (fun obj => ao_zipN obj _) PySem.F.entry_zip_new (meets_zipN ls) ⟨hl, Nat.le_trans hn (by rw [sizeLine_eq]; decide), fun h' a b c d e f => ?_⟩
  show _ ∧ _
  exact ⟨⟨_, a, rfl⟩, h h' a b c d e f⟩
end
/-! ### list(zip(..)) -/
/-- the columns made so far -/
structure ZC (ps : List ZSrc) (lo : Addr) (h : Heap) (as : List Addr) : Prop where
  rise : as.Pairwise (· < ·)
  above : ∀ a ∈ as, lo < a
  cols : ∀ (j : Nat) (a : Addr), as[j]? = some a → IsTupOf h a (colOf ps j)
theorem ZC.there {ps : List ZSrc} {lo : Addr} {h : Heap} {as : List Addr} (g : ZC ps lo h as) {a : Addr} (ha : a ∈ as) : a < h.objs.size := by
  obtain ⟨j, hj⟩ := List.mem_iff_getElem?.mp ha
  exact Heap.lt_size (g.cols j a hj)
section
variable {prog : Program} {w : World} {A : Around} {s : Shared} {R : Result → Shared → Prop} {z TI TO S : Addr} {ps : List ZSrc} {N : Nat}
theorem znS_keep {h h' : Heap} (S0 : ZA z TI TO ps S) (x : ZnS h z TI TO ps S) (k : ∀ b o, b ≠ S → h.get? b = some o → h'.get? b = some o) : ZnS h' z TI TO ps S := by
  rcases x with ⟨hz, ys, hTO, hl⟩ | ⟨T, oT, ⟨fl, hz⟩, hT, hl⟩
  · exact .inl ⟨k _ _ (Nat.ne_of_lt S0.bz) hz, ys, k _ _ (Nat.ne_of_lt S0.bO) hTO, hl⟩
  · exact .inr ⟨T, oT, ⟨fl, k _ _ (Nat.ne_of_lt S0.bz) hz⟩, k _ _ (Nat.ne_of_gt hl) hT, hl⟩
theorem atI_keep {h h' : Heap} {i : Nat} (S0 : ZA z TI TO ps S) (x : AtI h i ps) (k : ∀ b o, b ≠ S → h.get? b = some o → h'.get? b = some o) : AtI h' i ps :=
  x.mono fun p hp o => ⟨k _ _ (Nat.ne_of_lt (S0.bi p hp)), k _ _ (Nat.ne_of_lt (S0.bl p hp))⟩
theorem zn_loop (hh : A.handled = none) (S0 : ZA z TI TO ps S) (hlen : ps.length ≤ sizeLine) (hne : ps ≠ []) (hN : ∀ p ∈ ps, p.xs.size = N) (hn : N ≤ sizeLine) (res : Value) {h₁ : Heap}
    (hR : ∀ h' tk acc c as, (∀ b o, b ≠ S → b ≠ z → b ≠ TO → NotIt ps b → h₁.get? b = some o → h'.get? b = some o) → h'.get? S = some { cls := .type "list", dict := none, data := .seq acc c, slots := #[] } → as.length = N → ZC ps S h' as →
      acc.toList = as.map Value.ref → R (.ok (.ret res)) { s with heap := h', toks := tk }) :
    ∀ (k i : Nat) (h : Heap) (tk c : Nat) (acc : Array Value) (as : List Addr), N - i = k → i ≤ N → ZnS h z TI TO ps S → IsTupOf h TI (itsOf ps) → AtI h i ps → (∀ b o, b ≠ S → b ≠ z → b ≠ TO → NotIt ps b → h₁.get? b = some o → h.get? b = some o) →
      h.get? S = some { cls := .type "list", dict := none, data := .seq acc c, slots := #[] } → acc.toList = as.map Value.ref → as.length = i → ZC ps S h as →
      codeAny (model prog w) A (.builtin "list.extend.loop" ⟨[.ref S, .ref z, res], []⟩) R { s with heap := h, toks := tk } := by
  have nS : NotIt ps S := fun p hp => Nat.ne_of_gt (S0.bi p hp)
  have na : ∀ {a : Addr}, S < a → NotIt ps a := fun ha p hp => Nat.ne_of_gt (Nat.lt_trans (S0.bi p hp) ha)
  intro k
  induction k with
  | zero =>
    intro i h tk c acc as hk hi hz hI hat hkeep hS hacc hal hG
    have hin : i = N := by omega
    subst hin
    refine codeAny_builtin PySem.F.entry_extend_loop ?_
    rw [Around.under_plainId PySem.F.plain_extend_loop _]
    show wpAny _ A.in1 (pyNext (.ref z) >>= _) _ _ _
    refine wpAny_bind (znS_end (s := { s with heap := h, toks := tk }) (A := A.in1) hh S0 hz hI hat hne hN fun h' tk' he => ?_)
    refine wpAny_pure (hR h' tk' acc c as (fun b o n1 n2 n3 n4 e => he b o n2 n4 (hkeep b o n1 n2 n3 n4 e)) (he S _ (Nat.ne_of_gt S0.bz) nS hS) hal ⟨hG.rise, hG.above, fun j a hj => ?_⟩ hacc)
    have ha := hG.above a (List.mem_of_getElem? hj)
    exact he a _ (Nat.ne_of_gt (Nat.lt_trans S0.bz ha)) (na ha) (hG.cols j a hj)
  | succ k ih =>
    intro i h tk c acc as hk hi hz hI hat hkeep hS hacc hal hG
    have hlt : i < N := by omega
    have hsz : acc.size = i := by rw [← Array.length_toList, hacc, List.length_map, hal]
    have hSl : S < h.objs.size := Heap.lt_size hS
    refine codeAny_builtin PySem.F.entry_extend_loop ?_
    rw [Around.under_plainId PySem.F.plain_extend_loop _]
    show wpAny _ A.in1 (pyNext (.ref z) >>= _) _ _ _
    refine wpAny_bind (znS_item (s := { s with heap := h, toks := tk }) (A := A.in1) (i := i) hh S0 hlen hz hSl hI hat hne hN hlt fun h' tk' hz' hI' hat' hT hsz' hkp => ?_)
    dsimp only at hT hsz' hkp ⊢
    have hS' := hkp S _ (Nat.ne_of_gt S0.bz) (Nat.ne_of_gt S0.bO) nS hS
    have up : ∀ b o, b ≠ S → h'.get? b = some o → (h'.update S (Obj.mapSeq (·.push (Value.ref h.objs.size)))).get? b = some o := fun b o hb e => (Heap.get?_update_other _ _ (Ne.symm hb)).trans e
    show wpAny _ A.in1 (updateSeq S (·.push (Value.ref h.objs.size)) >>= _) _ _ _
    refine wpAny_bind ?_
    refine wpAny_updateSeq hS' rfl (wpAny_pure ⟨plainId_quiet PySem.F.plain_extend_loop _, ih (i + 1) _ tk' _ (acc.push (Value.ref h.objs.size)) (as ++ [h.objs.size]) (by omega) hlt (znS_keep S0 hz' up) (up _ _ (Nat.ne_of_lt S0.bI) hI') (atI_keep S0 hat' up)
      (fun b o n1 n2 n3 n4 e => up b o n1 (hkp b o n2 n3 n4 (hkeep b o n1 n2 n3 n4 e))) (Heap.get?_update_self _ hS' rfl) (by rw [Array.toList_push, hacc, List.map_append]; rfl) (by rw [List.length_append, hal]; rfl) ⟨?_, ?_, ?_⟩⟩) (by rw [hsz]; omega) (by show (acc.push (Value.ref h.objs.size)).size ≤ sizeLine + 1; rw [Array.size_push, hsz]; omega)
    · refine List.pairwise_append.mpr ⟨hG.rise, List.pairwise_singleton _ _, fun a ha b hb => ?_⟩
      rw [List.mem_singleton.mp hb]
      exact hG.there ha
    · intro a ha
      rcases List.mem_append.mp ha with ha | ha
      · exact hG.above a ha
      · rw [List.mem_singleton.mp ha]; exact hSl
    · intro j b hj
      rcases Nat.lt_trichotomy j as.length with q | q | q
      · rw [List.getElem?_append_left q] at hj
        have hb := hG.above b (List.mem_of_getElem? hj)
        exact up b _ (Nat.ne_of_gt hb) (hkp b _ (Nat.ne_of_gt (Nat.lt_trans S0.bz hb)) (Nat.ne_of_gt (Nat.lt_trans S0.bO hb)) (na hb) (hG.cols j b hj))
      · subst q
        have hb : h.objs.size = b := by simpa using hj
        subst hb
        rw [hal]
        exact up _ _ (Nat.ne_of_gt hSl) hT
      · have hnone : (as ++ [h.objs.size])[j]? = none := List.getElem?_eq_none (by rw [List.length_append, List.length_singleton]; omega)
        rw [hnone] at hj; cases hj
end
section
variable {prog : Program} {w : World} {A : Around} {E : Value → Shared → Prop} {s : Shared} {z TI TO : Addr} {ps : List ZSrc} {N : Nat}
theorem zn_extend {R : Result → Shared → Prop} {S : Addr} (hh : A.handled = none) (S0 : ZA z TI TO ps S) (hlen : ps.length ≤ sizeLine) (hne : ps ≠ []) (hN : ∀ p ∈ ps, p.xs.size = N) (hn : N ≤ sizeLine) (hz : IsZip s.heap z TI TO .none) {ys0 : List Value} (hTO : IsTupOf s.heap TO ys0) (hy0 : ys0.length = ps.length)
    (hI : IsTupOf s.heap TI (itsOf ps)) (hat : AtI s.heap 0 ps) (res : Value) (c₀ : Nat) (hS : s.heap.get? S = some { cls := .type "list", data := .seq #[] c₀ })
    (hR : ∀ h' tk acc c as, (∀ b o, b ≠ S → b ≠ z → b ≠ TO → NotIt ps b → s.heap.get? b = some o → h'.get? b = some o) → h'.get? S = some { cls := .type "list", dict := none, data := .seq acc c, slots := #[] } → as.length = N → ZC ps S h' as →
      acc.toList = as.map Value.ref → R (.ok (.ret res)) { s with heap := h', toks := tk }) :
    wpAny (model prog w) A.in1 (Builtin.List.listExtendWith (.ref S) (.ref z) res)
      (fun fin s' => match fin with | .done f => R (.ok f) s' | .again c' => c'.quiet = true ∧ codeAny (model prog w) A c' R s') (fun e s' => R (.error e) s') s := by
  have hTy : s.TypeIs (.ref z) "zip" := ⟨_, hz, rfl⟩
  have key : ∀ (h : Heap) (c₁ tk : Nat), (∀ b o, b ≠ S → s.heap.get? b = some o → h.get? b = some o) → h.get? S = some { cls := .type "list", data := .seq #[] c₁ } →
      codeAny (model prog w) A (.builtin "list.extend.loop" ⟨[.ref S, .ref z, res], []⟩) R { s with heap := h, toks := tk } := by
    intro h c₁ tk hk hS₁
    exact zn_loop (s := s) (h₁ := s.heap) hh S0 hlen hne hN hn res (fun h' tk' acc c as hk' hS' hl hG hacc => hR h' tk' acc c as hk' hS' hl hG hacc) N 0 h tk c₁ #[] [] (Nat.sub_zero _) (Nat.zero_le _) (znS_keep S0 (.inl ⟨hz, ys0, hTO, hy0⟩) hk) (hk _ _ (Nat.ne_of_lt S0.bI) hI) (atI_keep S0 hat hk)
      (fun b o n1 _ _ _ e => hk b o n1 e) hS₁ rfl rfl ⟨List.Pairwise.nil, (fun _ ha => nomatch ha), (fun j a hj => by simp at hj)⟩
  unfold Builtin.List.listExtendWith
  refine wpAny_bind (wpAny_typeOf (T := "zip") hTy ?_)
  have hSz : S ≠ z := Nat.ne_of_gt S0.bz
  have h1 : Builtin.List.listSameRef (.ref S) (.ref z) = false := by simp [Builtin.List.listSameRef, hSz]
  have h2 : (Value.type "zip" == Value.type "list") = false := by decide
  have h3 : (Value.type "zip" == Value.type "tuple") = false := by decide
  simp only [h1, h2, h3, Bool.or_false, Bool.false_eq_true, if_false]
  refine wpAny_bind (wpAny_pyIter_zip hz ?_)
  refine wpAny_bind (wpAny_holding (zip_hint hTy ?_))
  refine wpAny_ite_split (fun _ => ?_) (fun _ => wpAny_pure ⟨plainId_quiet PySem.F.plain_extend_loop _, key _ c₀ _ (fun b o _ e => e) hS⟩)
  refine wpAny_bind (wpAny_rule ?_)
  refine wpAny_bind ?_
  show wpAny _ _ (updateSeq S (·.push .none) >>= fun _ => updateSeq S (·.pop)) _ _ _
  refine wpAny_bind (wpAny_updateSeq hS rfl ?_)
  have hS₂ := Heap.get?_update_self (Obj.mapSeq (·.push Value.none)) hS rfl
  refine wpAny_updateSeq (hz := by seq_fits) hS₂ rfl ?_
  have hS₃ := Heap.get?_update_self (Obj.mapSeq (·.pop)) hS₂ rfl
  refine wpAny_pure ⟨plainId_quiet PySem.F.plain_extend_loop _, key _ _ _ (fun b o hb e => ?_) hS₃⟩
  exact (Heap.get?_update_other _ _ (Ne.symm hb)).trans ((Heap.get?_update_other _ _ (Ne.symm hb)).trans e)
theorem zn_init {R : Result → Shared → Prop} {S : Addr} (hh : A.handled = none) (S0 : ZA z TI TO ps S) (hlen : ps.length ≤ sizeLine) (hne : ps ≠ []) (hN : ∀ p ∈ ps, p.xs.size = N) (hn : N ≤ sizeLine) (hz : IsZip s.heap z TI TO .none) {ys0 : List Value} (hTO : IsTupOf s.heap TO ys0) (hy0 : ys0.length = ps.length)
    (hI : IsTupOf s.heap TI (itsOf ps)) (hat : AtI s.heap 0 ps) (hS : s.heap.get? S = some { cls := .type "list", data := .seq #[] })
    (hR : ∀ h' tk acc c as, (∀ b o, b ≠ S → b ≠ z → b ≠ TO → NotIt ps b → s.heap.get? b = some o → h'.get? b = some o) → h'.get? S = some { cls := .type "list", dict := none, data := .seq acc c, slots := #[] } → as.length = N → ZC ps S h' as →
      acc.toList = as.map Value.ref → R (.ok (.ret .none)) { s with heap := h', toks := tk }) :
    wpAny (model prog w) A.in1 (Builtin.«list.__init__» ⟨[.ref S, .ref z], []⟩)
      (fun fin s' => match fin with | .done f => R (.ok f) s' | .again c' => c'.quiet = true ∧ codeAny (model prog w) A c' R s') (fun e s' => R (.error e) s') s := by
  show wpAny _ _ (do let old ← Builtin.List.listItems (.ref S); Builtin.List.listUpdate (.ref S) (fun _ => #[]); letGo old.toList.reverse; Builtin.List.listExtendWith (.ref S) (.ref z) .none) _ _ s
  refine wpAny_bind ?_
  unfold Builtin.List.listItems
  refine wpAny_bind (wpAny_seqItems hS rfl (wpAny_pure ?_))
  show wpAny _ _ (updateSeq S (fun _ => #[]) >>= fun _ => letGo (#[] : Array Value).toList.reverse >>= fun _ => Builtin.List.listExtendWith (.ref S) (.ref z) .none) _ _ s
  refine wpAny_bind (wpAny_updateSeq hS rfl ?_)
  have hS₂ := Heap.get?_update_self (Obj.mapSeq (fun _ => (#[] : Array Value))) hS rfl
  have oth : ∀ b o, b ≠ S → s.heap.get? b = some o → (s.heap.update S (Obj.mapSeq (fun _ => (#[] : Array Value)))).get? b = some o := fun b o hb e => (Heap.get?_update_other _ _ (Ne.symm hb)).trans e
  refine wpAny_bind (wpAny_letGo ?_)
  refine zn_extend hh S0 hlen hne hN hn (oth _ _ (Nat.ne_of_lt S0.bz) hz) (oth _ _ (Nat.ne_of_lt S0.bO) hTO) hy0 (oth _ _ (Nat.ne_of_lt S0.bI) hI) (atI_keep S0 hat oth) .none _ hS₂ fun h' tk acc c as hk hS' hl hG hacc => ?_
  exact hR h' tk acc c as (fun b o n1 n2 n3 n4 e => hk b o n1 n2 n3 n4 (oth b o n1 e)) hS' hl hG hacc
theorem call_list_zipN {Q : Value → Shared → Prop} (hh : A.handled = none) (S0 : ZA z TI TO ps s.heap.objs.size) (hlen : ps.length ≤ sizeLine) (hne : ps ≠ []) (hN : ∀ p ∈ ps, p.xs.size = N) (hn : N ≤ sizeLine) (hz : IsZip s.heap z TI TO .none) {ys0 : List Value} (hTO : IsTupOf s.heap TO ys0) (hy0 : ys0.length = ps.length)
    (hI : IsTupOf s.heap TI (itsOf ps)) (hat : AtI s.heap 0 ps)
    (hQ : ∀ h' tk acc c as, (∀ b o, b ≠ z → b ≠ TO → NotIt ps b → s.heap.get? b = some o → h'.get? b = some o) → h'.get? s.heap.objs.size = some { cls := .type "list", dict := none, data := .seq acc c, slots := #[] } → as.length = N → ZC ps s.heap.objs.size h' as →
      acc.toList = as.map Value.ref → Q (.ref s.heap.objs.size) { s with heap := h', toks := tk }) :
    wpAny (model prog w) A (call (.type "list") [.ref z]) Q E s := by
  refine callType_codes (Q₁ := fun obj s₁ => obj = .ref s.heap.objs.size ∧ s₁ = { s with heap := s.heap.push { cls := .type "list", data := .seq #[] } }) PySem.F.called_list (PySem.F.typeCall_list_1 _) PySem.F.entry_list_init (code_list_new _ ⟨rfl, rfl⟩) fun obj s₁ h₁ => ?_
  obtain ⟨rfl, rfl⟩ := h₁
  have hS : (s.heap.push { cls := .type "list", data := .seq #[] }).get? s.heap.objs.size = some { cls := .type "list", data := .seq #[] } := Heap.get?_push_size _ rfl
  have ps' : ∀ b o, s.heap.get? b = some o → (s.heap.push { cls := .type "list", data := .seq #[] }).get? b = some o := fun b o e => Heap.get?_push_of_some _ e
  refine ⟨⟨_, hS, rfl⟩, PySem.F.args_list_init_2 _ _, zn_init (A := A.in1) hh S0 hlen hne hN hn (ps' _ _ hz) (ps' _ _ hTO) hy0 (ps' _ _ hI) (hat.mono fun p _ o => ⟨ps' _ _, ps' _ _⟩) hS fun h' tk acc c as hk hS' hl hG hacc => ?_⟩
  exact ⟨rfl, hQ h' tk acc c as (fun b o n1 n2 n3 e => hk b o (Nat.ne_of_lt (Heap.lt_size e)) n1 n2 n3 (ps' b o e)) hS' hl hG hacc⟩
end
end Ow

set_option Elab.async false
set_option linter.all false
set_option maxRecDepth 100000
set_option maxHeartbeats 4000000
namespace Ow
open PySem PySem.Spec PyProof.Rows L2
/-- tuples tracked at their addresses -/
def putC : Hp → List Addr → List (List V) → Hp
  | H, a :: as, p :: ps => putC (upd H a (.tup p)) as ps
  | H, _, _ => H
theorem putC_off {b : Addr} : ∀ (as : List Addr) (ps : List (List V)) (H : Hp), b ∉ as → putC H as ps b = H b
  | [], _, _, _ => rfl
  | _ :: _, [], _, _ => rfl
  | a :: as, p :: ps, H, h => by
    show putC (upd H a (.tup p)) as ps b = H b
    rw [putC_off as ps _ (fun z => h (List.mem_cons_of_mem _ z)), upd_ne (fun z => h (by rw [z]; exact List.mem_cons_self))]
theorem putC_at : ∀ (as : List Addr) (ps : List (List V)) (H : Hp), as.length = ps.length → as.Nodup → ∀ (j : Nat) (t : Addr), as[j]? = some t → ∃ p, ps[j]? = some p ∧ putC H as ps t = some (.tup p)
  | [], [], _, _, _, j, t, e => by simp at e
  | [], _ :: _, _, h, _, _, _, _ => by cases h
  | _ :: _, [], _, h, _, _, _, _ => by cases h
  | a :: as, p :: ps, H, h, hn, j, t, e => by
    have hn' := List.nodup_cons.mp hn
    cases j with
    | zero =>
      have e1 : a = t := by simpa using e
      subst e1
      refine ⟨p, rfl, ?_⟩
      show putC (upd H a (.tup p)) as ps a = some (.tup p)
      rw [putC_off as ps _ hn'.1, upd_same]
    | succ j => exact putC_at as ps (upd H a (.tup p)) (Nat.succ.inj h) hn'.2 j t (by simpa using e)
/-- the j-th column -/
def colV (rows : List (List V)) (j : Nat) : List V := rows.map fun r => r.getD j .non
theorem vals_col {ps : List ZSrc} {rows : List (List V)} {N j : Nat} (h : All2 (fun (p : ZSrc) r => Vals r p.xs.toList) ps rows) (hN : ∀ p ∈ ps, p.xs.size = N) (hj : j < N) : Vals (colV rows j) (colOf ps j) := by
  induction h with
  | nil => exact .nil
  | @cons p r ps rs hr _ ih =>
    refine .cons ?_ (ih fun q hq => hN q (List.mem_cons_of_mem _ hq))
    have hs := hN p List.mem_cons_self
    have hl := hr.length
    have hl : r.length = N := by rw [← hs, ← Array.length_toList]; exact hl
    obtain ⟨v, hv⟩ : ∃ v, r[j]? = some v := ⟨_, List.getElem?_eq_getElem (by rw [hl]; exact hj)⟩
    obtain ⟨u, hu, ru⟩ := hr.get hv
    rw [Array.getElem?_toList] at hu
    dsimp only
    rw [List.getD_eq_getElem?_getD, hv, Array.getD_eq_getD_getElem?, hu]
    exact ru
section
variable {X : Cx} {pins : List (Addr × Obj)} {σ : L2.St} {H : Hp} {s : Shared}
theorem zn_laid {h' : Heap} {tk c : Nat} {acc : Array Value} {as : List Addr} {ps : List ZSrc} {rows : List (List V)} {N : Nat} {S : Addr} (I : Inv X pins σ H s) (hSs : s.heap.objs.size ≤ S) (hz : N ≤ sizeLine) (hlen : ps.length ≤ sizeLine) (hr : All2 (fun (p : ZSrc) r => Vals r p.xs.toList) ps rows) (hN : ∀ p ∈ ps, p.xs.size = N)
    (hk : ∀ b o, s.heap.get? b = some o → h'.get? b = some o) (hS : h'.get? S = some { cls := .type "list", dict := none, data := .seq acc c, slots := #[] }) (hl : as.length = N) (hG : ZC ps S h' as) (hacc : acc.toList = as.map Value.ref) :
    ∃ H' : Hp, Same H H' ∧ H S = none ∧ H' S = some (.lst (as.map V.ref)) ∧ (∀ (j : Nat) (t : Addr), as[j]? = some t → H t = none ∧ H' t = some (.tup (colV rows j))) ∧ Inv X pins σ H' { s with heap := h', toks := tk } := by
  have hSn : S ∉ as := fun z => Nat.lt_irrefl _ (hG.above _ z)
  have nd : as.Nodup := List.Pairwise.imp (fun {a b} (h : a < b) => Nat.ne_of_lt h) hG.rise
  have above : ∀ t ∈ as, s.heap.objs.size ≤ t := fun t ht => Nat.le_of_lt (Nat.lt_of_le_of_lt hSs (hG.above t ht))
  have new : ∀ t ∈ as, H t = none := fun t ht => I.hok.fresh (above t ht)
  have newS : H S = none := I.hok.fresh hSs
  have lz : ((List.range N).map (colV rows)).length = as.length := by rw [List.length_map, List.length_range, hl]
  have atP : ∀ (j : Nat) (t : Addr), as[j]? = some t → putC (upd H S (.lst (as.map V.ref))) as ((List.range N).map (colV rows)) t = some (.tup (colV rows j)) ∧ j < N := fun j t e => by
    obtain ⟨p, e1, e2⟩ := putC_at as ((List.range N).map (colV rows)) (upd H S (.lst (as.map V.ref))) lz.symm nd j t e
    have hj : j < N := by rw [← hl]; exact (List.getElem?_eq_some_iff.mp e).1
    rw [List.getElem?_map, List.getElem?_range hj] at e1
    cases e1
    exact ⟨e2, hj⟩
  have off : ∀ b, b ∉ as → b ≠ S → putC (upd H S (.lst (as.map V.ref))) as ((List.range N).map (colV rows)) b = H b := fun b h1 h2 => by rw [putC_off as _ _ h1, upd_ne h2]
  have low : ∀ b o, s.heap.get? b = some o → b ∉ as ∧ b ≠ S := fun b o e => ⟨fun z => absurd (Heap.lt_size e) (Nat.not_lt.mpr (above b z)), fun z => absurd (Heap.lt_size e) (Nat.not_lt.mpr (by rw [z]; exact hSs))⟩
  have kp : ∀ b u, H b = some u → (putC (upd H S (.lst (as.map V.ref))) as ((List.range N).map (colV rows))) b = some u := fun b u e => by
    rw [off b (fun z => by rw [new b z] at e; cases e) (fun z => by rw [z, newS] at e; cases e)]
    exact e
  have eS : putC (upd H S (.lst (as.map V.ref))) as ((List.range N).map (colV rows)) S = some (.lst (as.map V.ref)) := by rw [putC_off as _ _ hSn, upd_same]
  refine ⟨_, kp, newS, eS, fun j t e => ⟨new t (List.mem_of_getElem? e), (atP j t e).1⟩, ?_⟩
  refine I.call' (ch := []) rfl ⟨fun b o q _ _ _ => hk b o q, fun b o q _ _ _ => ⟨o.slots, hk b o q⟩, fun b o q n _ => ?_, fun b o q _ => ⟨o, hk b o q⟩, fun b xs q => kp b _ q, fun b o u q => kp b _ q, fun b ps q => ⟨#[], by rw [kp b _ q]; simp⟩⟩ (fun b u q => ?_) I.bare fun b z => by simp at z
  · obtain ⟨z1, z2⟩ := low b o q
    rw [off b z1 z2]
    exact n
  · by_cases hb : b ∈ as
    · obtain ⟨j, hj⟩ := List.mem_iff_getElem?.mp hb
      obtain ⟨e2, hjN⟩ := atP j b hj
      rw [e2] at q
      cases q
      have vc := vals_col hr hN hjN
      have lr := hr.len
      exact ⟨by show (colV rows j).length ≤ sizeLine; rw [colV, List.length_map, ← lr]; exact hlen, colOf ps j, vc, ⟨_, hG.cols j b hj, rfl, _, rfl⟩⟩
    · by_cases hb2 : b = S
      · rw [hb2] at q ⊢
        rw [eS] at q
        cases q
        refine ⟨by rw [List.length_map]; omega, acc.toList, c, by rw [hacc]; exact vals_addrs as, ?_⟩
        rw [Array.toArray_toList]
        exact hS
      · rw [off b hb hb2] at q
        exact (I.hok b u q).stay (fun d v _ y => hk d v y) (fun d y => kp d _ y) fun d xs y => kp d _ y
/-- the rows, each a tuple of N items -/
def RowsV (K : PySem.W.Frag) (H : Hp) (N : Nat) (rs : List V) (rows : List (List V)) : Prop := All2 (fun v ys => ∃ b, v = .ref b ∧ SqT K H b ys ∧ ys.length = N) rs rows
theorem rows_src {N : Nat} {rs : List V} {rows : List (List V)} (I : Inv X pins σ H s) (h : RowsV X.K H N rs rows) : ∀ {us : List Value}, Vals rs us →
    ∃ ls : List (Addr × Array Value), us = ls.map (fun p => Value.ref p.1) ∧ (∀ p ∈ ls, s.heap.IsTuple p.1 p.2 ∧ p.2.size = N) ∧ All2 (fun (p : Addr × Array Value) r => Vals r p.2.toList) ls rows := by
  unfold RowsV at h
  induction h with
  | nil =>
    intro us r
    cases r
    exact ⟨[], rfl, (fun _ h => nomatch h), .nil⟩
  | @cons v ys vs yss hv _ ih =>
    intro us r
    cases r with
    | @cons _ u _ us r rr =>
      obtain ⟨b, rfl, hq, hl⟩ := hv
      cases r
      obtain ⟨ls, e, h1, h2⟩ := ih rr
      obtain ⟨its, rv, pl, hz⟩ := I.tuple hq
      refine ⟨(b, its.toArray) :: ls, by rw [e]; rfl, fun p hp => ?_, .cons (by simpa using rv) h2⟩
      rcases List.mem_cons.mp hp with rfl | hp
      · exact ⟨pl, by rw [List.size_toArray, ← rv.length, hl]⟩
      · exact h1 p hp
theorem src_all2 : ∀ {ls : List (Addr × Array Value)} {rows : List (List V)} (n : Nat), All2 (fun (p : Addr × Array Value) r => Vals r p.2.toList) ls rows → All2 (fun (p : ZSrc) r => Vals r p.xs.toList) (srcs n ls) rows
  | [], [], _, _ => .nil
  | p :: ls, r :: rs, n, .cons h t => .cons h (src_all2 (n + 1) t)
theorem za_of {n : Nat} {ls : List (Addr × Array Value)} (h : ∀ p ∈ ls, (p.1 : Nat) < n) : ZA (n + ls.length + 2) (n + ls.length) (n + ls.length + 1) (srcs n ls) (n + ls.length + 3) := by
  have hi : ∀ p ∈ srcs n ls, n ≤ p.it ∧ (p.it : Nat) < n + ls.length := fun p hp => srcs_it hp
  have hl : ∀ p ∈ srcs n ls, (p.l : Nat) < n := fun p hp => h _ (srcs_src hp)
  have a1 : ∀ {x : Nat} {k : Nat}, x < n + ls.length → n + ls.length + k ≠ x := fun {x k} hx => Nat.ne_of_gt (Nat.lt_of_lt_of_le hx (Nat.le_add_right _ _))
  have a2 : ∀ {x : Nat} {k : Nat}, x < n → n + ls.length + k ≠ x := fun {x k} hx => Nat.ne_of_gt (Nat.lt_of_lt_of_le hx (Nat.le_trans (Nat.le_add_right _ _) (Nat.le_add_right _ _)))
  refine ⟨srcs_nd ls n, ?_, ?_, ?_, fun p hp => ⟨a1 (hi p hp).2, a1 (k := 0) (hi p hp).2, a1 (hi p hp).2⟩, fun p hp => ⟨a2 (hl p hp), a2 (hl p hp)⟩, fun p hp q hq e => ?_, ?_, ?_, ?_, fun p hp => Nat.lt_of_lt_of_le (hi p hp).2 (Nat.le_add_right _ _), fun p hp => Nat.lt_of_lt_of_le (hl p hp) (Nat.le_trans (Nat.le_add_right _ _) (Nat.le_add_right _ _))⟩
  · show (n + ls.length : Nat) ≠ n + ls.length + 2; omega
  · show (n + ls.length + 1 : Nat) ≠ n + ls.length + 2; omega
  · show (n + ls.length : Nat) ≠ n + ls.length + 1; omega
  · exact absurd (Nat.lt_of_le_of_lt (hi p hp).1 (by rw [e]; exact hl q hq)) (Nat.lt_irrefl _)
  · show (n + ls.length + 2 : Nat) < n + ls.length + 3; omega
  · show (n + ls.length : Nat) < n + ls.length + 3; omega
  · show (n + ls.length + 1 : Nat) < n + ls.length + 3; omega
/-- list(zip( *e)) -/
def tLZipS (K : PySem.W.Frag) (te : TE) : TE := fun σ H Q => te σ H fun x H1 => ∃ a rs N rows, x = .ref a ∧ (SqT K H1 a rs ∨ SqL K H1 a rs) ∧ rs ≠ [] ∧ rs.length ≤ 6 ∧ N ≤ sizeLine ∧ RowsV K H1 N rs rows ∧
  ∀ (H' : Hp) (p : Addr) (ts : List Addr), Same H1 H' → H1 p = none → H' p = some (.lst (ts.map V.ref)) → ts.length = N → (∀ (j : Nat) (t : Addr), ts[j]? = some t → H1 t = none ∧ H' t = some (.tup (colV rows j))) → Q (.ref p) H'
theorem pe_lzipS {e : Expr} {te : TE} {p p2 p3 pos pos2 : Pos} (hc : X.calm = true) (hg : Gl X "list") (hm : X.mg "list" = none) (hg2 : Gl X "zip") (hm2 : X.mg "zip" = none) (hv : bootBuiltins "list" = some (.type "list")) (ha : PE X e te)
    (hs : starEach [.Call (.Name "zip" p2) [.Starred e p3] [] pos2] X.env = (false, eval (.Call (.Name "zip" p2) [.Starred e p3] [] pos2) X.env) :: starEach [] X.env := by rfl)
    (hs2 : starEach [.Starred e p3] X.env = [(true, eval e X.env)] := by rfl) :
    PE X (.Call (.Name "list" p) [.Call (.Name "zip" p2) [.Starred e p3] [] pos2] [] pos) (tLZipS X.K te) := by
  refine ⟨fun pins s σ H Q I hq => ?_⟩
  refine wpAny_Call_Name_kw (ld_blt I hg hm hv ?_)
  refine PyProof.Rows.callWith_type1 ?_ hs rfl
  rw [hs]
  show wpAny _ _ (spliced ((false, eval (.Call (.Name "zip" p2) [.Starred e p3] [] pos2) X.env) :: backTo pos (starEach [] X.env))) _ _ s
  refine Calls.spliced_cons ?_
  refine wpAny_Call_Name_kw (ld_blt I hg2 hm2 PyProof.Rows.boot_zip ?_)
  rw [hs2]
  refine PySem.W.ks_call (P := fun _ => True) rfl (fun _ _ => ⟨.machine, .inr (.inl rfl), PySem.W.Looks.of_pure rfl⟩) (PySem.W.ks_lone (thn (ha.run pins s σ H _ I hq) fun v s1 ⟨y, H1, I1, ry, q1⟩ => ?_))
  obtain ⟨a, rs, N, rows, rfl, hrs, hne, hlen, hN, hrows, q⟩ := q1
  obtain rfl : v = Value.ref a := ry
  refine StX.star_any I1 hrs fun us s2 I2 rv => ⟨True.intro, ?_⟩
  obtain ⟨ls, rfl, h1, h2⟩ := rows_src I2 hrows rv
  have ll : ls.length = rs.length := by have := rv.length; rw [List.length_map] at this; exact this.symm
  show wpAny _ _ (call (.type "zip") ([] ++ ls.map fun p => Value.ref p.1)) _ _ s2
  rw [List.nil_append]
  refine call_zipN (fun p hp => (h1 p hp).1) (by rw [ll]; exact hlen) fun h' hz hI hO hat hsz hk => ?_
  have I3 : Inv X pins σ H1 { s2 with heap := h' } := I2.kept (t' := s2.toks) hk
  refine Calls.spliced_nil ?_
  have lt : ∀ p ∈ ls, (p.1 : Nat) < s2.heap.objs.size := fun p hp => by
    obtain ⟨o, ho, _⟩ := (h1 p hp).1
    exact Heap.lt_size ho
  have S0 := za_of lt
  rw [← hsz] at S0
  obtain ⟨ys0, hTO, hy0⟩ := hO
  have hne' : srcs s2.heap.objs.size ls ≠ [] := fun e => hne (by
    have := srcs_len ls s2.heap.objs.size
    rw [e] at this
    exact List.eq_nil_of_length_eq_zero (by rw [← ll, ← this]; rfl))
  have hN' : ∀ p ∈ srcs s2.heap.objs.size ls, p.xs.size = N := fun p hp => (h1 _ (srcs_src hp)).2
  have hle : (srcs s2.heap.objs.size ls).length ≤ sizeLine := by rw [srcs_len, ll]; exact Nat.le_trans hlen (by rw [sizeLine_eq]; decide)
  refine call_list_zipN (s := { s2 with heap := h' }) (ps := srcs s2.heap.objs.size ls) (N := N) (I2.ok.hd hc) S0 hle hne' hN' hN hz hTO (by rw [hy0, srcs_len]) hI hat fun h3 tk acc c as hk2 hS hl hG hacc => ?_
  have hk3 : ∀ b o, s2.heap.get? b = some o → h3.get? b = some o := fun b o e => by
    have hb : (b : Nat) < s2.heap.objs.size := Heap.lt_size e
    have hb' : (b : Nat) < s2.heap.objs.size + ls.length := Nat.lt_of_lt_of_le hb (Nat.le_add_right _ _)
    exact hk2 b o (Nat.ne_of_lt (Nat.lt_of_lt_of_le hb' (Nat.le_add_right _ _))) (Nat.ne_of_lt (Nat.lt_of_lt_of_le hb' (Nat.le_add_right _ _))) (fun p hp => Nat.ne_of_lt (Nat.lt_of_lt_of_le hb (srcs_it hp).1)) (hk b o e)
  have hSs : s2.heap.objs.size ≤ h'.objs.size := by rw [hsz]; exact Nat.le_trans (Nat.le_add_right _ _) (Nat.le_add_right _ _)
  obtain ⟨H', k1', k2', k3', k4', J⟩ := zn_laid (tk := tk) (S := h'.objs.size) I2 hSs hN hle (src_all2 _ h2) hN' hk3 hS hl hG hacc
  exact ⟨.ref _, H', J, rfl, q H' _ as k1' k2' k3' hl k4'⟩
end
end Ow

set_option Elab.async false
set_option linter.all false
set_option maxRecDepth 100000
set_option maxHeartbeats 4000000
namespace Ow
open PySem PySem.Spec PyProof.Rows L2
/-! ### for x, y in zip(a, b): each a list or a tuple -/
def SqV (k : SqK) (K : PySem.W.Frag) (H : Hp) (a : Addr) (xs : List V) : Prop := match k with
  | .lst => SqL K H a xs
  | .tup => SqT K H a xs
section
variable {X : Cx} {pins : List (Addr × Obj)} {σ : L2.St} {H : Hp} {s : Shared} {k : SqK} {a : Addr} {xs ys : List V}
theorem sqV_is (I : Inv X pins σ H s) (h : SqV k X.K H a xs) : ∃ its : List Value, k.Is s.heap a its.toArray ∧ Vals xs its ∧ xs.length ≤ sizeLine := by
  cases k with
  | lst =>
    obtain ⟨its, rv, pl, hz⟩ := I.list h
    exact ⟨its, pl.isList, rv, hz⟩
  | tup =>
    obtain ⟨its, rv, pl, hz⟩ := I.tuple h
    exact ⟨its, pl, rv, hz⟩
theorem sqV_inj (I : Inv X pins σ H s) (h : SqV k X.K H a xs) (g : SqV k X.K H a ys) : xs = ys := by
  cases k with
  | lst => exact I.list_inj h g
  | tup => exact I.tuple_inj h g
end
/-- the two as they stand at each turn, the items in new pairs -/
def ItzK (K : PySem.W.Frag) (k1 k2 : SqK) (a b : Addr) : It :=
  ⟨fun i H => ∃ (xs ys : List V) (x y : V), SqV k1 K H a xs ∧ SqV k2 K H b ys ∧ xs[i]? = some x ∧ ys[i]? = some y,
    fun i H v H' => ∃ T x y, v = .ref T ∧ H T = none ∧ H' = upd H T (.tup [x, y]) ∧ (∀ xs, SqV k1 K H a xs → xs[i]? = some x) ∧ ∀ ys, SqV k2 K H b ys → ys[i]? = some y,
    fun i H => ∃ xs ys : List V, SqV k1 K H a xs ∧ SqV k2 K H b ys ∧ i = min xs.length ys.length⟩
theorem turn_zipK {P : Program} {w : World} {K : PySem.W.Frag} {elts : List Expr} {kk : Nat} {tpos : Pos} {k1 k2 : SqK} {a b z TI TO i1 i2 : Addr} (D : ZipSep2 z TI TO i1 i2 [i1, a] [i2, b]) (na : a ≠ i1) (nb : b ≠ i2) :
    Turn P w K (.Tuple elts kk tpos) (ItzK K k1 k2 a b) [z, TI, TO, i1, i2] z (fun i h => IsZip h z TI TO .none ∧ IsTupOf2 h TI (.ref i1) (.ref i2) ∧ (∃ x y, IsTupOf2 h TO x y) ∧ k1.It h i1 a i ∧ k2.It h i2 b i) where
  mem := by simp
  obj := fun i h st c hc => by
    obtain ⟨hz, hTI, ⟨x, y, hTO⟩, h1, h2⟩ := st
    have e' : c = z ∨ c = TI ∨ c = TO ∨ c = i1 ∨ c = i2 := by simpa using hc
    have ob : ∀ {k : SqK} {i1 a : Addr}, k.It h i1 a i → ∃ o, h.get? i1 = some o ∧ ∀ v, o.data ≠ .cell v := fun {k i1 a} h1 => by
      cases k with
      | lst => obtain ⟨o1, e1, _, d1⟩ := h1; exact ⟨o1, e1, fun v q => by rw [d1] at q; cases q⟩
      | tup => obtain ⟨o1, e1, _, d1⟩ := h1; exact ⟨o1, e1, fun v q => by rw [d1] at q; cases q⟩
    rcases e' with q | q | q | q | q
    · rw [q]; exact ⟨_, hz, fun v q => nomatch q⟩
    · rw [q]; exact ⟨_, hTI, fun v q => nomatch q⟩
    · rw [q]; exact ⟨_, hTO, fun v q => nomatch q⟩
    · rw [q]; exact ob h1
    · rw [q]; exact ob h2
  keep := fun i h h' st k => by
    obtain ⟨hz, hTI, ⟨x, y, hTO⟩, h1, h2⟩ := st
    exact ⟨k z (by simp) _ hz, k TI (by simp) _ hTI, ⟨x, y, k TO (by simp) _ hTO⟩, h1.keep fun o q => k i1 (by simp) o q, h2.keep fun o q => k i2 (by simp) o q⟩
  item := by
    intro X hP hw hK hc i pins s σ H E I hf st hg
    subst hP hw hK
    obtain ⟨hz, hTI, ⟨x0, y0, hTO⟩, h1, h2⟩ := st
    obtain ⟨xs, ys, x, y, hqx, hqy, hx, hy⟩ := hg
    obtain ⟨its, p, rv, _⟩ := sqV_is I hqx
    obtain ⟨its2, p2, rv2, _⟩ := sqV_is I hqy
    obtain ⟨u, hu, ru⟩ := rv.get hx
    obtain ⟨u2, hu2, ru2⟩ := rv2.get hy
    have hzl : z < s.heap.objs.size := Heap.lt_size hz
    have hh := I.ok.hd hc
    have D1 : Draws X.prog X.w X.A.in1 i1 [i1, a] its.toArray.size (fun i v => its.toArray[i]? = some v) (fun i h => k1.It h i1 a i ∧ k1.Is h a its.toArray) := SqK.draws (A := X.A.in1) hh i1 a na _
    have D2 : Draws X.prog X.w X.A.in1 i2 [i2, b] its2.toArray.size (fun i v => its2.toArray[i]? = some v) (fun i h => k2.It h i2 b i ∧ k2.Is h b its2.toArray) := SqK.draws (A := X.A.in1) hh i2 b nb _
    have l1 : i < its.toArray.size := by rw [List.size_toArray]; exact (List.getElem?_eq_some_iff.mp hu).1
    have l2 : i < its2.toArray.size := by rw [List.size_toArray]; exact (List.getElem?_eq_some_iff.mp hu2).1
    refine wpAny_pyNext_zipD2_item D D1 D2 hz hTI hTO ⟨h1, p⟩ ⟨h2, p2⟩ l1 l2 fun x1 x2 h' tk e1 e2 z' TO' h1' h2' hT hsz hk => ?_
    obtain rfl : u = x1 := by rw [List.getElem?_toArray, hu] at e1; exact Option.some.inj e1
    obtain rfl : u2 = x2 := by rw [List.getElem?_toArray, hu2] at e2; exact Option.some.inj e2
    refine ⟨_, rfl, wpAny_letOwnedTupleGo_zip (s := { s with heap := h', toks := tk }) z' fun h'' z'' sb => ?_⟩
    have hT2 : h''.get? s.heap.objs.size = some { cls := .type "tuple", data := .seq #[u, u2] } := (sb.2 _ (Nat.ne_of_gt hzl)).trans hT
    have new : ObjOk X.prog X.w (upd H s.heap.objs.size (.tup [x, y])) h'' s.heap.objs.size (.tup [x, y]) :=
      ⟨by show 2 ≤ sizeLine; decide, [u, u2], .cons ru (.cons ru2 .nil), ⟨_, hT2, rfl, _, rfl⟩⟩
    have I1 : Inv X pins σ (upd H s.heap.objs.size (.tup [x, y])) { s with heap := h'', toks := tk } :=
      I.turnedNew (t' := tk) (ch := [z, TI, TO, i1, i2]) (fun c o hb q => (sb.2 c (fun q' => hb (by simp [q']))).trans (hk c o (fun q' => hb (by simp [q'])) (fun q' => hb (by simp [q'])) (fun q' => hb (by simp [q'])) (fun q' => hb (by simp [q'])) q)) hf (Nat.le_refl _) new
    refine ⟨.ref s.heap.objs.size, _, I1, rfl, ⟨_, x, y, rfl, I.hok.fresh (Nat.le_refl _), rfl, fun l hl => by rw [sqV_inj I hl hqx]; exact hx, fun l hl => by rw [sqV_inj I hl hqy]; exact hy⟩, ⟨z'', ?_, ⟨u, u2, ?_⟩, ?_, ?_⟩, fun c hcm => ?_⟩
    · exact (sb.2 _ D.TIz).trans (hk _ _ D.TIz D.TITO D.TIi1 D.TIi2 hTI)
    · exact (sb.2 _ D.TOz).trans TO'
    · exact h1'.1.keep fun o q => (sb.2 _ D.zi1.symm).trans q
    · exact h2'.1.keep fun o q => (sb.2 _ D.zi2.symm).trans q
    · have il : ∀ {k : SqK} {j b : Addr}, k.It s.heap j b i → j < s.heap.objs.size := fun {k j b} h => by
        cases k with
        | lst => obtain ⟨_, e1, _⟩ := h; exact Heap.lt_size e1
        | tup => obtain ⟨_, e1, _⟩ := h; exact Heap.lt_size e1
      have hlt : c < s.heap.objs.size := by
        have e' : c = z ∨ c = TI ∨ c = TO ∨ c = i1 ∨ c = i2 := by simpa using hcm
        rcases e' with q | q | q | q | q
        · rw [q]; exact hzl
        · rw [q]; exact Heap.lt_size hTI
        · rw [q]; exact Heap.lt_size hTO
        · rw [q]; exact il h1
        · rw [q]; exact il h2
      rw [upd_ne (Nat.ne_of_lt hlt)]
      exact (hf c hcm).1
  done := by
    intro X hP hw hK hc i pins s σ H E I hf st hg
    subst hP hw hK
    obtain ⟨hz, hTI, ⟨x0, y0, hTO⟩, h1, h2⟩ := st
    obtain ⟨xs, ys, hqx, hqy, hend⟩ := hg
    obtain ⟨its, p, rv, _⟩ := sqV_is I hqx
    obtain ⟨its2, p2, rv2, _⟩ := sqV_is I hqy
    have l1 := rv.length
    have l2 := rv2.length
    have hh := I.ok.hd hc
    have D1 : Draws X.prog X.w X.A.in1 i1 [i1, a] its.toArray.size (fun i v => its.toArray[i]? = some v) (fun i h => k1.It h i1 a i ∧ k1.Is h a its.toArray) := SqK.draws (A := X.A.in1) hh i1 a na _
    have D2 : Draws X.prog X.w X.A.in1 i2 [i2, b] its2.toArray.size (fun i v => its2.toArray[i]? = some v) (fun i h => k2.It h i2 b i ∧ k2.Is h b its2.toArray) := SqK.draws (A := X.A.in1) hh i2 b nb _
    exact wpAny_pyNext_zipD2_end D D1 D2 hz hTI hTO ⟨h1, p⟩ ⟨h2, p2⟩ (by rw [List.size_toArray]; omega) (by rw [List.size_toArray]; omega) (by rw [List.size_toArray, List.size_toArray]; omega) fun h' tk hk => ⟨rfl, I.turnedL (t' := tk) (ch := [z, TI, TO, i1, i2]) (fun c o hb q =>
      hk c o (fun q' => hb (by simp [q'])) (fun q' => hb (by simp [q'])) (fun q' => hb (by simp [q'])) (fun q' => hb (by simp [q'])) q) hf⟩
  self := fun A i s Q E st h => wpAny_pyIter_zip st.1 h
def iZipK (K : PySem.W.Frag) (ta : TA) : TI := fun σ H R => ta σ H fun vs H1 => ∃ k1 k2 a b xs ys, vs = [.ref a, .ref b] ∧ SqV k1 K H1 a xs ∧ SqV k2 K H1 b ys ∧ R (ItzK K k1 k2 a b) H1
theorem pi_zipK {X : Cx} {e e2 : Expr} {ta : TA} {p pos tpos : Pos} {elts : List Expr} {kk : Nat} (hg : Gl X "zip") (hm : X.mg "zip" = none) (ha : PA X [e, e2] ta)
    (hs : starEach [e, e2] X.env = (false, eval e X.env) :: starEach [e2] X.env := by rfl) (hpl : (backTo pos (starEach [e2] X.env)).any (·.1) = false := by rfl) :
    PI X (.Tuple elts kk tpos) (.Call (.Name "zip" p) [e, e2] [] pos) (iZipK X.K ta) := by
  refine ⟨fun pins s σ H R I h => ?_⟩
  refine Call_ (ld_blt I hg hm PyProof.Rows.boot_zip (PyProof.Rows.callWith_type1 (thn (ha.run pos pins s σ H _ I h) fun us s1 ⟨vs, H1, I1, r1, q1⟩ => ?_) hs hpl))
  obtain ⟨k1, k2, a, b, xs, ys, ex, hqx, hqy, q⟩ := q1
  subst ex
  cases r1 with
  | cons r rr =>
    cases rr with
    | cons r' rr =>
      cases rr
      cases r
      cases r'
      obtain ⟨its, p1, rv, _⟩ := sqV_is I1 hqx
      obtain ⟨its2, p2, rv2, _⟩ := sqV_is I1 hqy
      have la := p1.lt
      have lb := p2.lt
      refine call_zipK p1 p2 fun h' hz hTI hTO h1 h2 hsz hk => wpAny_pyIter_zip hz ?_
      have I2 : Inv X pins σ H1 { s1 with heap := h' } := I1.kept (t' := s1.toks) hk
      have Z := zp_of s1.heap.objs.size a b la lb
      refine ⟨s1.heap.objs.size + 4, [s1.heap.objs.size + 4, s1.heap.objs.size + 2, s1.heap.objs.size + 3, s1.heap.objs.size, s1.heap.objs.size + 1], _, _, H1, rfl, I2, turn_zipK (k1 := k1) (k2 := k2) Z.sep Z.n1 Z.n2, ⟨hz, hTI, ⟨_, _, hTO⟩, h1, h2⟩, fun c hcm => ?_, q⟩
      have e' : c = s1.heap.objs.size + 4 ∨ c = s1.heap.objs.size + 2 ∨ c = s1.heap.objs.size + 3 ∨ c = s1.heap.objs.size ∨ c = s1.heap.objs.size + 1 := by simpa using hcm
      have hle : s1.heap.objs.size ≤ c := by
        rcases e' with z | z | z | z | z
        · rw [z]; exact Nat.le_add_right _ _
        · rw [z]; exact Nat.le_add_right _ _
        · rw [z]; exact Nat.le_add_right _ _
        · rw [z]; exact Nat.le_refl _
        · rw [z]; exact Nat.le_add_right _ _
      exact I1.fpOk hle (I1.hok.fresh hle)
theorem walk_zipK {K : PySem.W.Frag} {k1 k2 : SqK} {a b : Addr} {xs ys : List V} : Walk (ItzK K k1 k2 a b) (min xs.length ys.length) (fun H => SqV k1 K H a xs ∧ SqV k2 K H b ys) (YPair (fun i => xs[i]?) (fun i => ys[i]?)) := by
  refine ⟨fun i _ hi q => ?_, fun _ q => ⟨xs, ys, q.1, q.2, rfl⟩, fun i H v H' _ q y => ?_⟩
  · have h1 : i < xs.length := by omega
    have h2 : i < ys.length := by omega
    exact ⟨xs, ys, xs[i], ys[i], q.1, q.2, by simp [h1], by simp [h2]⟩
  · obtain ⟨T, x, z, h1, h2, h3, h4, h5⟩ := y
    exact ⟨T, x, z, h1, h2, h3, h4 xs q.1, h5 ys q.2⟩
end Ow

set_option Elab.async false
set_option linter.all false
set_option maxRecDepth 100000
set_option maxHeartbeats 4000000
set_option exponentiation.threshold 3000
namespace Ow
open PySem PySem.Spec PyProof.Rows L2
theorem perm_map_inv {α β : Type} {f : α → β} (g : β → α) (hg : ∀ a, g (f a) = a) {ys : List β} {l : List α} (h : ys.Perm (l.map f)) : ∃ cs : List α, ys = cs.map f ∧ cs.Perm l := by
  refine ⟨ys.map g, ?_, ?_⟩
  · rw [List.map_map]
    have : ys.map (f ∘ g) = ys.map id := List.map_congr_left fun y hy => by
      obtain ⟨a, _, rfl⟩ := List.mem_map.mp (h.mem_iff.mp hy)
      show f (g (f a)) = f a
      rw [hg]
    rw [this, List.map_id]
  · have := h.map g
    rw [List.map_map] at this
    have e : l.map (g ∘ f) = l := by
      have : l.map (g ∘ f) = l.map id := List.map_congr_left fun a _ => hg a
      rw [this, List.map_id]
    rw [e] at this
    exact this
/-! ### sorted names -/
theorem asc_from : ∀ (r : List Str) (p : Str), (p :: r).Nodup → risingS p r = true → ascB (p :: r) = true
  | [], p, _, _ => rfl
  | x :: r, p, nd, h => by
    have nd' := List.nodup_cons.mp nd
    unfold risingS at h
    rw [Bool.and_eq_true] at h
    have ih := asc_from r x nd'.2 h.2
    show (ltS p x && ascB (x :: r)) = true
    rw [ih, Bool.and_true]
    unfold ltS
    rw [lt_meets]
    cases e : ltCps p.cps.toList x.cps.toList with
    | true => rfl
    | false =>
      have h1 : ltCps x.cps.toList p.cps.toList = false := by
        have := h.1
        cases q : ltCps x.cps.toList p.cps.toList with
        | true => rw [q] at this; cases this
        | false => rfl
      exact absurd (by rw [str_ext (ltCps_tri _ _ e h1)]; exact List.mem_cons_self : p ∈ x :: r) nd'.1
theorem asc_of : ∀ {ys : List Str}, ys.Nodup → sortedS ys = true → ascB ys = true
  | [], _, _ => rfl
  | y :: ys, nd, h => asc_from ys y nd h
theorem issues_of {zs ys : List Str} (pm : ys.Perm zs) (so : sortedS ys = true) (nd : zs.Nodup) (h1 : 1 ≤ zs.length) (h6 : zs.length ≤ 6) (hn : ∀ z ∈ zs, nameB (.str z) = true) : issuesB ys = true := by
  have l := pm.length_eq
  unfold issuesB namesB
  rw [asc_of (pm.nodup_iff.mpr nd) so, decide_eq_true (by omega), decide_eq_true (by omega)]
  have : (ys.all fun z => nameB (.str z)) = true := List.all_eq_true.mpr fun z hz => hn z (pm.mem_iff.mp hz)
  rw [this]
  rfl
/-- names as they are drawn, sorted -/
structure NamesOk (n : Nat) (zs : List Str) : Prop where
  len : zs.length = n
  h1 : 1 ≤ n
  h6 : n ≤ 6
  nd : zs.Nodup
  so : sortedS zs = true
  nm : ∀ z ∈ zs, nameB (.str z) = true
structure TabsOk (v n : Nat) (rs : List (List Int)) : Prop where
  len : rs.length = n
  g : ∀ r ∈ rs, GoodT v r
theorem NamesOk.all {v n : Nat} {zs : List Str} (h : NamesOk n zs) {tab : Str → List Int} (hg : ∀ z ∈ zs, GoodT v (tab z)) : AllOk v zs tab :=
  ⟨hg, by have := h.len; have := h.h6; omega, h.nd, fun z hz => by have := name_fit (h.nm z hz); exact ⟨by omega, this.2⟩, fun ys pm so => issues_of pm so h.nd (by have := h.len; have := h.h1; omega) (by have := h.len; have := h.h6; omega) h.nm⟩
theorem NamesOk.tab {v n : Nat} {zs : List Str} {rs : List (List Int)} (h : NamesOk n zs) (g : TabsOk v n rs) : zs.map (tabOf zs rs) = rs := tab_all h.nd (by rw [h.len, g.len])
theorem NamesOk.good {v n : Nat} {zs : List Str} {rs : List (List Int)} (h : NamesOk n zs) (g : TabsOk v n rs) : ∀ z ∈ zs, GoodT v (tabOf zs rs z) := fun z hz => by
  have : tabOf zs rs z ∈ zs.map (tabOf zs rs) := List.mem_map.mpr ⟨z, hz, rfl⟩
  rw [h.tab g] at this
  exact g.g _ this

abbrev seven : List Str := ["a", "b", "c", "p", "q", "zz", "yes"]
theorem seven_ok : seven.Nodup ∧ seven.length = 7 ∧ ∀ z ∈ seven, nameB (.str z) = true := by decide +kernel
theorem cutW_take {xs : List V} {i : Nat} (h : i ≤ xs.length) : cutV xs none (some (i : Int)) = xs.take i := by
  unfold cutV
  have e : HT.sIx xs.length xs.length (some (i : Int)) = min i xs.length := HT.sIx_nat xs.length xs.length i
  have e0 : HT.sIx xs.length 0 none = 0 := rfl
  rw [e, e0, Nat.min_eq_left h]
  show (xs.drop 0).take (i - 0) = _
  rw [List.drop_zero, Nat.sub_zero]
/-- the drawn names -/
theorem drawn_ok {n : Nat} {us zs : List Str} (h1 : 1 ≤ n) (h4 : n ≤ 4) (pu : us.Perm seven) (pz : zs.Perm (us.take n)) (so : sortedS zs = true) : NamesOk n zs := by
  obtain ⟨nd, l7, nm⟩ := seven_ok
  have lu := pu.length_eq
  have ndu := pu.nodup_iff.mpr nd
  refine ⟨?_, h1, by omega, ?_, so, fun z hz => ?_⟩
  · rw [pz.length_eq, List.length_take, lu, l7]
    omega
  · exact pz.nodup_iff.mpr (ndu.sublist (List.take_sublist n us))
  · exact nm z (pu.mem_iff.mp (List.mem_of_mem_take (pz.mem_iff.mp hz)))
/-! ### sets of voters as data -/
def setsD (rs : List (List Int)) : List PyData := rs.map rowD
theorem win_sub {v : Nat} {t : List Int} {c : Int} : ∀ ns ∈ winnersN v t c, ns ∈ setsS v := fun ns h => (List.mem_filter.mp h).1
theorem set_fit {v : Nat} (hv : v < 5) {ns : List Int} (h : ns ∈ setsS v) : Fit (rowD ns) 1 20 := by
  obtain ⟨l4, hn, _⟩ := sets_fit v hv ns h
  refine (Fit.tuple (ds := ns.map PyData.int) (k := 0) (w := 2) fun d hd => ?_).mono (Nat.le_refl _) (by rw [List.length_map]; omega)
  obtain ⟨i, hi, rfl⟩ := List.mem_map.mp hd
  obtain ⟨a, b⟩ := hn i hi
  have e : i = ((i.toNat : Nat) : Int) := by omega
  rw [e]
  exact Fit.nat (by omega)
theorem two_fit {v : Nat} (hv : v < 5) {t : List Int} {c : Int} : Fit (.list [.tuple (setsD (winnersN v t c)), .tuple (setsD (winnersN v t c))]) 3 1000 := by
  have l16 : (winnersN v t c).length ≤ 16 := Nat.le_trans (List.length_filter_le _ _) ((by decide : ∀ v < 5, (setsS v).length ≤ 16) v hv)
  have f : Fit (.tuple (setsD (winnersN v t c))) 2 400 := (Fit.tuple (k := 1) (w := 20) fun d hd => by
    obtain ⟨ns, hns, rfl⟩ := List.mem_map.mp hd
    exact set_fit hv (win_sub ns hns)).mono (Nat.le_refl _) (by unfold setsD; rw [List.length_map]; omega)
  refine (Fit.list (k := 2) (w := 400) fun d hd => ?_).mono (Nat.le_refl _) (by show 402 * 2 + 3 ≤ 1000; decide)
  rcases List.mem_cons.mp hd with rfl | hd
  · exact f
  · rw [List.mem_singleton.mp hd]
    exact f
theorem any_eqv {ns : List Int} : ∀ {rs : List (List Int)}, ((setsD rs).any fun z => PyData.eqv z (rowD ns)) = decide (ns ∈ rs)
  | [] => rfl
  | r :: rs => by
    have ih := any_eqv (ns := ns) (rs := rs)
    unfold setsD at ih ⊢
    rw [List.map_cons, List.any_cons, ih, eqv_row, Bool.eq_iff_iff, Bool.or_eq_true, decide_eq_true_iff, decide_eq_true_iff, decide_eq_true_iff, List.mem_cons]
    exact ⟨fun h => h.elim (fun e => .inl e.symm) .inr, fun h => h.elim (fun e => .inl e.symm) .inr⟩
theorem sets_shaped (rs : List (List Int)) : SeqAt.shaped (.list (setsD rs)) = true := by
  unfold SeqAt.shaped setsD
  have h : PyData.canLay0 (.list (rs.map rowD)) = true := lay_alls rs
  have g : PyData.depth (.list (rs.map rowD)) ≤ 64 := by
    show PyData.depthAll (rs.map rowD) + 1 ≤ 64
    have := depth_alls rs
    omega
  rw [h, decide_eq_true g]
  rfl
end Ow

set_option Elab.async false
set_option linter.all false
set_option maxRecDepth 100000
set_option maxHeartbeats 4000000
set_option exponentiation.threshold 3000
namespace Ow
open PySem PySem.Spec PyProof.Rows L2
abbrev rgN : List Str := ["jug", "size", "voters", "names", "tables", "plain", "rule", "whole", "name", "table", "value", "due", "some", "rest", "told", "voter", "step", "heard", "turn", "at"]
theorem scRight : FnScope rgN ["jug"] (defScope dRight) := ⟨rfl, rfl, rfl, by decide +kernel, rfl, by decide +kernel, by decide +kernel⟩
def sTab : Scope := { kind := .function, names := [(".0", .local), ("table", .cell), ("range", .globalImplicit), ("len", .globalImplicit), ("step", .cell)], isGenerator := false, isCoroutine := false }
def sAt : Scope := { kind := .function, names := [(".0", .local), ("at", .local), ("_law_flipped", .globalImplicit), ("step", .free), ("table", .free)], isGenerator := false, isCoroutine := false }
def spRight : Sp := fun vs H Q _ => ∃ J : Addr, vs = [.ref J] ∧ Jug H J ∧ ∀ H', Sb J H H' → Jug H' J → Q (.bl true) H'
theorem shaped_ints (ns : List Int) : SeqAt.shaped (.list (ns.map .int)) = true := by
  unfold SeqAt.shaped
  have h : PyData.canLay0 (.list (ns.map .int)) = true := lay_ints ns
  have g : PyData.depth (.list (ns.map .int)) ≤ 64 := by
    show PyData.depthAll (ns.map .int) + 1 ≤ 64
    rw [depth_ints]
    decide
  rw [h, decide_eq_true g]
  rfl
theorem none_any {α : Type} {p : α → Bool} (l : List α) : (!decide (l.filter p = [])) = l.any p := by
  rw [Bool.eq_iff_iff, Bool.not_eq_true', decide_eq_false_iff_not, List.filter_eq_nil_iff, List.any_eq_true]
  constructor
  · intro h
    exact Classical.byContradiction fun n => h fun a ha hp => n ⟨a, ha, hp⟩
  · rintro ⟨a, ha, hp⟩ h
    exact h a ha hp
theorem PS.of2 {X : Cx} {st : Stmt} {t t' : TS} (h : PS X st t) (k : ∀ D σ H, t' D σ H → t D σ H) : PS X st t' :=
  ⟨fun pins s σ H D I q => h.run pins s σ H D I (k D σ H q)⟩
section
variable {P : Program} {w : World} {K : PySem.W.Frag} {mg : Str → Option Value} {base : Heap} {C : Addr}
def stmtR (i : Nat) : Stmt := (defBody dRight).getD i (.Pass ⟨0, 0, 0, 0⟩)
abbrev cxR (P : Program) (w : World) (K : PySem.W.Frag) (mg : Str → Option Value) (base : Heap) (f : Addr) (cdv : Value) (A : Around) (outer : List Env) (s : Shared) (H : Hp) (E : XK) : Cx := (cxOf CX0 P w K mg base rgN "_law_right" (defScope dRight) f cdv A outer s H E).nox
abbrev stR (J : Addr) (n v : Nat) (ln lt pl ru wh : Addr) (y8 y9 y10 y11 y12 y13 y14 y15 y16 y17 y18 y19 : Option V) : L2.St := [some (.ref J), some (.int n), some (.int v), some (.ref ln), some (.ref lt), some (.ref pl), some (.ref ru), some (.ref wh), y8, y9, y10, y11, y12, y13, y14, y15, y16, y17, y18, y19]
structure RightF (C : Addr) (v n : Nat) (zs : List Str) (rs : List (List Int)) (ln lt ru wh : Addr) (H : Hp) : Prop where
  hln : H ln = some (.lst (zs.map V.str))
  hlt : IsRows H (.ref lt) rs
  r : RuleAt C H ru v zs (tabOf zs rs)
  hwh : H wh = some (.tup (idxV v))
theorem RightF.same {C : Addr} {v n : Nat} {zs : List Str} {rs : List (List Int)} {ln lt ru wh : Addr} {H H' : Hp} (h : RightF C v n zs rs ln lt ru wh H) (s : Same H H') : RightF C v n zs rs ln lt ru wh H' :=
  ⟨s _ _ h.hln, h.hlt.tk (Tk.same s), h.r.tk (Tk.same s), s _ _ h.hwh⟩
def tHear (C : Addr) : TS := fun D σ H => ∃ (J : Addr) (v n : Nat) (zs : List Str) (rs : List (List Int)) (ln lt pl ru wh d0 : Addr) (y8 y9 y10 y12 y13 y14 y15 y16 y17 y18 y19 : Option V), NamesOk n zs ∧ TabsOk v n rs ∧ 1 ≤ v ∧ v ≤ 4 ∧ σ = stR J n v ln lt pl ru wh y8 y9 y10 (some (.ref d0)) y12 y13 y14 y15 y16 y17 y18 y19 ∧
  RightF C v n zs rs ln lt ru wh H ∧ H d0 = some (.lst []) ∧ ∀ H' L z15 z16 z17, Same H H' → H' L = some (.lst ((allHN v rs).map V.int)) → D.nx (stR J n v ln lt pl ru wh y8 y9 y10 (some (.ref L)) y12 y13 y14 z15 z16 z17 y18 y19) H'
theorem ps_hear {fA fF : Addr} {fdA fdF : FuncData} (FA : FnOk P w K mg base CX0 1 fA fdA ["size"] spRowsL) (kA : PySem.W.keepIn K (.ref fA) = true) (bA : Binds K fdA ["size"] []) (gA : mg "_law_all_rows" = some (.ref fA))
    (FF : FnOk P w K mg base CX0 1 fF fdF ["table", "at", "step"] spFlip) (kF : PySem.W.keepIn K (.ref fF) = true) (bF : Binds K fdF ["table", "at", "step"] []) (gF : mg "_law_flipped" = some (.ref fF))
    (mr : mg "range" = none) (ml : mg "len" = none) (mi : mg "int" = none)
    {f : Addr} {cdv : Value} {A : Around} {outer : List Env} {s : Shared} {H : Hp} {E : XK} (hr : Room 9 (A.deeper (envOfC "_law_right" (defScope dRight) s.heap.objs.size f cdv))) :
    PS (cxR P w K mg base f cdv A outer s H E) (stmtR 6) (tHear C) := by
  refine PS.of2 (ps_for PassesOwn.never rfl (pi_range1 (by rfl) mr (pa_cons (pv 2) pa_nil)) (pg_name (i := 15) scRight.nd rfl (.inl rfl))
    (pss_cons (ps_set (i := 16) scRight.nd rfl (.inr rfl) (pe_callB call_len_seq (by rfl) ml PySem.boot_len (pa_cons (pe_call FA (hr.mono (by decide)) (by rfl) gA kA bA .nil pass0 (pa_cons (pe_op op_sub (pe_op op_sub (pv 2) pe_int) (pv 15)) pa_nil)) pa_nil)))
    (pss_cons (ps_setLc (i := 17) (te := tVar 9) (own := [("table", 9)]) (g := gName 9) (tt := tTest (tOp (rNeD K) (tLc (iRng1 (tCons (tCB (fun xs H Q => ∃ p ys, xs = [.ref p] ∧ (SqL K H p ys ∨ SqT K H p ys) ∧ Q (.int ys.length) H) (tCons (tVar 9) tNil)) tNil)) (gName 19) (tTest (tOp rNe (tOp (rIxT K) (tVar 9) (tVar 19)) (tCall spFlip [] E0 (tCons (tVar 9) (tCons (tVar 19) (tCons (tVar 16) tNil)))))) (tC (.int 1)) ([(("at" : Str), 19)].map (·.2))) (tLst tNil))) rfl scRight.nd rfl rfl (sw_true rfl rfl rfl (by decide +kernel)) (pi_tup (pv 4)) (blkOk_by (N := rgN) (sc := defScope dRight) (by decide +kernel))
        (fun _ _ _ _ _ => pg_name (i := 9) scRight.nd rfl (Or.inr rfl))
        (fun _ _ _ _ _ => pts_one (pt_cmpR (op_neD (hu64 hr))
          (pe_lc (own := [("at", 19)]) (g := gName 19) rfl scRight.nd (pi_range1 (by rfl) mr (pa_cons (pe_callB call_len_seq (by rfl) ml PySem.boot_len (pa_cons (pv 9) pa_nil)) pa_nil)) (blkOk_by (N := rgN) (sc := sTab) (scope := sAt) (own := [("at", 19)]) (by decide +kernel))
            (fun _ _ _ _ _ => pg_name (i := 19) scRight.nd rfl (Or.inl rfl))
            (fun _ _ _ _ _ => pts_one (pt_cmpR op_ne (pe_ix ix_tup (pv 9) (pv 19) (fun _ _ => rfl)) (pe_call FF (hr.mono (by decide)) (by rfl) gF kF bF .nil pass0 (pa_cons (pv 9) (pa_cons (pv 19) (pa_cons (pv 16) pa_nil)))) (nomark _)))
            (fun _ _ _ _ _ => pe_int)) (pe_lst pa_nil) (nomark _)))
        (fun _ _ _ _ _ => pv 9))
    (pss_one (ps_set (i := 11) scRight.nd rfl (.inl rfl) (pe_op op_cat (pv 11) (pe_op op_rep (pe_lst (pa_cons (pv 15) pa_nil)) (pe_callTy call_int1 (by rfl) mi boot_int (pa_cons (pe_cmpR (op_neD (hu64 hr)) (pv 17) (pe_lst pa_nil) (nomark _)) pa_nil)))))))) ) ?red
  case red =>
  intro D0 σ Hs h
  obtain ⟨J, v, n, zs, rs, ln, lt, pl, ru, wh, d0, y8, y9, y10, y12, y13, y14, y15, y16, y17, y18, y19, hz, g, h1, h4, rfl, F, hd0, k⟩ := h
  obtain ⟨lt', xs, elt, hlt, hxs⟩ := F.hlt
  cases elt
  have lx := hxs.len
  have lr := g.len
  have n6 := hz.h6
  refine ⟨.int v, rfl, v, rfl, by omega, by omega, ?_⟩
  refine for_range (lo := 0) (n := v) (fun i σ Hx => ∃ L z15 z16 z17, σ = stR J n v ln lt pl ru wh y8 y9 y10 (some (.ref L)) y12 y13 y14 z15 z16 z17 y18 y19 ∧ Same Hs Hx ∧ Hx L = some (.lst (((List.range i).filter (heardP v rs)).map fun i : Nat => V.int (i : Int))))
    ⟨d0, y15, y16, y17, rfl, Same.refl _, hd0⟩ (fun i σ Hx hi ⟨L, z15, z16, z17, eσ, sx, eL⟩ => ?_) (fun σ Hx ⟨L, z15, z16, z17, eσ, sx, eL⟩ => ?_)
  · subst eσ
    have kv : v - 1 - i < v := by omega
    refine ⟨.int v, rfl, _, _, rfl, rfl, .int (0 + (i : Int)), rfl, _, _, rfl, rfl, v - 1 - i, ?_, by omega, fun H1 R rows s1 _ hR hrows => ?_⟩
    · have e : (v : Int) - 1 - (0 + (i : Int)) = ((v - 1 - i : Nat) : Int) := by omega
      exact congrArg (fun z => [V.int z]) e
    have lrow := hrows.len
    rw [rowsN_len] at lrow
    have s01 := sx.trans s1
    refine ⟨R, rows, rfl, .inl (.of hR), .ref lt, rfl, lt, rfl, ⟨_, .of (s01 _ _ hlt)⟩, fun D nD => ?_⟩
    rw [lrow]
    refine lc_it (walk_tup (K := K) (a := lt) (xs := xs)) (fun j Hy => Same H1 Hy ∧ ∃ ws, Hy D = some (.lst ws) ∧ All2 (IsRow Hy) ws ((rs.take j).filter fun r => hangsB r (2 ^ (v - 1 - i))))
      ⟨same_new nD, [], upd_same, .nil⟩ (fun j Hy _ h => .of (h.1 _ _ (s01 _ _ hlt))) (fun j x Hy Hy' hj ⟨sy, ws, eD, aw⟩ hY => ?_) (fun Hy ⟨sy, ws, eD, aw⟩ => ?_)
    · obtain ⟨rfl, hx⟩ := hY
      obtain ⟨r, hr, b, rfl, hb⟩ := hxs.get hx
      have gr := g.g r (List.mem_of_getElem? hr)
      have lr2 := gr.len
      have hb1 := sy _ _ (s01 _ _ hb)
      have l16 : 2 ^ v ≤ 16 := (by decide : ∀ v < 5, 2 ^ v ≤ 16) v (by omega)
      refine ⟨rfl, .ref b, rfl, b, _, rfl, .inr (.of hb1), ((r.map V.int).length : Int), rfl, by rw [List.length_map]; omega, by rw [List.length_map]; omega, fun D2 nD2 => ?_⟩
      refine lc_it (walk_range (lo := 0) (n := (r.map V.int).length)) (fun m Hw => Same Hy' Hw ∧ Hw D2 = some (.lst (((List.range m).filter fun i' => !decide (r.getD i' 0 = r.getD (i' ^^^ 2 ^ (v - 1 - i)) 0)).map fun _ => V.int 1)))
        ⟨same_new nD2, upd_same⟩ (fun _ _ _ _ => trivial) (fun m z Hw Hw' hm ⟨sw, ew⟩ hY2 => ?_) (fun Hw ⟨sw, ew⟩ => ?_)
      · obtain ⟨rfl, rfl⟩ := hY2
        rw [List.length_map] at hm
        have hbw := sw _ _ hb1
        have ga : (r.map V.int)[m]? = some (.int (r.getD m 0)) := by
          rw [List.getElem?_map, List.getD_eq_getElem?_getD, List.getElem?_eq_getElem hm]
          rfl
        refine ⟨rfl, .ref b, rfl, .int (0 + (m : Int)), rfl, b, _, _, .int (r.getD m 0), rfl, rfl, .of hbw, at_of (Int.zero_add _) ga, .ref b, rfl, .int (0 + (m : Int)), rfl, .int _, rfl, b, v, v - 1 - i, m, r, ?_, hbw, h4, kv, by omega, lr2, ?_⟩
        · rw [Int.zero_add]
          rfl
        refine ⟨rfl, _, rfl, ?_⟩
        have e0 : (!decide (V.int (r.getD m 0) = V.int (r.getD (m ^^^ 2 ^ (v - 1 - i)) 0))) = !decide (r.getD m 0 = r.getD (m ^^^ 2 ^ (v - 1 - i)) 0) := congrArg (!·) (decide_eq_decide.mpr ⟨fun e => V.int.inj e, fun e => congrArg V.int e⟩)
        rw [e0]
        cases ec : (!decide (r.getD m 0 = r.getD (m ^^^ 2 ^ (v - 1 - i)) 0)) with
        | true =>
          refine iteT ⟨_, ew, ?_, fun c' o ee => (upd_ne (ne_of_none ee nD2)).trans (sw _ _ ee), ?_⟩
          · rw [List.length_map]
            refine small60 (Nat.le_trans (List.length_filter_le _ _) ?_)
            rw [List.length_range]
            omega
          · rw [upd_same, range_next, if_pos ec, List.map_append]
            rfl
        | false =>
          refine iteF ⟨sw, ?_⟩
          rw [ew, range_next, if_neg (by rw [ec]; decide)]
      · rw [List.length_map] at ew
        refine ⟨Nat.zero_le _, fun E nE => ?_⟩
        have sE : Same Hw (upd Hw E (.lst [])) := same_new nE
        have eE : upd Hw E (.lst []) E = some (.lst []) := upd_same
        generalize upd Hw E (.lst []) = H5 at sE eE ⊢
        have em : ∀ l : List Nat, (l.map fun _ => V.int 1) = ((l.map fun _ => (1 : Int)).map V.int) := fun l => by rw [List.map_map]; rfl
        have ew5 := sE _ _ ew
        rw [em] at ew5
        refine ⟨_, .list ([].map .int), .lst (.of ew5) (dp_ints _), .lst (.of eE) .nil, shaped_ints _, shaped_ints [], _, rfl, ?_⟩
        have ev : (!PyData.eqv (.list ((((List.range r.length).filter fun i' => !decide (r.getD i' 0 = r.getD (i' ^^^ 2 ^ (v - 1 - i)) 0)).map fun _ => (1 : Int)).map PyData.int)) (.list (([] : List Int).map .int))) = hangsB r (2 ^ (v - 1 - i)) := by
          show (!PyData.eqvAll _ _) = _
          rw [eqv_ints]
          unfold hangsB
          rw [← none_any]
          refine congrArg (!·) (decide_eq_decide.mpr List.map_eq_nil_iff)
        rw [ev]
        have s25 := sw.trans sE
        have eD5 := s25 _ _ eD
        have aw5 := all_tk (Tk.same s25) aw
        have law := aw.len
        have le : ws.length ≤ 6 := by
          rw [law]
          refine Nat.le_trans (List.length_filter_le _ _) ?_
          rw [List.length_take]
          omega
        cases ec : hangsB r (2 ^ (v - 1 - i)) with
        | true =>
          refine iteT ⟨.ref b, rfl, ws, eD5, small60 (by omega), fun c' o ee => (upd_ne (ne_of_none ee nD)).trans ((sy.trans s25) _ _ ee), ws ++ [.ref b], upd_same, ?_⟩
          rw [filter_next hr, if_pos ec]
          exact all_tk (Tk.lst eD5) (aw5.app (.cons ⟨b, rfl, s25 _ _ hb1⟩ .nil))
        | false =>
          refine iteF ⟨sy.trans s25, ws, eD5, ?_⟩
          rw [filter_next hr, if_neg (by rw [ec]; decide)]
          exact aw5
    · rw [lx, List.take_length] at aw
      refine ⟨.ref L, rfl, .int (0 + (i : Int)), rfl, (by show 1 ≤ sizeLine; decide), fun M nM => ?_⟩
      have sM : Same Hy (upd Hy M (.lst [.int (0 + (i : Int))])) := same_new nM
      have eM : upd Hy M (.lst [.int (0 + (i : Int))]) M = some (.lst [.int (0 + (i : Int))]) := upd_same
      generalize upd Hy M (.lst [.int (0 + (i : Int))]) = H4 at sM eM ⊢
      refine ⟨.ref D, rfl, Nat.zero_le _, fun E nE => ?_⟩
      have sE : Same H4 (upd H4 E (.lst [])) := same_new nE
      have eE : upd H4 E (.lst []) E = some (.lst []) := upd_same
      generalize upd H4 E (.lst []) = H5 at sE eE ⊢
      have sDE := sM.trans sE
      refine ⟨.list (setsD _), .list (setsD []), .lst (.of (sDE _ _ eD)) (dp_all (all_tk (Tk.same sDE) aw)), .lst (.of eE) .nil, sets_shaped _, sets_shaped [], .inr ⟨_, rfl, ?_⟩⟩
      have ev : (!PyData.eqv (.list (setsD (rs.filter fun r => hangsB r (2 ^ (v - 1 - i))))) (.list (setsD []))) = heardP v rs i := by
        show (!PyData.eqvAll ((rs.filter _).map rowD) (([] : List (List Int)).map rowD)) = _
        rw [eqv_alls]
        exact none_any rs
      rw [ev]
      have s05 := s01.trans (sy.trans sDE)
      have s15 := s1.trans (sy.trans sDE)
      have eL5 := s15 _ _ eL
      have ll : ((((List.range i).filter (heardP v rs)).map fun i : Nat => V.int (i : Int)) : List V).length ≤ 4 := by
        rw [List.length_map]
        refine Nat.le_trans (List.length_filter_le _ _) ?_
        rw [List.length_range]
        omega
      cases ec : heardP v rs i with
      | true =>
        refine ⟨M, 1, [.int (0 + (i : Int))], rfl, rfl, sE _ _ eM, by decide, by decide, (by show 1 ≤ sizeLine; decide), fun N nN => ?_⟩
        have sN : Same H5 (upd H5 N (.lst (List.replicate (1 : Int).toNat [V.int (0 + (i : Int))]).flatten)) := same_new nN
        have eN : upd H5 N (.lst (List.replicate (1 : Int).toNat [V.int (0 + (i : Int))]).flatten) N = some (.lst [.int (0 + (i : Int))]) := upd_same
        generalize upd H5 N (.lst (List.replicate (1 : Int).toNat [V.int (0 + (i : Int))]).flatten) = H6 at sN eN ⊢
        refine ⟨L, N, _, [.int (0 + (i : Int))], rfl, rfl, sN _ _ eL5, eN, Nat.le_of_lt (small60 (n := _ + 1) (by omega)), fun p np => ?_⟩
        refine ⟨p, _, _, _, rfl, s05.trans (sN.trans (same_new np)), ?_⟩
        rw [upd_same, range_next, if_pos ec, List.map_append, Int.zero_add]
        rfl
      | false =>
        refine ⟨M, 0, [.int (0 + (i : Int))], rfl, rfl, sE _ _ eM, by decide, by decide, Nat.zero_le _, fun N nN => ?_⟩
        have sN : Same H5 (upd H5 N (.lst (List.replicate (0 : Int).toNat [V.int (0 + (i : Int))]).flatten)) := same_new nN
        have eN : upd H5 N (.lst (List.replicate (0 : Int).toNat [V.int (0 + (i : Int))]).flatten) N = some (.lst []) := upd_same
        generalize upd H5 N (.lst (List.replicate (0 : Int).toNat [V.int (0 + (i : Int))]).flatten) = H6 at sN eN ⊢
        refine ⟨L, N, _, [], rfl, rfl, sN _ _ eL5, eN, Nat.le_of_lt (small60 (n := _ + 0) (by omega)), fun p np => ?_⟩
        refine ⟨p, _, _, _, rfl, s05.trans (sN.trans (same_new np)), ?_⟩
        rw [upd_same, range_next, if_neg (by rw [ec]; decide), List.append_nil]
  · subst eσ
    refine k Hx L z15 z16 z17 sx ?_
    rw [eL]
    unfold allHN
    rw [List.map_map]
    rfl
end
end Ow

set_option Elab.async false
set_option linter.all false
set_option maxRecDepth 100000
set_option maxHeartbeats 4000000
set_option exponentiation.threshold 3000
namespace Ow
open PySem PySem.Spec PyProof.Rows L2
theorem Fit.told {d : PyData} {k w : Nat} (h : Fit d k w) (hk : k ≤ 40) (hw : w ≤ 5000) (hi : ∀ i, d ≠ .int i) : d.showable = true ∧ d.hasDict = false ∧ d.depth ≤ 40 ∧ d.shown.length ≤ sizeLine ∧ (∀ i : Int, d = .int i → i.natAbs.log2 < 1920) :=
  ⟨h.sh, h.nd, Nat.le_trans h.dp hk, Nat.le_of_lt (small60 (Nat.le_trans h.ln hw)), fun i e => absurd e (hi i)⟩
def allI (v : Nat) : List Int := (List.range v).map fun i : Nat => (i : Int)
def restN (v : Nat) (ns : List Int) : List Int := ((List.range v).filter fun i : Nat => !decide ((i : Int) ∈ ns)).map fun i : Nat => (i : Int)
theorem all_mem : ∀ v < 5, allI v ∈ setsS v := by decide +kernel
theorem all_place0 : ∀ v < 5, placeN (saysN v 0 (allI v)) = 0 := by decide +kernel
theorem all_place1 : ∀ v < 5, placeN (saysN v 1 (allI v)) = ((2 ^ v - 1 : Nat) : Int) := by decide +kernel
theorem nil_place0 : ∀ v < 5, placeN (saysN v 0 []) = ((2 ^ v - 1 : Nat) : Int) := by decide +kernel
theorem nil_place1 : ∀ v < 5, placeN (saysN v 1 []) = 0 := by decide +kernel
theorem rest_ok : ∀ v < 5, ∀ ns ∈ lawS v, (restN v ns).length ≤ 4 ∧ (∀ n ∈ restN v ns, 0 ≤ n ∧ n < (v : Int)) ∧ ascI (restN v ns) = true := by decide +kernel
theorem says_rest0 : ∀ v < 5, ∀ ns ∈ lawS v, saysN v (1 - 0) (restN v ns) = saysN v 0 ns := by decide +kernel
theorem says_rest1 : ∀ v < 5, ∀ ns ∈ lawS v, saysN v (1 - 1) (restN v ns) = saysN v 1 ns := by decide +kernel
theorem law_in : ∀ v < 5, ∀ ns ∈ lawS v, ns ∈ setsS v := by decide +kernel
theorem whole_in {v : Nat} {t : List Int} {c : Int} (h4 : v ≤ 4) (g : GoodT v t) (hc : c = 0 ∨ c = 1) : allI v ∈ winnersN v t c := by
  refine List.mem_filter.mpr ⟨all_mem v (by omega), decide_eq_true ?_⟩
  rcases hc with rfl | rfl
  · rw [all_place0 v (by omega)]
    exact good_first g
  · rw [all_place1 v (by omega)]
    exact good_last g
theorem nil_out {v : Nat} {t : List Int} {c : Int} (h4 : v ≤ 4) (g : GoodT v t) (hc : c = 0 ∨ c = 1) : [] ∉ winnersN v t c := fun h => by
  have e := of_decide_eq_true (List.mem_filter.mp h).2
  rcases hc with rfl | rfl
  · rw [nil_place0 v (by omega)] at e
    have e2 := good_last g
    rw [show ((2 ^ v - 1 : Nat) : Int).toNat = 2 ^ v - 1 from rfl, e2] at e
    cases e
  · rw [nil_place1 v (by omega)] at e
    have e2 := good_first g
    rw [show (0 : Int).toNat = 0 from rfl, e2] at e
    cases e
theorem getD_bit {r : List Int} (h : ∀ b ∈ r, b = 0 ∨ b = 1) (k : Nat) : r.getD k 0 = 0 ∨ r.getD k 0 = 1 := by
  rw [List.getD_eq_getElem?_getD]
  cases e : r[k]? with
  | none => exact .inl rfl
  | some b => exact h b (List.mem_of_getElem? e)
theorem win_opp {v : Nat} {t : List Int} {c : Int} {ns : List Int} (h4 : v ≤ 4) (g : GoodT v t) (hc : c = 0 ∨ c = 1) (hn : ns ∈ lawS v) : winsB v t (1 - c) (restN v ns) = !winsB v t c ns := by
  have e : saysN v (1 - c) (restN v ns) = saysN v c ns := by
    rcases hc with rfl | rfl
    · exact says_rest0 v (by omega) ns hn
    · exact says_rest1 v (by omega) ns hn
  unfold winsB
  rw [e]
  have b := getD_bit g.bit (placeN (saysN v c ns)).toNat
  generalize t.getD (placeN (saysN v c ns)).toNat 0 = x at b ⊢
  rcases hc with rfl | rfl <;> rcases b with rfl | rfl <;> decide
theorem law_win {v : Nat} {t : List Int} {c : Int} {ns : List Int} (h4 : v ≤ 4) (hn : ns ∈ lawS v) : decide (ns ∈ winnersN v t c) = winsB v t c ns := by
  rw [Bool.eq_iff_iff, decide_eq_true_iff]
  exact ⟨fun h => (List.mem_filter.mp h).2, fun h => List.mem_filter.mpr ⟨law_in v (by omega) ns hn, h⟩⟩
def tWin (C : Addr) : TS := fun D σ H => ∃ (J : Addr) (v n : Nat) (zs : List Str) (rs : List (List Int)) (ln lt pl ru wh : Addr) (y8 y9 y10 y11 y12 y13 y14 y15 y16 y17 y18 y19 : Option V), NamesOk n zs ∧ TabsOk v n rs ∧ 1 ≤ v ∧ v ≤ 4 ∧ σ = stR J n v ln lt pl ru wh y8 y9 y10 y11 y12 y13 y14 y15 y16 y17 y18 y19 ∧
  RightF C v n zs rs ln lt ru wh H ∧ ∀ H' z8 z9 z10 z11 z12 z13 z14, Same H H' → D.nx (stR J n v ln lt pl ru wh z8 z9 z10 z11 z12 z13 z14 y15 y16 y17 y18 y19) H'
section
variable {P : Program} {w : World} {K : PySem.W.Frag} {mg : Str → Option Value} {base : Heap} {C : Addr}
theorem ps_win {fO fW fL fD : Addr} {fdO fdW fdL fdD : FuncData} (FO : FnOk P w K mg base CX0 3 fO fdO ["voters", "table", "value"] spWinOf) (kO : PySem.W.keepIn K (.ref fO) = true) (bO : Binds K fdO ["voters", "table", "value"] []) (gO : mg "_law_winners_of" = some (.ref fO))
    (FW : FnOk P w K mg base CX0 6 fW fdW ["rule", "answer"] (spWinners C)) (kW : PySem.W.keepIn K (.ref fW) = true) (bW : Binds K fdW ["rule", "answer"] []) (gW : mg "winners" = some (.ref fW))
    (FL : FnOk P w K mg base CX0 1 fL fdL ["voters"] spLawS) (kL : PySem.W.keepIn K (.ref fL) = true) (bL : Binds K fdL ["voters"] []) (gL : mg "_law_all_sets" = some (.ref fL))
    (FD : FnOk P w K mg base CX0 6 fD fdD ["rule", "voters", "answer"] (spDoesWin C)) (kD : PySem.W.keepIn K (.ref fD) = true) (bD : Binds K fdD ["rule", "voters", "answer"] []) (gD : mg "does_win" = some (.ref fD))
    (mz : mg "zip" = none) (mr : mg "range" = none) (mp : mg "repr" = none) (mt : mg "tuple" = none)
    {f : Addr} {cdv : Value} {A : Around} {outer : List Env} {s : Shared} {H : Hp} {E : XK} (gB : A.guards = some []) (hr : Room 9 (A.deeper (envOfC "_law_right" (defScope dRight) s.heap.objs.size f cdv))) :
    PS (cxR P w K mg base f cdv A outer s H E) (stmtR 4) (tWin C) := by
  have hu65 : (A.deeper (envOfC "_law_right" (defScope dRight) s.heap.objs.size f cdv)).units + 65 < cLine := by
    have := hr.un
    omega
  refine PS.of2 (ps_for PassesOwn.never rfl (pi_zipK (by rfl) mz (pa_cons (pv 3) (pa_cons (pv 4) pa_nil))) (pg_tup rfl (pgs_cons (pg_name (i := 8) scRight.nd rfl (.inr rfl)) (pgs_cons (pg_name (i := 9) scRight.nd rfl (.inl rfl)) pgs_nil)))
    (pss_one (ps_for PassesOwn.never rfl (pi_tup (pe_tup (pa_cons pe_int (pa_cons pe_int pa_nil)))) (pg_name (i := 10) scRight.nd rfl (.inr rfl))
      (pss_cons (ps_set (i := 11) scRight.nd rfl (.inl rfl) (pe_call FO (hr.mono (by decide)) (by rfl) gO kO bO .nil pass0 (pa_cons (pv 2) (pa_cons (pv 9) (pa_cons (pv 10) pa_nil)))))
      (pss_cons (ps_if (pt_cmpR op_ne
          (pe_callB (call_repr gB hr.units) (by rfl) mp boot_repr (pa_cons (pe_lc (te := tCall (spWinners C) [] E0 (tCons (tVar 6) (tCons (tTup (tCons (tVar 8) (tCons (tVar 10) tNil))) tNil))) (own := [("turn", 18)]) (g := gName 18) (tt := tYes) rfl scRight.nd (pi_range1 (by rfl) mr (pa_cons pe_int pa_nil)) (blkOk_by (N := rgN) (sc := defScope dRight) (by decide +kernel))
            (fun _ _ _ _ _ => pg_name (i := 18) scRight.nd rfl (Or.inl rfl)) (fun _ _ _ _ _ => pts_nil)
            (fun _ _ _ _ _ => pe_call FW (hr.mono (by decide)) (by rfl) gW kW bW .nil pass0 (pa_cons (pv 6) (pa_cons (pe_tup (pa_cons (pv 8) (pa_cons (pv 10) pa_nil))) pa_nil)))) pa_nil))
          (pe_callB (call_repr gB hr.units) (by rfl) mp boot_repr (pa_cons (pe_op op_rep (pe_lst (pa_cons (pe_callTy call_tuple_of (by rfl) mt boot_tup (pa_cons (pv 11) pa_nil)) pa_nil)) pe_int) pa_nil)) (nomark _)) (pss_one (ps_ret pe_bl)) pss_nil)
      (pss_cons (ps_if (PW.pt (pw_or (pt_cmpR (op_notInD hu65) (pv 7) (pv 11) (by rfl)) (pw_or1 (pt_cmpR (op_inD hu65) (pe_tup pa_nil) (pv 11) (by rfl))))) (pss_one (ps_ret pe_bl)) pss_nil)
      (pss_one (ps_for PassesOwn.never rfl (pi_list (pe_call FL (hr.mono (by decide)) (by rfl) gL kL bL .nil pass0 (pa_cons (pv 2) pa_nil))) (pg_name (i := 12) scRight.nd rfl (.inr rfl))
        (pss_cons (ps_set (i := 13) scRight.nd rfl (.inl rfl) (pe_callTy call_tuple_of (by rfl) mt boot_tup (pa_cons
          (pe_lc (te := tVar 15) (own := [("voter", 15)]) (g := gName 15) (tt := tTest (tOp (rIn K true) (tVar 15) (tVar 12))) rfl scRight.nd (pi_tup (pv 7)) (blkOk_by (N := rgN) (sc := defScope dRight) (by decide +kernel))
            (fun _ _ _ _ _ => pg_name (i := 15) scRight.nd rfl (Or.inl rfl)) (fun _ _ _ _ _ => pts_one (pt_cmpR op_notIn_seq (pv 15) (pv 12) (by rfl))) (fun _ _ _ _ _ => pv 15)) pa_nil)))
        (pss_cons (ps_set (i := 14) scRight.nd rfl (.inl rfl) (pe_call FD (hr.mono (by decide)) (by rfl) gD kD bD .nil pass0 (pa_cons (pv 6) (pa_cons (pv 12) (pa_cons (pe_tup (pa_cons (pv 8) (pa_cons (pv 10) pa_nil))) pa_nil)))))
        (pss_one (ps_if (PW.pt (pw_or (pt_cmpR op_ne (pv 14) (pe_cmpR (op_inD hu65) (pv 12) (pv 11) (by rfl)) (nomark _))
            (pw_or1 (pt_cmpR op_eq (pv 14) (pe_call FD (hr.mono (by decide)) (by rfl) gD kD bD .nil pass0 (pa_cons (pv 6) (pa_cons (pv 13) (pa_cons (pe_tup (pa_cons (pv 8) (pa_cons (pe_op op_sub pe_int (pv 10)) pa_nil))) pa_nil)))) (nomark _))))) (pss_one (ps_ret pe_bl)) pss_nil))))))))))) ) ?red
  case red =>
  intro D0 σ Hs h
  obtain ⟨J, v, n, zs, rs, ln, lt, pl, ru, wh, y8, y9, y10, y11, y12, y13, y14, y15, y16, y17, y18, y19, hz, g, h1, h4, rfl, F, k⟩ := h
  obtain ⟨lt', xs, elt, hlt, hxs⟩ := F.hlt
  cases elt
  have v5 : v < 5 := by omega
  have lx := hxs.len
  have lr := g.len
  have lz := hz.len
  have minl : min (zs.map V.str).length xs.length = n := by rw [List.length_map]; omega
  have ei : idxV v = (allI v).map V.int := by
    unfold idxV allI
    rw [List.map_map]
    rfl
  refine ⟨.ref ln, rfl, .ref lt, rfl, .lst, .tup, ln, lt, zs.map V.str, xs, rfl, .of F.hln, .of hlt, ?_⟩
  refine for_it (walk_zipK (K := K) (k1 := .lst) (k2 := .tup) (a := ln) (b := lt) (xs := zs.map V.str) (ys := xs)) (fun i σ Hx => ∃ z8 z9 z10 z11 z12 z13 z14, σ = stR J n v ln lt pl ru wh z8 z9 z10 z11 z12 z13 z14 y15 y16 y17 y18 y19 ∧ Same Hs Hx)
    ⟨y8, y9, y10, y11, y12, y13, y14, rfl, Same.refl _⟩ (fun i σ Hx _ ⟨_, _, _, _, _, _, _, _, sx⟩ => ⟨.of (sx _ _ F.hln), .of (sx _ _ hlt)⟩) (fun i x σ Hx Hx' hi ⟨z8, z9, z10, z11, z12, z13, z14, eσ, sx⟩ hY => ?_) (fun σ Hx ⟨z8, z9, z10, z11, z12, z13, z14, eσ, sx⟩ => by subst eσ; exact k Hx z8 z9 z10 z11 z12 z13 z14 sx)
  subst eσ
  obtain ⟨T, x, y, rfl, nT, rfl, hx, hy⟩ := hY
  have hx : (zs.map V.str)[i]? = some x := hx
  have hy : xs[i]? = some y := hy
  rw [List.getElem?_map] at hx
  cases ez : zs[i]? with
  | none => rw [ez] at hx; cases hx
  | some z =>
  rw [ez] at hx
  cases hx
  obtain ⟨r, hr, b, rfl, hb⟩ := hxs.get hy
  have mz := List.mem_of_getElem? ez
  have nz := hz.nm z mz
  have gr := g.g r (List.mem_of_getElem? hr)
  have etab : tabOf zs rs z = r := tab_at hz.nd (by omega) ez hr
  have sT : Same Hx (upd Hx T (.tup [.str z, .ref b])) := same_new nT
  have eT : upd Hx T (.tup [.str z, .ref b]) T = some (.tup [.str z, .ref b]) := upd_same
  generalize upd Hx T (.tup [.str z, .ref b]) = H2 at sT eT ⊢
  refine ⟨T, [.str z, .ref b], rfl, .of eT, rfl, _, _, rfl, _, _, rfl, rfl, ?_⟩
  refine ⟨(by show 2 ≤ sizeLine; decide), fun U nU => ?_⟩
  have sU : Same H2 (upd H2 U (.tup [.int 0, .int 1])) := same_new nU
  have eU : upd H2 U (.tup [.int 0, .int 1]) U = some (.tup [.int 0, .int 1]) := upd_same
  generalize upd H2 U (.tup [.int 0, .int 1]) = H3 at sU eU ⊢
  have s03 := sx.trans (sT.trans sU)
  refine ⟨U, rfl, ⟨_, .of eU⟩, ?_⟩
  refine for_it (walk_tup (K := K) (a := U) (xs := [.int 0, .int 1])) (fun j σ Hy => ∃ z10 z11 z12 z13 z14, σ = stR J n v ln lt pl ru wh (some (.str z)) (some (.ref b)) z10 z11 z12 z13 z14 y15 y16 y17 y18 y19 ∧ Same H3 Hy)
    ⟨z10, z11, z12, z13, z14, rfl, Same.refl _⟩ (fun j σ Hy _ ⟨_, _, _, _, _, _, sy⟩ => .of (sy _ _ eU)) (fun j x σ Hy Hy' hj ⟨z10, z11, z12, z13, z14, eσ, sy⟩ hY2 => ?_) (fun σ Hy ⟨z10, z11, z12, z13, z14, eσ, sy⟩ => ⟨_, _, _, _, _, _, _, eσ, s03.trans sy⟩)
  subst eσ
  obtain ⟨rfl, hx2⟩ := hY2
  obtain ⟨c, rfl, hc⟩ : ∃ c : Int, x = .int c ∧ (c = 0 ∨ c = 1) := by
    match j, hj with
    | 0, _ => exact ⟨0, by simpa using hx2.symm, .inl rfl⟩
    | 1, _ => exact ⟨1, by simpa using hx2.symm, .inr rfl⟩
  have s0y := s03.trans sy
  refine ⟨.int v, rfl, .ref b, rfl, .int c, rfl, b, v, r, c, rfl, s0y _ _ hb, gr, h1, h4, hc, fun H4 l ws s4 nl hl rows => ?_⟩
  have s04 := s0y.trans s4
  obtain ⟨q1, q2, q3, q4, q5⟩ := (two_fit v5 (t := r) (c := c)).told (by decide) (by decide) fun i z => nomatch z
  refine ⟨2, rfl, by decide, by decide, fun D1 nD1 => ?_⟩
  refine lc_map (M := No) (walk_range (lo := 0) (n := 2)) (by decide) Jg.no nD1 (fun _ Hz y => ∃ u xs', y = .ref u ∧ Hz u = some (.tup xs') ∧ All2 (IsRow Hz) xs' (winnersN v r c)) (fun _ _ _ _ tk ⟨u, xs', e, hu, rw'⟩ => ⟨u, xs', e, tk.tup hu, all_tk tk rw'⟩) (fun Hz _ _ => trivial)
    (fun m x Hz Hz' Kk hm gw _ hY3 hK => ?_) (fun H5 ys gw _ eD1 hlen hq => ?_)
  · obtain ⟨rfl, rfl⟩ := hY3
    have sz := s04.trans gw.toSame
    refine ⟨rfl, .ref ru, rfl, .str z, rfl, .int c, rfl, (by show 2 ≤ sizeLine; decide), fun T2 nT2 => ?_⟩
    have sT2 := same_new (o := .tup [.str z, .int c]) nT2
    refine ⟨ru, T2, v, zs, tabOf zs rs, z, c, rfl, (F.same (sz.trans sT2)).r, h4, mz, nz, by rw [etab]; exact gr.len, upd_same, hc, fun H6 u xs' s6 hu rows' => ?_⟩
    rw [etab] at rows'
    exact hK _ _ (Gw.same (sT2.trans s6)) Jg.no ⟨u, xs', rfl, hu, rows'⟩
  obtain ⟨ya, yb, rfl⟩ : ∃ ya yb, ys = [ya, yb] := by
    match ys, hlen with
    | [a, b'], _ => exact ⟨a, b', rfl⟩
  obtain ⟨ua, xa, rfl, hua, rowa⟩ := hq 0 ya rfl
  obtain ⟨ub, xb, rfl, hub, rowb⟩ := hq 1 yb rfl
  have s45 := gw.toSame
  have s05 := s04.trans s45
  refine ⟨.ref D1, .list [.tuple (setsD (winnersN v r c)), .tuple (setsD (winnersN v r c))], rfl, .lst (.of eD1) (.cons (.tup (.of hua) (dp_all rowa)) (.cons (.tup (.of hub) (dp_all rowb)) .nil)), q1, q2, q3, q4, q5, ?_⟩
  have hl5 := s45 _ _ hl
  refine ⟨.ref l, rfl, l, ws, rfl, .inl ⟨.of hl5, fun T3 nT3 => ⟨(by show 1 ≤ sizeLine; decide), fun M nM => ?_⟩⟩⟩
  have sT3 : Same H5 (upd H5 T3 (.tup ws)) := same_new nT3
  have eT3 : upd H5 T3 (.tup ws) T3 = some (.tup ws) := upd_same
  generalize upd H5 T3 (.tup ws) = H6 at sT3 eT3 nM ⊢
  have sM : Same H6 (upd H6 M (.lst [.ref T3])) := same_new nM
  have eM : upd H6 M (.lst [.ref T3]) M = some (.lst [.ref T3]) := upd_same
  generalize upd H6 M (.lst [.ref T3]) = H7 at sM eM ⊢
  refine ⟨M, 2, [.ref T3], rfl, rfl, eM, by decide, by decide, (by show 2 ≤ sizeLine; decide), fun N nN => ?_⟩
  have sN : Same H7 (upd H7 N (.lst (List.replicate (2 : Int).toNat [V.ref T3]).flatten)) := same_new nN
  have eN : upd H7 N (.lst (List.replicate (2 : Int).toNat [V.ref T3]).flatten) N = some (.lst [.ref T3, .ref T3]) := upd_same
  generalize upd H7 N (.lst (List.replicate (2 : Int).toNat [V.ref T3]).flatten) = H8 at sN eN ⊢
  have s58 := sT3.trans (sM.trans sN)
  have eT8 := (sM.trans sN) _ _ eT3
  have rows8 := all_tk (Tk.same (s45.trans s58)) rows
  refine ⟨.ref N, .list [.tuple (setsD (winnersN v r c)), .tuple (setsD (winnersN v r c))], rfl, .lst (.of eN) (.cons (.tup (.of eT8) (dp_all rows8)) (.cons (.tup (.of eT8) (dp_all rows8)) .nil)), q1, q2, q3, q4, q5, rfl, false, ?_, iteF ?_⟩
  · rw [decide_eq_true rfl]
    rfl
  have s08 := s05.trans s58
  have s48 := s45.trans s58
  have F8 := F.same s08
  have hwh8 := F8.hwh
  rw [ei] at hwh8
  refine ⟨.ref wh, rfl, .ref l, rfl, rowD (allI v), setsD (winnersN v r c), dp_row ⟨wh, rfl, hwh8⟩, .lst (.of (s48 _ _ hl)) (dp_all rows8), shaped_row _, sets_shaped _, false, ?_, iteF ?_⟩
  · rw [any_eqv, decide_eq_true (whole_in h4 gr hc)]
    rfl
  refine ⟨Nat.zero_le _, fun E0 nE0 => ?_⟩
  have sE : Same H8 (upd H8 E0 (.tup [])) := same_new nE0
  have eE : upd H8 E0 (.tup []) E0 = some (.tup []) := upd_same
  generalize upd H8 E0 (.tup []) = H9 at sE eE ⊢
  have rows9 := all_tk (Tk.same sE) rows8
  refine ⟨.ref l, rfl, rowD [], setsD (winnersN v r c), .tup (.of eE) .nil, .lst (.of (sE _ _ (s48 _ _ hl))) (dp_all rows9), shaped_row _, sets_shaped _, false, ?_, iteF ?_⟩
  · rw [any_eqv, decide_eq_false (nil_out h4 gr hc)]
  have s09 := s08.trans sE
  have s49 := s48.trans sE
  refine ⟨.int v, rfl, v, rfl, h4, fun H10 l7 xs7 s10 hl7 rows7 => ⟨l7, rfl, ⟨_, .of hl7⟩, ?_⟩⟩
  have s010 := s09.trans s10
  have s410 := s49.trans s10
  refine for_it (walk_list (K := K) (a := l7) (xs := xs7)) (fun m σ Hz => ∃ z12 z13 z14, σ = stR J n v ln lt pl ru wh (some (.str z)) (some (.ref b)) (some (.int c)) (some (.ref l)) z12 z13 z14 y15 y16 y17 y18 y19 ∧ Same H10 Hz)
    ⟨z12, z13, z14, rfl, Same.refl _⟩ (fun m σ Hz _ ⟨_, _, _, _, sz⟩ => .of (sz _ _ hl7)) (fun m x σ Hz Hz' hm ⟨z12, z13, z14, eσ, sz⟩ hY4 => ?_) (fun σ Hz ⟨z12, z13, z14, eσ, sz⟩ => ⟨_, _, _, _, _, eσ, sy.trans (s4.trans (s410.trans sz))⟩)
  subst eσ
  obtain ⟨rfl, hx3⟩ := hY4
  obtain ⟨ns, hns, p, rfl, hp⟩ := rows7.get hx3
  have mns := List.mem_of_getElem? hns
  obtain ⟨a1, a2, a3⟩ := lawS_ok v v5 ns mns
  obtain ⟨b1, b2, b3⟩ := rest_ok v v5 ns mns
  have s0z := s010.trans sz
  have hwhz := (F.same s0z).hwh
  refine ⟨.ref wh, rfl, wh, rfl, ⟨_, .of hwhz⟩, fun D3 nD3 => ?_⟩
  refine lc_it (walk_tup (K := K) (a := wh) (xs := idxV v)) (fun q Hw => Same Hz' Hw ∧ Hw D3 = some (.lst (((List.range q).filter fun i : Nat => !decide ((i : Int) ∈ ns)).map fun i : Nat => V.int (i : Int))))
    ⟨same_new nD3, upd_same⟩ (fun q Hw _ h => .of (h.1 _ _ hwhz)) (fun q x Hw Hw' hq2 ⟨sw, ew⟩ hY5 => ?_) (fun Hw ⟨sw, ew⟩ => ?_)
  · obtain ⟨rfl, hx5⟩ := hY5
    obtain ⟨qv, rfl⟩ := idx_at hx5
    have hpw := sw _ _ (sz _ _ hp)
    refine ⟨rfl, .int q, rfl, .ref p, rfl, p, ns.map V.int, rfl, .inr (.of hpw), rfl, flat_ints ns, _, rfl, ?_⟩
    have e0 : (if true = true then !inV (V.int (q : Int)) (ns.map V.int) else inV (V.int (q : Int)) (ns.map V.int)) = !decide ((q : Int) ∈ ns) := by rw [if_pos rfl, in_ints]
    rw [e0]
    cases ec : (!decide ((q : Int) ∈ ns)) with
    | true =>
      refine iteT ⟨.int q, rfl, _, ew, ?_, fun c' o ee => (upd_ne (ne_of_none ee nD3)).trans (sw _ _ ee), ?_⟩
      · rw [List.length_map]
        refine small60 (Nat.le_trans (List.length_filter_le _ _) ?_)
        rw [List.length_range]
        omega
      · rw [upd_same, range_next, if_pos ec, List.map_append]
        rfl
    | false =>
      refine iteF ⟨sw, ?_⟩
      rw [ew, range_next, if_neg (by rw [ec]; decide)]
  rw [idx_len] at ew
  refine ⟨D3, _, rfl, .inl ⟨.of ew, fun R3 nR3 => ?_⟩⟩
  have er : ((List.range v).filter fun i : Nat => !decide ((i : Int) ∈ ns)).map (fun i : Nat => V.int (i : Int)) = (restN v ns).map V.int := by
    unfold restN
    rw [List.map_map]
    rfl
  rw [er]
  have sR3 : Same Hw (upd Hw R3 (.tup ((restN v ns).map V.int))) := same_new nR3
  have eR3 : upd Hw R3 (.tup ((restN v ns).map V.int)) R3 = some (.tup ((restN v ns).map V.int)) := upd_same
  generalize upd Hw R3 (.tup ((restN v ns).map V.int)) = Ha at sR3 eR3 ⊢
  have sza := sw.trans sR3
  have s0a := s0z.trans sza
  have hpa := sza _ _ (sz _ _ hp)
  refine ⟨.ref ru, rfl, .ref p, rfl, .str z, rfl, .int c, rfl, (by show 2 ≤ sizeLine; decide), fun T5 nT5 => ?_⟩
  have sT5 : Same Ha (upd Ha T5 (.tup [.str z, .int c])) := same_new nT5
  have eT5 : upd Ha T5 (.tup [.str z, .int c]) T5 = some (.tup [.str z, .int c]) := upd_same
  generalize upd Ha T5 (.tup [.str z, .int c]) = Hb at sT5 eT5 ⊢
  have vt1 : VtOk v ns := ⟨a1, a2, a3⟩
  refine ⟨ru, p, T5, v, zs, tabOf zs rs, z, c, ns, rfl, (F.same (s0a.trans sT5)).r, h4, mz, nz, by rw [etab]; exact gr.len, sT5 _ _ hpa, vt1, eT5, hc, fun Hc sc => ?_⟩
  rw [etab]
  have sac := sT5.trans sc
  have s4c := s410.trans (sz.trans (sza.trans sac))
  have rowsc := all_tk (Tk.same (s410.trans (sz.trans (sza.trans sac)))) rows
  refine ⟨.bl (winsB v r c ns), rfl, .ref p, rfl, .ref l, rfl, rowD ns, setsD (winnersN v r c), dp_row ⟨p, rfl, sac _ _ hpa⟩, .lst (.of (s4c _ _ hl)) (dp_all rowsc), shaped_row _, sets_shaped _, rfl, false, ?_, iteF ?_⟩
  · rw [any_eqv, law_win h4 mns, decide_eq_true rfl]
    rfl
  refine ⟨.bl (winsB v r c ns), rfl, .ref ru, rfl, .ref R3, rfl, .str z, rfl, .int c, rfl, 1, c, rfl, rfl, (by show 2 ≤ sizeLine; decide), fun T6 nT6 => ?_⟩
  have sT6 : Same Hc (upd Hc T6 (.tup [.str z, .int (1 - c)])) := same_new nT6
  have eT6 : upd Hc T6 (.tup [.str z, .int (1 - c)]) T6 = some (.tup [.str z, .int (1 - c)]) := upd_same
  generalize upd Hc T6 (.tup [.str z, .int (1 - c)]) = Hd at sT6 eT6 ⊢
  refine ⟨ru, R3, T6, v, zs, tabOf zs rs, z, 1 - c, restN v ns, rfl, (F.same (s0a.trans (sac.trans sT6))).r, h4, mz, nz, by rw [etab]; exact gr.len, (sac.trans sT6) _ _ eR3, ⟨b1, b2, b3⟩, eT6, by omega, fun He se => ?_⟩
  rw [etab, win_opp h4 gr hc mns]
  refine ⟨rfl, false, ?_, iteF ⟨_, _, _, rfl, sz.trans (sza.trans (sac.trans (sT6.trans se)))⟩⟩
  cases winsB v r c ns <;> rfl
end
end Ow

set_option Elab.async false
set_option linter.all false
set_option maxRecDepth 100000
set_option maxHeartbeats 4000000
set_option exponentiation.threshold 3000
namespace Ow
open PySem PySem.Spec PyProof.Rows L2
theorem par_read {i j : Nat} {ta tb : TE} {r : TS} {D : Ends} {σ : L2.St} {H : Hp} (h : ta σ H fun x H1 => tb σ H1 fun y H2 => ∃ v w, [x, y] = [v, w] ∧ r D ((σ.set i (some v)).set j (some w)) H2) :
    tSeq (tPar i j (tCons ta (tCons tb tNil))) r D σ H := h
section
variable {P : Program} {w : World} {K : PySem.W.Frag} {mg : Str → Option Value} {base : Heap} {C : Addr}
theorem ok_right {f fJ fD fT fM fO fW fL fDW fA fF fH : Addr} {fd fdJ fdD fdT fdM fdO fdW fdL fdDW fdA fdF fdH : FuncData} (F : Fun K "_law_right" "_law_right" dRight f fd)
    (FD : FnOk P w K mg base CX0 1 fD fdD ["jug", "total"] spDip) (kD : PySem.W.keepIn K (.ref fD) = true) (bD : Binds K fdD ["jug", "total"] []) (gD : mg "_law_dip" = some (.ref fD))
    (FJ : FnOk P w K mg base CX0 2 fJ fdJ ["jug", "items"] spJum) (kJ : PySem.W.keepIn K (.ref fJ) = true) (bJ : Binds K fdJ ["jug", "items"] []) (gJ : mg "_law_jumbled" = some (.ref fJ))
    (FT : FnOk P w K mg base CX0 2 fT fdT ["jug", "size", "voters"] spAnyTb) (kT : PySem.W.keepIn K (.ref fT) = true) (bT : Binds K fdT ["jug", "size", "voters"] []) (gT : mg "_law_any_tables" = some (.ref fT))
    (FM : FnOk P w K mg base CX0 9 fM fdM ["plain", "voters", "tables"] (spMade C)) (kM : PySem.W.keepIn K (.ref fM) = true) (bM : Binds K fdM ["plain", "voters", "tables"] []) (gM : mg "_law_made_rule" = some (.ref fM))
    (FO : FnOk P w K mg base CX0 3 fO fdO ["voters", "table", "value"] spWinOf) (kO : PySem.W.keepIn K (.ref fO) = true) (bO : Binds K fdO ["voters", "table", "value"] []) (gO : mg "_law_winners_of" = some (.ref fO))
    (FW : FnOk P w K mg base CX0 6 fW fdW ["rule", "answer"] (spWinners C)) (kW : PySem.W.keepIn K (.ref fW) = true) (bW : Binds K fdW ["rule", "answer"] []) (gW : mg "winners" = some (.ref fW))
    (FL : FnOk P w K mg base CX0 1 fL fdL ["voters"] spLawS) (kL : PySem.W.keepIn K (.ref fL) = true) (bL : Binds K fdL ["voters"] []) (gL : mg "_law_all_sets" = some (.ref fL))
    (FDW : FnOk P w K mg base CX0 6 fDW fdDW ["rule", "voters", "answer"] (spDoesWin C)) (kDW : PySem.W.keepIn K (.ref fDW) = true) (bDW : Binds K fdDW ["rule", "voters", "answer"] []) (gDW : mg "does_win" = some (.ref fDW))
    (FA : FnOk P w K mg base CX0 1 fA fdA ["size"] spRowsL) (kA : PySem.W.keepIn K (.ref fA) = true) (bA : Binds K fdA ["size"] []) (gA : mg "_law_all_rows" = some (.ref fA))
    (FF : FnOk P w K mg base CX0 1 fF fdF ["table", "at", "step"] spFlip) (kF : PySem.W.keepIn K (.ref fF) = true) (bF : Binds K fdF ["table", "at", "step"] []) (gF : mg "_law_flipped" = some (.ref fF))
    (FH : FnOk P w K mg base CX0 4 fH fdH ["rule"] (spAllH C)) (kH : PySem.W.keepIn K (.ref fH) = true) (bH : Binds K fdH ["rule"] []) (gH : mg "all_heard" = some (.ref fH))
    (mz : mg "zip" = none) (mr : mg "range" = none) (mp : mg "repr" = none) (mt : mg "tuple" = none) (ml : mg "len" = none) (mi : mg "int" = none) (mls : mg "list" = none) (mo : mg "sorted" = none) : FnG P w K mg base 10 f fd ["jug"] spRight := by
  refine okG F scRight (fun vs H Q E h => ?_) (fun cdv A outer s H vs Q E gB hr h => ?_)
  · obtain ⟨J, rfl, _⟩ := h
    rfl
  obtain ⟨J, rfl, hJ, q⟩ := h
  have L1 : PS (cxR P w K mg base f cdv A outer s H E) (stmtR 4) (tWin C) := ps_win FO kO bO gO FW kW bW gW FL kL bL gL FDW kDW bDW gDW mz mr mp mt gB hr
  have L2 : PS (cxR P w K mg base f cdv A outer s H E) (stmtR 6) (tHear C) := ps_hear FA kA bA gA FF kF bF gF mr ml mi hr
  refine ⟨_, pss_cons (ps_par (i := 1) (j := 2) (by rfl) scRight.nd rfl rfl (by decide) rfl rfl
        (pa_cons (pe_op op_add pe_int (pe_call FD (hr.mono (by decide)) (by rfl) gD kD bD .nil pass0 (pa_cons (pv 0) (pa_cons pe_int pa_nil)))) (pa_cons (pe_op op_add pe_int (pe_call FD (hr.mono (by decide)) (by rfl) gD kD bD .nil pass0 (pa_cons (pv 0) (pa_cons pe_int pa_nil)))) pa_nil)) (by rfl))
    (pss_cons (ps_set (i := 3) scRight.nd rfl (.inl rfl) (pe_callB cr_sortedS (by rfl) mo (by decide +kernel) (pa_cons (pe_slice sl_list (pe_call FJ (hr.mono (by decide)) (by rfl) gJ kJ bJ .nil pass0 (pa_cons (pv 0) (pa_cons (pe_lst (pa_cons pe_str (pa_cons pe_str (pa_cons pe_str (pa_cons pe_str (pa_cons pe_str (pa_cons pe_str (pa_cons pe_str pa_nil)))))))) pa_nil))) po_none (po_some (pv 1))) pa_nil)))
    (pss_cons (ps_par (i := 4) (j := 5) (by rfl) scRight.nd rfl rfl (by decide) rfl rfl
        (pa_cons (pe_call FT (hr.mono (by decide)) (by rfl) gT kT bT .nil pass0 (pa_cons (pv 0) (pa_cons (pv 1) (pa_cons (pv 2) pa_nil)))) (pa_cons (pe_disp (pps_cons pe_str (pe_callTy call_tuple_of (by rfl) mt boot_tup (pa_cons (pv 3) pa_nil)) pps_nil) rfl rfl (fun e => nomatch e) (by show 1 ≤ 15; decide)) pa_nil)) (by rfl))
    (pss_cons (ps_asg (pe_tup (pa_cons (pe_call FM hr (by rfl) gM kM bM .nil pass0 (pa_cons (pv 5) (pa_cons (pv 2) (pa_cons (pv 4) pa_nil)))) (pa_cons (pe_callTy call_tuple_of (by rfl) mt boot_tup (pa_cons (pe_listRg rfl (by rfl) mls (prg_1 (by rfl) mr (pv 2))) pa_nil)) pa_nil)))
        (pg_tup (by rfl) (pgs_cons (pg_name (i := 6) scRight.nd rfl (.inr rfl)) (pgs_cons (pg_name (i := 7) scRight.nd rfl (.inl rfl)) pgs_nil))))
    (pss_cons L1
    (pss_cons (ps_set (i := 11) scRight.nd rfl (.inl rfl) (pe_lst pa_nil))
    (pss_cons L2
    (pss_one (ps_ret (pe_cmpR (op_eqD (hu64 hr)) (pe_call FH (hr.mono (by decide)) (by rfl) gH kH bH .nil pass0 (pa_cons (pv 6) pa_nil)) (pe_callTy call_tuple_of (by rfl) mt boot_tup (pa_cons (pv 11) pa_nil)) (nomark _)))))))))), ?red⟩
  case red =>
  refine par_read ?_
  refine ⟨.ref J, rfl, J, 4, rfl, by decide, by decide, hJ, fun H1 k1 sb1 j1 k10 k1l => ⟨1, k1, rfl, rfl, .ref J, rfl, J, 4, rfl, by decide, by decide, j1, fun H2 k2 sb2 j2 k20 k2l => ⟨1, k2, rfl, rfl, ?_⟩⟩⟩
  obtain ⟨n, en, hn1, hn4⟩ : ∃ n : Nat, 1 + k1 = (n : Int) ∧ 1 ≤ n ∧ n ≤ 4 := ⟨(1 + k1).toNat, by omega, by omega, by omega⟩
  obtain ⟨v, ev, hv1, hv4⟩ : ∃ v : Nat, 1 + k2 = (v : Int) ∧ 1 ≤ v ∧ v ≤ 4 := ⟨(1 + k2).toNat, by omega, by omega, by omega⟩
  refine ⟨.int n, .int v, by rw [← ev, ← en], ?_⟩
  refine ⟨.ref J, rfl, (by show 7 ≤ sizeLine; decide), fun L0 nL0 => ?_⟩
  have s0 : Same H2 (upd H2 L0 (.lst (seven.map V.str))) := same_new nL0
  have j0 := jug_same s0 j2
  refine ⟨J, .ref L0, seven.map V.str, rfl, j0, .inl ⟨L0, rfl, jug_none j2 nL0, upd_same⟩, by decide, fun H3 p ys sb3 j3 np hp pm => ?_⟩
  obtain ⟨us, rfl, pu⟩ := perm_map_inv (fun y : V => match y with | .str z => z | _ => Str.empty) (fun a => rfl) pm
  have lu := pu.length_eq
  rw [seven_ok.2.1] at lu
  refine ⟨.int n, rfl, _, rfl, p, us.map V.str, rfl, .of hp, fun p2 np2 => ?_⟩
  rw [cutW_take (show n ≤ (us.map V.str).length by rw [List.length_map]; omega), ← List.map_take]
  have s3 : Same H3 (upd H3 p2 (.lst ((us.take n).map V.str))) := same_new np2
  have e3 : upd H3 p2 (.lst ((us.take n).map V.str)) p2 = some (.lst ((us.take n).map V.str)) := upd_same
  have j3' := jug_same s3 j3
  generalize upd H3 p2 (.lst ((us.take n).map V.str)) = H4 at s3 e3 j3' ⊢
  refine ⟨p2, us.take n, rfl, .of e3, by rw [List.length_take]; omega, fun zs ln pz so nln => ?_⟩
  have s4 : Same H4 (upd H4 ln (.lst (zs.map V.str))) := same_new nln
  have eln : upd H4 ln (.lst (zs.map V.str)) ln = some (.lst (zs.map V.str)) := upd_same
  have j4 := jug_same s4 j3'
  have lnJ : ln ≠ J := jug_none j3' nln
  generalize upd H4 ln (.lst (zs.map V.str)) = H5 at s4 eln j4 ⊢
  have sb5 : Sb J H H5 := sb1.trans (sb2.trans ((Sb.same s0).trans (sb3.trans (.same (s3.trans s4)))))
  have hz := drawn_ok hn1 hn4 pu pz so
  have lz := hz.len
  refine ⟨.ref J, rfl, .int n, rfl, .int v, rfl, J, n, v, rfl, j4, hn1, by omega, hv1, hv4, fun H6 x rs sb6 j6 hx lr hg => ?_⟩
  have g : TabsOk v n rs := ⟨lr, hg⟩
  obtain ⟨lt, xs, rfl, hlt, hxs⟩ := id hx
  have eln6 := sb6 _ _ lnJ eln
  intro pd npd
  have sP : Same H6 (upd H6 pd (.dK [])) := same_new npd
  have eP : upd H6 pd (.dK []) pd = some (.dK []) := upd_same
  generalize ePd : upd H6 pd (.dK []) = H7 at sP eP ⊢
  refine ⟨.ref ln, rfl, ln, _, rfl, .inl ⟨.of (sP _ _ eln6), fun tn ntn => ?_⟩⟩
  have sN : Same H7 (upd H7 tn (.tup (zs.map V.str))) := same_new ntn
  have eN : upd H7 tn (.tup (zs.map V.str)) tn = some (.tup (zs.map V.str)) := upd_same
  generalize upd H7 tn (.tup (zs.map V.str)) = H8 at sN eN ⊢
  refine ⟨sN _ _ eP, [(Sum.inr "issues", .ref tn)], rfl, by show 1 ≤ 15; decide, ?_⟩
  have em : mergeK [] [((Sum.inr "issues" : Key), V.ref tn)] = ([(Sum.inr "issues", V.ref tn)] : List (Key × V)) := rfl
  rw [em]
  have eQ : upd H8 pd (.dK [(Sum.inr "issues", .ref tn)]) pd = some (.dK [(Sum.inr "issues", .ref tn)]) := upd_same
  have sQ : Same H6 (upd H8 pd (.dK [(Sum.inr "issues", .ref tn)])) := fun b o e => (upd_ne (ne_of_none e npd)).trans ((sP.trans sN) _ _ e)
  have eT9 : upd H8 pd (.dK [(Sum.inr "issues", .ref tn)]) tn = some (.tup (zs.map V.str)) := (upd_ne (ne_of eN (sN _ _ eP) (by intro z; cases z))).trans eN
  generalize upd H8 pd (.dK [(Sum.inr "issues", .ref tn)]) = H9 at eQ sQ eT9 ⊢
  have hx9 := hx.tk (Tk.same sQ)
  have ok := hz.all (hz.good g)
  refine ⟨.ref lt, .ref pd, rfl, ?_⟩
  refine ⟨.ref pd, rfl, .int v, rfl, .ref lt, rfl, pd, tn, lt, v, zs, rs, rfl, eQ, hv1, hv4, eT9, hx9, by omega, ok, fun H10 ru ys2 s10 pm2 so2 hR => ?_⟩
  obtain rfl := sorted_unique pm2 (pm2.nodup_iff.mpr hz.nd) so2 hz.so
  refine ⟨.int v, rfl, v, rfl, .of_le (by decide) (by omega) (by decide) (by omega), fun l nl => ?_⟩
  rw [rg_idx]
  have sl : Same H10 (upd H10 l (.lst (idxV v))) := same_new nl
  have el : upd H10 l (.lst (idxV v)) l = some (.lst (idxV v)) := upd_same
  generalize upd H10 l (.lst (idxV v)) = H11 at sl el ⊢
  refine ⟨l, _, rfl, .inl ⟨.of el, fun wh nwh => ⟨(by show 2 ≤ sizeLine; decide), fun T nT => ⟨T, [.ref ru, .ref wh], rfl, .of upd_same, rfl, _, _, rfl, _, _, rfl, rfl, ?_⟩⟩⟩⟩
  have sw : Same H11 (upd H11 wh (.tup (idxV v))) := same_new nwh
  have ew : upd H11 wh (.tup (idxV v)) wh = some (.tup (idxV v)) := upd_same
  have sT : Same (upd H11 wh (.tup (idxV v))) (upd (upd H11 wh (.tup (idxV v))) T (.tup [.ref ru, .ref wh])) := same_new nT
  have ewT := sT _ _ ew
  have s610 := sQ.trans (s10.trans (sl.trans (sw.trans sT)))
  have s1012 := sl.trans (sw.trans sT)
  generalize upd (upd H11 wh (.tup (idxV v))) T (.tup [.ref ru, .ref wh]) = H12 at sT ewT s610 s1012 ⊢
  have Fr : RightF C v n ys2 rs ln lt ru wh H12 := ⟨s610 _ _ eln6, hx.tk (Tk.same s610), hR.tk (Tk.same s1012), ewT⟩
  refine ⟨J, v, n, ys2, rs, ln, lt, pd, ru, wh, _, _, _, _, _, _, _, _, _, _, _, _, hz, g, hv1, hv4, rfl, Fr, fun H13 z8 z9 z10 z11 z12 z13 z14 s13 => ?_⟩
  refine ⟨Nat.zero_le _, fun d0 nd0 => ?_⟩
  have sd : Same H13 (upd H13 d0 (.lst [])) := same_new nd0
  have ed : upd H13 d0 (.lst []) d0 = some (.lst []) := upd_same
  generalize upd H13 d0 (.lst []) = H14 at sd ed ⊢
  have Fs := Fr.same (s13.trans sd)
  refine ⟨J, v, n, ys2, rs, ln, lt, pd, ru, wh, d0, _, _, _, _, _, _, _, _, _, _, _, hz, g, hv1, hv4, rfl, Fs, ed, fun H15 L z15 z16 z17 s15 eL => ?_⟩
  have Ft := Fs.same s15
  have etab := hz.tab g
  refine ⟨.ref ru, rfl, ru, v, ys2, tabOf ys2 rs, rfl, Ft.r, hv4, by omega, fun z hz' => (hz.good g z hz').len, fun H16 u s16 hu => ?_⟩
  rw [etab] at hu
  refine ⟨.ref L, rfl, L, _, rfl, .inl ⟨.of (s16 _ _ eL), fun u2 nu2 => ?_⟩⟩
  have s17 : Same H16 (upd H16 u2 (.tup ((allHN v rs).map V.int))) := same_new nu2
  refine ⟨rowD (allHN v rs), rowD (allHN v rs), dp_row ⟨u, rfl, s17 _ _ hu⟩, dp_row ⟨u2, rfl, upd_same⟩, shaped_row _, shaped_row _, ?_⟩
  rw [eqv_row, decide_eq_true rfl]
  have s612 := s610.trans (s13.trans (sd.trans (s15.trans (s16.trans s17))))
  exact q _ (sb5.trans (sb6.trans (.same s612))) (jug_same s612 j6)
end
end Ow

set_option Elab.async false
set_option linter.all false
set_option maxRecDepth 100000
set_option maxHeartbeats 4000000
set_option exponentiation.threshold 3000
namespace Ow
open PySem PySem.Spec PyProof.Rows L2
theorem scLaw : FnScope ["script", "at", "jug", "turn", "both", "most", "told", "due"] ["script"] (defScope dLaw) := ⟨rfl, rfl, rfl, by decide +kernel, rfl, by decide +kernel, by decide +kernel⟩
def bothT : List Int := [0, 0, 0, 1]
def mostT : List Int := [0, 0, 0, 1, 0, 1, 1, 1]
def firstT : List Int := [0, 0, 0, 0, 1, 1, 1, 1]
theorem good_both : GoodT 2 bothT := ⟨rfl, by decide, rfl, rfl⟩
theorem good_most : GoodT 3 mostT := ⟨rfl, by decide, rfl, rfl⟩
theorem good_firstT : GoodT 3 firstT := ⟨rfl, by decide, rfl, rfl⟩
theorem name_a : NamesOk 1 ["a"] := ⟨rfl, by decide, by decide, by decide, rfl, fun z hz => by rw [List.mem_singleton.mp hz]; decide +kernel⟩
theorem name_ab : NamesOk 2 ["a", "b"] := ⟨rfl, by decide, by decide, by decide, by decide +kernel, (by decide +kernel : ∀ z ∈ (["a", "b"] : List Str), nameB (.str z) = true)⟩
theorem one_all {v : Nat} {ns : List Int} (g : GoodT v ns) : AllOk v ["a"] (tabOf ["a"] [ns]) := name_a.all (name_a.good (rs := [ns]) ⟨rfl, fun r hr => by rw [List.mem_singleton.mp hr]; exact g⟩)
theorem two_all {v : Nat} {ns ms : List Int} (g : GoodT v ns) (g' : GoodT v ms) : AllOk v ["a", "b"] (tabOf ["a", "b"] [ns, ms]) := name_ab.all (name_ab.good (rs := [ns, ms]) ⟨rfl, fun r hr => by
  rcases List.mem_cons.mp hr with rfl | hr
  · exact g
  · rw [List.mem_singleton.mp hr]
    exact g'⟩)
theorem w1 : winnersN 2 bothT 1 = [[0, 1]] := by decide +kernel
theorem w2 : winnersN 2 bothT 0 = [[0], [0, 1], [1]] := by decide +kernel
theorem w3 : winnersN 3 mostT 0 = [[0, 1], [0, 1, 2], [0, 2], [1, 2]] := by decide +kernel
theorem w4 : winnersN 3 firstT 1 = [[0], [0, 1], [0, 1, 2], [0, 2]] := by decide +kernel
theorem w5 : allHN 3 [mostT, firstT] = [0, 1, 2] := by decide +kernel
theorem w6 : allHN 4 [followN 4 2, followN 4 2] = [2] := by decide +kernel
/-! ### written tuples of tuples -/
def intsTA : List Int → TA
  | [] => tNil
  | n :: ns => tCons (tC (.int n)) (intsTA ns)
def rowsTA : List (List Int) → TA
  | [] => tNil
  | r :: rs => tCons (tTup (intsTA r)) (rowsTA rs)
theorem ints_read : ∀ (ns : List Int) {σ : L2.St} {H : Hp} {Q : List V → Hp → Prop}, Q (ns.map V.int) H → intsTA ns σ H Q
  | [], _, _, _, h => h
  | n :: ns, σ, H, Q, h => ints_read ns (Q := fun xs H' => Q (.int n :: xs) H') h
theorem rows_read : ∀ (rs : List (List Int)), (∀ r ∈ rs, r.length ≤ 60) → ∀ {σ : L2.St} {H : Hp} {Q : List V → Hp → Prop}, (∀ H' xs, Same H H' → All2 (IsRow H') xs rs → Q xs H') → rowsTA rs σ H Q
  | [], _, _, H, _, h => h H [] (Same.refl _) .nil
  | r :: rs, hl, σ, H, Q, h => ints_read r (Q := fun xs H1 => xs.length ≤ sizeLine ∧ ∀ p, H1 p = none → rowsTA rs σ (upd H1 p (.tup xs)) fun ys H2 => Q (.ref p :: ys) H2)
    ⟨by rw [List.length_map]; exact Nat.le_of_lt (small60 (Nat.le_trans (hl r List.mem_cons_self) (by decide))), fun p np => rows_read rs (fun q hq => hl q (List.mem_cons_of_mem _ hq)) fun H' xs s a => h H' (.ref p :: xs) ((same_new np).trans s) (.cons ⟨p, rfl, s _ _ upd_same⟩ a)⟩
theorem tup_read (rs : List (List Int)) (hl : ∀ r ∈ rs, r.length ≤ 60) (h60 : rs.length ≤ 60) {σ : L2.St} {H : Hp} {Q : VK} (h : ∀ H' x, Same H H' → IsRows H' x rs → Q x H') : tTup (rowsTA rs) σ H Q :=
  rows_read rs hl (Q := fun xs H1 => xs.length ≤ sizeLine ∧ ∀ p, H1 p = none → Q (.ref p) (upd H1 p (.tup xs))) fun H' xs s a => ⟨by rw [a.len]; exact Nat.le_of_lt (small60 (Nat.le_trans h60 (by decide))), fun p np => h _ _ (s.trans (same_new np)) ⟨p, xs, rfl, upd_same, all_tk (Tk.new np) a⟩⟩
section
variable {P : Program} {w : World} {K : PySem.W.Frag} {mg : Str → Option Value} {base : Heap} {C : Addr}
def spLaw (K : PySem.W.Frag) : Sp := fun vs H Q _ => ∃ (a : Addr) (ns : List Int), vs = [.ref a] ∧ SqL K H a (ns.map V.int) ∧ ns.length ≤ 63 ∧ ∀ H', Q (.bl true) H'
theorem make_fin {H H3 : Hp} {Q : VK} {E : XK} {v : Nat} {d : Addr} {zs : List Str} {tab : Str → List Int} {kvs : List (Key × V)} (h1 : 1 ≤ v) (h4 : v ≤ 4) (sp : Same H H3) (hd : H3 d = some (.dK kvs)) (ht : All2 (TabR H3 tab) kvs zs) (ok : AllOk v zs tab) (so : sortedS zs = true)
    (q : ∀ H' x, Same H H' → RuleAt C H' x v zs tab → Q (.ref x) H') {x dx : Addr} (nx : H3 x = none) (ndx : H3 dx = none) (nex : dx ≠ x) :
    spInit C ([.ref x, .int v, .ref d]) (upd (upd H3 dx (.own x)) x (.ins C dx [])) (fun r H' => r = .non ∧ Q (.ref x) H') E := by
  have sx : Same H3 (upd (upd H3 dx (.own x)) x (.ins C dx [])) := (same_new ndx).trans (same_new (by rw [upd_ne (fun e => nex e.symm)]; exact nx))
  refine ⟨x, dx, d, v, zs, tab, rfl, upd_same, h1, h4, ⟨_, sx _ _ hd, TabR.tk (Tk.same sx) ht⟩, ok, fun H' ys sb pm so' hR => ⟨rfl, ?_⟩⟩
  obtain rfl := sorted_unique pm (pm.nodup_iff.mpr ok.2.2.1) so' so
  refine q H' x (fun b o e => ?_) hR
  have e1 := sp _ _ e
  exact sb b o (fun z => by rw [z, nx] at e1; cases e1) (sx _ _ e1)
end
end Ow

set_option Elab.async false
set_option linter.all false
set_option maxRecDepth 100000
set_option maxHeartbeats 4000000
set_option exponentiation.threshold 3000
namespace Ow
open PySem PySem.Spec PyProof.Rows L2
section
variable {P : Program} {w : World} {K : PySem.W.Frag} {mg : Str → Option Value} {base : Heap} {C : Addr}
theorem make_1 {te : TE} {σ : L2.St} {H : Hp} {Q : VK} {E : XK} {v : Nat} {c : Int} {ns : List Int} (hc : c = (v : Int)) (h1 : 1 ≤ v) (h4 : v ≤ 4) (g : GoodT v ns)
    (hte : ∀ H1 (Q1 : VK), (∀ H2 t, Same H1 H2 → H2 t = some (.tup (ns.map V.int)) → Q1 (.ref t) H2) → te σ H1 Q1) (q : ∀ H' x, Same H H' → RuleAt C H' x v ["a"] (tabOf ["a"] [ns]) → Q (.ref x) H') :
    tMake C (spInit C) [] E (tCons (tC (.int c)) (tCons (tDisp [(tC (.str "a"), te)]) tNil)) σ H Q := by
  subst hc
  intro p np
  refine hte _ _ fun H2 t s2 ht => ?_
  have hp2 : H2 p = some (.dK []) := s2 _ _ upd_same
  have tp : t ≠ p := ne_of ht hp2 (by intro z; cases z)
  refine ⟨hp2, [(Sum.inr "a", .ref t)], rfl, by show 1 ≤ 15; decide, fun x dx nx ndx nex => ?_⟩
  have em : mergeK [] [((Sum.inr "a" : Key), V.ref t)] = ([(Sum.inr "a", V.ref t)] : List (Key × V)) := rfl
  rw [em] at nx ndx ⊢
  have sp : Same H (upd H2 p (.dK [(Sum.inr "a", .ref t)])) := fun b o e => (upd_ne (ne_of_none e np)).trans (s2 _ _ (same_new np _ _ e))
  exact make_fin h1 h4 sp upd_same (.cons ⟨rfl, t, rfl, (upd_ne tp).trans ht⟩ .nil) (one_all g) rfl q nx ndx nex
theorem make_2 {te te2 : TE} {σ : L2.St} {H : Hp} {Q : VK} {E : XK} {v : Nat} {c : Int} {ns ms : List Int} (hc : c = (v : Int)) (h1 : 1 ≤ v) (h4 : v ≤ 4) (g : GoodT v ns) (g' : GoodT v ms)
    (hte : ∀ H1 (Q1 : VK), (∀ H2 t, Same H1 H2 → H2 t = some (.tup (ns.map V.int)) → Q1 (.ref t) H2) → te σ H1 Q1) (hte2 : ∀ H1 (Q1 : VK), (∀ H2 t, Same H1 H2 → H2 t = some (.tup (ms.map V.int)) → Q1 (.ref t) H2) → te2 σ H1 Q1)
    (q : ∀ H' x, Same H H' → RuleAt C H' x v ["a", "b"] (tabOf ["a", "b"] [ns, ms]) → Q (.ref x) H') :
    tMake C (spInit C) [] E (tCons (tC (.int c)) (tCons (tDisp [(tC (.str "a"), te), (tC (.str "b"), te2)]) tNil)) σ H Q := by
  subst hc
  intro p np
  refine hte _ _ fun H2 t s2 ht => ?_
  refine hte2 _ _ fun H3 u s3 hu => ?_
  have hp3 : H3 p = some (.dK []) := s3 _ _ (s2 _ _ upd_same)
  have ht3 := s3 _ _ ht
  have tp : t ≠ p := ne_of ht3 hp3 (by intro z; cases z)
  have up : u ≠ p := ne_of hu hp3 (by intro z; cases z)
  refine ⟨hp3, [(Sum.inr "a", .ref t), (Sum.inr "b", .ref u)], rfl, by show 2 ≤ 15; decide, fun x dx nx ndx nex => ?_⟩
  have em : mergeK [] [((Sum.inr "a" : Key), V.ref t), (Sum.inr "b", V.ref u)] = ([(Sum.inr "a", V.ref t), (Sum.inr "b", V.ref u)] : List (Key × V)) := by rfl
  rw [em] at nx ndx ⊢
  have sp : Same H (upd H3 p (.dK [(Sum.inr "a", .ref t), (Sum.inr "b", .ref u)])) := fun b o e => (upd_ne (ne_of_none e np)).trans (s3 _ _ (s2 _ _ (same_new np _ _ e)))
  exact make_fin h1 h4 sp upd_same (.cons ⟨rfl, t, rfl, (upd_ne tp).trans ht3⟩ (.cons ⟨rfl, u, rfl, (upd_ne up).trans hu⟩ .nil)) (two_all g g') (by decide +kernel) q nx ndx nex
theorem par_read2 {i j : Nat} {ta tb : TE} {r : TS} {D : Ends} {σ : L2.St} {H : Hp} (h : ta σ H fun x H1 => tb σ H1 fun y H2 => ∃ v w, [x, y] = [v, w] ∧ r D ((σ.set i (some v)).set j (some w)) H2) :
    tSeq (tPar i j (tCons ta (tCons tb tNil))) r D σ H := h
theorem gname_read {i : Nat} {x : V} {σ : L2.St} {H : Hp} {k : L2.St → Hp → Prop} (h : k (σ.set i (some x)) H) : gName i x σ H k := h
theorem and_read {ta tb : TE} {D : Ends} {σ : L2.St} {H : Hp} (h : ta σ H fun x H1 => ∃ c, x = .bl c ∧ if c = true then tb σ H1 D.rt else D.rt (.bl false) H1) : tRet (tAndV ta tb) D σ H := h
theorem op_read {r : R2} {ta tb : TE} {σ : L2.St} {H : Hp} {Q : VK} (h : ta σ H fun x H1 => tb σ H1 fun y H2 => r x y H2 Q) : tOp r ta tb σ H Q := h
theorem due_read {ta tb tc td te : TE} {g : TG} {r : TS} {D : Ends} {σ : L2.St} {H : Hp}
    (h : ta σ H fun x1 H1 => tb σ H1 fun x2 H2 => tc σ H2 fun x3 H3 => td σ H3 fun x4 H4 => te σ H4 fun x5 H5 => [x1, x2, x3, x4, x5].length ≤ sizeLine ∧ ∀ L, H5 L = none → g (.ref L) σ (upd H5 L (.lst [x1, x2, x3, x4, x5])) (r D)) :
    tSeq (tAsg (tLst (tCons ta (tCons tb (tCons tc (tCons td (tCons te tNil)))))) g) r D σ H := h
theorem ok_law {f fR fJ fI fW fH fO po : Addr} {mc : Value} {fd fdR fdJ fdI fdW fdH fdO : FuncData} (F : Fun K "law" "law" dLaw f fd)
    (FR : FnG P w K mg base 10 fR fdR ["jug"] spRight) (kR : PySem.W.keepIn K (.ref fR) = true) (bR : Binds K fdR ["jug"] []) (gRt : mg "_law_right" = some (.ref fR))
    (FJ : FnOk P w K mg base CX0 1 fJ fdJ ["script", "at"] (spJug K)) (kJ : PySem.W.keepIn K (.ref fJ) = true) (bJ : Binds K fdJ ["script", "at"] []) (gJ : mg "_law_jug" = some (.ref fJ))
    (M : Mk K C fI) (FI : FnOk P w K mg base CX0 7 fI fdI ["self", "voters", "tables"] (spInit C)) (bI : Binds K fdI ["self", "voters", "tables"] []) (gR : mg "Rule" = some (.ref C))
    (FW : FnOk P w K mg base CX0 6 fW fdW ["rule", "answer"] (spWinners C)) (kW : PySem.W.keepIn K (.ref fW) = true) (bW : Binds K fdW ["rule", "answer"] []) (gW : mg "winners" = some (.ref fW))
    (FH : FnOk P w K mg base CX0 4 fH fdH ["rule"] (spAllH C)) (kH : PySem.W.keepIn K (.ref fH) = true) (bH : Binds K fdH ["rule"] []) (gH : mg "all_heard" = some (.ref fH))
    (FO : FnOk P w K mg base CX0 9 fO fdO ["cls", "issues", "voters", "voter"] (spOfV C)) (bO : Binds K fdO ["cls", "issues", "voters", "voter"] []) (cr : ClX.CRead K C mc) (cm : ClX.CMet K C mc "of_voter" po fO)
    (mr : mg "range" = none) (ml : mg "len" = none) (mx : mg "max" = none) (mn : mg "min" = none) : FnG P w K mg base 11 f fd ["script"] (spLaw K) := by
  refine okG F scLaw (fun vs H Q E h => ?_) (fun cdv A outer s H vs Q E gB hr h => ?_)
  · obtain ⟨a, ns, rfl, _⟩ := h
    rfl
  obtain ⟨a, ns, rfl, hS, hl, q⟩ := h
  refine ⟨_, pss_cons (ps_for PassesOwn.never rfl (pi_range1 (by rfl) mr (pa_cons (pe_callB (call_max2 rfl) (by rfl) mx boot_max (pa_cons pe_int
        (pa_cons (pe_callB (call_min2 rfl) (by rfl) mn boot_min (pa_cons pe_int (pa_cons (pe_callB call_len_seq (by rfl) ml PySem.boot_len (pa_cons (pv 0) pa_nil)) pa_nil))) pa_nil))) pa_nil)) (pg_name (i := 1) scLaw.nd rfl (.inl rfl))
      (pss_cons (ps_set (i := 2) scLaw.nd rfl (.inl rfl) (pe_call FJ (hr.mono (by decide)) (by rfl) gJ kJ bJ .nil pass0 (pa_cons (pv 0) (pa_cons (pv 1) pa_nil))))
      (pss_one (ps_for PassesOwn.never rfl (pi_range1 (by rfl) mr (pa_cons pe_int pa_nil)) (pg_name (i := 3) scLaw.nd rfl (.inl rfl))
        (pss_one (ps_if (pt_not (pt_val (pe_callG FR gB hr (by rfl) gRt kR bR (pa_cons (pv 2) pa_nil)))) (pss_one (ps_ret pe_bl)) pss_nil))))))
    (pss_cons (ps_par (i := 4) (j := 5) (by rfl) scLaw.nd rfl rfl (by decide) rfl rfl (pa_cons
        (pe_make M FI (hr.mono (by decide)) (by rfl) gR bI .nil pass0 (pa_cons pe_int (pa_cons (pe_disp (pps_cons pe_str (pe_tup (pa_cons pe_int (pa_cons pe_int (pa_cons pe_int (pa_cons pe_int pa_nil))))) pps_nil) rfl rfl (fun e => nomatch e) (by show 1 ≤ 15; decide)) pa_nil)))
        (pa_cons (pe_make M FI (hr.mono (by decide)) (by rfl) gR bI .nil pass0 (pa_cons pe_int (pa_cons (pe_disp (pps_cons pe_str (pe_tup (pa_cons pe_int (pa_cons pe_int (pa_cons pe_int (pa_cons pe_int (pa_cons pe_int (pa_cons pe_int (pa_cons pe_int (pa_cons pe_int pa_nil)))))))))
          (pps_cons pe_str (pe_tup (pa_cons pe_int (pa_cons pe_int (pa_cons pe_int (pa_cons pe_int (pa_cons pe_int (pa_cons pe_int (pa_cons pe_int (pa_cons pe_int pa_nil))))))))) pps_nil)) rfl rfl (fun e => nomatch e) (by show 2 ≤ 15; decide)) pa_nil))) pa_nil)) (by rfl))
    (pss_cons (ps_set (i := 6) scLaw.nd rfl (.inl rfl) (pe_lst
      (pa_cons (pe_call FW (hr.mono (by decide)) (by rfl) gW kW bW .nil pass0 (pa_cons (pv 4) (pa_cons (pe_tup (pa_cons pe_str (pa_cons pe_int pa_nil))) pa_nil)))
      (pa_cons (pe_call FW (hr.mono (by decide)) (by rfl) gW kW bW .nil pass0 (pa_cons (pv 4) (pa_cons (pe_tup (pa_cons pe_str (pa_cons pe_int pa_nil))) pa_nil)))
      (pa_cons (pe_call FW (hr.mono (by decide)) (by rfl) gW kW bW .nil pass0 (pa_cons (pv 5) (pa_cons (pe_tup (pa_cons pe_str (pa_cons pe_int pa_nil))) pa_nil)))
      (pa_cons (pe_call FW (hr.mono (by decide)) (by rfl) gW kW bW .nil pass0 (pa_cons (pv 5) (pa_cons (pe_tup (pa_cons pe_str (pa_cons pe_int pa_nil))) pa_nil)))
      (pa_cons (pe_call FH (hr.mono (by decide)) (by rfl) gH kH bH .nil pass0 (pa_cons (pv 5) pa_nil)) pa_nil)))))))
    (pss_cons (ps_set (i := 7) scLaw.nd rfl (.inl rfl) (pe_lst
      (pa_cons (pe_tup (pa_cons (pe_tup (pa_cons pe_int (pa_cons pe_int pa_nil))) pa_nil))
      (pa_cons (pe_tup (pa_cons (pe_tup (pa_cons pe_int pa_nil)) (pa_cons (pe_tup (pa_cons pe_int (pa_cons pe_int pa_nil))) (pa_cons (pe_tup (pa_cons pe_int pa_nil)) pa_nil))))
      (pa_cons (pe_tup (pa_cons (pe_tup (pa_cons pe_int (pa_cons pe_int pa_nil))) (pa_cons (pe_tup (pa_cons pe_int (pa_cons pe_int (pa_cons pe_int pa_nil)))) (pa_cons (pe_tup (pa_cons pe_int (pa_cons pe_int pa_nil))) (pa_cons (pe_tup (pa_cons pe_int (pa_cons pe_int pa_nil))) pa_nil)))))
      (pa_cons (pe_tup (pa_cons (pe_tup (pa_cons pe_int pa_nil)) (pa_cons (pe_tup (pa_cons pe_int (pa_cons pe_int pa_nil))) (pa_cons (pe_tup (pa_cons pe_int (pa_cons pe_int (pa_cons pe_int pa_nil)))) (pa_cons (pe_tup (pa_cons pe_int (pa_cons pe_int pa_nil))) pa_nil)))))
      (pa_cons (pe_tup (pa_cons pe_int (pa_cons pe_int (pa_cons pe_int pa_nil)))) pa_nil)))))))
    (pss_one (ps_ret (pe_and (pe_cmpR (op_eqD (hu64 hr)) (pv 6) (pv 7) (nomark _))
      (pe_one (pe_cmpR (op_eqD (hu64 hr)) (pe_call FH (hr.mono (by decide)) (by rfl) gH kH bH .nil pass0 (pa_cons (ClX.pe_cmeth (pe_glob (v := .ref C) (by rfl) gR rfl) cr cm (FO.raw bO .nil) (hr.mono (by decide)) pass0 (pa_cons (pe_tup (pa_cons pe_str (pa_cons pe_str pa_nil))) (pa_cons pe_int (pa_cons pe_int pa_nil)))) pa_nil))
        (pe_tup (pa_cons pe_int pa_nil)) (nomark _))))))))), ?red⟩
  case red =>
  refine ⟨.ref a, rfl, a, _, rfl, .inl hS, 5, _, rfl, 1, _, rfl, _, rfl, ?_, ?_, ?_⟩
  · split <;> split <;> omega
  · split <;> split <;> omega
  generalize (if (if (((ns.map V.int).length : Nat) : Int) < 5 then (((ns.map V.int).length : Nat) : Int) else 5) > 1 then (if (((ns.map V.int).length : Nat) : Int) < 5 then (((ns.map V.int).length : Nat) : Int) else 5) else 1) = m
  refine for_range (lo := 0) (n := m.toNat) (fun t σ Hx => ∃ y z u, σ = [some (.ref a), y, z, u, none, none, none, none] ∧ Same H Hx)
    ⟨none, none, none, rfl, Same.refl _⟩ (fun t σ Hx ht hP => ?_) (fun σ Hx hP => ?_)
  · obtain ⟨y, z, u, rfl, sx⟩ := hP
    refine ⟨.ref a, rfl, .int (0 + (t : Int)), rfl, a, ns, t, ?_, sx.seq hS, fun H1 J s1 nJ jJ => ?_⟩
    · show [V.ref a, V.int (0 + (t : Int))] = _
      rw [Int.zero_add]
    refine ⟨4, rfl, by decide, by decide, ?_⟩
    refine for_range (lo := 0) (n := (4 : Int).toNat) (fun t2 σ Hy => ∃ u', σ = [some (.ref a), some (.int (0 + (t : Int))), some (.ref J), u', none, none, none, none] ∧ Sb J H1 Hy ∧ Jug Hy J)
      ⟨u, rfl, Sb.refl _ _, jJ⟩ (fun t2 σ Hy ht2 hQ => ?_) (fun σ Hy hQ => ?_)
    · obtain ⟨u', rfl, sb, jy⟩ := hQ
      exact ⟨.ref J, rfl, J, rfl, jy, fun H2 sb2 j2 => ⟨true, rfl, iteF ⟨_, rfl, sb.trans sb2, j2⟩⟩⟩
    · obtain ⟨u', rfl, sb, jy⟩ := hQ
      exact ⟨_, _, _, rfl, fun b o e => sb b o (ne_of_none (sx _ _ e) nJ) (s1 _ _ (sx _ _ e))⟩
  obtain ⟨y, z, u, rfl, sx⟩ := hP
  dsimp only
  refine par_read2 ?_
  refine make_1 (v := 2) (ns := bothT) rfl (by decide) (by decide) good_both (fun H1 Q1 k1 => ⟨(by show 4 ≤ sizeLine; decide), fun t nt => k1 _ t (same_new nt) upd_same⟩) fun H1 r1 s1 hR1 => ?_
  refine make_2 (v := 3) (ns := mostT) (ms := firstT) rfl (by decide) (by decide) good_most good_firstT (fun H1 Q1 k1 => ⟨(by show 8 ≤ sizeLine; decide), fun t nt => k1 _ t (same_new nt) upd_same⟩)
    (fun H1 Q1 k1 => ⟨(by show 8 ≤ sizeLine; decide), fun t nt => k1 _ t (same_new nt) upd_same⟩) fun H2 r2 s2 hR2 => ⟨.ref r1, .ref r2, rfl, ?_⟩
  have lenB : ∀ z ∈ (["a", "b"] : List Str), (tabOf ["a", "b"] [mostT, firstT] z).length = 2 ^ 3 := by decide +kernel
  refine ⟨.ref r1, rfl, (by show 2 ≤ sizeLine; decide), fun t1 n1 => ?_⟩
  have sA := same_new (o := .tup [.str "a", .int 1]) n1
  refine ⟨r1, t1, 2, ["a"], tabOf ["a"] [bothT], "a", 1, rfl, hR1.tk (Tk.same (s2.trans sA)), by decide, List.mem_cons_self, by decide +kernel, by decide +kernel, upd_same, .inr rfl, fun H3 u1 x1 s3 e1 a1 => ?_⟩
  refine ⟨.ref r1, rfl, (by show 2 ≤ sizeLine; decide), fun t2 n2 => ?_⟩
  have sB := same_new (o := .tup [.str "a", .int 0]) n2
  refine ⟨r1, t2, 2, ["a"], tabOf ["a"] [bothT], "a", 0, rfl, hR1.tk (Tk.same (s2.trans (sA.trans (s3.trans sB)))), by decide, List.mem_cons_self, by decide +kernel, by decide +kernel, upd_same, .inl rfl, fun H4 u2 x2 s4 e2 a2 => ?_⟩
  have s24 := sA.trans (s3.trans (sB.trans s4))
  refine ⟨.ref r2, rfl, (by show 2 ≤ sizeLine; decide), fun t3 n3 => ?_⟩
  have sC := same_new (o := .tup [.str "a", .int 0]) n3
  refine ⟨r2, t3, 3, ["a", "b"], tabOf ["a", "b"] [mostT, firstT], "a", 0, rfl, hR2.tk (Tk.same (s24.trans sC)), by decide, List.mem_cons_self, by decide +kernel, by decide +kernel, upd_same, .inl rfl, fun H5 u3 x3 s5 e3 a3 => ?_⟩
  refine ⟨.ref r2, rfl, (by show 2 ≤ sizeLine; decide), fun t4 n4 => ?_⟩
  have sD := same_new (o := .tup [.str "b", .int 1]) n4
  refine ⟨r2, t4, 3, ["a", "b"], tabOf ["a", "b"] [mostT, firstT], "b", 1, rfl, hR2.tk (Tk.same (s24.trans (sC.trans (s5.trans sD)))), by decide, .tail _ List.mem_cons_self, by decide +kernel, by decide +kernel, upd_same, .inr rfl, fun H6 u4 x4 s6 e4 a4 => ?_⟩
  have s26 := s24.trans (sC.trans (s5.trans (sD.trans s6)))
  refine ⟨.ref r2, rfl, r2, 3, ["a", "b"], tabOf ["a", "b"] [mostT, firstT], rfl, hR2.tk (Tk.same s26), by decide, by decide, lenB, fun H7 u5 s7 e5 => ?_⟩
  refine ⟨(by show 5 ≤ sizeLine; decide), fun L nL => ?_⟩
  have sL : Same H7 (upd H7 L (.lst [.ref u1, .ref u2, .ref u3, .ref u4, .ref u5])) := same_new nL
  have eL : upd H7 L (.lst [.ref u1, .ref u2, .ref u3, .ref u4, .ref u5]) L = some (.lst [.ref u1, .ref u2, .ref u3, .ref u4, .ref u5]) := upd_same
  generalize upd H7 L (.lst [.ref u1, .ref u2, .ref u3, .ref u4, .ref u5]) = H8 at sL eL ⊢
  dsimp only
  refine gname_read ?_
  refine due_read ?_
  refine tup_read (rs := [[0, 1]]) (by decide) (by decide) fun K1 y1 q1 i1 => ?_
  refine tup_read (rs := [[0], [0, 1], [1]]) (by decide) (by decide) fun K2 y2 q2 i2 => ?_
  refine tup_read (rs := [[0, 1], [0, 1, 2], [0, 2], [1, 2]]) (by decide) (by decide) fun K3 y3 q3 i3 => ?_
  refine tup_read (rs := [[0], [0, 1], [0, 1, 2], [0, 2]]) (by decide) (by decide) fun K4 y4 q4 i4 => ?_
  refine ⟨(by show 3 ≤ sizeLine; decide), fun y5 n5 => ?_⟩
  have q5 := same_new (o := .tup [.int 0, .int 1, .int 2]) n5
  have i5 : IsRow (upd K4 y5 (.tup [.int 0, .int 1, .int 2])) (.ref y5) [0, 1, 2] := ⟨y5, rfl, upd_same⟩
  generalize upd K4 y5 (.tup [.int 0, .int 1, .int 2]) = K5 at q5 i5 ⊢
  refine ⟨(by show 5 ≤ sizeLine; decide), fun M nM => ?_⟩
  have qM : Same K5 (upd K5 M (.lst [y1, y2, y3, y4, .ref y5])) := same_new nM
  have eM : upd K5 M (.lst [y1, y2, y3, y4, .ref y5]) M = some (.lst [y1, y2, y3, y4, .ref y5]) := upd_same
  generalize upd K5 M (.lst [y1, y2, y3, y4, .ref y5]) = K6 at qM eM ⊢
  rw [show tabOf ["a"] [bothT] "a" = bothT from rfl, w1] at a1
  rw [show tabOf ["a"] [bothT] "a" = bothT from rfl, w2] at a2
  rw [show tabOf ["a", "b"] [mostT, firstT] "a" = mostT from rfl, w3] at a3
  rw [show tabOf ["a", "b"] [mostT, firstT] "b" = firstT from by decide +kernel, w4] at a4
  rw [show (["a", "b"] : List Str).map (tabOf ["a", "b"] [mostT, firstT]) = [mostT, firstT] from by decide +kernel, w5] at e5
  have r5 := q5.trans qM
  have r4 := q4.trans r5
  have r3 := q3.trans r4
  have r2' := q2.trans r3
  have r1' := q1.trans r2'
  have r0 := sL.trans r1'
  have f7 := s7.trans r0
  have f6 := s6.trans f7
  have f5 := sD.trans f6
  have f4 := s5.trans f5
  have f3 := sC.trans f4
  have f2 := s4.trans f3
  have f1 := s3.trans (sB.trans f2)
  have g1 := sB.trans f2
  have dT : Dp K K6 (.ref L) (.list [rowsD [[0, 1]], rowsD [[0], [0, 1], [1]], rowsD [[0, 1], [0, 1, 2], [0, 2], [1, 2]], rowsD [[0], [0, 1], [0, 1, 2], [0, 2]], rowD [0, 1, 2]]) :=
    .lst (.of (r1' _ _ eL)) (.cons (dp_rows ⟨u1, x1, rfl, g1 _ _ e1, all_tk (Tk.same g1) a1⟩) (.cons (dp_rows ⟨u2, x2, rfl, f3 _ _ e2, all_tk (Tk.same f3) a2⟩)
      (.cons (dp_rows ⟨u3, x3, rfl, f5 _ _ e3, all_tk (Tk.same f5) a3⟩) (.cons (dp_rows ⟨u4, x4, rfl, f7 _ _ e4, all_tk (Tk.same f7) a4⟩) (.cons (dp_row ⟨u5, rfl, r0 _ _ e5⟩) .nil)))))
  have dU : Dp K K6 (.ref M) (.list [rowsD [[0, 1]], rowsD [[0], [0, 1], [1]], rowsD [[0, 1], [0, 1, 2], [0, 2], [1, 2]], rowsD [[0], [0, 1], [0, 1, 2], [0, 2]], rowD [0, 1, 2]]) :=
    .lst (.of eM) (.cons (dp_rows (i1.tk (Tk.same r2'))) (.cons (dp_rows (i2.tk (Tk.same r3))) (.cons (dp_rows (i3.tk (Tk.same r4))) (.cons (dp_rows (i4.tk (Tk.same r5))) (.cons (dp_row (i5.tk (Tk.same qM))) .nil)))))
  have sh : SeqAt.shaped (.list [rowsD [[0, 1]], rowsD [[0], [0, 1], [1]], rowsD [[0, 1], [0, 1, 2], [0, 2], [1, 2]], rowsD [[0], [0, 1], [0, 1, 2], [0, 2]], rowD [0, 1, 2]]) = true := by decide +kernel
  refine gname_read ?_
  refine and_read (op_read ?_)
  refine ⟨.ref L, rfl, .ref M, rfl, _, _, dT, dU, sh, sh, _, rfl, ?_⟩
  rw [show PyData.eqv (.list [rowsD [[0, 1]], rowsD [[0], [0, 1], [1]], rowsD [[0, 1], [0, 1, 2], [0, 2], [1, 2]], rowsD [[0], [0, 1], [0, 1, 2], [0, 2]], rowD [0, 1, 2]]) (.list [rowsD [[0, 1]], rowsD [[0], [0, 1], [1]], rowsD [[0, 1], [0, 1, 2], [0, 2], [1, 2]], rowsD [[0], [0, 1], [0, 1, 2], [0, 2]], rowD [0, 1, 2]]) = true from by decide +kernel]
  refine iteT (op_read ?_)
  refine ⟨rfl, (by show 2 ≤ sizeLine; decide), fun t nt => ?_⟩
  have okf : AllOk 4 ["a", "b"] (fun _ => followN 4 2) := name_ab.all fun z _ => follow_good (by decide) (by decide)
  refine ⟨t, 4, 2, ["a", "b"], rfl, upd_same, by decide, by decide, by decide, okf, issues_of (List.Perm.refl _) name_ab.so name_ab.nd (by decide) (by decide) name_ab.nm, fun H9 r4 ys s9 _ pm so9 hR4 => ?_⟩
  obtain rfl := sorted_unique pm (pm.nodup_iff.mpr name_ab.nd) so9 name_ab.so
  refine ⟨r4, 4, ["a", "b"], fun _ => followN 4 2, rfl, hR4, by decide, by decide, fun z _ => (by decide +kernel : (followN 4 2).length = 2 ^ 4), fun H10 v5 s10 e10 => ?_⟩
  rw [show (["a", "b"] : List Str).map (fun _ => followN 4 2) = [followN 4 2, followN 4 2] from rfl, w6] at e10
  refine ⟨(by show 1 ≤ sizeLine; decide), fun v6 n6 => ?_⟩
  refine ⟨rowD [2], rowD [2], dp_row ⟨v5, rfl, same_new n6 _ _ e10⟩, dp_row ⟨v6, rfl, upd_same⟩, shaped_row _, shaped_row _, ?_⟩
  rw [eqv_row, decide_eq_true rfl]
  exact q _
end
end Ow

set_option Elab.async false
set_option linter.all false
set_option maxRecDepth 100000
set_option maxHeartbeats 4000000
set_option exponentiation.threshold 3000
namespace Ow
open PySem PySem.Spec PyProof.Rows L2
/-- a def found by its name -/
theorem Fun.ofD {K : PySem.W.Frag} {x qual : Str} {st : Stmt} {f : Addr} {fd : FuncData} (F : FunD K x qual (defArgs st) (defBody st) (defScope st) [] [] f fd) : Fun K x qual st f fd := by
  obtain ⟨oc, od, dV, kV, doc, pm, an, cdv, ct, osl, rfl, lk, hcd, hD, hK⟩ := F.ex
  rcases hD with ⟨_, rfl⟩ | ⟨e, _⟩
  · exact ⟨⟨oc, od, kV, doc, pm, an, cdv, ct, osl, rfl, lk, hcd⟩, F.kp⟩
  · exact absurd rfl e
/-! a def behind a property, a classmethod: found by the address that the record names -/
abbrev Seen : Type := Option (Str × Str × Arguments × FuncBody × Scope × Addr × List (Str × Addr) × Value × Addr)
def seen (K : PySem.W.Frag) (a : Addr) : Seen := (K.lookup a).bind fun o => match o.data with
  | .func d => some (d.name, d.qualname, d.params, d.body, d.scope, d.globals, d.closure, d.defaults, d.builtins)
  | _ => none
def coded (K : PySem.W.Frag) (a : Addr) (q : Str) : Bool := match K.lookup a with
  | some o => (match o.data with
    | .func d => PySem.W.codeIn K d.code q
    | _ => false)
  | none => false
def want (x q : Str) (st : Stmt) : Seen := some (x, q, defArgs st, .stmts (defBody st), defScope st, mainGlobals, [], .none, builtinsNs)
theorem seen_fun {K : PySem.W.Frag} {x q : Str} {st : Stmt} {a : Addr} (e : seen K a = want x q st) (c : coded K a q = true) (k : PySem.W.keepIn K (.ref a) = true) : ∃ fd, FunD K x q (defArgs st) (defBody st) (defScope st) [] [] a fd := by
  unfold coded at c
  unfold seen want at e
  cases r : K.lookup a with
  | none =>
    rw [r] at c
    cases c
  | some o =>
    obtain ⟨oc, od, dt, osl⟩ := o
    rw [r] at c e
    cases dt with
    | func d =>
      obtain ⟨n1, n2, n3, n4, n5, n6, n7, n8, n9, n10, n11, n12, n13, n14, n15⟩ := d
      have e2 : (some (n1, n2, n3, n4, n5, n6, n7, n8, n15) : Seen) = some (x, q, defArgs st, .stmts (defBody st), defScope st, mainGlobals, [], .none, builtinsNs) := e
      simp only [Option.some.injEq, Prod.mk.injEq] at e2
      obtain ⟨h1, h2, h3, h4, h5, h6, h7, h8, h9⟩ := e2
      subst h1 h2 h3 h4 h5 h6 h7 h8 h9
      exact ⟨_, ⟨oc, od, .none, n9, n10, n11, n12, n13, n14, osl, rfl, r, c, .inl ⟨rfl, rfl⟩, .inl rfl⟩, k⟩
    | _ => cases c
/-- the def that the record of a property, a classmethod names -/
def recA (K : PySem.W.Frag) (p : Addr) (T : String) : Addr := match PySem.W.recIn K p T with
  | some (.ref g :: _) => g
  | _ => 0
def recB (K : PySem.W.Frag) (p : Addr) (T : String) : Bool := match PySem.W.recIn K p T with
  | some (.ref _ :: _) => true
  | _ => false
theorem recB_ok {K : PySem.W.Frag} {p : Addr} {T : String} (h : recB K p T = true) : ∃ rest, PySem.W.recIn K p T = some (.ref (recA K p T) :: rest) := by
  unfold recB at h
  unfold recA
  split at h
  · rename_i g r e
    rw [e]
    exact ⟨r, rfl⟩
  · cases h
def propB (K : PySem.W.Frag) (C : Addr) (f : Str) : Bool := He.eqO (PySem.W.findIn K (.ref C) f) (some (some (.ref (He.ma K C f)))) && (He.eqO (PySem.W.specialIn K (.ref (He.ma K C f)) "__get__") (some (some (.builtin "property.__get__"))) && (decide (PySem.W.takesIn K (.ref (He.ma K C f)) = some true) && recB K (He.ma K C f) "property"))
theorem propB_ok {K : PySem.W.Frag} {C : Addr} {f : Str} (h : propB K C f = true) : PropOf K C f (He.ma K C f) (recA K (He.ma K C f) "property") := by
  obtain ⟨h1, h⟩ := He.ba h
  obtain ⟨h2, h⟩ := He.ba h
  obtain ⟨h3, h4⟩ := He.ba h
  exact ⟨He.eqO_ok h1, He.eqO_ok h2, of_decide_eq_true h3, recB_ok h4⟩
def cmB (K : PySem.W.Frag) (C : Addr) (f : Str) : Bool := (match PySem.W.findCls K (.ref C) (.type "type") f with
  | some (.get (.builtin b) (.ref p) .none (.ref c)) => decide (b = "classmethod.__get__") && (decide (p = He.ma K C f) && decide (c = C))
  | _ => false) && (recB K (He.ma K C f) "classmethod" && PySem.W.fnIn K (recA K (He.ma K C f) "classmethod"))
theorem cmB_ok {K : PySem.W.Frag} {C : Addr} {f : Str} (h : cmB K C f = true) : ClX.CMet K C (.type "type") f (He.ma K C f) (recA K (He.ma K C f) "classmethod") := by
  obtain ⟨h1, h⟩ := He.ba h
  obtain ⟨h2, h3⟩ := He.ba h
  refine ⟨?_, recB_ok h2, h3⟩
  split at h1
  · rename_i b p c e
    obtain ⟨e1, h1⟩ := He.ba h1
    obtain ⟨e2, e3⟩ := He.ba h1
    rw [e, of_decide_eq_true e1, of_decide_eq_true e2, of_decide_eq_true e3]
  · cases h1
def crB (K : PySem.W.Frag) (C : Addr) : Bool := PySem.W.readsIn K C (.type "type") && He.eqO (PySem.W.specialIn K (.ref C) "__getattribute__") (some (some (.builtin "type.__getattribute__")))
theorem crB_ok {K : PySem.W.Frag} {C : Addr} (h : crB K C = true) : ClX.CRead K C (.type "type") := by
  obtain ⟨h1, h2⟩ := He.ba h
  exact ⟨h1, He.eqO_ok h2⟩
def kindB (K : PySem.W.Frag) (C : Addr) : Bool := He.eqO (PySem.W.findIn K (.ref C) "__class__") (some (some (.builtin "object.__class__"))) && (He.eqO (PySem.W.specialIn K (.builtin "object.__class__") "__get__") (some (some (.builtin "getset_descriptor.__get__"))) &&
  (decide (PySem.W.takesIn K (.builtin "object.__class__") = some true) && (decide (PySem.W.mroIn K C (.type "object") = some true) && (decide (PySem.W.kitOne K (.ref C) (.ref C) = some true) && kinds.all fun T => decide (PySem.W.kitOne K (.type T) (.ref C) = some false) && PySem.W.notFirst K C (.type T)))))
theorem kindB_ok {K : PySem.W.Frag} {C : Addr} (h : kindB K C = true) : RuleI K C := by
  obtain ⟨h1, h⟩ := He.ba h
  obtain ⟨h2, h⟩ := He.ba h
  obtain ⟨h3, h⟩ := He.ba h
  obtain ⟨h4, h⟩ := He.ba h
  obtain ⟨h5, h6⟩ := He.ba h
  exact ⟨He.eqO_ok h1, He.eqO_ok h2, of_decide_eq_true h3, of_decide_eq_true h4, of_decide_eq_true h5, fun T hT => by
    obtain ⟨a, b⟩ := He.ba (List.all_eq_true.mp h6 T hT)
    exact ⟨of_decide_eq_true a, b⟩⟩
/-! the head by facts -/
def dd (i : Nat) (x : Str) : He.DefD := ⟨(x, none), x, x, defArgs (topS i), defBody (topS i), defScope (topS i), [], []⟩
def dm (j : Nat) (m q : Str) : He.DefD := ⟨("Rule", some m), m, q, defArgs (inS 36 j), defBody (inS 36 j), defScope (inS 36 j), [], []⟩

def fns : List He.DefD := [dd 11 "is_integer", dd 12 "is_name", dd 13 "is_value", dd 14 "is_values", dd 15 "has_values", dd 16 "all_values", dd 17 "all_sets", dd 18 "is_ascending", dd 19 "is_set_of_names", dd 22 "is_issues", dd 23 "has_issues_as_keys", dd 24 "is_answer", dd 25 "is_answer_to", dd 28 "need_issues", dd 29 "need_voters", dd 30 "_is_table", dd 31 "_are_tables", dd 32 "_follow_table", dd 33 "are_voters", dd 34 "place_of", dd 35 "_hangs_on", dm 0 "__init__" "Rule.__init__", dm 4 "__getitem__" "Rule.__getitem__", dm 11 "__iter__" "Rule.__iter__", dm 13 "heard" "Rule.heard", dd 37 "need_any_rule", dd 39 "_wins", dd 40 "_need_answer_to", dd 41 "does_win", dd 42 "winners", dd 43 "all_heard", dd 46 "_law_jug", dd 47 "_law_dip", dd 48 "_law_jumbled", dd 49 "_law_all_rows", dd 45 "_law_winners_of", dd 50 "_law_made_rule", dd 51 "_law_any_tables", dd 53 "_law_flipped", dd 54 "_law_all_sets", dd 52 "_law_right", dd 55 "law"]
def fas : List He.Fa := [.glo "is_integer", .glo "is_name", .glo "is_value", .glo "is_values", .glo "has_values", .glo "all_values", .glo "all_sets", .glo "is_ascending", .glo "is_set_of_names", .glo "is_issues", .glo "has_issues_as_keys", .glo "is_answer", .glo "is_answer_to", .glo "need_issues", .glo "need_voters", .glo "_is_table", .glo "_are_tables", .glo "_follow_table", .glo "are_voters", .glo "place_of", .glo "_hangs_on", .glo "need_any_rule", .glo "_wins", .glo "_need_answer_to", .glo "does_win", .glo "winners", .glo "all_heard", .glo "_law_jug", .glo "_law_dip", .glo "_law_jumbled", .glo "_law_all_rows", .glo "_law_winners_of", .glo "_law_made_rule", .glo "_law_any_tables", .glo "_law_flipped", .glo "_law_all_sets", .glo "_law_right", .glo "law", .glo "Rule", .int "_BOUND" 1000000000000000000000000000000000000000000000000000000000000, .int "MAX_LETTERS" 8, .int "MAX_ISSUES" 6, .int "MAX_VOTERS" 4, .free "isinstance", .free "int", .free "bool", .free "str", .free "len", .free "all", .free "tuple", .free "range", .free "list", .free "zip", .free "sorted", .free "dict", .free "enumerate", .free "any", .free "iter", .free "abs", .free "max", .free "repr", .free "min", .cls "Rule", .noat "Rule" "_voters", .noat "Rule" "_issues", .noat "Rule" "_tables", .meth "Rule" "heard", .meth "Rule" "__iter__", .meth "Rule" "__getitem__", .mkr "Rule"]
/-- more facts -/
abbrev aOf (K : PySem.W.Frag) : Addr := recA K (He.ma K (He.ga K "Rule") "of_voter") "classmethod"
abbrev aVo (K : PySem.W.Frag) : Addr := recA K (He.ma K (He.ga K "Rule") "voters") "property"
abbrev aIs (K : PySem.W.Frag) : Addr := recA K (He.ma K (He.ga K "Rule") "issues") "property"
def x1 (K : PySem.W.Frag) : Bool := PySem.W.noSeq K (He.ga K "Rule") && PySem.W.fnIn K (He.ma K (He.ga K "Rule") "__getitem__")
def x2 (K : PySem.W.Frag) : Bool := propB K (He.ga K "Rule") "voters" && (propB K (He.ga K "Rule") "issues" && (cmB K (He.ga K "Rule") "of_voter" && (crB K (He.ga K "Rule") && kindB K (He.ga K "Rule"))))
def x3 (K : PySem.W.Frag) : Bool := coded K (aOf K) "Rule.of_voter" && (PySem.W.keepIn K (.ref (aOf K)) && (coded K (aVo K) "Rule.voters" && (PySem.W.keepIn K (.ref (aVo K)) && (coded K (aIs K) "Rule.issues" && PySem.W.keepIn K (.ref (aIs K))))))
def xtra (K : PySem.W.Frag) : Bool := x1 K && (x2 K && x3 K)
def seens (K : PySem.W.Frag) : List Seen := [seen K (aOf K), seen K (aVo K), seen K (aIs K)]
def wants : List Seen := [want "of_voter" "Rule.of_voter" (inS 36 1), want "voters" "Rule.voters" (inS 36 2), want "issues" "Rule.issues" (inS 36 3)]
structure Xt (K : PySem.W.Frag) : Prop where
  noSeq : PySem.W.noSeq K (He.ga K "Rule") = true
  fnG : PySem.W.fnIn K (He.ma K (He.ga K "Rule") "__getitem__") = true
theorem Xt.of {K : PySem.W.Frag} (h : x1 K = true) : Xt K := by
  obtain ⟨h1, h2⟩ := He.ba h
  exact ⟨h1, h2⟩
abbrev AlE : Type := He.AlD × Bool × List Seen
def obsK (K : PySem.W.Frag) : AlE := (He.obsD fas fns K, xtra K, seens K)
def obsE (n : Nat) (g : Addr → Option Obj) : AlE := obsK (He.frG g (cStatics :: He.asD g n))
def valE : AlE := (He.valD fns, true, wants)
def hookE (n : Nat) : PySem.W.Hook where
  α := AlE
  obs := fun s => obsE n s.heap.get?
  val := fun _ => valE
  says := fun _ h => ∃ K : PySem.W.Frag, K.In h ∧ He.SaysD fas fns K ∧ xtra K = true ∧ seens K = wants
  of := fun _ _ e => ⟨_, He.frG_in, congrArg (fun z : AlE => z.1) e, congrArg (fun z : AlE => z.2.1) e, congrArg (fun z : AlE => z.2.2) e⟩
  keeps := fun _ _ _ ⟨K, hK, c⟩ k => ⟨K, PySem.W.Frag.In.keeps hK k, c⟩
theorem obsE_eq {n : Nat} {g : Addr → Option Obj} {s : Shared} (h : ∀ a, g a = s.heap.get? a) : obsE n g = (hookE n).obs s := by
  have e : g = s.heap.get? := funext h
  rw [e] <;> rfl
theorem facts {P : Program} {w : World} {K : PySem.W.Frag} {h : Heap} {mg : Str → Option Value} {f : Addr} (X : K.In h) (G : h.Ns mainGlobals mg) (hfa : mg ("law" : Str) = some (.ref f)) (c : He.SaysD fas fns K) (xx : xtra K = true) (sn : seens K = wants) :
    ∃ fd : FuncData, (∀ (s : Shared) (v : Value), BindsTo s fd ⟨[v], []⟩ [("script", v)]) ∧ ∀ base : Heap, K.In base → base.Ns mainGlobals mg → FnG P w K mg base 11 f fd ["script"] (spLaw K) := by
  obtain ⟨xa, xx⟩ := He.ba xx
  obtain ⟨xb, xc⟩ := He.ba xx
  have xt := Xt.of xa
  obtain ⟨xp1, xb⟩ := He.ba xb
  obtain ⟨xp2, xb⟩ := He.ba xb
  obtain ⟨xcm, xb⟩ := He.ba xb
  obtain ⟨xcr, xki⟩ := He.ba xb
  obtain ⟨c1, xc⟩ := He.ba xc
  obtain ⟨c2, xc⟩ := He.ba xc
  obtain ⟨c3, xc⟩ := He.ba xc
  obtain ⟨c4, xc⟩ := He.ba xc
  obtain ⟨c5, c6⟩ := He.ba xc
  have pVo := propB_ok xp1
  have pIs := propB_ok xp2
  have cm := cmB_ok xcm
  have cr := crB_ok xcr
  have RI := kindB_ok xki
  injection sn with s1 sn
  injection sn with s2 sn
  injection sn with s3 sn
  obtain ⟨fd_Sof_voter, D_Sof_voter⟩ := seen_fun (st := inS 36 1) s1 c1 c2
  obtain ⟨fd_Svoters, D_Svoters⟩ := seen_fun (st := inS 36 2) s2 c3 c4
  obtain ⟨fd_Sissues, D_Sissues⟩ := seen_fun (st := inS 36 3) s3 c5 c6

  obtain ⟨fd_is_integer, D_is_integer⟩ := c.def_ 0 (d := dd 11 "is_integer") rfl
  obtain ⟨fd_is_name, D_is_name⟩ := c.def_ 1 (d := dd 12 "is_name") rfl
  obtain ⟨fd_is_value, D_is_value⟩ := c.def_ 2 (d := dd 13 "is_value") rfl
  obtain ⟨fd_is_values, D_is_values⟩ := c.def_ 3 (d := dd 14 "is_values") rfl
  obtain ⟨fd_has_values, D_has_values⟩ := c.def_ 4 (d := dd 15 "has_values") rfl
  obtain ⟨fd_all_values, D_all_values⟩ := c.def_ 5 (d := dd 16 "all_values") rfl
  obtain ⟨fd_all_sets, D_all_sets⟩ := c.def_ 6 (d := dd 17 "all_sets") rfl
  obtain ⟨fd_is_ascending, D_is_ascending⟩ := c.def_ 7 (d := dd 18 "is_ascending") rfl
  obtain ⟨fd_is_set_of_names, D_is_set_of_names⟩ := c.def_ 8 (d := dd 19 "is_set_of_names") rfl
  obtain ⟨fd_is_issues, D_is_issues⟩ := c.def_ 9 (d := dd 22 "is_issues") rfl
  obtain ⟨fd_has_issues_as_keys, D_has_issues_as_keys⟩ := c.def_ 10 (d := dd 23 "has_issues_as_keys") rfl
  obtain ⟨fd_is_answer, D_is_answer⟩ := c.def_ 11 (d := dd 24 "is_answer") rfl
  obtain ⟨fd_is_answer_to, D_is_answer_to⟩ := c.def_ 12 (d := dd 25 "is_answer_to") rfl
  obtain ⟨fd_need_issues, D_need_issues⟩ := c.def_ 13 (d := dd 28 "need_issues") rfl
  obtain ⟨fd_need_voters, D_need_voters⟩ := c.def_ 14 (d := dd 29 "need_voters") rfl
  obtain ⟨fd__is_table, D__is_table⟩ := c.def_ 15 (d := dd 30 "_is_table") rfl
  obtain ⟨fd__are_tables, D__are_tables⟩ := c.def_ 16 (d := dd 31 "_are_tables") rfl
  obtain ⟨fd__follow_table, D__follow_table⟩ := c.def_ 17 (d := dd 32 "_follow_table") rfl
  obtain ⟨fd_are_voters, D_are_voters⟩ := c.def_ 18 (d := dd 33 "are_voters") rfl
  obtain ⟨fd_place_of, D_place_of⟩ := c.def_ 19 (d := dd 34 "place_of") rfl
  obtain ⟨fd__hangs_on, D__hangs_on⟩ := c.def_ 20 (d := dd 35 "_hangs_on") rfl
  obtain ⟨fd_M__init__, D_M__init__⟩ := c.def_ 21 (d := dm 0 "__init__" "Rule.__init__") rfl
  obtain ⟨fd_M__getitem__, D_M__getitem__⟩ := c.def_ 22 (d := dm 4 "__getitem__" "Rule.__getitem__") rfl
  obtain ⟨fd_M__iter__, D_M__iter__⟩ := c.def_ 23 (d := dm 11 "__iter__" "Rule.__iter__") rfl
  obtain ⟨fd_Mheard, D_Mheard⟩ := c.def_ 24 (d := dm 13 "heard" "Rule.heard") rfl
  obtain ⟨fd_need_any_rule, D_need_any_rule⟩ := c.def_ 25 (d := dd 37 "need_any_rule") rfl
  obtain ⟨fd__wins, D__wins⟩ := c.def_ 26 (d := dd 39 "_wins") rfl
  obtain ⟨fd__need_answer_to, D__need_answer_to⟩ := c.def_ 27 (d := dd 40 "_need_answer_to") rfl
  obtain ⟨fd_does_win, D_does_win⟩ := c.def_ 28 (d := dd 41 "does_win") rfl
  obtain ⟨fd_winners, D_winners⟩ := c.def_ 29 (d := dd 42 "winners") rfl
  obtain ⟨fd_all_heard, D_all_heard⟩ := c.def_ 30 (d := dd 43 "all_heard") rfl
  obtain ⟨fd__law_jug, D__law_jug⟩ := c.def_ 31 (d := dd 46 "_law_jug") rfl
  obtain ⟨fd__law_dip, D__law_dip⟩ := c.def_ 32 (d := dd 47 "_law_dip") rfl
  obtain ⟨fd__law_jumbled, D__law_jumbled⟩ := c.def_ 33 (d := dd 48 "_law_jumbled") rfl
  obtain ⟨fd__law_all_rows, D__law_all_rows⟩ := c.def_ 34 (d := dd 49 "_law_all_rows") rfl
  obtain ⟨fd__law_winners_of, D__law_winners_of⟩ := c.def_ 35 (d := dd 45 "_law_winners_of") rfl
  obtain ⟨fd__law_made_rule, D__law_made_rule⟩ := c.def_ 36 (d := dd 50 "_law_made_rule") rfl
  obtain ⟨fd__law_any_tables, D__law_any_tables⟩ := c.def_ 37 (d := dd 51 "_law_any_tables") rfl
  obtain ⟨fd__law_flipped, D__law_flipped⟩ := c.def_ 38 (d := dd 53 "_law_flipped") rfl
  obtain ⟨fd__law_all_sets, D__law_all_sets⟩ := c.def_ 39 (d := dd 54 "_law_all_sets") rfl
  obtain ⟨fd__law_right, D__law_right⟩ := c.def_ 40 (d := dd 52 "_law_right") rfl
  obtain ⟨fd_law, D_law⟩ := c.def_ 41 (d := dd 55 "law") rfl
  have e := hfa.symm.trans (He.glo_ok X G (c.fact 37 (f := .glo "law") rfl))
  cases e
  have g_is_integer := He.glo_ok X G (c.fact 0 (f := .glo "is_integer") rfl)
  have g_is_name := He.glo_ok X G (c.fact 1 (f := .glo "is_name") rfl)
  have g_is_value := He.glo_ok X G (c.fact 2 (f := .glo "is_value") rfl)
  have g_is_values := He.glo_ok X G (c.fact 3 (f := .glo "is_values") rfl)
  have g_has_values := He.glo_ok X G (c.fact 4 (f := .glo "has_values") rfl)
  have g_all_values := He.glo_ok X G (c.fact 5 (f := .glo "all_values") rfl)
  have g_all_sets := He.glo_ok X G (c.fact 6 (f := .glo "all_sets") rfl)
  have g_is_ascending := He.glo_ok X G (c.fact 7 (f := .glo "is_ascending") rfl)
  have g_is_set_of_names := He.glo_ok X G (c.fact 8 (f := .glo "is_set_of_names") rfl)
  have g_is_issues := He.glo_ok X G (c.fact 9 (f := .glo "is_issues") rfl)
  have g_has_issues_as_keys := He.glo_ok X G (c.fact 10 (f := .glo "has_issues_as_keys") rfl)
  have g_is_answer := He.glo_ok X G (c.fact 11 (f := .glo "is_answer") rfl)
  have g_is_answer_to := He.glo_ok X G (c.fact 12 (f := .glo "is_answer_to") rfl)
  have g_need_issues := He.glo_ok X G (c.fact 13 (f := .glo "need_issues") rfl)
  have g_need_voters := He.glo_ok X G (c.fact 14 (f := .glo "need_voters") rfl)
  have g__is_table := He.glo_ok X G (c.fact 15 (f := .glo "_is_table") rfl)
  have g__are_tables := He.glo_ok X G (c.fact 16 (f := .glo "_are_tables") rfl)
  have g__follow_table := He.glo_ok X G (c.fact 17 (f := .glo "_follow_table") rfl)
  have g_are_voters := He.glo_ok X G (c.fact 18 (f := .glo "are_voters") rfl)
  have g_place_of := He.glo_ok X G (c.fact 19 (f := .glo "place_of") rfl)
  have g__hangs_on := He.glo_ok X G (c.fact 20 (f := .glo "_hangs_on") rfl)
  have g_need_any_rule := He.glo_ok X G (c.fact 21 (f := .glo "need_any_rule") rfl)
  have g__wins := He.glo_ok X G (c.fact 22 (f := .glo "_wins") rfl)
  have g__need_answer_to := He.glo_ok X G (c.fact 23 (f := .glo "_need_answer_to") rfl)
  have g_does_win := He.glo_ok X G (c.fact 24 (f := .glo "does_win") rfl)
  have g_winners := He.glo_ok X G (c.fact 25 (f := .glo "winners") rfl)
  have g_all_heard := He.glo_ok X G (c.fact 26 (f := .glo "all_heard") rfl)
  have g__law_jug := He.glo_ok X G (c.fact 27 (f := .glo "_law_jug") rfl)
  have g__law_dip := He.glo_ok X G (c.fact 28 (f := .glo "_law_dip") rfl)
  have g__law_jumbled := He.glo_ok X G (c.fact 29 (f := .glo "_law_jumbled") rfl)
  have g__law_all_rows := He.glo_ok X G (c.fact 30 (f := .glo "_law_all_rows") rfl)
  have g__law_winners_of := He.glo_ok X G (c.fact 31 (f := .glo "_law_winners_of") rfl)
  have g__law_made_rule := He.glo_ok X G (c.fact 32 (f := .glo "_law_made_rule") rfl)
  have g__law_any_tables := He.glo_ok X G (c.fact 33 (f := .glo "_law_any_tables") rfl)
  have g__law_flipped := He.glo_ok X G (c.fact 34 (f := .glo "_law_flipped") rfl)
  have g__law_all_sets := He.glo_ok X G (c.fact 35 (f := .glo "_law_all_sets") rfl)
  have g__law_right := He.glo_ok X G (c.fact 36 (f := .glo "_law_right") rfl)
  have g_law := He.glo_ok X G (c.fact 37 (f := .glo "law") rfl)
  have g_Rule := He.glo_ok X G (c.fact 38 (f := .glo "Rule") rfl)
  obtain ⟨t__BOUND, mI0__BOUND⟩ := He.int_ok X G (c.fact 39 (f := .int "_BOUND" 1000000000000000000000000000000000000000000000000000000000000) rfl)
  have mI__BOUND : mg "_BOUND" = some (.int (10 ^ 60) t__BOUND) := by
    rw [mI0__BOUND, show (10 : Int) ^ 60 = 1000000000000000000000000000000000000000000000000000000000000 by decide +kernel]
  obtain ⟨t_MAX_LETTERS, mI_MAX_LETTERS⟩ := He.int_ok X G (c.fact 40 (f := .int "MAX_LETTERS" 8) rfl)
  obtain ⟨t_MAX_ISSUES, mI_MAX_ISSUES⟩ := He.int_ok X G (c.fact 41 (f := .int "MAX_ISSUES" 6) rfl)
  obtain ⟨t_MAX_VOTERS, mI_MAX_VOTERS⟩ := He.int_ok X G (c.fact 42 (f := .int "MAX_VOTERS" 4) rfl)
  have m_isinstance := He.free_ok X G (c.fact 43 (f := .free "isinstance") rfl)
  have m_int := He.free_ok X G (c.fact 44 (f := .free "int") rfl)
  have m_bool := He.free_ok X G (c.fact 45 (f := .free "bool") rfl)
  have m_str := He.free_ok X G (c.fact 46 (f := .free "str") rfl)
  have m_len := He.free_ok X G (c.fact 47 (f := .free "len") rfl)
  have m_all := He.free_ok X G (c.fact 48 (f := .free "all") rfl)
  have m_tuple := He.free_ok X G (c.fact 49 (f := .free "tuple") rfl)
  have m_range := He.free_ok X G (c.fact 50 (f := .free "range") rfl)
  have m_list := He.free_ok X G (c.fact 51 (f := .free "list") rfl)
  have m_zip := He.free_ok X G (c.fact 52 (f := .free "zip") rfl)
  have m_sorted := He.free_ok X G (c.fact 53 (f := .free "sorted") rfl)
  have m_dict := He.free_ok X G (c.fact 54 (f := .free "dict") rfl)
  have m_enumerate := He.free_ok X G (c.fact 55 (f := .free "enumerate") rfl)
  have m_any := He.free_ok X G (c.fact 56 (f := .free "any") rfl)
  have m_iter := He.free_ok X G (c.fact 57 (f := .free "iter") rfl)
  have m_abs := He.free_ok X G (c.fact 58 (f := .free "abs") rfl)
  have m_max := He.free_ok X G (c.fact 59 (f := .free "max") rfl)
  have m_repr := He.free_ok X G (c.fact 60 (f := .free "repr") rfl)
  have m_min := He.free_ok X G (c.fact 61 (f := .free "min") rfl)
  have RC : RuleC K (He.ga K "Rule") := ⟨He.cls_ok (c.fact 62 (f := .cls "Rule") rfl), He.noat_ok (c.fact 63 (f := .noat "Rule" "_voters") rfl), He.noat_ok (c.fact 64 (f := .noat "Rule" "_issues") rfl), He.noat_ok (c.fact 65 (f := .noat "Rule" "_tables") rfl)⟩
  have mt_heard := He.meth_ok (c.fact 66 (f := .meth "Rule" "heard") rfl)
  have mt___iter__ := He.meth_ok (c.fact 67 (f := .meth "Rule" "__iter__") rfl)
  have mt___getitem__ := He.meth_ok (c.fact 68 (f := .meth "Rule" "__getitem__") rfl)
  have mk := He.mkr_ok (c.fact 69 (f := .mkr "Rule") rfl)

  have b_is_integer : Binds K fd_is_integer ["value"] [] := D_is_integer.bindsN fun _ _ _ _ _ _ us hl => match us, hl with | [_], _ => rfl
  have b_is_name : Binds K fd_is_name ["value"] [] := D_is_name.bindsN fun _ _ _ _ _ _ us hl => match us, hl with | [_], _ => rfl
  have b_is_value : Binds K fd_is_value ["value"] [] := D_is_value.bindsN fun _ _ _ _ _ _ us hl => match us, hl with | [_], _ => rfl
  have b_is_values : Binds K fd_is_values ["value"] [] := D_is_values.bindsN fun _ _ _ _ _ _ us hl => match us, hl with | [_], _ => rfl
  have b_has_values : Binds K fd_has_values ["value", "many"] [] := D_has_values.bindsN fun _ _ _ _ _ _ us hl => match us, hl with | [_, _], _ => rfl
  have b_all_values : Binds K fd_all_values ["many"] [] := D_all_values.bindsN fun _ _ _ _ _ _ us hl => match us, hl with | [_], _ => rfl
  have b_all_sets : Binds K fd_all_sets ["items"] [] := D_all_sets.bindsN fun _ _ _ _ _ _ us hl => match us, hl with | [_], _ => rfl
  have b_is_ascending : Binds K fd_is_ascending ["items"] [] := D_is_ascending.bindsN fun _ _ _ _ _ _ us hl => match us, hl with | [_], _ => rfl
  have b_is_set_of_names : Binds K fd_is_set_of_names ["value"] [] := D_is_set_of_names.bindsN fun _ _ _ _ _ _ us hl => match us, hl with | [_], _ => rfl
  have b_is_issues : Binds K fd_is_issues ["value"] [] := D_is_issues.bindsN fun _ _ _ _ _ _ us hl => match us, hl with | [_], _ => rfl
  have b_has_issues_as_keys : Binds K fd_has_issues_as_keys ["value"] [] := D_has_issues_as_keys.bindsN fun _ _ _ _ _ _ us hl => match us, hl with | [_], _ => rfl
  have b_is_answer : Binds K fd_is_answer ["value"] [] := D_is_answer.bindsN fun _ _ _ _ _ _ us hl => match us, hl with | [_], _ => rfl
  have b_is_answer_to : Binds K fd_is_answer_to ["issues", "value"] [] := D_is_answer_to.bindsN fun _ _ _ _ _ _ us hl => match us, hl with | [_, _], _ => rfl
  have b_need_issues : Binds K fd_need_issues ["issues"] [] := D_need_issues.bindsN fun _ _ _ _ _ _ us hl => match us, hl with | [_], _ => rfl
  have b_need_voters : Binds K fd_need_voters ["voters"] [] := D_need_voters.bindsN fun _ _ _ _ _ _ us hl => match us, hl with | [_], _ => rfl
  have b__is_table : Binds K fd__is_table ["value", "voters"] [] := D__is_table.bindsN fun _ _ _ _ _ _ us hl => match us, hl with | [_, _], _ => rfl
  have b__are_tables : Binds K fd__are_tables ["value", "voters"] [] := D__are_tables.bindsN fun _ _ _ _ _ _ us hl => match us, hl with | [_, _], _ => rfl
  have b__follow_table : Binds K fd__follow_table ["voters", "voter"] [] := D__follow_table.bindsN fun _ _ _ _ _ _ us hl => match us, hl with | [_, _], _ => rfl
  have b_are_voters : Binds K fd_are_voters ["value", "voters"] [] := D_are_voters.bindsN fun _ _ _ _ _ _ us hl => match us, hl with | [_, _], _ => rfl
  have b_place_of : Binds K fd_place_of ["values"] [] := D_place_of.bindsN fun _ _ _ _ _ _ us hl => match us, hl with | [_], _ => rfl
  have b__hangs_on : Binds K fd__hangs_on ["table", "step"] [] := D__hangs_on.bindsN fun _ _ _ _ _ _ us hl => match us, hl with | [_, _], _ => rfl
  have b_M__init__ : Binds K fd_M__init__ ["self", "voters", "tables"] [] := D_M__init__.bindsN fun _ _ _ _ _ _ us hl => match us, hl with | [_, _, _], _ => rfl
  have b_Sof_voter : Binds K fd_Sof_voter ["cls", "issues", "voters", "voter"] [] := D_Sof_voter.bindsN fun _ _ _ _ _ _ us hl => match us, hl with | [_, _, _, _], _ => rfl
  have b_Svoters : Binds K fd_Svoters ["self"] [] := D_Svoters.bindsN fun _ _ _ _ _ _ us hl => match us, hl with | [_], _ => rfl
  have b_Sissues : Binds K fd_Sissues ["self"] [] := D_Sissues.bindsN fun _ _ _ _ _ _ us hl => match us, hl with | [_], _ => rfl
  have b_M__getitem__ : Binds K fd_M__getitem__ ["self", "issue"] [] := D_M__getitem__.bindsN fun _ _ _ _ _ _ us hl => match us, hl with | [_, _], _ => rfl
  have b_M__iter__ : Binds K fd_M__iter__ ["self"] [] := D_M__iter__.bindsN fun _ _ _ _ _ _ us hl => match us, hl with | [_], _ => rfl
  have b_Mheard : Binds K fd_Mheard ["self", "issue"] [] := D_Mheard.bindsN fun _ _ _ _ _ _ us hl => match us, hl with | [_, _], _ => rfl
  have b_need_any_rule : Binds K fd_need_any_rule ["rule"] [] := D_need_any_rule.bindsN fun _ _ _ _ _ _ us hl => match us, hl with | [_], _ => rfl
  have b__wins : Binds K fd__wins ["rule", "voters", "answer"] [] := D__wins.bindsN fun _ _ _ _ _ _ us hl => match us, hl with | [_, _, _], _ => rfl
  have b__need_answer_to : Binds K fd__need_answer_to ["rule", "answer"] [] := D__need_answer_to.bindsN fun _ _ _ _ _ _ us hl => match us, hl with | [_, _], _ => rfl
  have b_does_win : Binds K fd_does_win ["rule", "voters", "answer"] [] := D_does_win.bindsN fun _ _ _ _ _ _ us hl => match us, hl with | [_, _, _], _ => rfl
  have b_winners : Binds K fd_winners ["rule", "answer"] [] := D_winners.bindsN fun _ _ _ _ _ _ us hl => match us, hl with | [_, _], _ => rfl
  have b_all_heard : Binds K fd_all_heard ["rule"] [] := D_all_heard.bindsN fun _ _ _ _ _ _ us hl => match us, hl with | [_], _ => rfl
  have b__law_jug : Binds K fd__law_jug ["script", "at"] [] := D__law_jug.bindsN fun _ _ _ _ _ _ us hl => match us, hl with | [_, _], _ => rfl
  have b__law_dip : Binds K fd__law_dip ["jug", "total"] [] := D__law_dip.bindsN fun _ _ _ _ _ _ us hl => match us, hl with | [_, _], _ => rfl
  have b__law_jumbled : Binds K fd__law_jumbled ["jug", "items"] [] := D__law_jumbled.bindsN fun _ _ _ _ _ _ us hl => match us, hl with | [_, _], _ => rfl
  have b__law_all_rows : Binds K fd__law_all_rows ["size"] [] := D__law_all_rows.bindsN fun _ _ _ _ _ _ us hl => match us, hl with | [_], _ => rfl
  have b__law_winners_of : Binds K fd__law_winners_of ["voters", "table", "value"] [] := D__law_winners_of.bindsN fun _ _ _ _ _ _ us hl => match us, hl with | [_, _, _], _ => rfl
  have b__law_made_rule : Binds K fd__law_made_rule ["plain", "voters", "tables"] [] := D__law_made_rule.bindsN fun _ _ _ _ _ _ us hl => match us, hl with | [_, _, _], _ => rfl
  have b__law_any_tables : Binds K fd__law_any_tables ["jug", "size", "voters"] [] := D__law_any_tables.bindsN fun _ _ _ _ _ _ us hl => match us, hl with | [_, _, _], _ => rfl
  have b__law_flipped : Binds K fd__law_flipped ["table", "at", "step"] [] := D__law_flipped.bindsN fun _ _ _ _ _ _ us hl => match us, hl with | [_, _, _], _ => rfl
  have b__law_all_sets : Binds K fd__law_all_sets ["voters"] [] := D__law_all_sets.bindsN fun _ _ _ _ _ _ us hl => match us, hl with | [_], _ => rfl
  have b__law_right : Binds K fd__law_right ["jug"] [] := D__law_right.bindsN fun _ _ _ _ _ _ us hl => match us, hl with | [_], _ => rfl
  have b_law := FunD.bindsA (ps := ["script"]) D_law fun _ _ _ _ _ _ us hl => match us, hl with | [_], _ => rfl
  refine ⟨fd_law, fun s v => b_law s [v] rfl, fun base _ _ => ?_⟩
  have F_is_integer : FnOk P w K mg base CX0 1 _ fd_is_integer ["value"] (spB fun _ => shortB) := ok_integer (Fun.ofD D_is_integer) m_isinstance m_int m_bool mI__BOUND
  have F_is_name : FnOk P w K mg base CX0 1 _ fd_is_name ["value"] (spB fun _ => nameB) := ok_name (Fun.ofD D_is_name) m_isinstance m_str m_len m_all mI_MAX_LETTERS
  have F_is_value : FnOk P w K mg base CX0 2 _ fd_is_value ["value"] (spB fun _ => bitB) := ok_value (Fun.ofD D_is_value) F_is_integer D_is_integer.kp b_is_integer g_is_integer
  have F_is_values : FnOk P w K mg base CX0 3 _ fd_is_values ["value"] (spB rowB) := ok_values (Fun.ofD D_is_values) F_is_value D_is_value.kp b_is_value g_is_value m_isinstance m_tuple m_all
  have F_has_values : FnOk P w K mg base CX0 4 _ fd_has_values ["value", "many"] (spHV) := ok_hasvalues (Fun.ofD D_has_values) F_is_values D_is_values.kp b_is_values g_is_values m_len
  have F_all_values : FnOk P w K mg base CX0 1 _ fd_all_values ["many"] (spRowsT) := ok_allvalues (Fun.ofD D_all_values) m_range m_tuple
  have F_all_sets : FnOk P w K mg base CX0 4 _ fd_all_sets ["items"] (spSets) := ok_allsets (Fun.ofD D_all_sets) F_all_values D_all_values.kp b_all_values g_all_values m_len m_list m_zip m_tuple m_sorted
  have F_is_ascending : FnOk P w K mg base CX0 1 _ fd_is_ascending ["items"] (spAsc) := ok_asc (Fun.ofD D_is_ascending) m_zip m_all
  have F_is_ascendingI : FnOk P w K mg base CX0 1 _ fd_is_ascending ["items"] (spAscI) := ok_asci (Fun.ofD D_is_ascending) m_zip m_all
  have F_is_set_of_names : FnOk P w K mg base CX0 2 _ fd_is_set_of_names ["value"] (spTexts namesB) := ok_setnames (Fun.ofD D_is_set_of_names) F_is_name D_is_name.kp b_is_name g_is_name F_is_ascending D_is_ascending.kp b_is_ascending g_is_ascending m_isinstance m_tuple m_all
  have F_is_issues : FnOk P w K mg base CX0 3 _ fd_is_issues ["value"] (spTexts issuesB) := ok_issues (Fun.ofD D_is_issues) F_is_set_of_names D_is_set_of_names.kp b_is_set_of_names g_is_set_of_names m_len mI_MAX_ISSUES
  have F_has_issues_as_keys : FnOk P w K mg base CX0 4 _ fd_has_issues_as_keys ["value"] (spKeys) := ok_keys (Fun.ofD D_has_issues_as_keys) F_is_issues D_is_issues.kp b_is_issues g_is_issues m_isinstance m_dict m_str m_all m_tuple m_sorted
  have F_is_answer : FnOk P w K mg base CX0 3 _ fd_is_answer ["value"] (spIsAns) := ok_isans (Fun.ofD D_is_answer) F_is_name D_is_name.kp b_is_name g_is_name F_is_value D_is_value.kp b_is_value g_is_value m_isinstance m_tuple m_len
  have F_is_answer_to : FnOk P w K mg base CX0 4 _ fd_is_answer_to ["issues", "value"] (spAnsTo) := ok_ansto (Fun.ofD D_is_answer_to) F_is_answer D_is_answer.kp b_is_answer g_is_answer
  have F_need_issues : FnOk P w K mg base CX0 4 _ fd_need_issues ["issues"] (spNI) := ok_needissues (Fun.ofD D_need_issues) F_is_issues D_is_issues.kp b_is_issues g_is_issues
  have F_need_voters : FnOk P w K mg base CX0 2 _ fd_need_voters ["voters"] (spNV) := ok_needvoters (Fun.ofD D_need_voters) F_is_integer D_is_integer.kp b_is_integer g_is_integer mI_MAX_VOTERS
  have F__is_table : FnOk P w K mg base CX0 5 _ fd__is_table ["value", "voters"] (spIsT) := ok_istable (Fun.ofD D__is_table) F_has_values D_has_values.kp b_has_values g_has_values
  have F__are_tables : FnOk P w K mg base CX0 6 _ fd__are_tables ["value", "voters"] (spAre) := ok_aretables (Fun.ofD D__are_tables) F_has_issues_as_keys D_has_issues_as_keys.kp b_has_issues_as_keys g_has_issues_as_keys F__is_table D__is_table.kp b__is_table g__is_table m_all
  have F__follow_table : FnOk P w K mg base CX0 2 _ fd__follow_table ["voters", "voter"] (spFollow) := ok_follow (Fun.ofD D__follow_table) F_all_values D_all_values.kp b_all_values g_all_values m_tuple
  have F_are_voters : FnOk P w K mg base CX0 2 _ fd_are_voters ["value", "voters"] (spAreVt) := ok_arevoters (Fun.ofD D_are_voters) F_is_integer D_is_integer.kp b_is_integer g_is_integer F_is_ascendingI D_is_ascending.kp b_is_ascending g_is_ascending m_isinstance m_tuple m_all
  have F_place_of : FnOk P w K mg base CX0 1 _ fd_place_of ["values"] (spPlaceL) := ok_placel (Fun.ofD D_place_of)
  have F__hangs_on : FnOk P w K mg base CX0 1 _ fd__hangs_on ["table", "step"] (spHangs) := ok_hangs (Fun.ofD D__hangs_on) m_enumerate m_any
  have F_M__init__ : FnOk P w K mg base CX0 7 _ fd_M__init__ ["self", "voters", "tables"] (spInit (He.ga K "Rule")) := ok_init RC (Fun.ofD D_M__init__) F_need_voters D_need_voters.kp b_need_voters g_need_voters F__are_tables D__are_tables.kp b__are_tables g__are_tables m_tuple m_sorted
  have F_Sof_voter : FnOk P w K mg base CX0 9 _ fd_Sof_voter ["cls", "issues", "voters", "voter"] (spOfV (He.ga K "Rule")) := ok_ofvoter (Fun.ofD D_Sof_voter) F_need_issues D_need_issues.kp b_need_issues g_need_issues F_need_voters D_need_voters.kp b_need_voters g_need_voters F_is_integer D_is_integer.kp b_is_integer g_is_integer F__follow_table D__follow_table.kp b__follow_table g__follow_table mk F_M__init__ b_M__init__
  have F_Svoters : FnOk P w K mg base CX0 1 _ fd_Svoters ["self"] (getSp (He.ga K "Rule") "_voters") := ok_pvoters RC (Fun.ofD D_Svoters)
  have RP_voters : RuleP P w K mg base (He.ga K "Rule") "voters" "_voters" _ _ fd_Svoters := ⟨pVo, F_Svoters, b_Svoters⟩
  have F_Sissues : FnOk P w K mg base CX0 1 _ fd_Sissues ["self"] (getSp (He.ga K "Rule") "_issues") := ok_pissues RC (Fun.ofD D_Sissues)
  have RP_issues : RuleP P w K mg base (He.ga K "Rule") "issues" "_issues" _ _ fd_Sissues := ⟨pIs, F_Sissues, b_Sissues⟩
  have F_M__getitem__ : FnOk P w K mg base CX0 1 _ fd_M__getitem__ ["self", "issue"] (spGet (He.ga K "Rule")) := ok_get RC (Fun.ofD D_M__getitem__)
  have RG : RuleG P w K mg base (He.ga K "Rule") _ fd_M__getitem__ := ⟨xt.noSeq, mt___getitem__, xt.fnG, F_M__getitem__, b_M__getitem__⟩
  have F_M__iter__ : FnN P w K mg base CX0 1 _ fd_M__iter__ ["self"] (spIter (He.ga K "Rule")) := ok_iter RC (Fun.ofD D_M__iter__) m_iter
  have F_Mheard : FnOk P w K mg base CX0 3 _ fd_Mheard ["self", "issue"] (spHeard (He.ga K "Rule")) := ok_heard RC RG (Fun.ofD D_Mheard) F__hangs_on D__hangs_on.kp b__hangs_on g__hangs_on m_range m_tuple m_enumerate
  have F_need_any_rule : FnOk P w K mg base CX0 1 _ fd_need_any_rule ["rule"] (spNeedAny (He.ga K "Rule")) := ok_needany RC RI (Fun.ofD D_need_any_rule) m_isinstance g_Rule
  have F__wins : FnOk P w K mg base CX0 3 _ fd__wins ["rule", "voters", "answer"] (spWins (He.ga K "Rule")) := ok_wins RC RG RP_voters (Fun.ofD D__wins) F_place_of D_place_of.kp b_place_of g_place_of m_range
  have F__need_answer_to : FnOk P w K mg base CX0 5 _ fd__need_answer_to ["rule", "answer"] (spNeedAns (He.ga K "Rule")) := ok_needans RC RP_issues (Fun.ofD D__need_answer_to) F_is_answer_to D_is_answer_to.kp b_is_answer_to g_is_answer_to
  have F_does_win : FnOk P w K mg base CX0 6 _ fd_does_win ["rule", "voters", "answer"] (spDoesWin (He.ga K "Rule")) := ok_doeswin RC RP_voters (Fun.ofD D_does_win) F_need_any_rule D_need_any_rule.kp b_need_any_rule g_need_any_rule F_are_voters D_are_voters.kp b_are_voters g_are_voters F__need_answer_to D__need_answer_to.kp b__need_answer_to g__need_answer_to F__wins D__wins.kp b__wins g__wins
  have F_winners : FnOk P w K mg base CX0 6 _ fd_winners ["rule", "answer"] (spWinners (He.ga K "Rule")) := ok_winners RC RP_voters (Fun.ofD D_winners) F_need_any_rule D_need_any_rule.kp b_need_any_rule g_need_any_rule F__need_answer_to D__need_answer_to.kp b__need_answer_to g__need_answer_to F__wins D__wins.kp b__wins g__wins F_all_sets D_all_sets.kp b_all_sets g_all_sets m_tuple m_list m_range
  have F_all_heard : FnOk P w K mg base CX0 4 _ fd_all_heard ["rule"] (spAllH (He.ga K "Rule")) := ok_allheard RC (Fun.ofD D_all_heard) F_need_any_rule D_need_any_rule.kp b_need_any_rule g_need_any_rule mt_heard F_Mheard b_Mheard mt___iter__ F_M__iter__ b_M__iter__ m_tuple m_sorted
  have F__law_jug : FnOk P w K mg base CX0 1 _ fd__law_jug ["script", "at"] (spJug K) := ok_jug (Fun.ofD D__law_jug) m_int m_len m_abs m_max
  have F__law_dip : FnOk P w K mg base CX0 1 _ fd__law_dip ["jug", "total"] (spDip) := ok_dip (Fun.ofD D__law_dip) m_int
  have F__law_jumbled : FnOk P w K mg base CX0 2 _ fd__law_jumbled ["jug", "items"] (spJum) := ok_jumbled (Fun.ofD D__law_jumbled) F__law_dip D__law_dip.kp b__law_dip g__law_dip m_list m_len
  have F__law_all_rows : FnOk P w K mg base CX0 1 _ fd__law_all_rows ["size"] (spRowsL) := ok_allrows (Fun.ofD D__law_all_rows) m_range m_list
  have F__law_winners_of : FnOk P w K mg base CX0 3 _ fd__law_winners_of ["voters", "table", "value"] (spWinOf) := ok_winof (Fun.ofD D__law_winners_of) F__law_all_rows D__law_all_rows.kp b__law_all_rows g__law_all_rows m_enumerate m_tuple m_range m_int m_sorted
  have F__law_made_rule : FnOk P w K mg base CX0 9 _ fd__law_made_rule ["plain", "voters", "tables"] (spMade (He.ga K "Rule")) := ok_maderule (Fun.ofD D__law_made_rule) mk F_M__init__ b_M__init__ g_Rule m_dict m_list m_zip
  have F__law_any_tables : FnOk P w K mg base CX0 2 _ fd__law_any_tables ["jug", "size", "voters"] (spAnyTb) := ok_anytabs (Fun.ofD D__law_any_tables) F__law_dip D__law_dip.kp b__law_dip g__law_dip F__law_all_rows D__law_all_rows.kp b__law_all_rows g__law_all_rows m_range m_len m_tuple
  have F__law_flipped : FnOk P w K mg base CX0 1 _ fd__law_flipped ["table", "at", "step"] (spFlip) := ok_flipped (Fun.ofD D__law_flipped) m_int
  have F__law_all_sets : FnOk P w K mg base CX0 1 _ fd__law_all_sets ["voters"] (spLawS) := ok_lawsets (Fun.ofD D__law_all_sets) m_range
  have F__law_right : FnG P w K mg base 10 _ fd__law_right ["jug"] (spRight) := ok_right (Fun.ofD D__law_right) F__law_dip D__law_dip.kp b__law_dip g__law_dip F__law_jumbled D__law_jumbled.kp b__law_jumbled g__law_jumbled F__law_any_tables D__law_any_tables.kp b__law_any_tables g__law_any_tables F__law_made_rule D__law_made_rule.kp b__law_made_rule g__law_made_rule F__law_winners_of D__law_winners_of.kp b__law_winners_of g__law_winners_of F_winners D_winners.kp b_winners g_winners F__law_all_sets D__law_all_sets.kp b__law_all_sets g__law_all_sets F_does_win D_does_win.kp b_does_win g_does_win F__law_all_rows D__law_all_rows.kp b__law_all_rows g__law_all_rows F__law_flipped D__law_flipped.kp b__law_flipped g__law_flipped F_all_heard D_all_heard.kp b_all_heard g_all_heard m_zip m_range m_repr m_tuple m_len m_int m_list m_sorted
  exact ok_law (Fun.ofD D_law) F__law_right D__law_right.kp b__law_right g__law_right F__law_jug D__law_jug.kp b__law_jug g__law_jug mk F_M__init__ b_M__init__ g_Rule F_winners D_winners.kp b_winners g_winners F_all_heard D_all_heard.kp b_all_heard g_all_heard F_Sof_voter b_Sof_voter cr cm m_range m_len m_max m_min
end Ow

set_option Elab.async false
set_option linter.all false
set_option maxRecDepth 100000
set_option maxHeartbeats 0
namespace Ow
open PySem PySem.Spec PyProof.Rows L2
abbrev RR : PySem.W.OpenRow := PySem.W.OpenLaw.row PySem.Challenge.rw_oneswill_k43_whole_winners_told
abbrev hk : PySem.W.Hook := hookE 6
def ob (s : PySem.W.SharedT) : AlE := obsE 6 (HandSHeadRun.getT s)
theorem ob_eq (s : PySem.W.SharedT) : ob s = hk.obs s.abs := obsE_eq (HandSHeadRun.getT_eq s)
def loose0 : List Str := ["_wall", "_own", "WillError", "InvalidRule", "InvalidOperation", "InvalidNumber", "UnknownName", "MAX_LETTERS", "_BOUND", "is_integer"]
def loose1 : List Str := ["is_name", "is_value", "is_values", "has_values", "all_values", "all_sets", "is_ascending", "is_set_of_names", "MAX_ISSUES", "is_issues"]
def loose2 : List Str := ["has_issues_as_keys", "is_answer", "is_answer_to", "MAX_VOTERS", "need_issues", "need_voters", "_is_table", "_are_tables", "_follow_table", "are_voters"]
def loose3 : List Str := ["place_of", "_hangs_on", "Rule", "need_any_rule", "_wins", "_need_answer_to", "does_win", "winners", "all_heard", "_law_winners_of"]
def loose4 : List Str := ["_law_jug", "_law_dip", "_law_jumbled", "_law_all_rows", "_law_made_rule", "_law_any_tables", "_law_right", "_law_flipped", "_law_all_sets"]
def loose : List Str := loose0 ++ loose1 ++ loose2 ++ loose3 ++ loose4
theorem run (w : World) : HandSHeadRun.RunEq RR (PySem.W.view RR.prog [55]) hk ob 6000 loose w := by
  intro os
  kernel_rfl
end Ow
open PySem PySem.W PySem.Calls PyProof.Rows
theorem PySem.Challenge.cw_oneswill_k43_whole_winners_told_holds : PySem.Challenge.rw_oneswill_k43_whole_winners_told.Holds := by
  w_on; o_law
  refine HandSHeadRun.head_any (r := OpenLaw.row PySem.Challenge.rw_oneswill_k43_whole_winners_told) (q := view (OpenLaw.row PySem.Challenge.rw_oneswill_k43_whole_winners_told).prog [55]) (H := Ow.hk) (ob := Ow.ob) (M := 6000) (loose := Ow.loose) (d := HandSHeadRun.topDef (OpenLaw.row PySem.Challenge.rw_oneswill_k43_whole_winners_told).prog 55) (kwd := []) Ow.ob_eq
    (by kernel_rfl) (fun s => by kernel_rfl) Ow.run (by kernel_rfl) (by kernel_rfl) (by kernel_rfl) (by rfl) (by first | assumption | decide +kernel) (by decide +kernel) ⟨rfl, rfl, rfl, rfl, rfl, by decide +kernel⟩ ?hw ?hc
  case hw => w_witness2
  case hc =>
    refine Att.attach_call (n := 63) rfl (by kernel_rfl) fun w s₀ s₁ mg mb fa o pm cd doc a vs ns G Y ho hd hcd hmg0 hobj hints hlen hg => ?_
    obtain ⟨K, KX, c, xt, sn⟩ := Y
    have hmg : mg ("law" : PySem.Str) = some (.ref fa) := by
      have e : (HandSHeadRun.topDef (OpenLaw.row PySem.Challenge.rw_oneswill_k43_whole_winners_told).prog 55).name = ("law" : PySem.Str) := by kernel_rfl
      rw [← e]
      exact hmg0
    obtain ⟨fd, hb, hF⟩ := Ow.facts (P := PySem.Challenge.rw_oneswill_k43_whole_winners_told.prog) (w := w) KX G.T.g hmg c xt sn
    exact Ow.endG (k := 11) KX G.T.g G.T.b G.T.builtins G.T.nolimit hg hobj hints (Nat.le_trans hlen (by decide)) ⟨rfl, by decide, by decide⟩ hF hb fun H hO hS => ⟨a, ns, rfl, hS, hlen, fun _ => rfl⟩
