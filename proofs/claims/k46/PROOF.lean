import PyProof.Rows.All
import Wide.All
import OpenK.AllK
import Wide.FinOn
import HandS.ForMost
import HandS.EndBits
import HandS.Wide
import HandS.RaiseMore
import HandS.Walk
import HandS.Style
import HandS.IsInst
import KE.DataMinMax
import HandS.Gcd
import PyProof.MaxThree
import PyProof.StrOps2
import HandS.ForExc
import HandS.ExcInit
import HandS.ExcField
import KE.KExcIs
import PyProof.StrLawsFrom
import HandS.StrMore
import HandS.WideBits
import HandS.Deep
import HandS.Dict
import KE.KMathG
import Flt.RightSqrt
import HandS.Small
import HandS.SortRule
import HandS.TupSets
import KE.GoesEnum
import HandS.DictTup
import HandS.DictComp
import HandS.Conv
import PySem.Challenge.RW_leftroads_k46_no_maps
set_option Elab.async false
set_option linter.all false
set_option maxRecDepth 100000
set_option maxHeartbeats 8000000
/-! Calls where no repr is under way. -/
namespace Lr
open PySem PySem.Spec PyProof.Rows L2
section
variable {P : Program} {w : World} {K : PySem.W.Frag} {mg : Str → Option Value} {base : Heap}
/-- a def that keeps its promise where no repr is under way -/
structure FnG (P : Program) (w : World) (K : PySem.W.Frag) (mg : Str → Option Value) (base : Heap) (CX : CXT) (k : Nat) (f : Addr) (fd : FuncData) (ps : List Str) (sp : Sp) : Prop where
  many : ∀ vs H Q E, sp vs H Q E → vs.length = ps.length
  goes : ∀ (A : Around) (up : List Env) (s : Shared) (H : Hp) (as : Args) (us : List Value) (vs : List V) (Q : VK) (E : XK), A.guards = some [] → Room k A → Env0 P w K mg base A up s H →
    BindsTo s fd as (ps.zip us) → Vals vs us → sp vs H Q E → codeAny (model P w) A (.call (.ref f) as) (CR CX up P w H s Q E) s
theorem FnG.of {CX : CXT} {k : Nat} {f : Addr} {fd : FuncData} {ps : List Str} {sp : Sp} (F : FnOk P w K mg base CX k f fd ps sp) : FnG P w K mg base CX k f fd ps sp :=
  ⟨F.len, fun A up s H as us vs Q E _ => F.run A up s H as us vs Q E⟩
theorem FnG.up {CX : CXT} {j k : Nat} {f : Addr} {fd : FuncData} {ps : List Str} {sp : Sp} (F : FnG P w K mg base CX j f fd ps sp) (l : j ≤ k) : FnG P w K mg base CX k f fd ps sp :=
  ⟨F.many, fun A up s H as us vs Q E g r => F.goes A up s H as us vs Q E g (r.mono l)⟩
theorem FnG.wk {CX : CXT} {k : Nat} {f : Addr} {fd : FuncData} {ps : List Str} {sp sp' : Sp} (F : FnG P w K mg base CX k f fd ps sp) (i : ∀ vs H Q E, sp' vs H Q E → sp vs H Q E) : FnG P w K mg base CX k f fd ps sp' :=
  ⟨fun vs H Q E z => F.many vs H Q E (i _ _ _ _ z), fun A up s H as us vs Q E g r e b v z => F.goes A up s H as us vs Q E g r e b v (i _ _ _ _ z)⟩
/-- a def by its body, as F.ok says, with the guards told -/
theorem okGX {CX : CXT} {x qual : Str} {st : Stmt} {f : Addr} {fd : FuncData} {N ps : List Str} {k : Nat} {sp : Sp} (F : Fun K x qual st f fd) (S : FnScope N ps (defScope st)) (many : ∀ vs H Q E, sp vs H Q E → vs.length = ps.length)
    (body : ∀ (cdv : Value) (A : Around) (up : List Env) (s : Shared) (H : Hp) (vs : List V) (Q : VK) (E : XK), A.guards = some [] → Room k (A.deeper (envOfC qual (defScope st) s.heap.objs.size f cdv)) → sp vs H Q E →
      ∃ t, PSs (cxOf CX P w K mg base N qual (defScope st) f cdv A up s H E) (defBody st) t ∧ t { nx := fun _ H' => Q .non H', rt := Q } (start N vs) H) : FnG P w K mg base CX (k + 1) f fd ps sp := by
  obtain ⟨oc, od, kV, doc, pm, an, cdv, ct, osl, rfl, lk, hcd⟩ := F.ex
  refine ⟨many, fun A up s H as us vs Q E hG hr e0 hb rv hsp => ?_⟩
  have mn := many _ _ _ _ hsp
  have inK : K.In s.heap := e0.mod.kin.keeps fun b o z => (e0.bs b o z).1
  have nl : s.heap.NoLimit := e0.mod.nolimit.keeps fun b o z => (e0.bs b o z).1
  refine codeAny_call_function hr.depth (inK _ _ lk) rfl S.co
    S.gen rfl (PySem.W.codeRec_of inK hcd) (hb _ _ _ _ ?_)
  refine wpAny_newFunctionEnv_cells S.kind (fun ⟨n, v⟩ hy => ?_) fun ev he s1 x => ?_
  · rcases S.par n (List.of_mem_zip hy).1 with z | z
    · exact .inl z
    · exact .inr ⟨z, PySem.W.cellsFrom_some _ _ _ (.inl z)⟩
  · subst he
    refine ⟨nl.keeps x.toInCall.keep, codeAny_func ?_⟩
    obtain ⟨t, ht, hq⟩ := body cdv A up s H vs Q E hG (hr.deeper _) hsp
    have I := inv_start (CX := CX) (qual := qual) (f := f) (cd := cdv) (E := E) S hr.hd e0 mn rv x
    refine wpAny_mono (ht.run [] s1 (start N vs) H _ I hq) (fun fl s' hs => ?_) fun _ _ z => z
    cases fl with
    | ret u =>
      obtain ⟨v, σ', H', J, r1, q⟩ := hs
      exact ⟨v, H', J.os, J.bare, J.base, J.hok, r1, q⟩
    | next =>
      obtain ⟨σ', H', J, q⟩ := hs
      exact ⟨.non, H', J.os, J.bare, J.base, J.hok, rfl, q⟩
    | brk =>
      obtain ⟨_, _, _, q⟩ := hs
      exact q.elim
    | cont =>
      obtain ⟨_, _, _, q⟩ := hs
      exact q.elim
/-- .. of a def that no error leaves -/
theorem okG {x qual : Str} {st : Stmt} {f : Addr} {fd : FuncData} {N ps : List Str} {k : Nat} {sp : Sp} (F : Fun K x qual st f fd) (S : FnScope N ps (defScope st)) (many : ∀ vs H Q E, sp vs H Q E → vs.length = ps.length)
    (body : ∀ (cdv : Value) (A : Around) (up : List Env) (s : Shared) (H : Hp) (vs : List V) (Q : VK) (E : XK), A.guards = some [] → Room k (A.deeper (envOfC qual (defScope st) s.heap.objs.size f cdv)) → sp vs H Q E →
      ∃ t, PSs (cxOf CX0 P w K mg base N qual (defScope st) f cdv A up s H E).nox (defBody st) t ∧ t { nx := fun _ H' => Q .non H', rt := Q } (start N vs) H) : FnG P w K mg base CX0 (k + 1) f fd ps sp :=
  okGX F S many fun cdv A up s H vs Q E g hr z => by
    obtain ⟨t, ht, hq⟩ := body cdv A up s H vs Q E g hr z
    exact ⟨t, ht.nox, hq⟩
end
section
variable {X : Cx} {CX : CXT} {k : Nat} {f : Addr} {fd : FuncData} {ps : List Str} {sp : Sp} {E : XK} {x : Str} {p pos : Pos} {e : Expr} {es : List Expr} {t : TA}
theorem goes_fn {pins : List (Addr × Obj)} {σ : L2.St} {H : Hp} {s : Shared} {Q : VK} {us : List Value} {vs : List V} (F : FnG X.prog X.w X.K X.mg X.base CX k f fd ps sp) (hG : X.A.guards = some []) (hr : Room k X.A) (hb : Binds X.K fd ps []) (hx : Passes CX X E)
    (I : Inv X pins σ H s) (r : Vals vs us) (h : sp vs H Q E) : wpAny (model X.prog X.w) X.A (call (.ref f) us) (EP X pins σ Q) X.xe s := by
  have ln : us.length = ps.length := by
    rw [← r.length]
    exact F.many _ _ _ _ h
  have bt : BindsTo s fd ⟨us, []⟩ (ps.zip us) := by
    have z := hb s us I.kIn (by rw [List.append_nil]; exact ln)
    rw [List.append_nil] at z
    exact z
  refine wpAny_call (codeAny_mono (F.goes X.A X.stack s H ⟨us, []⟩ us vs Q E hG hr I.env0 bt r h) fun rs s' z => ?_)
  match rs, z with
  | .error er, z => exact hx pins σ H s er s' I z
  | .ok (.ret u), z => exact I.after z
/-- f(e, ..) of such a def -/
theorem pe_callG (F : FnG X.prog X.w X.K X.mg X.base CX k f fd ps sp) (hG : X.A.guards = some []) (hr : Room k X.A) (hg : Gl X x) (hm : X.mg x = some (.ref f)) (hk : PySem.W.keepIn X.K (.ref f) = true) (hb : Binds X.K fd ps []) (hx : Passes CX X E)
    (ha : PA X (e :: es) t) (hdb : (x == ("__debug__" : Str)) = false := by decide) (he : starEach (e :: es) X.env = (false, eval e X.env) :: starEach es X.env := by rfl) (hpl : (backTo pos (starEach es X.env)).any (·.1) = false := by rfl) :
    PE X (.Call (.Name x p) (e :: es) [] pos) (tCall sp [] E t) := by
  refine ⟨fun pins s σ H Q I h => ?_⟩
  refine wpAny_Call_Name_kw (ld_glob I hg hm ?_ hdb)
  refine PySem.W.callWith_K (h₀ := X.base) I.ok.mod.kin hk (thn (ha.run pos pins s σ H _ I h) fun us s1 z => ?_) he hpl
  obtain ⟨vs, H1, I1, r1, q⟩ := z
  rw [List.append_nil] at q
  exact ⟨I1.kIn, goes_fn F hG hr hb hx I1 r1 q⟩
end
section
/-- the law's call, from its promise: what stood ahead of it is tracked nowhere but for the script -/
theorem enterG {P : Program} {w : World} {K : PySem.W.Frag} {mg mb : Str → Option Value} {k : Nat} {fa a : Addr} {fd : FuncData} {x : Str} {sp : Sp} {s : Shared} {vs : List Value} {ns : List Int}
    (inK : K.In s.heap) (hm : s.heap.Ns mainGlobals mg) (hb : s.heap.Ns builtinsNs mb) (hbb : ∀ x : Str, x ≠ "__name__" → mb x = bootBuiltins x) (nl : s.heap.NoLimit) (hgen : s.gens = #[])
    (hobj : s.heap.get? a = some { cls := .type "list", data := .seq vs.toArray }) (hi : IntsAre vs ns) (hl : ns.length ≤ sizeLine) (hr : Room k callerA)
    (F : ∀ base : Heap, K.In base → base.Ns mainGlobals mg → FnG P w K mg base CX0 k fa fd [x] sp) (bd : ∀ (s : Shared) (u : Value), BindsTo s fd ⟨[u], []⟩ [(x, u)])
    (hsp : ∀ H : Hp, SqL K H a (ns.map V.int) → (∀ b, b ≠ a → H b = none) → sp [.ref a] H (fun v _ => v = .bl true) fun _ _ _ => False) :
    codeAny (model P w) callerA (.call (.ref fa) ⟨[.ref a], []⟩) (fun r s' => r = .ok (.ret (.bool true)) ∧ OldK s.heap s'.heap ∧ s'.os = s.os ∧ AllBare s'.gens) s := by
  have rv := vals_ints hi
  have ln := hi.length
  -- H tracks at most the script
  have go : ∀ H : Hp, (H = (fun _ => none) ∨ H a = some (.frz { cls := .type "list", data := .seq vs.toArray } (.lst (ns.map V.int))) ∧ K.lookup a = none ∧ ∀ b, b ≠ a → H b = none) → SqL K H a (ns.map V.int) →
      codeAny (model P w) callerA (.call (.ref fa) ⟨[.ref a], []⟩) (fun r s' => r = .ok (.ret (.bool true)) ∧ OldK s.heap s'.heap ∧ s'.os = s.os ∧ AllBare s'.gens) s := by
    intro H hH hS
    have only : ∀ b, b ≠ a → H b = none := fun b nb => by
      rcases hH with z | z
      · rw [z]
      · exact z.2.2 b nb
    have held : ∀ b u, H b = some u → b = a ∧ u = .frz { cls := .type "list", data := .seq vs.toArray } (.lst (ns.map V.int)) ∧ K.lookup a = none := fun b u z => by
      by_cases nb : b = a
      · refine ⟨nb, ?_⟩
        rw [nb] at z
        rcases hH with y | y
        · rw [y] at z
          cases z
        · rw [y.1] at z
          exact ⟨(Option.some.inj z).symm, y.2.1⟩
      · rw [only b nb] at z
        cases z
    have hok : HOk P w H s.heap := fun b u z => by
      obtain ⟨eb, eu, _⟩ := held b u z
      rw [eb, eu]
      exact ⟨hobj, by rw [List.length_map]; exact hl, vs, _, rv, hobj⟩
    -- a dict is not the script
    have dn : ∀ {b : Addr} {m : Str → Option Value}, s.heap.Ns b m → (hidT s.heap H).Ns b m := fun {b m} ⟨o, es, ep, ho, hd, more⟩ => by
      refine ⟨o, es, ep, hidT_get ho ?_, hd, more⟩
      refine only b fun eb => ?_
      rw [eb, hobj] at ho
      rw [← Option.some.inj ho] at hd
      exact nomatch hd
    have inB : K.In (hidT s.heap H) := fun b o z => hidT_get (inK b o z) (by
      cases q : H b with
      | none => rfl
      | some u =>
        obtain ⟨eb, _, nk⟩ := held b u q
        rw [eb, nk] at z
        cases z)
    obtain ⟨mc, n1, n2⟩ := nl
    have e0 : Env0 P w K mg (hidT s.heap H) callerA [] s H := {
      frames := rfl
      mod := ⟨inB, dn hm, ⟨mb, dn hb, hbb⟩, ⟨mc, dn n1, n2⟩⟩
      bs := fun b o z => of_hidT z
      bsz := Nat.le_of_eq (hidT_size _ _)
      funs := trivial
      frf := fun b z => absurd z List.not_mem_nil
      hok := hok
      bare := .of_eq hgen }
    refine codeAny_mono ((F _ inB (dn hm)).goes callerA [] s H _ [.ref a] [.ref a] _ (fun _ _ _ => False) rfl hr e0 (bd s (.ref a)) (.cons rfl .nil) (hsp H hS only)) fun r s' z => ?_
    match r, z with
    | .error _, z => exact z.elim
    | .ok (.ret u), z =>
      obtain ⟨v, H', os, bare, un, hok', r1, q⟩ := z
      cases (show v = V.bl true from q)
      cases (show u = Value.bool true from r1)
      refine ⟨rfl, OldK.of_keep fun b o ho => ?_, os, bare⟩
      cases q : H b with
      | none => exact un.keep b o ho q List.not_mem_nil List.not_mem_nil
      | some u =>
        obtain ⟨eb, eu, _⟩ := held b u q
        rw [eu] at q
        have z1 : s.heap.get? b = some _ := (hok b _ q).1
        have z2 : s'.heap.get? b = some _ := (hok' b _ (un.frzs b _ _ q)).1
        rw [z2, ← z1]
        exact ho
  cases hk : K.lookup a with
  | some o =>
    have z := inK a o hk
    rw [hobj] at z
    cases z
    exact go (fun _ => none) (.inl rfl) (.inr ⟨_, vs.toArray, _, hk, rfl, rfl, rfl, by rw [List.size_toArray, ln]; exact hl, by simpa using rv⟩)
  | none =>
    refine go (fun b => if b = a then some (.frz { cls := .type "list", data := .seq vs.toArray } (.lst (ns.map V.int))) else none) (.inr ⟨if_pos rfl, hk, fun b nb => if_neg nb⟩) (.inl (.inr ⟨_, if_pos rfl⟩))
/-- the goal that k_head leaves -/
theorem walk_ofG {l : PySem.W.OpenLaw} {n k : Nat} {q : Program} {loose : List Str} {XP : (Str → Option Value) → Heap → Prop} {YP : World → Heap → Prop} {d : DefRec} {K : Params → PySem.W.Frag} {sp : World → Sp} {x : Str}
    (hn : l.most = some n) (hn2 : n ≤ sizeLine) (hdf : d.params.defaults = []) (hr : Room k callerA) (hY : ∀ (w : World) (h : Heap), YP w h → (K w.params).In h)
    (F : ∀ (w : World) (mg : Str → Option Value) (fa : Addr) (h : Heap), (K w.params).In h → h.Ns mainGlobals mg → mg d.name = some (.ref fa) →
      ∃ fd : FuncData, (∀ (s : Shared) (u : Value), BindsTo s fd ⟨[u], []⟩ [(x, u)]) ∧ ∀ base : Heap, (K w.params).In base → base.Ns mainGlobals mg → FnG l.prog w (K w.params) mg base CX0 k fa fd [x] (sp w))
    (hsp : ∀ (w : World) (H : Hp) (a : Addr) (ns : List Int), ns.length ≤ n → (∀ z ∈ ns, Builtin.Int.intBits z ≤ 1048576) → SqL (K w.params) H a (ns.map V.int) → (∀ b, b ≠ a → H b = none) → sp w [.ref a] H (fun v _ => v = .bl true) fun _ _ _ => False) :
    PySem.W.WalkO q loose XP YP l.row.toRowW d [] (fun f vs => PySem.call f vs) := by
  refine Att.attach_callB hn hdf fun w s₀ s mg mb fa o pm cd doc a vs ns G Y ho hd hcd hmg hobj hi hlen hbits hg => ?_
  have inK := hY w _ Y
  obtain ⟨fd, bd, hF⟩ := F w mg fa _ inK G.T.g hmg
  exact enterG inK G.T.g G.T.b G.T.builtins G.T.nolimit hg hobj hi (Nat.le_trans hlen hn2) hr hF bd fun H hS only => hsp w H a ns hlen hbits hS only
end
end Lr

namespace Lr
open PySem PySem.Spec PyProof.Rows L2
/-! repr of data -/
/-- what repr writes out within the lines -/
structure Shw (d : PyData) : Prop where
  sh : d.showable = true
  nd : d.hasDict = false
  dp : d.depth ≤ 60
  lv : d.leavesShort 2000 = true
  bk : d.bulk ≤ 8000
theorem Shw.fits {d : PyData} (h : Shw d) : d.shown.length ≤ sizeLine := by
  have z := PyData.shown_le_bulk 2000 (by decide) d h.lv
  have y := h.bk
  have e : sizeLine = 16777216 := by decide
  omega
/-- repr(x), nothing being written out at the time -/
def rRepr (K : PySem.W.Frag) : List V → Hp → VK → Prop := fun xs H Q => ∃ v d, xs = [v] ∧ Dp K H v d ∧ Shw d ∧ Q (.str d.shown) H
section
variable {X : Cx}
theorem call_repr {k : Nat} (hG : X.A.guards = some []) (hr : Room k X.A) : CallR X (.builtin "repr") (rRepr X.K) := by
  intro pins s σ H xs us Q I r h
  obtain ⟨v, d, rfl, hd, hs, q⟩ := h
  obtain ⟨u, rfl, hu⟩ := vals1 r
  have un := hr.units
  obtain ⟨as, rd⟩ := Dp.reads I d v u hd hu
  have far : ∀ (a : Addr), u = .ref a → wpAny (model X.prog X.w) X.A (call (.builtin "repr") [u]) (EP X pins σ Q) X.xe s := fun a ea => by
    rw [ea] at rd ⊢
    exact repr_of_reads' rd hs.sh (PyData.noDict_hsm hs.nd) hG (by have := hs.dp; omega) (fun _ _ z => z) (fun h' u tk hk => ⟨.str d.shown, H, I.kept (t' := tk) hk, ⟨u, rfl⟩, q⟩) hs.fits
  cases hd with
  | non =>
    cases (show u = Value.none from hu)
    exact PySem.P.repr_of_none ⟨.str _, H, I.tok _, ⟨_, rfl⟩, q⟩
  | bl b =>
    cases (show u = Value.bool b from hu)
    exact PySem.P.repr_of_bool ⟨.str _, H, I.tok _, ⟨_, rfl⟩, q⟩
  | int i =>
    obtain ⟨t, e⟩ := (show ∃ t, u = Value.int i t from hu)
    cases e
    exact PySem.P.repr_of_int (of_decide_eq_true hs.sh) ⟨.str _, H, I.tok _, ⟨_, rfl⟩, q⟩
  | str x =>
    obtain ⟨t, e⟩ := (show ∃ t, u = Value.str x t from hu)
    cases e
    exact PySem.P.repr_of_str ⟨.str _, H, I.tok _, ⟨_, rfl⟩, q⟩ hs.fits
  | lst hl ha => exact far _ hu
  | tup hl ha => exact far _ hu
end
/-! forms -/
/-- an int below 2 ^ 1900 -/
def Sml (i : Int) : Prop := i.natAbs < 2 ^ 1900
theorem Sml.lg {i : Int} (h : Sml i) : i.natAbs.log2 < 1920 := Nat.lt_trans (PySem.Flt.log2_lt_of (k := 1900) (by decide) h) (by decide)
theorem Sml.tx {i : Int} (h : Sml i) : (PyData.int i).shown.length ≤ 2000 := by
  have z := int_text_length_le (k := 1920) (by decide) h.lg
  show (Str.ofString (toString i)).length ≤ 2000
  rw [PySem.ofString_length]
  omega
def intsD (l : List Int) : List PyData := l.map PyData.int
theorem ints_ok : ∀ {l : List Int}, (∀ i ∈ l, Sml i) → PyData.showableAll (intsD l) = true ∧ PyData.hasDictAll (intsD l) = false ∧ PyData.leavesShortAll 2000 (intsD l) = true ∧ PyData.bulkAll (intsD l) = l.length ∧ PyData.depthAll (intsD l) ≤ 1
  | [], _ => ⟨rfl, rfl, rfl, rfl, Nat.zero_le _⟩
  | i :: l, h => by
    obtain ⟨h1, h2, h3, h4, h5⟩ := ints_ok (l := l) fun j hj => h j (List.mem_cons_of_mem _ hj)
    have hi := h i List.mem_cons_self
    refine ⟨?_, ?_, ?_, ?_, ?_⟩
    · show (decide (i.natAbs.log2 < 1920) && PyData.showableAll (intsD l)) = true
      rw [decide_eq_true hi.lg, h1]
      rfl
    · show (false || PyData.hasDictAll (intsD l)) = false
      rw [h2]
      rfl
    · show (decide ((PyData.int i).shown.length ≤ 2000) && PyData.leavesShortAll 2000 (intsD l)) = true
      rw [decide_eq_true hi.tx, h3]
      rfl
    · show 0 + 1 + PyData.bulkAll (intsD l) = l.length + 1
      rw [h4]
      omega
    · have e : PyData.depthAll (intsD (i :: l)) = max (PyData.depth (.int i)) (PyData.depthAll (intsD l)) := rfl
      have e0 : PyData.depth (.int i) ≤ 1 := by show (0 : Nat) ≤ 1; omega
      rw [e]
      omega
/-- a tuple of intsD -/
def tupD (l : List Int) : PyData := .tuple (intsD l)
theorem shw_int {i : Int} (h : Sml i) : Shw (.int i) := ⟨decide_eq_true h.lg, rfl, (by show (0 : Nat) ≤ 60; omega), decide_eq_true h.tx, Nat.zero_le _⟩
theorem shw_tup {l : List Int} (h : ∀ i ∈ l, Sml i) (hl : l.length ≤ 8000) : Shw (tupD l) := by
  obtain ⟨h1, h2, h3, h4, h5⟩ := ints_ok h
  refine ⟨h1, h2, ?_, h3, ?_⟩
  · have e : PyData.depth (tupD l) ≤ PyData.depthAll (intsD l) + 1 := by
      first | exact Nat.le_refl _ | exact Nat.le_of_eq (Nat.add_comm _ _)
    omega
  · have e : PyData.bulk (tupD l) = PyData.bulkAll (intsD l) := rfl
    rw [e, h4]
    exact hl
theorem dp_ints {K : PySem.W.Frag} {H : Hp} : ∀ l : List Int, DpAll K H (l.map V.int) (intsD l)
  | [] => .nil
  | i :: l => .cons (.int i) (dp_ints l)
theorem dp_tup {K : PySem.W.Frag} {H : Hp} {a : Addr} {l : List Int} (h : SqT K H a (l.map V.int)) : Dp K H (.ref a) (tupD l) := .tup h (dp_ints l)
end Lr

namespace Lr
open PySem PySem.Spec PyProof.Rows L2
/-! operators on ints of any size that is met here -/
def Cml (i j : Int) : Prop := CMul i j ∨ CMulW i j
def Cpw (i j : Int) : Prop := 0 ≤ j ∧ (Builtin.Int.intBits i : Int) * j ≤ 2 ^ 27
def Cfd (i j : Int) : Prop := CDivN i j ∨ CDivW i j
theorem cml_l {i j : Int} (h : i.natAbs < 2 ^ 64) : Cml i j := .inl (.inl ⟨by omega, by omega⟩)
theorem cml_r {i j : Int} (h : j.natAbs < 2 ^ 64) : Cml i j := .inl (.inr ⟨by omega, by omega⟩)
theorem cml_w {i j : Int} (a b : Nat) (ha : i.natAbs < 2 ^ a) (hb : j.natAbs < 2 ^ b) (h : a + b ≤ 900000 := by decide) : Cml i j := by
  refine .inr (wide_mul (a := a + 1) (b := b + 1) (Nat.lt_of_lt_of_le ha (Nat.pow_le_pow_right (by decide) (by omega))) (Nat.lt_of_lt_of_le hb (Nat.pow_le_pow_right (by decide) (by omega))) (by omega) (by omega) (by omega))
theorem cml_s {i j : Int} (ha : Sml i) (hb : Sml j) : Cml i j := cml_w 1900 1900 ha hb
theorem bits_le {i : Int} {k : Nat} (h : i.natAbs < 2 ^ k) : Builtin.Int.intBits i ≤ k := by
  unfold Builtin.Int.intBits
  split
  · omega
  · rename_i hn
    have h0 : i.natAbs ≠ 0 := by
      intro z
      have : i = 0 := by omega
      simp [this] at hn
    have := (Nat.log2_lt h0).mpr h
    omega
theorem cpw {i j : Int} (k : Nat) (h : i.natAbs < 2 ^ k) (h0 : 0 ≤ j) (hj : (k : Int) * j ≤ 2 ^ 27) : Cpw i j := by
  refine ⟨h0, Int.le_trans (Int.mul_le_mul_of_nonneg_right ?_ h0) hj⟩
  have := bits_le h
  omega
section
variable {X : Cx}
theorem op_mulL : OpR X (binaryOp .Mult) (rI Cml fun i j => .int (i * j)) := opI fun _ _ _ _ _ _ _ hc q => mul_int q (by
  rcases hc with h | h
  · exact h.ok
  · exact h.ok)
theorem op_powL : OpR X (binaryOp .Pow) (rI Cpw fun i j => .int (i ^ j.toNat)) := opI fun _ _ _ _ _ _ _ hc q => pow_int hc.1 hc.2 q
theorem op_fdivL : OpR X (binaryOp .FloorDiv) (rI Cfd fun i j => .int (i.fdiv j)) := by
  intro pins s σ H x y v u Q I rx ry h
  obtain ⟨i, j, ex, ey, hc, q⟩ := h
  rcases hc with hc | hc
  · exact op_fdivN pins s σ H x y v u Q I rx ry ⟨i, j, ex, ey, hc, q⟩
  · have h0 : (0 : Int) < j := hc.1
    exact op_fdivW pins s σ H x y v u Q I rx ry ⟨i, j, ex, ey, hc, by
      show Q (.int (i / j)) H
      rw [← Int.fdiv_eq_ediv_of_nonneg i (by omega)]
      exact q⟩
end
/-! a call by names alone -/
section
variable {X : Cx} {CX : CXT} {k : Nat} {f : Addr} {fd : FuncData} {ps ks : List Str} {sp : Sp} {E : XK} {x : Str} {p pos : Pos} {kws : List Keyword} {tk : TA} {g : List Value → List Value → List Value} {gV : List V → List V → List V}
theorem pe_callK0 (F : FnOk X.prog X.w X.K X.mg X.base CX k f fd ps sp) (hr : Room k X.A) (hg : Gl X x) (hm : X.mg x = some (.ref f)) (hk : PySem.W.keepIn X.K (.ref f) = true) (hb : KBinds X.K fd ps ks g gV) (hx : Passes CX X E) (hkw : PK X kws tk)
    (hall : (backToKw pos (keywordEach kws X.env)).all (·.1.isSome) = true := by rfl) (hks : (backToKw pos (keywordEach kws X.env)).filterMap (·.1) = ks := by rfl) (hdb : (x == ("__debug__" : Str)) = false := by decide)
    (hpl : ((backTo pos (starEach [] X.env)).any (·.1) || (backToKw pos (keywordEach kws X.env)).any (·.1.isNone)) = false := by rfl) :
    PE X (.Call (.Name x p) [] kws pos) (tCallK sp gV E tNil tk) := by
  refine ⟨fun pins s σ H Q I h => ?_⟩
  refine wpAny_Call_Name_kw (ld_glob I hg hm ?_ hdb)
  refine PySem.W.callWith_KW0 (h₀ := X.base) I.ok.mod.kin hk hall (thn (hkw.run pos pins s σ H _ I h) fun ws s2 z => ?_) hpl
  obtain ⟨zs, H2, I2, rz, q2⟩ := z
  refine ⟨I2.kIn, ?_⟩
  rw [hks]
  exact run_fnk (us := []) (vs := []) F hr hb hx I2 .nil rz q2
end
/-! roads as texts -/
/-- the sign of a turn: L (false), R (true) -/
def sg (b : Bool) : Nat := if b then 82 else 76
def rd (w : List Bool) : Str := ⟨(w.map sg).toArray⟩
theorem rd_cps (w : List Bool) : (rd w).cps.toList = w.map sg := by simp [rd]
theorem rd_len (w : List Bool) : (rd w).length = w.length := by
  show (w.map sg).toArray.size = w.length
  simp
theorem str_ext {x y : Str} (h : x.cps.toList = y.cps.toList) : x = y := by
  obtain ⟨a⟩ := x
  obtain ⟨b⟩ := y
  have e : a = b := Array.toList_inj.mp h
  rw [e]
theorem app_list (x y : Str) : (x ++ y).cps.toList = x.cps.toList ++ y.cps.toList := by
  show (x.cps ++ y.cps).toList = _
  simp
theorem rd_app (u v : List Bool) : rd u ++ rd v = rd (u ++ v) := str_ext (by rw [app_list, rd_cps, rd_cps, rd_cps, List.map_append])
theorem rd_nil : rd [] = ("" : Str) := by decide +kernel
theorem rd_L : rd [false] = ("L" : Str) := by decide +kernel
theorem rd_R : rd [true] = ("R" : Str) := by decide +kernel
theorem sg_inj {a b : Bool} (h : sg a = sg b) : a = b := by
  cases a <;> cases b <;> first | rfl | exact absurd h (by decide)
theorem rd_inj {u v : List Bool} (h : rd u = rd v) : u = v := by
  have e : u.map sg = v.map sg := by rw [← rd_cps, ← rd_cps, h]
  exact List.map_inj_right (fun a b => sg_inj) |>.mp e
/-! the purse of the draws -/
/-- the purse at a, n draws at most so far -/
def Pu (H : Hp) (a : Addr) (n : Nat) : Prop := ∃ p0 p1 p2 : Int, H a = some (.lst [.int p0, .int p1, .int p2]) ∧ 0 ≤ p0 ∧ 0 ≤ p1 ∧ p1 < 2 ^ 80 ∧ 0 ≤ p2 ∧ p2 ≤ n
theorem Pu.le {H : Hp} {a : Addr} {n m : Nat} (h : Pu H a n) (l : n ≤ m) : Pu H a m := by
  obtain ⟨p0, p1, p2, h1, h2, h3, h4, h5, h6⟩ := h
  exact ⟨p0, p1, p2, h1, h2, h3, h4, h5, by omega⟩
/-- all that was tracked but for a is as it was -/
def Kp (a : Addr) (H H' : Hp) : Prop := ∀ b o, b ≠ a → H b = some o → H' b = some o
theorem Kp.refl (a : Addr) (H : Hp) : Kp a H H := fun _ _ _ h => h
theorem Kp.trans {a : Addr} {H H1 H2 : Hp} (x : Kp a H H1) (y : Kp a H1 H2) : Kp a H H2 := fun b o n h => y b o n (x b o n h)
theorem Kp.of {a : Addr} {H H' : Hp} (h : Same H H') : Kp a H H' := fun b o _ z => h b o z
theorem Kp.upd (a : Addr) (H : Hp) (o : HO) : Kp a H (upd H a o) := fun b u n h => by rw [upd_ne n]; exact h
theorem Kp.new {a : Addr} {H H' : Hp} {p : Addr} {o : HO} (x : Kp a H H') (h : H' p = none) : Kp a H (L2.upd H' p o) := fun b u n z => by
  rw [upd_ne (ne_of_none (x b u n z) h)]
  exact x b u n z
theorem Pu.same {H H' : Hp} {a : Addr} {n : Nat} (h : Pu H a n) (s : Same H H') : Pu H' a n := by
  obtain ⟨p0, p1, p2, h1, h2⟩ := h
  exact ⟨p0, p1, p2, s _ _ h1, h2⟩
theorem _root_.L2.Same.new {H H' : Hp} {p : Addr} {o : HO} (s : Same H H') (h : H' p = none) : Same H (L2.upd H' p o) := fun b u z => by
  rw [upd_ne (ne_of_none (s b u z) h)]
  exact s b u z
theorem Pu.new {H : Hp} {a p : Addr} {o : HO} {n : Nat} (h : Pu H a n) (hp : H p = none) : Pu (L2.upd H p o) a n := h.same ((L2.Same.refl H).new hp)
theorem Pu.ne {H : Hp} {a p : Addr} {n : Nat} (h : Pu H a n) (hp : H p = none) : a ≠ p := by
  obtain ⟨_, _, _, h1, _⟩ := h
  exact ne_of_none h1 hp
theorem sz {n : Nat} (h : n ≤ 1000000) : n ≤ sizeLine := Nat.le_trans h (by decide)
theorem tup_same {H H' : Hp} {K : PySem.W.Frag} {a : Addr} {xs : List V} (s : Same H H') (h : SqT K H a xs) : SqT K H' a xs := by
  rcases h with (h | ⟨o, h⟩) | h
  · exact .inl (.inl (s _ _ h))
  · exact .inl (.inr ⟨o, s _ _ h⟩)
  · exact .inr h
theorem Kp.tup {H H' : Hp} {a b : Addr} {xs : List V} (x : Kp a H H') (n : b ≠ a) (h : H b = some (.tup xs)) : H' b = some (.tup xs) := x b _ n h
theorem Kp.free {H H' : Hp} {a p : Addr} {n : Nat} (k : Kp a H H') (hp : Pu H' a n) (np : H' p = none) : H p = none := by
  cases e : H p with
  | none => rfl
  | some o =>
    have ne : p ≠ a := (hp.ne np).symm
    rw [k p o ne e] at np
    cases np
end Lr

set_option exponentiation.threshold 5000
namespace Lr
open PySem PySem.Spec PyProof.Rows L2
/-! readings whose ways meet -/
theorem if_val {t : TT} {ta tb : TE} {σ : L2.St} {H : Hp} {Q : VK} (c : Bool) (v : V) (ht : ∀ R : Bool → Hp → Prop, R c H → t σ H R) (h1 : c = true → ∀ R : VK, R v H → ta σ H R) (h2 : c = false → ∀ R : VK, R v H → tb σ H R) (q : Q v H) : tIf t ta tb σ H Q := by
  refine ht _ ?_
  cases c with
  | true => exact iteT (h1 rfl Q q)
  | false => exact iteF (h2 rfl Q q)
/-- .. where either way ends with what P says -/
theorem if_ends {t : TT} {ta tb : TE} {σ : L2.St} {H : Hp} {Q : VK} (P : V → Hp → Prop) (c : Bool) (ht : ∀ R : Bool → Hp → Prop, R c H → t σ H R) (h1 : c = true → ∀ R : VK, (∀ v H', P v H' → R v H') → ta σ H R) (h2 : c = false → ∀ R : VK, (∀ v H', P v H' → R v H') → tb σ H R)
    (q : ∀ v H', P v H' → Q v H') : tIf t ta tb σ H Q := by
  refine ht _ ?_
  cases c with
  | true => exact iteT (h1 rfl Q q)
  | false => exact iteF (h2 rfl Q q)
/-- an if whose ways meet -/
theorem if_meets {t : TT} {ta tb : TS} {D : Ends} {σ : L2.St} {H : Hp} (P : L2.St → Hp → Prop) (c : Bool) (ht : ∀ R : Bool → Hp → Prop, R c H → t σ H R) (h1 : c = true → ∀ N : L2.St → Hp → Prop, (∀ σ' H', P σ' H' → N σ' H') → ta { D with nx := N } σ H)
    (h2 : c = false → ∀ N : L2.St → Hp → Prop, (∀ σ' H', P σ' H' → N σ' H') → tb { D with nx := N } σ H) (q : ∀ σ' H', P σ' H' → D.nx σ' H') : tIfS t ta tb D σ H := by
  refine ht _ ?_
  cases c with
  | true => exact iteT (h1 rfl D.nx q)
  | false => exact iteF (h2 rfl D.nx q)
/-- two ways that meet, behind the test -/
theorem meet {c : Bool} {ta tb : TS} {D : Ends} {σ : L2.St} {H : Hp} (P : L2.St → Hp → Prop) (h1 : c = true → ∀ N : L2.St → Hp → Prop, (∀ σ' H', P σ' H' → N σ' H') → ta { D with nx := N } σ H)
    (h2 : c = false → ∀ N : L2.St → Hp → Prop, (∀ σ' H', P σ' H' → N σ' H') → tb { D with nx := N } σ H) (q : ∀ σ' H', P σ' H' → D.nx σ' H') : if c = true then ta D σ H else tb D σ H := by
  cases c with
  | true => exact iteT (h1 rfl D.nx q)
  | false => exact iteF (h2 rfl D.nx q)
/-! text lemmas -/
theorem nat_of {i : Int} (h : 0 ≤ i) : ∃ n : Nat, i = (n : Int) := ⟨i.toNat, by omega⟩
/-! the turns that a draw puts behind a road -/
def wayMenu : List V := [.str "L", .str "R", .str "LL", .str "RR", .str "LR", .str "RRRRR", .str "LLLLLLL"]
theorem wayMenu_at {r : Int} (h0 : 0 ≤ r) (h1 : r < 7) : ∃ u : List Bool, u.length ≤ 7 ∧ atI wayMenu r = some (.str (rd u)) := by
  have c : r = 0 ∨ r = 1 ∨ r = 2 ∨ r = 3 ∨ r = 4 ∨ r = 5 ∨ r = 6 := by omega
  rcases c with rfl | rfl | rfl | rfl | rfl | rfl | rfl
  · exact ⟨[false], by decide, by decide +kernel⟩
  · exact ⟨[true], by decide, by decide +kernel⟩
  · exact ⟨[false, false], by decide, by decide +kernel⟩
  · exact ⟨[true, true], by decide, by decide +kernel⟩
  · exact ⟨[false, true], by decide, by decide +kernel⟩
  · exact ⟨[true, true, true, true, true], by decide, by decide +kernel⟩
  · exact ⟨[false, false, false, false, false, false, false], by decide, by decide +kernel⟩
theorem rd_app_len {u v : List Bool} (h : u.length + v.length ≤ 1000000) : (rd u).length + (rd v).length ≤ sizeLine := by
  rw [rd_len, rd_len]
  exact sz h
/-! slices -/
theorem cut_rd (w : List Bool) (lo hi : Option Int) : cutS (rd w) lo hi = rd ((w.drop (HT.sIx w.length 0 lo)).take (HT.sIx w.length w.length hi - HT.sIx w.length 0 lo)) := by
  refine str_ext ?_
  rw [rd_cps]
  unfold cutS
  rw [rd_len, rd_cps]
  simp [List.map_take, List.map_drop]
theorem cut_take (w : List Bool) (t : Nat) : cutS (rd w) none (some (t : Int)) = rd (w.take t) := by
  rw [cut_rd, HT.sIx_none, HT.sIx_nat, List.drop_zero, Nat.sub_zero]
  by_cases h : t ≤ w.length
  · rw [Nat.min_eq_left h]
  · rw [Nat.min_eq_right (by omega), List.take_of_length_le (Nat.le_refl _), List.take_of_length_le (by omega)]
theorem cut_drop (w : List Bool) (t : Nat) : cutS (rd w) (some (t : Int)) none = rd (w.drop t) := by
  rw [cut_rd, HT.sIx_none, HT.sIx_nat]
  by_cases h : t ≤ w.length
  · rw [Nat.min_eq_left h, List.take_of_length_le (by rw [List.length_drop]; omega)]
  · rw [Nat.min_eq_right (by omega), List.drop_of_length_le (Nat.le_refl _), List.drop_of_length_le (by omega), List.take_nil]
theorem cut_mid (w : List Bool) (s t : Nat) : cutS (rd w) (some (s : Int)) (some (t : Int)) = rd ((w.take t).drop s) := by
  rw [cut_rd, HT.sIx_nat, HT.sIx_nat, List.drop_take]
  by_cases h : s ≤ w.length
  · rw [Nat.min_eq_left h]
    by_cases h2 : t ≤ w.length
    · rw [Nat.min_eq_left h2]
    · rw [Nat.min_eq_right (by omega), List.take_of_length_le (by rw [List.length_drop]; omega), List.take_of_length_le (by rw [List.length_drop]; omega)]
  · rw [Nat.min_eq_right (show w.length ≤ s by omega), List.drop_of_length_le (Nat.le_refl _), List.drop_of_length_le (show w.length ≤ s by omega), List.take_nil, List.take_nil]
theorem cut_most (w : List Bool) : cutS (rd w) none (some (-1)) = rd w.dropLast := by
  have e : HT.sIx w.length w.length (some (-1)) = w.length - 1 := by
    show (if (-1 : Int) < 0 then ((-1 : Int) + (w.length : Int)).toNat else min (-1 : Int).toNat w.length) = w.length - 1
    rw [if_pos (by decide)]
    omega
  rw [cut_rd, HT.sIx_none, e, List.drop_zero, Nat.sub_zero, List.dropLast_eq_take]
/-! a road walked turn by turn -/
theorem for_rd {w : List Bool} {g : TG} {tb : TS} {D : Ends} {σ : L2.St} {H : Hp} (Pv : List Bool → L2.St → Hp → Prop) (h0 : Pv [] σ H)
    (hs : ∀ pre t post σ H, w = pre ++ t :: post → Pv pre σ H → g (.str (rd [t])) σ H fun σ2 H2 => tb { D with nx := Pv (pre ++ [t]), ct := Pv (pre ++ [t]), bk := D.nx } σ2 H2) (hd : ∀ σ H, Pv w σ H → D.nx σ H) :
    ∃ W : Nat → Nat → L2.St → Hp → Prop, (∃ m, W 0 m σ H) ∧ ∀ i m σ H, W i m σ H →
      ((Its (rd w)).stop i H ∧ D.nx σ H) ∨ ((Its (rd w)).go i H ∧ ∃ N : L2.St → Hp → Prop, (∀ σ' H', N σ' H' → ∃ m', m' < m ∧ W (i + 1) m' σ' H') ∧ ∀ x H', (Its (rd w)).yld i H x H' → g x σ H' fun σ2 H2 => tb { D with nx := N, ct := N, bk := D.nx } σ2 H2) := by
  have es : (rd w).cps.size = w.length := rd_len w
  refine for_it walk_str (fun i σ H => Pv (w.take i) σ H) h0 (fun _ _ _ _ _ => trivial) ?_ ?_
  · rintro i x σ H H' hi p ⟨rfl, c, hc, rfl⟩
    have hi' : i < w.length := by omega
    have ec : c = sg w[i] := by
      have e1 : (rd w).cps.toList[i]? = some c := by rw [Array.getElem?_toList]; exact hc
      rw [rd_cps, List.getElem?_map, List.getElem?_eq_getElem hi'] at e1
      exact (Option.some.inj e1).symm
    have e2 : (⟨#[c]⟩ : Str) = rd [w[i]] := by rw [ec]; rfl
    have z := hs (w.take i) w[i] (w.drop (i + 1)) σ H' (by rw [List.getElem_cons_drop, List.take_append_drop]) p
    rw [e2]
    rw [List.take_append_getElem] at z
    exact z
  · intro σ H p
    rw [es, List.take_length] at p
    exact hd σ H p
theorem eq_L (t : Bool) : decide (V.str (rd [t]) = V.str ("L" : Str)) = !t := by cases t <;> decide +kernel
theorem eq_R (t : Bool) : decide (V.str (rd [t]) = V.str ("R" : Str)) = t := by cases t <;> decide +kernel
/-! counting signs -/
theorem count_L (w : List Bool) : Txt.count (rd w) ("L" : Str) + Txt.count (rd w) ("R" : Str) = (w.length : Int) := by
  have eL : ("L" : Str) = ⟨#[76]⟩ := by decide +kernel
  have eR : ("R" : Str) = ⟨#[82]⟩ := by decide +kernel
  rw [eL, eR, count_cnt, count_cnt, rd_cps]
  induction w with
  | nil => rfl
  | cons t w ih =>
    rw [List.map_cons, cnt_cons, cnt_cons, List.length_cons]
    have e : ((if sg t = 76 then 1 else 0 : Int)) + (if sg t = 82 then 1 else 0) = 1 := by cases t <;> decide
    omega
/-! menus of ints -/
theorem menu_at {l : List Int} {r : Int} (h0 : 0 ≤ r) (h1 : r < l.length) : ∃ t, t ∈ l ∧ atI (l.map V.int) r = some (.int t) := by
  obtain ⟨j, rfl⟩ := nat_of h0
  have hj : j < l.length := by omega
  exact ⟨l[j], List.getElem_mem hj, atI_nat (by rw [List.getElem?_map, List.getElem?_eq_getElem hj]; rfl)⟩
theorem same_kp {p : Addr} {H0 H1 H2 : Hp} (s : Same H0 H1) (n : H0 p = none) (k : Kp p H1 H2) : Same H0 H2 := fun b o h => k b o (ne_of_none h n) (s b o h)
theorem bl2 {b : Bool} {A B : Prop} (h1 : b = true → A) (h2 : b = false → B) : if b = true then A else B := by
  cases b with
  | true => exact iteT (h1 rfl)
  | false => exact iteF (h2 rfl)
/-! a turn exchanged, by a dict -/
def flipKs : List (Key × V) := [(.inr "L", .str "R"), (.inr "R", .str "L"), (.inr "", .str "")]
theorem flip_at {u : List Bool} (h : u.length ≤ 1) : valV (mergeK [] flipKs) (.inr (rd u)) = some (.str (rd (u.map not))) := by
  match u, h with
  | [], _ => decide +kernel
  | [false], _ => decide +kernel
  | [true], _ => decide +kernel
theorem shw_i {i : Int} (h : i.natAbs < 2 ^ 1900) : Shw (.int i) := shw_int h
theorem law_i {m C : Int} {i : Nat} (hi : i < (if (if m < C then m else C) > 1 then (if m < C then m else C) else 1 : Int).toNat) (h1 : 1 ≤ C) (h2 : C ≤ 63) : i < 63 := by
  revert hi
  split <;> split <;> omega
end Lr

set_option exponentiation.threshold 5000
namespace Lr
theorem snoc_ind {α : Type} {P : List α → Prop} (h0 : P []) (h1 : ∀ l x, P l → P (l ++ [x])) (l : List α) : P l := by
  have key : ∀ (n : Nat) (l : List α), l.length = n → P l := by
    intro n
    induction n with
    | zero =>
      intro l hl
      rw [List.length_eq_zero_iff.mp hl]
      exact h0
    | succ n ih =>
      intro l hl
      have hne : l ≠ [] := by
        intro z
        rw [z] at hl
        cases hl
      rw [← List.dropLast_concat_getLast hne]
      exact h1 _ _ (ih _ (by rw [List.length_dropLast]; omega))
  exact key _ l rfl
/-! tuples of four ints that are put one behind the other -/
@[ext] structure M4 where
  (a b c d : Int)
def M4.mul (m n : M4) : M4 := ⟨m.a * n.a + m.b * n.c, m.a * n.b + m.b * n.d, m.c * n.a + m.d * n.c, m.c * n.b + m.d * n.d⟩
def M4.one : M4 := ⟨1, 0, 0, 1⟩
def turnM (m : M4) (t : Bool) : M4 := if t then ⟨m.a, m.a + m.b, m.c, m.c + m.d⟩ else ⟨m.a + m.b, m.b, m.c + m.d, m.d⟩
def mat (w : List Bool) : M4 := w.foldl turnM M4.one
theorem mat_snoc (w : List Bool) (t : Bool) : mat (w ++ [t]) = turnM (mat w) t := by
  unfold mat
  rw [List.foldl_append]
  rfl
theorem turnM_mul (m : M4) (t : Bool) : turnM m t = m.mul (mat [t]) := by
  cases t
  · show (⟨m.a + m.b, m.b, m.c + m.d, m.d⟩ : M4) = ⟨m.a * (1 + 0) + m.b * (0 + 1), m.a * 0 + m.b * 1, m.c * (1 + 0) + m.d * (0 + 1), m.c * 0 + m.d * 1⟩
    ext <;> simp
  · show (⟨m.a, m.a + m.b, m.c, m.c + m.d⟩ : M4) = ⟨m.a * 1 + m.b * 0, m.a * (1 + 0) + m.b * (0 + 1), m.c * 1 + m.d * 0, m.c * (1 + 0) + m.d * (0 + 1)⟩
    ext <;> simp
theorem M4.mul_assoc (x y z : M4) : (x.mul y).mul z = x.mul (y.mul z) := by
  unfold M4.mul
  ext <;> simp [Int.add_mul, Int.mul_add, Int.mul_assoc] <;> omega
theorem M4.mul_one (x : M4) : x.mul M4.one = x := by
  unfold M4.mul M4.one
  ext <;> simp
theorem M4.one_mul (x : M4) : M4.one.mul x = x := by
  unfold M4.mul M4.one
  ext <;> simp
theorem mat_app (u v : List Bool) : mat (u ++ v) = (mat u).mul (mat v) := by
  induction v using snoc_ind with
  | h0 =>
    rw [List.append_nil]
    exact (M4.mul_one _).symm
  | h1 l x ih => rw [← List.append_assoc, mat_snoc, mat_snoc, ih, turnM_mul, turnM_mul (mat l), M4.mul_assoc]
def M4.det (m : M4) : Int := m.a * m.d - m.b * m.c
theorem M4.det_mul (x y : M4) : (x.mul y).det = x.det * y.det := by
  unfold M4.mul M4.det
  simp only [Int.add_mul, Int.mul_add, Int.sub_mul, Int.mul_sub]
  have e1 : x.a * y.a * (x.c * y.b) = x.a * y.b * (x.c * y.a) := by simp [Int.mul_comm, Int.mul_assoc, Int.mul_left_comm]
  have e2 : x.b * y.c * (x.d * y.d) = x.b * y.d * (x.d * y.c) := by simp [Int.mul_comm, Int.mul_assoc, Int.mul_left_comm]
  have e3 : x.a * y.a * (x.d * y.d) = x.a * x.d * (y.a * y.d) := by simp [Int.mul_comm, Int.mul_assoc, Int.mul_left_comm]
  have e4 : x.b * y.c * (x.c * y.b) = x.b * x.c * (y.b * y.c) := by simp [Int.mul_comm, Int.mul_assoc, Int.mul_left_comm]
  have e5 : x.a * y.b * (x.d * y.c) = x.a * x.d * (y.b * y.c) := by simp [Int.mul_comm, Int.mul_assoc, Int.mul_left_comm]
  have e6 : x.b * y.d * (x.c * y.a) = x.b * x.c * (y.a * y.d) := by simp [Int.mul_comm, Int.mul_assoc, Int.mul_left_comm]
  omega
theorem mat_det (w : List Bool) : (mat w).det = 1 := by
  induction w using snoc_ind with
  | h0 => rfl
  | h1 l x ih =>
    rw [mat_app, M4.det_mul, ih]
    cases x <;> rfl
/-- what a road's integers keep -/
structure Nn (m : M4) : Prop where
  a : 0 ≤ m.a
  b : 0 ≤ m.b
  c : 0 ≤ m.c
  d : 0 ≤ m.d
theorem turnM_nn {m : M4} (h : Nn m) (t : Bool) : Nn (turnM m t) := by
  obtain ⟨a, b, c, d⟩ := h
  cases t
  · exact ⟨by show 0 ≤ m.a + m.b; omega, b, by show 0 ≤ m.c + m.d; omega, d⟩
  · exact ⟨a, by show 0 ≤ m.a + m.b; omega, c, by show 0 ≤ m.c + m.d; omega⟩
theorem mat_nn (w : List Bool) : Nn (mat w) := by
  induction w using snoc_ind with
  | h0 => exact ⟨by decide, by decide, by decide, by decide⟩
  | h1 l x ih =>
    rw [mat_snoc]
    exact turnM_nn ih x
/-- how great they may be -/
theorem mat_le (w : List Bool) : (mat w).a + (mat w).b ≤ 2 ^ w.length ∧ (mat w).c + (mat w).d ≤ 2 ^ w.length := by
  induction w using snoc_ind with
  | h0 => exact ⟨by decide, by decide⟩
  | h1 l x ih =>
    have n := mat_nn l
    obtain ⟨a, b, c, d⟩ := n
    rw [mat_snoc, List.length_append]
    have e : (2 : Int) ^ (l.length + [x].length) = 2 ^ l.length * 2 := Int.pow_succ ..
    rw [e]
    cases x
    · show (mat l).a + (mat l).b + (mat l).b ≤ _ ∧ (mat l).c + (mat l).d + (mat l).d ≤ _
      omega
    · show (mat l).a + ((mat l).a + (mat l).b) ≤ _ ∧ (mat l).c + ((mat l).c + (mat l).d) ≤ _
      omega
/-- the fraction of a road -/
def wa (w : List Bool) : Int := (mat w).a + (mat w).b
def wb (w : List Bool) : Int := (mat w).c + (mat w).d
theorem up_R (w : List Bool) : wa (true :: w) = wa w + wb w ∧ wb (true :: w) = wb w := by
  have e : mat (true :: w) = (mat [true]).mul (mat w) := mat_app [true] w
  unfold wa wb
  rw [e]
  show (1 : Int) * (mat w).a + (1 + 0) * (mat w).c + (1 * (mat w).b + (1 + 0) * (mat w).d) = _ ∧ (0 : Int) * (mat w).a + (0 + 1) * (mat w).c + (0 * (mat w).b + (0 + 1) * (mat w).d) = _
  omega
theorem up_L (w : List Bool) : wa (false :: w) = wa w ∧ wb (false :: w) = wa w + wb w := by
  have e : mat (false :: w) = (mat [false]).mul (mat w) := mat_app [false] w
  unfold wa wb
  rw [e]
  show (1 + 0 : Int) * (mat w).a + 0 * (mat w).c + ((1 + 0) * (mat w).b + 0 * (mat w).d) = _ ∧ (0 + 1 : Int) * (mat w).a + 1 * (mat w).c + ((0 + 1) * (mat w).b + 1 * (mat w).d) = _
  omega
theorem pow_lt {n k : Nat} (h : n ≤ k) : (2 : Int) ^ n ≤ 2 ^ k := by
  have := Nat.pow_le_pow_right (show 0 < 2 by decide) h
  have e : ∀ m : Nat, (2 : Int) ^ m = ((2 ^ m : Nat) : Int) := fun m => by simp
  rw [e, e]
  exact Int.ofNat_le.mpr this
theorem up_pos (w : List Bool) : 1 ≤ wa w ∧ 1 ≤ wb w := by
  have n := mat_nn w
  have d := mat_det w
  obtain ⟨a, b, c, e⟩ := n
  unfold M4.det at d
  show 1 ≤ (mat w).a + (mat w).b ∧ 1 ≤ (mat w).c + (mat w).d
  constructor
  · by_cases h : (mat w).a = 0
    · by_cases h2 : (mat w).b = 0
      · rw [h, h2] at d
        simp at d
      · omega
    · omega
  · by_cases h : (mat w).c = 0
    · by_cases h2 : (mat w).d = 0
      · rw [h, h2] at d
        simp at d
      · omega
    · omega
theorem nat_pow_cast (k : Nat) : (2 : Int) ^ k = ((2 ^ k : Nat) : Int) := by simp
/-- the fraction of a road of at most k turns -/
theorem up_lt {w : List Bool} {k : Nat} (h : w.length ≤ k) : (wa w).natAbs ≤ 2 ^ k ∧ (wb w).natAbs ≤ 2 ^ k := by
  obtain ⟨h1, h2⟩ := mat_le w
  obtain ⟨p1, p2⟩ := up_pos w
  have h3 := pow_lt h
  rw [nat_pow_cast k] at h3
  have p1 : 1 ≤ (mat w).a + (mat w).b := p1
  have p2 : 1 ≤ (mat w).c + (mat w).d := p2
  show ((mat w).a + (mat w).b).natAbs ≤ 2 ^ k ∧ ((mat w).c + (mat w).d).natAbs ≤ 2 ^ k
  omega
open L2 in
theorem up_sml {w : List Bool} (h : w.length ≤ 1800) : Sml (wa w) ∧ Sml (wb w) := by
  obtain ⟨h1, h2⟩ := up_lt h
  have e : (2 : Nat) ^ 1800 < 2 ^ 1900 := Nat.pow_lt_pow_right (by decide) (by decide)
  exact ⟨Nat.lt_of_le_of_lt h1 e, Nat.lt_of_le_of_lt h2 e⟩
/-- a pair of small ints is written out -/
theorem shw2 {i j : Int} (h1 : Sml i) (h2 : Sml j) : Shw (tupD [i, j]) := shw_tup (fun x hx => by
  rcases List.mem_cons.mp hx with rfl | hx
  · exact h1
  · rcases List.mem_cons.mp hx with rfl | hx
    · exact h2
    · exact absurd hx List.not_mem_nil) (by show 2 ≤ 8000; decide)
end Lr

set_option exponentiation.threshold 5000
namespace Lr
open PySem PySem.Spec PyProof.Rows L2
/-! min of four ints -/
section
variable {prog : Program} {w : World} {A : Around} {E : Value → Shared → Prop} {s : Shared}
theorem args_min4 (a b c d : Value) : argsOk "min" ⟨[a, b, c, d], []⟩ := by
  unfold argsOk
  kernel_rfl
theorem min_four {a b c d : Int} {t1 t2 t3 t4 : Tok} {Q : Value → Shared → Prop} (hh : A.handled = none)
    (h : ∀ h' tk m t, (∀ x o, s.heap.get? x = some o → h'.get? x = some o) → m ∈ [a, b, c, d] → (∀ y ∈ [a, b, c, d], m ≤ y) → Q (.int m t) { s with heap := h', toks := tk }) :
    wpAny (model prog w) A (call (.builtin "min") [.int a t1, .int b t2, .int c t3, .int d t4]) Q E s := by
  have nm : (toString "min" ++ toString ".loop" : String) = "min.loop" := by decide
  refine call_function_tree F.kind_min F.plain_min
    F.entry_min (args_min4 _ _ _ _) ?_
  show wpAny _ A.in1 (Builtin.Builtins.bindParams "min" ["key", "default"] 0 ⟨[], []⟩
    >>= _) _ _ s
  refine wpAny_bind (wpAny_of_eq
    (show Builtin.Builtins.bindParams "min" ["key", "default"] 0 ⟨[], []⟩ = pure [Option.none, Option.none] from rfl) ?_)
  show wpAny _ A.in1 (newTuple [.int a t1, .int b t2, .int c t3, .int d t4] >>= _) _ _ s
  refine wpAny_bind (wpAny_newObj_type ?_)
  generalize hxs : (#[(a, t1), (b, t2), (c, t3), (d, t4)] : Array (Int × Tok)) = xs
  have exs : (#[.int a t1, .int b t2, .int c t3, .int d t4] : Array Value) = intItems xs := by
    rw [← hxs]
    simp [intItems]
  have enum : numsOf (intItems xs).toList = [a, b, c, d] := by
    rw [nums_intItems, ← hxs]
    rfl
  have size4 : xs.size = 4 := by
    rw [← hxs]
    rfl
  show wpAny _ _ (pyIter (.ref s.heap.objs.size) >>= _) _ _ { s with heap := s.heap.push { cls := .type "tuple", data := .seq #[.int a t1, .int b t2, .int c t3, .int d t4] } }
  rw [exs]
  generalize e1 : s.heap.push { cls := .type "tuple", data := .seq (intItems xs) } = g1
  have hT : g1.IsTuple s.heap.objs.size (intItems xs) := by
    rw [← e1]
    exact ⟨_, Heap.get?_push_size _ rfl, rfl, 0, rfl⟩
  have old1 : ∀ x o, s.heap.get? x = some o → g1.get? x = some o := fun x o z => by
    rw [← e1]
    exact Heap.get?_push_of_some _ z
  have n1 : g1.objs.size = s.heap.objs.size + 1 := by
    rw [← e1]
    exact Heap.size_push ..
  refine wpAny_bind (wpAny_pyIter_tuple hT ?_)
  show wpAny _ _ (_ >>= _) _ _ { s with heap := g1.push { cls := .type "tuple_iterator", data := .fields #[.ref s.heap.objs.size, .int 0 0] } }
  generalize e2 : g1.push { cls := .type "tuple_iterator", data := .fields #[.ref s.heap.objs.size, .int 0 0] } = g2
  have old2 : ∀ x o, g1.get? x = some o → g2.get? x = some o := fun x o z => by
    rw [← e2]
    exact Heap.get?_push_of_some _ z
  have n2 : g2.objs.size = s.heap.objs.size + 2 := by
    rw [← e2, Heap.size_push, n1]
  have hI : g2.IsTupleIter g1.objs.size s.heap.objs.size 0 := by
    rw [← e2]
    exact ⟨_, Heap.get?_push_size _ rfl, rfl, rfl⟩
  have hT2 : g2.IsTuple s.heap.objs.size (intItems xs) := by
    rw [← e2]
    exact hT.push _
  refine wpAny_bind (wpAny_newObj_type ?_)
  have W := Walks.tuple (prog := prog) (w := w) (A := A.in1) hh g1.objs.size s.heap.objs.size (by rw [n1]; exact Nat.ne_of_lt (Nat.lt_succ_self _)) (intItems xs)
  have fresh : g2.objs.size ∉ [g1.objs.size, s.heap.objs.size] := fun z => by
    rcases List.mem_cons.mp z with z | z
    · have z : (g2.objs.size : Nat) = (g1.objs.size : Nat) := z
      omega
    · rcases List.mem_cons.mp z with z | z
      · have z : (g2.objs.size : Nat) = (s.heap.objs.size : Nat) := z
        omega
      · exact absurd z List.not_mem_nil
  have is4 : (intItems xs).size = 4 := by simp [intItems, size4]
  rw [nm]
  refine wpAny_pure ⟨plainId_quiet F.plain_min_loop _, codeAny_min_loop_first W _ (CmpOf.ints_lt (numAt xs) (fun _ _ => intItems_at)) g2.objs.size fresh (by omega)
    (W.frame _ _ _ ⟨hI, hT2⟩ fun x _ o z => Heap.get?_push_of_some _ z) (Heap.get?_push_size _ rfl) fun v h' tk hP hk => ?_⟩
  obtain ⟨t, rfl⟩ := intItems_at hP
  obtain ⟨z1, z2⟩ := argBest_lt (numAt xs) (xs.size - 1)
  have e3 : (intItems xs).size - 1 = xs.size - 1 := by rw [is4, size4]
  rw [e3]
  have mem : ∀ j, j < 4 → numAt xs j ∈ [a, b, c, d] := fun j hj => by
    rw [← enum, nums_intItems, numAt_eq]
    exact PySem.getD_mem (by rw [List.length_map, Array.length_toList]; omega)
  refine h h' tk _ t (fun x o z => ?_) (mem _ (by omega)) fun y hy => ?_
  · have lt : (x : Nat) < (s.heap.objs.size : Nat) := Heap.lt_size z
    refine hk x o (fun z2 => ?_) (Nat.ne_of_lt (Nat.lt_of_lt_of_le lt (by rw [n2]; exact Nat.le_add_right _ _))) (Heap.get?_push_of_some _ (old2 _ _ (old1 _ _ z)))
    rcases List.mem_cons.mp z2 with z2 | z2
    · exact absurd z2 (Nat.ne_of_lt (Nat.lt_of_lt_of_le lt (by rw [n1]; exact Nat.le_add_right _ _)))
    · exact absurd z2 List.not_mem_nil
  · rw [← enum, nums_intItems] at hy
    obtain ⟨j, hj, rfl⟩ := mem_getD hy
    rw [List.length_map, Array.length_toList] at hj
    rw [← numAt_eq]
    exact z2 j (by omega)
end
section
variable {X : Cx}
/-- min(a, b, c, d) -/
def rMin4 : List V → Hp → VK → Prop := fun vs H Q => ∃ a b c d : Int, vs = [.int a, .int b, .int c, .int d] ∧ ∀ m : Int, m ∈ [a, b, c, d] → (∀ y ∈ [a, b, c, d], m ≤ y) → Q (.int m) H
theorem cr_minN (hc : X.calm = true) : CallR X (.builtin "min") rMin4 := by
  intro pins s σ H vs us Q I r h
  obtain ⟨a, b, c, d, rfl, q⟩ := h
  cases r with
  | cons r1 r => cases r with
    | cons r2 r => cases r with
      | cons r3 r => cases r with
        | cons r4 r =>
          cases r
          obtain ⟨t1, rfl⟩ := r1
          obtain ⟨t2, rfl⟩ := r2
          obtain ⟨t3, rfl⟩ := r3
          obtain ⟨t4, rfl⟩ := r4
          exact min_four (I.ok.hd hc) fun h' tk m t hk h1 h2 => ⟨.int m, H, I.kept (t' := tk) hk, ⟨t, rfl⟩, q m h1 h2⟩
/-- max(t), min(t) of a tuple of ints -/
def rMaxT (K : PySem.W.Frag) : List V → Hp → VK → Prop := fun vs H Q => ∃ (a : Addr) (n : Int) (ns : List Int), vs = [.ref a] ∧ SqT K H a ((n :: ns).map V.int) ∧ ns.length ≤ 100 ∧ ∀ m : Int, m ∈ n :: ns → (∀ y ∈ n :: ns, y ≤ m) → Q (.int m) H
def rMinT (K : PySem.W.Frag) : List V → Hp → VK → Prop := fun vs H Q => ∃ (a : Addr) (n : Int) (ns : List Int), vs = [.ref a] ∧ SqT K H a ((n :: ns).map V.int) ∧ ns.length ≤ 100 ∧ ∀ m : Int, m ∈ n :: ns → (∀ y ∈ n :: ns, m ≤ y) → Q (.int m) H
theorem fold_max : ∀ (ns : List Int) (n : Int), ns.foldl max n ∈ n :: ns ∧ ∀ y ∈ n :: ns, y ≤ ns.foldl max n
  | [], n => ⟨List.mem_cons_self, fun y hy => by
      rcases List.mem_cons.mp hy with rfl | hy
      · exact Int.le_refl _
      · exact absurd hy List.not_mem_nil⟩
  | x :: ns, n => by
    obtain ⟨h1, h2⟩ := fold_max ns (max n x)
    have hm := h2 (max n x) List.mem_cons_self
    refine ⟨?_, fun y hy => ?_⟩
    · rcases List.mem_cons.mp h1 with h1 | h1
      · show ns.foldl max (max n x) ∈ n :: x :: ns
        rw [h1]
        by_cases h : n ≤ x
        · rw [Int.max_eq_right h]
          exact List.mem_cons_of_mem _ List.mem_cons_self
        · rw [Int.max_eq_left (by omega)]
          exact List.mem_cons_self
      · exact List.mem_cons_of_mem _ (List.mem_cons_of_mem _ h1)
    · show y ≤ ns.foldl max (max n x)
      rcases List.mem_cons.mp hy with rfl | hy
      · omega
      · rcases List.mem_cons.mp hy with rfl | hy
        · omega
        · exact h2 y (List.mem_cons_of_mem _ hy)
theorem fold_min : ∀ (ns : List Int) (n : Int), ns.foldl min n ∈ n :: ns ∧ ∀ y ∈ n :: ns, ns.foldl min n ≤ y
  | [], n => ⟨List.mem_cons_self, fun y hy => by
      rcases List.mem_cons.mp hy with rfl | hy
      · exact Int.le_refl _
      · exact absurd hy List.not_mem_nil⟩
  | x :: ns, n => by
    obtain ⟨h1, h2⟩ := fold_min ns (min n x)
    have hm := h2 (min n x) List.mem_cons_self
    refine ⟨?_, fun y hy => ?_⟩
    · rcases List.mem_cons.mp h1 with h1 | h1
      · show ns.foldl min (min n x) ∈ n :: x :: ns
        rw [h1]
        by_cases h : n ≤ x
        · rw [Int.min_eq_left h]
          exact List.mem_cons_self
        · rw [Int.min_eq_right (by omega)]
          exact List.mem_cons_of_mem _ List.mem_cons_self
      · exact List.mem_cons_of_mem _ (List.mem_cons_of_mem _ h1)
    · show ns.foldl min (min n x) ≤ y
      rcases List.mem_cons.mp hy with rfl | hy
      · omega
      · rcases List.mem_cons.mp hy with rfl | hy
        · omega
        · exact h2 y (List.mem_cons_of_mem _ hy)
theorem reads_ints {h : Heap} : ∀ {ns : List Int} {us : List Value}, Vals (ns.map V.int) us → ReadsAll h us (ns.map PyData.int) []
  | [], _, r => by
    cases r
    exact .nil
  | n :: ns, _, r => by
    cases r with
    | cons r1 r2 =>
      obtain ⟨t, rfl⟩ := r1
      exact .cons (as := []) (.int n t) (reads_ints r2)
theorem alike_ints (ns : List Int) : PySem.W.AlikeAll (ns.map PyData.int) := by
  refine ⟨fun x hx y hy => ?_, fun x hx => ?_⟩
  · obtain ⟨a, _, rfl⟩ := List.mem_map.mp hx
    obtain ⟨b, _, rfl⟩ := List.mem_map.mp hy
    simp [PySem.W.alike]
  · obtain ⟨a, _, rfl⟩ := List.mem_map.mp hx
    exact fun z => nomatch z
theorem cr_maxT {k : Nat} (hr : Room k X.A) : CallR X (.builtin "max") (rMaxT X.K) := by
  intro pins s σ H vs us Q I r h
  obtain ⟨a, n, ns, rfl, hs, hl, q⟩ := h
  rw [Vals.ref1 r]
  obtain ⟨its, rv, ht, _⟩ := I.tuple hs
  have un := hr.units
  have dp : PyData.depthAll ((n :: ns).map PyData.int) ≤ 0 := by
    generalize n :: ns = l
    induction l with
    | nil => exact Nat.le_refl _
    | cons x l ih =>
      show max 0 (PyData.depthAll (l.map PyData.int)) ≤ 0
      omega
  refine PySem.W.max_tuple_data (x := .int n) (xs := ns.map PyData.int) (as := []) hr.hd (let ⟨o, h1, h2, j, h3⟩ := ht; ⟨o, h1, h2, j, h3⟩) (reads_ints (ns := n :: ns) rv) (alike_ints (n :: ns)) (by
    have : PyData.depthAll (PyData.int n :: ns.map PyData.int) ≤ 0 := dp
    omega) fun i v h' tk bs hv rd hk => ?_
  rw [PySem.W.maxD_ints] at rd
  cases rd
  exact ⟨.int _, H, I.kept (t' := tk) hk, ⟨_, rfl⟩, q _ (fold_max ns n).1 (fold_max ns n).2⟩
theorem cr_minT {k : Nat} (hr : Room k X.A) : CallR X (.builtin "min") (rMinT X.K) := by
  intro pins s σ H vs us Q I r h
  obtain ⟨a, n, ns, rfl, hs, hl, q⟩ := h
  rw [Vals.ref1 r]
  obtain ⟨its, rv, ht, _⟩ := I.tuple hs
  have un := hr.units
  have dp : PyData.depthAll ((n :: ns).map PyData.int) ≤ 0 := by
    generalize n :: ns = l
    induction l with
    | nil => exact Nat.le_refl _
    | cons x l ih =>
      show max 0 (PyData.depthAll (l.map PyData.int)) ≤ 0
      omega
  refine PySem.W.min_tuple_data (x := .int n) (xs := ns.map PyData.int) (as := []) hr.hd (let ⟨o, h1, h2, j, h3⟩ := ht; ⟨o, h1, h2, j, h3⟩) (reads_ints (ns := n :: ns) rv) (alike_ints (n :: ns)) (by
    have : PyData.depthAll (PyData.int n :: ns.map PyData.int) ≤ 0 := dp
    omega) fun i v h' tk bs hv rd hk => ?_
  rw [PySem.W.minD_ints] at rd
  cases rd
  exact ⟨.int _, H, I.kept (t' := tk) hk, ⟨_, rfl⟩, q _ (fold_min ns n).1 (fold_min ns n).2⟩
/-- math.gcd of any ints that are met here -/
def rGcdN : List V → Hp → VK → Prop := fun vs H Q => (∃ a b : Int, vs = [.int a, .int b] ∧ Q (.int ((Nat.gcd a.natAbs b.natAbs : Nat) : Int)) H) ∨
  (∃ a b c : Int, vs = [.int a, .int b, .int c] ∧ Q (.int ((Nat.gcd (Nat.gcd a.natAbs b.natAbs) c.natAbs : Nat) : Int)) H) ∨
  ∃ a b c d : Int, vs = [.int a, .int b, .int c, .int d] ∧ Q (.int ((Nat.gcd (Nat.gcd (Nat.gcd a.natAbs b.natAbs) c.natAbs) d.natAbs : Nat) : Int)) H
theorem args_gcd3 (a b c : Value) : argsOk "math.gcd" ⟨[a, b, c], []⟩ := by
  unfold argsOk
  kernel_rfl
theorem args_gcd4 (a b c d : Value) : argsOk "math.gcd" ⟨[a, b, c, d], []⟩ := by
  unfold argsOk
  kernel_rfl
theorem run_gcd3 (a b c : Int) (t u x : Tok) : Gives (Builtin.«math.gcd» ⟨[.int a t, .int b u, .int c x], []⟩) (.int ((((Nat.gcd 0 a.natAbs).gcd b.natAbs).gcd c.natAbs : Nat) : Int)) :=
  .of_wp fun M A E s Q h => by
    obtain ⟨hp, g, d, tk, os⟩ := s
    wp_walk
    exact ⟨_, rfl, h⟩
theorem run_gcd4 (a b c d : Int) (t u x y : Tok) : Gives (Builtin.«math.gcd» ⟨[.int a t, .int b u, .int c x, .int d y], []⟩) (.int (((((Nat.gcd 0 a.natAbs).gcd b.natAbs).gcd c.natAbs).gcd d.natAbs : Nat) : Int)) :=
  .of_wp fun M A E s Q h => by
    obtain ⟨hp, g, d, tk, os⟩ := s
    wp_walk
    exact ⟨_, rfl, h⟩
theorem cr_gcdN : CallR X (.builtin "math.gcd") rGcdN := by
  intro pins s σ H vs us Q I r h
  rcases h with ⟨a, b, rfl, q⟩ | ⟨a, b, c, rfl, q⟩ | ⟨a, b, c, d, rfl, q⟩
  · obtain ⟨t, u, rfl⟩ := Vals.int2 r
    exact PySem.W.mg_gcd fun _ => ⟨.int _, H, I.tok _, ⟨_, rfl⟩, q⟩
  · cases r with
    | cons r1 r => cases r with
      | cons r2 r => cases r with
        | cons r3 r =>
          cases r
          obtain ⟨t1, rfl⟩ := r1
          obtain ⟨t2, rfl⟩ := r2
          obtain ⟨t3, rfl⟩ := r3
          have g := run_gcd3 a b c t1 t2 t3
          rw [Nat.gcd_zero_left] at g
          exact call_function_meets PySem.W.MGF.kind_gcd PySem.W.MGF.plain_gcd PySem.W.MGF.entry_gcd (args_gcd3 _ _ _) g.meets ⟨.int _, H, I.tok _, ⟨_, rfl⟩, q⟩
  · cases r with
    | cons r1 r => cases r with
      | cons r2 r => cases r with
        | cons r3 r => cases r with
          | cons r4 r =>
            cases r
            obtain ⟨t1, rfl⟩ := r1
            obtain ⟨t2, rfl⟩ := r2
            obtain ⟨t3, rfl⟩ := r3
            obtain ⟨t4, rfl⟩ := r4
            have g := run_gcd4 a b c d t1 t2 t3 t4
            rw [Nat.gcd_zero_left] at g
            exact call_function_meets PySem.W.MGF.kind_gcd PySem.W.MGF.plain_gcd PySem.W.MGF.entry_gcd (args_gcd4 _ _ _ _) g.meets ⟨.int _, H, I.tok _, ⟨_, rfl⟩, q⟩
/-- text * int -/
theorem rep_list (z : Array Nat) (n : Nat) : ((List.replicate n z).foldl (· ++ ·) #[]).toList = (List.replicate n z.toList).flatten := by
  have key : ∀ (n : Nat) (acc : Array Nat), ((List.replicate n z).foldl (· ++ ·) acc).toList = acc.toList ++ (List.replicate n z.toList).flatten := by
    intro n
    induction n with
    | zero => intro acc; simp
    | succ n ih =>
      intro acc
      rw [List.replicate_succ, List.foldl_cons, ih, List.replicate_succ, List.flatten_cons]
      simp
  rw [key]
  simp
def repT (z : Str) (n : Int) : Str := ⟨((List.replicate n.toNat z.cps.toList).flatten).toArray⟩
theorem repT_len (z : Str) (n : Int) : (repT z n).length = z.length * n.toNat := by
  show ((List.replicate n.toNat z.cps.toList).flatten).toArray.size = z.cps.size * n.toNat
  simp [List.length_flatten, Nat.mul_comm]
theorem op_mulS : OpR X (binaryOp .Mult) (fun x y H Q => ∃ (z : Str) (n : Int), x = .str z ∧ y = .int n ∧ z.length ≤ 10000 ∧ -1000 ≤ n ∧ n ≤ 1000 ∧ Q (.str (repT z n)) H) := by
  intro pins s σ H x y v u Q I rx ry h
  obtain ⟨z, n, rfl, rfl, hz, n0, n1, q⟩ := h
  obtain ⟨t, rfl⟩ := rx
  obtain ⟨t2, rfl⟩ := ry
  refine PySem.P.mul_str (by rw [decide_eq_false (by omega), decide_eq_false (by omega)]; rfl) (fun h1 _ => ?_) (fun h1 _ => ?_) ?_
  · have : (2 ^ 63 - 1 : Int) / n ≥ 10000 := by
      have e1 : (10000 : Int) * n ≤ 2 ^ 63 - 1 := by omega
      exact (Int.le_ediv_iff_mul_le (by omega)).mpr e1
    have hz' : ((z.length : Nat) : Int) ≤ 10000 := by omega
    omega
  · have : z.length * n.toNat ≤ 10000 * 1000 := Nat.mul_le_mul hz (by omega)
    unfold PySem.Builtin.Str.tooLong
    exact decide_eq_false (by have e : sizeLine = 16777216 := by decide
                              omega)
  · by_cases h1 : n < 1
    · rw [if_pos h1]
      have e : repT z n = Str.empty := by
        have : n.toNat = 0 := by omega
        unfold repT
        rw [this]
        rfl
      rw [e] at q
      exact ⟨by decide, ⟨.str _, H, I.tok _, ⟨_, rfl⟩, q⟩⟩
    · rw [if_neg h1]
      by_cases h2 : (n == 1 || z.length == 0) = true
      · rw [if_pos h2]
        have e : repT z n = z := by
          refine str_ext ?_
          show ((List.replicate n.toNat z.cps.toList).flatten).toArray.toList = z.cps.toList
          rw [List.toList_toArray]
          rcases Bool.or_eq_true_iff.mp h2 with h3 | h3
          · have : n = 1 := by simpa using h3
            rw [this]
            simp
          · have h4 : z.length = 0 := by simpa using h3
            have h5 : z.cps.toList = [] := by
              rw [← List.length_eq_zero_iff]
              exact h4
            rw [h5]
            simp
        rw [e] at q
        exact ⟨.str _, H, I, ⟨_, rfl⟩, q⟩
      · rw [if_neg h2]
        have e : (⟨(List.replicate n.toNat z.cps).foldl (· ++ ·) #[]⟩ : Str) = repT z n := by
          refine str_ext ?_
          show ((List.replicate n.toNat z.cps).foldl (· ++ ·) #[]).toList = ((List.replicate n.toNat z.cps.toList).flatten).toArray.toList
          rw [rep_list, List.toList_toArray]
        rw [e]
        refine ⟨?_, ⟨.str _, H, I.tok _, ⟨_, rfl⟩, q⟩⟩
        rw [repT_len]
        have : z.length * n.toNat ≤ 10000 * 1000 := Nat.mul_le_mul hz (by omega)
        have e : sizeLine = 16777216 := by decide
        omega
end
/-- a road again and again -/
def repR (w : List Bool) (n : Nat) : List Bool := (List.replicate n w).flatten
theorem rep_rd (w : List Bool) (n : Int) : repT (rd w) n = rd (repR w n.toNat) := by
  refine str_ext ?_
  show ((List.replicate n.toNat (rd w).cps.toList).flatten).toArray.toList = _
  rw [List.toList_toArray, rd_cps, rd_cps]
  unfold repR
  generalize n.toNat = k
  induction k with
  | zero => rfl
  | succ k ih => rw [List.replicate_succ, List.replicate_succ, List.flatten_cons, List.flatten_cons, List.map_append, ih]
theorem repR_len (w : List Bool) (n : Nat) : (repR w n).length = n * w.length := by
  unfold repR
  simp
/-- texts of roads, one behind the other -/
theorem join_rd (ls : List (List Bool)) : Txt.join ("" : Str) (ls.map rd) = rd ls.flatten := by
  refine str_ext ?_
  show (PySem.Builtin.Str.glued ("" : Str) (ls.map rd)).cps.toList = _
  unfold PySem.Builtin.Str.glued
  have key : ∀ (l : List (List Bool)) (acc : Array Nat), ((l.map rd).foldl (fun acc p => acc ++ ("" : Str).cps ++ p.cps) acc).toList = acc.toList ++ l.flatten.map sg := by
    intro l
    induction l with
    | nil => intro acc; simp
    | cons x l ih =>
      intro acc
      rw [List.map_cons, List.foldl_cons, ih]
      have e : (("" : Str)).cps = #[] := by decide +kernel
      rw [e]
      have e2 : (rd x).cps.toList = x.map sg := rd_cps x
      simp [e2]
  cases ls with
  | nil =>
    rw [rd_cps]
    decide +kernel
  | cons x l =>
    show (((x :: l).map rd).drop 1 |>.foldl (fun acc p => acc ++ ("" : Str).cps ++ p.cps) (rd x).cps).toList = _
    rw [List.map_cons, List.drop_succ_cons, List.drop_zero, key, rd_cps, rd_cps, List.flatten_cons, List.map_append]
theorem join_room {ls : List (List Bool)} (h : ls.flatten.length ≤ 1000000) : ((ls.map rd).map (·.length)).sum + (ls.map rd).length * ("" : Str).length ≤ 16777216 := by
  have e : (("" : Str)).length = 0 := by decide +kernel
  have e2 : ((ls.map rd).map (·.length)).sum = ls.flatten.length := by
    rw [List.length_flatten, List.map_map]
    congr 1
    exact List.map_congr_left fun w _ => rd_len w
  rw [e, e2]
  omega
end Lr

set_option exponentiation.threshold 5000
namespace Lr
open PySem PySem.Spec PyProof.Rows L2
theorem eqv_ints : ∀ l m : List Int, PyData.eqvAll (intsD l) (intsD m) = decide (l = m)
  | [], [] => rfl
  | [], y :: m => rfl
  | x :: l, [] => rfl
  | x :: l, y :: m => by
    show ((x == y) && PyData.eqvAll (intsD l) (intsD m)) = _
    rw [eqv_ints l m]
    by_cases h : x = y
    · subst h
      simp
    · simp [h]
theorem eqv_tup (l m : List Int) : PyData.eqv (tupD l) (tupD m) = decide (l = m) := eqv_ints l m
theorem lay_ints : ∀ l : List Int, PyData.canLayAll0 (intsD l) = true
  | [] => rfl
  | x :: l => lay_ints l
theorem depth0_ints : ∀ l : List Int, PyData.depthAll (intsD l) = 0
  | [] => rfl
  | x :: l => by
    show max 0 (PyData.depthAll (intsD l)) = 0
    rw [depth0_ints l]
    rfl
theorem shaped_tup (l : List Int) : SeqAt.shaped (tupD l) = true := by
  have e : PyData.depth (tupD l) ≤ 64 := by
    show PyData.depthAll (intsD l) + 1 ≤ 64
    rw [depth0_ints]
    decide
  show (PyData.canLayAll0 (intsD l) && decide (PyData.depth (tupD l) ≤ 64)) = true
  rw [lay_ints, decide_eq_true e]
  rfl
/-- the fraction of a road is the fraction of its rest, sent by what is ahead -/
theorem wa_app (u v : List Bool) : wa (u ++ v) = (mat u).a * wa v + (mat u).b * wb v ∧ wb (u ++ v) = (mat u).c * wa v + (mat u).d * wb v := by
  unfold wa wb
  rw [mat_app]
  unfold M4.mul
  simp only [Int.mul_add]
  omega
theorem wa_diff (u v : List Bool) : wa (u ++ v) * wb u - wa u * wb (u ++ v) = wa v - wb v := by
  obtain ⟨e1, e2⟩ := wa_app u v
  have d := mat_det u
  rw [e1, e2]
  have e3 : wb u = (mat u).c + (mat u).d := rfl
  have e4 : wa u = (mat u).a + (mat u).b := rfl
  rw [e3, e4]
  unfold M4.det at d
  generalize (mat u).a = a at *
  generalize (mat u).b = b at *
  generalize (mat u).c = c at *
  generalize (mat u).d = e at *
  generalize wa v = x at *
  generalize wb v = y at *
  have f1 : (a * x + b * y) * (c + e) - (a + b) * (c * x + e * y) = (a * e - b * c) * x - (a * e - b * c) * y := by
    simp only [Int.add_mul, Int.mul_add, Int.sub_mul, Int.mul_sub]
    have g1 : a * x * c = a * (c * x) := by rw [Int.mul_assoc, Int.mul_comm x c]
    have g2 : a * x * e = a * e * x := by rw [Int.mul_assoc, Int.mul_comm x e, Int.mul_assoc]
    have g3 : b * y * c = b * c * y := by rw [Int.mul_assoc, Int.mul_comm y c, Int.mul_assoc]
    have g4 : b * y * e = b * (e * y) := by rw [Int.mul_assoc, Int.mul_comm y e]
    have g5 : b * (c * x) = b * c * x := by rw [Int.mul_assoc]
    have g6 : a * (e * y) = a * e * y := by rw [Int.mul_assoc]
    rw [g1, g2, g3, g4, g5, g6]
    omega
  rw [f1, d]
  omega
theorem wa_cons (t : Bool) (v : List Bool) : wa (t :: v) = (if t then wa v + wb v else wa v) ∧ wb (t :: v) = (if t then wb v else wa v + wb v) := by
  cases t
  · exact up_L v
  · exact up_R v
/-- the sign of what is left -/
theorem rest_R {v : List Bool} : wa v > wb v ↔ ∃ r, v = true :: r := by
  match v with
  | [] => exact ⟨fun h => absurd h (by decide), fun ⟨r, z⟩ => nomatch z⟩
  | false :: r =>
    obtain ⟨h1, h2⟩ := up_L r
    obtain ⟨p1, p2⟩ := up_pos r
    exact ⟨fun h => by omega, fun ⟨r, z⟩ => by cases z⟩
  | true :: r =>
    obtain ⟨h1, h2⟩ := up_R r
    obtain ⟨p1, p2⟩ := up_pos r
    exact ⟨fun _ => ⟨r, rfl⟩, fun _ => by omega⟩
theorem rest_nil {v : List Bool} : wa v = wb v ↔ v = [] := by
  match v with
  | [] => exact ⟨fun _ => rfl, fun _ => rfl⟩
  | false :: r =>
    obtain ⟨h1, h2⟩ := up_L r
    obtain ⟨p1, p2⟩ := up_pos r
    exact ⟨fun h => by omega, fun z => nomatch z⟩
  | true :: r =>
    obtain ⟨h1, h2⟩ := up_R r
    obtain ⟨p1, p2⟩ := up_pos r
    exact ⟨fun h => by omega, fun z => nomatch z⟩
/-- unlike roads tell unlike fractions -/
theorem wa_inj : ∀ {u v : List Bool}, wa u = wa v → wb u = wb v → u = v
  | [], v, h1, h2 => by
    have : wa v = wb v := by rw [← h1, ← h2]; rfl
    exact (rest_nil.mp this).symm
  | a :: u, [], h1, h2 => by
    have : wa (a :: u) = wb (a :: u) := by rw [h1, h2]; rfl
    exact rest_nil.mp this
  | a :: u, b :: v, h1, h2 => by
    obtain ⟨p1, p2⟩ := up_pos u
    obtain ⟨q1, q2⟩ := up_pos v
    obtain ⟨e1, e2⟩ := wa_cons a u
    obtain ⟨f1, f2⟩ := wa_cons b v
    rw [e1, f1] at h1
    rw [e2, f2] at h2
    cases a <;> cases b <;> simp at h1 h2
    · rw [wa_inj h1 (by omega)]
    · omega
    · omega
    · rw [wa_inj (by omega) h2]
/-- how many turns R are ahead of what is left -/
theorem runs_R (v : List Bool) : ∃ r, v = List.replicate ((wa v - 1) / wb v).toNat true ++ r ∧ wa r = wa v - ((wa v - 1) / wb v) * wb v ∧ wb r = wb v := by
  induction v with
  | nil => exact ⟨[], rfl, rfl, rfl⟩
  | cons t v ih =>
    obtain ⟨p1, p2⟩ := up_pos v
    cases t with
    | false =>
      obtain ⟨h1, h2⟩ := up_L v
      have e : (wa (false :: v) - 1) / wb (false :: v) = 0 := by
        rw [h1, h2]
        exact Int.ediv_eq_zero_of_lt (by omega) (by omega)
      rw [e]
      exact ⟨false :: v, rfl, by omega, rfl⟩
    | true =>
      obtain ⟨h1, h2⟩ := up_R v
      obtain ⟨r, er, e1, e2⟩ := ih
      have e : (wa (true :: v) - 1) / wb (true :: v) = (wa v - 1) / wb v + 1 := by
        rw [h1, h2, show wa v + wb v - 1 = (wa v - 1) + 1 * wb v by omega, Int.add_mul_ediv_right _ _ (by omega)]
      have n : 0 ≤ (wa v - 1) / wb v := Int.ediv_nonneg (by omega) (by omega)
      have en : ((wa v - 1) / wb v + 1).toNat = ((wa v - 1) / wb v).toNat + 1 := by omega
      rw [e, en]
      refine ⟨r, ?_, ?_, by rw [e2, h2]⟩
      · rw [List.replicate_succ, List.cons_append, ← er]
      · rw [e1, h1, h2, Int.add_mul]
        omega
theorem runs_L (v : List Bool) : ∃ r, v = List.replicate ((wb v - 1) / wa v).toNat false ++ r ∧ wb r = wb v - ((wb v - 1) / wa v) * wa v ∧ wa r = wa v := by
  induction v with
  | nil => exact ⟨[], rfl, rfl, rfl⟩
  | cons t v ih =>
    obtain ⟨p1, p2⟩ := up_pos v
    cases t with
    | true =>
      obtain ⟨h1, h2⟩ := up_R v
      have e : (wb (true :: v) - 1) / wa (true :: v) = 0 := by
        rw [h1, h2]
        exact Int.ediv_eq_zero_of_lt (by omega) (by omega)
      rw [e]
      exact ⟨true :: v, rfl, by omega, rfl⟩
    | false =>
      obtain ⟨h1, h2⟩ := up_L v
      obtain ⟨r, er, e1, e2⟩ := ih
      have e : (wb (false :: v) - 1) / wa (false :: v) = (wb v - 1) / wa v + 1 := by
        rw [h1, h2, show wa v + wb v - 1 = (wb v - 1) + 1 * wa v by omega, Int.add_mul_ediv_right _ _ (by omega)]
      have n : 0 ≤ (wb v - 1) / wa v := Int.ediv_nonneg (by omega) (by omega)
      have en : ((wb v - 1) / wa v + 1).toNat = ((wb v - 1) / wa v).toNat + 1 := by omega
      rw [e, en]
      refine ⟨r, ?_, ?_, by rw [e2, h1]⟩
      · rw [List.replicate_succ, List.cons_append, ← er]
      · rw [e1, h1, h2, Int.add_mul]
        omega
/-- what has no common divisor -/
theorem road_gcd (w : List Bool) : Nat.gcd (wa w).natAbs (wb w).natAbs = 1 := by
  have key : ∀ d : Nat, d ∣ (wa w).natAbs → d ∣ (wb w).natAbs → d = 1 := by
    induction w with
    | nil => intro d h _; exact Nat.dvd_one.mp h
    | cons t v ih =>
      intro d h1 h2
      obtain ⟨p1, p2⟩ := up_pos v
      obtain ⟨e1, e2⟩ := wa_cons t v
      have g1 : (d : Int) ∣ wa (t :: v) := Int.ofNat_dvd_left.mpr h1
      have g2 : (d : Int) ∣ wb (t :: v) := Int.ofNat_dvd_left.mpr h2
      rw [e1] at g1
      rw [e2] at g2
      cases t
      · simp at g1 g2
        have g3 : (d : Int) ∣ wb v := (Int.dvd_add_right g1).mp g2
        exact ih d (Int.ofNat_dvd_left.mp g1) (Int.ofNat_dvd_left.mp g3)
      · simp at g1 g2
        have g3 : (d : Int) ∣ wa v := (Int.dvd_add_left g2).mp g1
        exact ih d (Int.ofNat_dvd_left.mp g3) (Int.ofNat_dvd_left.mp g2)
  exact key _ (Nat.gcd_dvd_left _ _) (Nat.gcd_dvd_right _ _)
end Lr

set_option exponentiation.threshold 5000
namespace Lr
open PySem PySem.Spec PyProof.Rows L2
/-! what may be a list or a tuple -/
def Sq (K : PySem.W.Frag) (H : Hp) (a : Addr) (xs : List V) : Prop := SqL K H a xs ∨ SqT K H a xs
theorem Sq.same {K : PySem.W.Frag} {H H' : Hp} {a : Addr} {xs : List V} (h : Sq K H a xs) (s : Same H H') : Sq K H' a xs := h.elim (fun z => .inl (s.seq z)) fun z => .inr (tup_same s z)
theorem seq_ix {K : PySem.W.Frag} {H : Hp} {a : Addr} {xs : List V} {i : Int} {v : V} {Q : VK} (h : Sq K H a xs) (e : atI xs i = some v) (q : Q v H) : rIx K (.ref a) (.int i) H Q :=
  h.elim (fun z => .inl ⟨a, xs, i, v, rfl, rfl, z, e, q⟩) fun z => .inr (.inl ⟨a, xs, i, v, rfl, rfl, z, e, q⟩)
/-- the walk over it -/
def IsWalk (K : PySem.W.Frag) (H : Hp) (a : Addr) (xs : List V) (J : It) : Prop := (SqL K H a xs ∧ J = Itl K a) ∨ (SqT K H a xs ∧ J = Itt K a)
def iSeq (K : PySem.W.Frag) (tl : TE) : TI := fun σ H R => tl σ H fun x H1 => ∃ a xs, x = .ref a ∧ Sq K H1 a xs ∧ ∀ J, IsWalk K H1 a xs J → R J H1
theorem pi_seq {X : Cx} {tg l : Expr} {tl : TE} (hl : PE X l tl) : PI X tg l (iSeq X.K tl) := by
  refine ⟨fun pins s σ H R I h => ?_⟩
  refine thn (hl.run pins s σ H _ I h) fun v s1 z => ?_
  obtain ⟨x, H1, I1, r1, a, xs, rfl, hs, q⟩ := z
  cases r1
  rcases hs with hs | hs
  · obtain ⟨its, rv, p, _⟩ := I1.list hs
    refine wpAny_pyIter_list p.isList ⟨s1.heap.objs.size, [s1.heap.objs.size], _, _, H1, rfl, I1.kept (t' := s1.toks) fun b o e => Heap.get?_push_of_some _ e, turn_list a _, ⟨_, Heap.get?_push_size _ rfl, rfl, rfl⟩, fun b hb => ?_, q _ (.inl ⟨hs, rfl⟩)⟩
    rw [List.mem_singleton.mp hb]
    exact I1.fpOk (Nat.le_refl _) (I1.hok.fresh (Nat.le_refl _))
  · obtain ⟨its, rv, p, _⟩ := I1.tuple hs
    refine wpAny_pyIter_tuple (show s1.heap.IsTuple a its.toArray from p) ⟨s1.heap.objs.size, [s1.heap.objs.size], _, _, H1, rfl, I1.kept (t' := s1.toks) fun b o e => Heap.get?_push_of_some _ e, turn_tuple a _, ⟨_, Heap.get?_push_size _ rfl, rfl, rfl⟩, fun b hb => ?_, q _ (.inr ⟨hs, rfl⟩)⟩
    rw [List.mem_singleton.mp hb]
    exact I1.fpOk (Nat.le_refl _) (I1.hok.fresh (Nat.le_refl _))
theorem IsWalk.walk {K : PySem.W.Frag} {H : Hp} {a : Addr} {xs : List V} {J : It} (h : IsWalk K H a xs J) : Walk J xs.length (fun H' => Same H H') (YAt xs) := by
  rcases h with ⟨h, rfl⟩ | ⟨h, rfl⟩
  · exact walk_list.mono (fun H' s => s.seq h) fun _ _ _ _ _ _ z => z
  · exact walk_tup.mono (fun H' s => tup_same s h) fun _ _ _ _ _ _ z => z
/-- the greatest common divisor of a list -/
def gl (l : List Int) : Nat := l.foldl (fun g x => Nat.gcd g x.natAbs) 0
theorem gl_snoc (l : List Int) (x : Int) : gl (l ++ [x]) = Nat.gcd (gl l) x.natAbs := by
  unfold gl
  rw [List.foldl_append]
  rfl
theorem gl_dvd (l : List Int) : ∀ x ∈ l, ((gl l : Nat) : Int) ∣ x := by
  induction l using snoc_ind with
  | h0 => exact fun x hx => absurd hx List.not_mem_nil
  | h1 l y ih =>
    intro x hx
    rw [gl_snoc]
    rcases List.mem_append.mp hx with hx | hx
    · exact Int.dvd_trans (Int.natCast_dvd_natCast.mpr (Nat.gcd_dvd_left _ _)) (ih x hx)
    · rw [List.mem_singleton.mp hx]
      exact Int.ofNat_dvd_left.mpr (Nat.gcd_dvd_right _ _)
theorem gl_of_dvd (l : List Int) (d : Nat) (h : ∀ x ∈ l, (d : Int) ∣ x) : d ∣ gl l := by
  induction l using snoc_ind with
  | h0 => exact Nat.dvd_zero d
  | h1 l y ih =>
    rw [gl_snoc]
    exact Nat.dvd_gcd (ih fun x hx => h x (List.mem_append_left _ hx)) (Int.ofNat_dvd_left.mp (h y (List.mem_append_right _ List.mem_cons_self)))
theorem gl_pos {l : List Int} {x : Int} (hx : x ∈ l) (h0 : x ≠ 0) : 0 < gl l := by
  refine Nat.pos_of_ne_zero fun z => ?_
  have := gl_dvd l x hx
  rw [z] at this
  exact h0 (Int.zero_dvd.mp this)
theorem gl_le {l : List Int} {x : Int} (hx : x ∈ l) (h0 : x ≠ 0) : gl l ≤ x.natAbs := Nat.le_of_dvd (Int.natAbs_pos.mpr h0) (Int.ofNat_dvd_left.mp (gl_dvd l x hx))
/-- divided by it -/
def lowl (l : List Int) : List Int := l.map fun x => x / (gl l : Int)
end Lr

set_option exponentiation.threshold 5000
namespace Lr
open PySem PySem.Spec PyProof.Rows L2
/-! bounds -/
def Bd (k : Nat) (x : Int) : Prop := x.natAbs < 2 ^ k
theorem Bd.up {j k : Nat} {x : Int} (h : Bd j x) (l : j ≤ k) : Bd k x := Nat.lt_of_lt_of_le h (Nat.pow_le_pow_right (by decide) l)
theorem Bd.mul {j k : Nat} {x y : Int} (h1 : Bd j x) (h2 : Bd k y) : Bd (j + k) (x * y) := wide_lt h1 h2
theorem Bd.add {k : Nat} {x y : Int} (h1 : Bd k x) (h2 : Bd k y) : Bd (k + 1) (x + y) := by
  unfold Bd at *
  rw [Nat.pow_succ]
  omega
theorem Bd.sub {k : Nat} {x y : Int} (h1 : Bd k x) (h2 : Bd k y) : Bd (k + 1) (x - y) := by
  unfold Bd at *
  rw [Nat.pow_succ]
  omega
theorem Bd.sml {k : Nat} {x : Int} (h : Bd k x) (l : k ≤ 1900 := by decide) : Sml x := Bd.up h l
theorem Bd.ml {j k : Nat} {x y : Int} (h1 : Bd j x) (h2 : Bd k y) (l1 : j ≤ 1900 := by decide) (l2 : k ≤ 1900 := by decide) : Cml x y := cml_s (h1.sml l1) (h2.sml l2)
theorem bd_le {k : Nat} {x : Int} (h0 : 0 ≤ x) (h : x < 2 ^ k) : Bd k x := by
  unfold Bd
  rw [nat_pow_cast] at h
  omega
theorem Bd.dv {k : Nat} {x y : Int} (h : Bd k x) (hy : 0 < y) : Bd k (x / y) := by
  unfold Bd at *
  have : (x / y).natAbs ≤ x.natAbs := by
    have h1 := Int.natAbs_ediv_le_natAbs x y
    exact h1
  omega
/-! maps -/
def M4.l (m : M4) : List Int := [m.a, m.b, m.c, m.d]
structure Mp (m : M4) : Prop where
  nn : Nn m
  dt : m.det ≠ 0
  gd : gl m.l = 1
def M4.low (m : M4) : M4 := ⟨m.a / (gl m.l : Int), m.b / (gl m.l : Int), m.c / (gl m.l : Int), m.d / (gl m.l : Int)⟩
theorem low_l (m : M4) : m.low.l = lowl m.l := rfl
theorem lowl_gl {l : List Int} (h : 0 < gl l) : gl (lowl l) = 1 := by
  have key : ∀ x ∈ lowl l, ((gl (lowl l) : Nat) : Int) ∣ x := gl_dvd _
  have d2 : gl (lowl l) * gl l ∣ gl l := by
    refine gl_of_dvd l _ fun x hx => ?_
    have h1 := key (x / (gl l : Int)) (List.mem_map.mpr ⟨x, hx, rfl⟩)
    have h2 := gl_dvd l x hx
    have e : x = x / (gl l : Int) * (gl l : Int) := (Int.ediv_mul_cancel h2).symm
    rw [e, Int.natCast_mul]
    exact Int.mul_dvd_mul h1 (Int.dvd_refl _)
  have le := Nat.le_of_dvd h d2
  have p : 0 < gl (lowl l) := by
    refine Nat.pos_of_ne_zero fun z => ?_
    rw [z, Nat.zero_mul] at d2
    have := Nat.eq_zero_of_zero_dvd d2
    omega
  have : gl (lowl l) * gl l ≤ 1 * gl l := by omega
  have := Nat.le_of_mul_le_mul_right this h
  omega
theorem det_pos_gl {m : M4} (h : m.det ≠ 0) : 0 < gl m.l := by
  refine Nat.pos_of_ne_zero fun z => h ?_
  have key : ∀ x ∈ m.l, x = 0 := fun x hx => by
    have := gl_dvd m.l x hx
    rw [z] at this
    exact Int.zero_dvd.mp this
  have ha : m.a = 0 := key _ (by simp [M4.l])
  have hb : m.b = 0 := key _ (by simp [M4.l])
  unfold M4.det
  rw [ha, hb]
  simp
theorem low_det {m : M4} (h : m.det ≠ 0) : m.det = (gl m.l : Int) * (gl m.l : Int) * m.low.det := by
  have g := fun x hx => gl_dvd m.l x hx
  have ea := Int.mul_ediv_cancel' (g m.a (by simp [M4.l]))
  have eb := Int.mul_ediv_cancel' (g m.b (by simp [M4.l]))
  have ec := Int.mul_ediv_cancel' (g m.c (by simp [M4.l]))
  have ed := Int.mul_ediv_cancel' (g m.d (by simp [M4.l]))
  unfold M4.det M4.low
  show m.a * m.d - m.b * m.c = _ * (m.a / (gl m.l : Int) * (m.d / (gl m.l : Int)) - m.b / (gl m.l : Int) * (m.c / (gl m.l : Int)))
  generalize (gl m.l : Int) = k at *
  generalize m.a / k = a at *
  generalize m.b / k = b at *
  generalize m.c / k = c at *
  generalize m.d / k = d at *
  rw [← ea, ← eb, ← ec, ← ed, Int.mul_sub]
  have e1 : k * a * (k * d) = k * k * (a * d) := by simp [Int.mul_comm, Int.mul_assoc, Int.mul_left_comm]
  have e2 : k * b * (k * c) = k * k * (b * c) := by simp [Int.mul_comm, Int.mul_assoc, Int.mul_left_comm]
  rw [e1, e2]
theorem low_nn {m : M4} (h : Nn m) : Nn m.low := ⟨Int.ediv_nonneg h.a (Int.natCast_nonneg _), Int.ediv_nonneg h.b (Int.natCast_nonneg _), Int.ediv_nonneg h.c (Int.natCast_nonneg _), Int.ediv_nonneg h.d (Int.natCast_nonneg _)⟩
theorem low_mp {m : M4} (h : Nn m) (hd : m.det ≠ 0) : Mp m.low := by
  refine ⟨low_nn h, fun z => hd ?_, ?_⟩
  · rw [low_det hd, z, Int.mul_zero]
  · rw [low_l]
    exact lowl_gl (det_pos_gl hd)
theorem low_det_le {m : M4} (hd : m.det ≠ 0) : m.low.det.natAbs ≤ m.det.natAbs := by
  have g := det_pos_gl hd
  have e := congrArg Int.natAbs (low_det hd)
  rw [Int.natAbs_mul, Int.natAbs_mul, Int.natAbs_natCast] at e
  rw [e]
  have : 1 ≤ gl m.l * gl m.l := Nat.mul_pos g g
  exact Nat.le_mul_of_pos_left _ this
theorem div_le {x : Int} {k : Nat} (h : 0 ≤ x) : x / (k : Int) ≤ x := by
  by_cases h0 : k = 0
  · rw [h0]
    simpa using h
  · exact Int.ediv_le_self _ h
/-- great integers bounded by n -/
structure Le (n : Int) (m : M4) : Prop where
  a : m.a ≤ n
  b : m.b ≤ n
  c : m.c ≤ n
  d : m.d ≤ n
theorem low_le {m : M4} {n : Int} (h : Nn m) (l : Le n m) : Le n m.low :=
  ⟨Int.le_trans (div_le h.a) l.a, Int.le_trans (div_le h.b) l.b, Int.le_trans (div_le h.c) l.c, Int.le_trans (div_le h.d) l.d⟩
theorem mul_nn {m n : M4} (h : Nn m) (k : Nn n) : Nn (m.mul n) :=
  ⟨Int.add_nonneg (Int.mul_nonneg h.a k.a) (Int.mul_nonneg h.b k.c), Int.add_nonneg (Int.mul_nonneg h.a k.b) (Int.mul_nonneg h.b k.d),
    Int.add_nonneg (Int.mul_nonneg h.c k.a) (Int.mul_nonneg h.d k.c), Int.add_nonneg (Int.mul_nonneg h.c k.b) (Int.mul_nonneg h.d k.d)⟩
/-- a map that is in lowest terms stays -/
theorem Mp.low {m : M4} (h : Mp m) : m.low = m := by
  unfold M4.low
  rw [h.gd]
  simp
end Lr

set_option exponentiation.threshold 5000
namespace Lr
open PySem PySem.Spec PyProof.Rows L2
/-! draws in a row, by a comprehension -/
def Cs (H2 : Hp) (a D : Addr) (m : Nat) (t : Int) (i : Nat) (H3 : Hp) : Prop :=
  ∃ xs : List Int, xs.length = i ∧ (∀ x ∈ xs, 0 ≤ x ∧ x < t) ∧ H3 D = some (.lst (xs.map V.int)) ∧ Pu H3 a (m + i) ∧ Kp a H2 H3
theorem cs_start {H2 : Hp} {a D : Addr} {m : Nat} {t : Int} (hD : H2 D = none) (hp : Pu H2 a m) : Cs H2 a D m t 0 (upd H2 D (.lst [])) :=
  ⟨[], rfl, fun x hx => absurd hx List.not_mem_nil, upd_same, hp.new hD, (Kp.refl a H2).new hD⟩
theorem Pu.upd {H : Hp} {a p : Addr} {o : HO} {n : Nat} (h : Pu H a n) (ne : a ≠ p) : Pu (L2.upd H p o) a n := by
  obtain ⟨p0, p1, p2, h1, h2⟩ := h
  exact ⟨p0, p1, p2, by rw [upd_ne ne]; exact h1, h2⟩
theorem Kp.upd' {a : Addr} {H H' : Hp} {p : Addr} {o : HO} (x : Kp a H H') (h : H p = none) : Kp a H (L2.upd H' p o) := fun b u n z => by
  rw [upd_ne (ne_of_none z h)]
  exact x b u n z
theorem cs_step {H2 H3 H4 : Hp} {a D : Addr} {m i : Nat} {t r : Int} (h : Cs H2 a D m t i H3) (hi : i ≤ 1000) (hD : H2 D = none) (hp : Pu H2 a m) (hp4 : Pu H4 a (m + i + 1)) (k : Kp a H3 H4) (r0 : 0 ≤ r) (r1 : r < t) :
    ∃ acc, H4 D = some (.lst acc) ∧ acc.length < sizeLine ∧ Cs H2 a D m t (i + 1) (upd H4 D (.lst (acc ++ [.int r]))) := by
  obtain ⟨xs, hl, hx, e, p3, k3⟩ := h
  have ne : D ≠ a := fun z => hp.ne hD z.symm
  refine ⟨xs.map V.int, k D _ ne e, ?_, xs ++ [r], by rw [List.length_append, hl]; rfl, ?_, ?_, hp4.upd ne.symm, (k3.trans k).upd' hD⟩
  · rw [List.length_map, hl]
    exact Nat.lt_of_le_of_lt hi (by decide)
  · intro x hx'
    rcases List.mem_append.mp hx' with z | z
    · exact hx x z
    · rw [List.mem_singleton.mp z]
      exact ⟨r0, r1⟩
  · rw [upd_same, List.map_append]
    rfl
theorem Cs.pu {H2 H3 : Hp} {a D : Addr} {m i : Nat} {t : Int} (h : Cs H2 a D m t i H3) : Pu H3 a (m + i) := by
  obtain ⟨xs, _, _, _, p, _⟩ := h
  exact p
theorem cs_four {H2 H3 : Hp} {a D : Addr} {m : Nat} {t : Int} (h : Cs H2 a D m t 4 H3) : ∃ q : M4, Nn q ∧ Le (t - 1) q ∧ H3 D = some (.lst (q.l.map V.int)) ∧ Pu H3 a (m + 4) ∧ Kp a H2 H3 := by
  obtain ⟨xs, hl, hx, e, p3, k3⟩ := h
  match xs, hl with
  | [x, y, z, w], _ =>
    have hx1 := hx x (by simp)
    have hx2 := hx y (by simp)
    have hx3 := hx z (by simp)
    have hx4 := hx w (by simp)
    exact ⟨⟨x, y, z, w⟩, ⟨hx1.1, hx2.1, hx3.1, hx4.1⟩, ⟨by show x ≤ _; omega, by show y ≤ _; omega, by show z ≤ _; omega, by show w ≤ _; omega⟩, e, p3, k3⟩
/-- a map of bounded integers, bounded by bits -/
theorem bd4 {m : M4} {n : Int} {k : Nat} (h : Nn m) (l : Le n m) (hn : n < 2 ^ k) : ∀ i ∈ m.l, Bd k i := by
  intro i hi
  have g : ∀ x, 0 ≤ x → x ≤ n → Bd k x := fun x x0 x1 => bd_le x0 (by omega)
  simp only [M4.l, List.mem_cons, List.not_mem_nil, or_false] at hi
  rcases hi with rfl | rfl | rfl | rfl
  · exact g _ h.a l.a
  · exact g _ h.b l.b
  · exact g _ h.c l.c
  · exact g _ h.d l.d
theorem bd_gl {l : List Int} {k : Nat} {x : Int} (hx : x ∈ l) (h0 : x ≠ 0) (h : Bd k x) : Bd k (gl l : Nat) := by
  unfold Bd at *
  have := gl_le hx h0
  rw [Int.natAbs_natCast]
  omega
theorem det_gl {m : M4} {k : Nat} (h : m.det ≠ 0) (hb : ∀ i ∈ m.l, Bd k i) : Bd k (gl m.l : Nat) := by
  have key : m.a ≠ 0 ∨ m.b ≠ 0 := by
    by_cases ha : m.a = 0
    · by_cases hb : m.b = 0
      · exfalso
        apply h
        unfold M4.det
        rw [ha, hb]
        simp
      · exact .inr hb
    · exact .inl ha
  rcases key with g | g
  · exact bd_gl (x := m.a) (by simp [M4.l]) g (hb _ (by simp [M4.l]))
  · exact bd_gl (x := m.b) (by simp [M4.l]) g (hb _ (by simp [M4.l]))
end Lr
namespace Lr
open PySem PySem.Spec PyProof.Rows L2
theorem bd_mat {w : List Bool} {k : Nat} (h : w.length ≤ k) : ∀ i ∈ (mat w).l, Bd (k + 1) i := by
  obtain ⟨h1, h2⟩ := mat_le w
  have h3 := pow_lt h
  have n := mat_nn w
  obtain ⟨a, b, c, d⟩ := n
  have e : (2 : Int) ^ (k + 1) = 2 ^ k * 2 := Int.pow_succ ..
  have p : (0 : Int) < 2 ^ k := Int.pow_pos (by decide)
  intro i hi
  have g : ∀ x, 0 ≤ x → x ≤ 2 ^ k → Bd (k + 1) x := fun x x0 x1 => bd_le x0 (by omega)
  simp only [M4.l, List.mem_cons, List.not_mem_nil, or_false] at hi
  rcases hi with rfl | rfl | rfl | rfl
  · exact g _ a (by omega)
  · exact g _ b (by omega)
  · exact g _ c (by omega)
  · exact g _ d (by omega)
end Lr
namespace Lr
open PySem PySem.Spec PyProof.Rows L2
/-- two ways of an expression that meet, behind the test -/
theorem meetE {c : Bool} {ta tb : TE} {σ : L2.St} {H : Hp} {Q : VK} (P : V → Hp → Prop) (h1 : c = true → ∀ R : VK, (∀ v H', P v H' → R v H') → ta σ H R)
    (h2 : c = false → ∀ R : VK, (∀ v H', P v H' → R v H') → tb σ H R) (q : ∀ v H', P v H' → Q v H') : if c = true then ta σ H Q else tb σ H Q := by
  cases c with
  | true => exact iteT (h1 rfl Q q)
  | false => exact iteF (h2 rfl Q q)
end Lr

namespace Lr
open PySem PySem.Spec PyProof.Rows L2
/-! errors: raised, caught and kept, asked for their class and value -/
/-- a caught error at a: of the class at C, its own dict at d -/
def ExV (C d a : Addr) : HO := .ext fun h => ∃ (oe : Obj) (vs : Array Value), h.get? a = some oe ∧ Zc (.ref C) (some d) oe ∧ oe.data = .fields vs
theorem exV_ok {P : Program} {w : World} {H : Hp} {h : Heap} {C d a : Addr} {oe : Obj} {vs : Array Value} (e : h.get? a = some oe) (z : Zc (.ref C) (some d) oe) (f : oe.data = .fields vs) : ObjOk P w H h a (ExV C d a) :=
  ⟨⟨oe, vs, e, z, f⟩, ⟨oe, e⟩, fun _ _ ⟨o, v, y, r⟩ k => ⟨o, v, k o y, r⟩⟩
theorem exV_at {P : Program} {w : World} {H : Hp} {h : Heap} {C d a : Addr} (hok : HOk P w H h) (e : H a = some (ExV C d a)) : ∃ (oe : Obj) (vs : Array Value), h.get? a = some oe ∧ Zc (.ref C) (some d) oe ∧ oe.data = .fields vs := by
  have x : ObjOk P w H h a (ExV C d a) := hok a _ e
  exact x.1
section
variable {X : Cx} {pins : List (Addr × Obj)} {σ : L2.St} {H : Hp} {s : Shared}
/-- an object that stands, is no frame's, and was not there at the entry, may be tracked as a caught error -/
theorem trackE {C d a : Addr} {oe : Obj} {vs : Array Value} (I : Inv X pins σ H s) (e : s.heap.get? a = some oe) (z : Zc (.ref C) (some d) oe) (f : oe.data = .fields vs) (na : H a = none) (n0 : X.s_0.heap.get? a = none)
    (nl : a ≠ X.env.locals) (np : ∀ p ∈ X.pn ++ pins, p.1 ≠ a) : Inv X pins σ (upd H a (ExV C d a)) s := by
  have nn : ∀ {b : Addr} {o : HO}, H b = some o → b ≠ a := fun {b o} q y => by
    rw [y, na] at q
    cases q
  refine ⟨I.ok, I.os, I.bare, ⟨I.base.keep, I.base.slot, fun b o y1 y2 y3 => ?_, I.base.there, fun b xs y => ?_, fun b o u y => ?_, fun b ps y => ?_⟩, I.loc, I.cell, ?_, fun x c y => ?_, fun p hp => ?_, fun b o y => ?_, I.len⟩
  · rw [upd_ne (fun y => by rw [y, n0] at y1; cases y1)]
    exact I.base.free b o y1 y2 y3
  · have q := I.base.tups b xs y
    rw [upd_ne (nn q)]
    exact q
  · have q := I.base.frzs b o u y
    rw [upd_ne (nn q)]
    exact q
  · obtain ⟨m, q⟩ := I.base.tbls b ps y
    exact ⟨m, by rw [upd_ne (nn q)]; exact q⟩
  · rw [upd_ne (Ne.symm nl)]
    exact I.free
  · have nc : c ≠ a := fun q => by
      obtain ⟨v, o, y1, y2⟩ := I.cell x c y
      rw [q, e] at y1
      cases y1
      rw [f] at y2
      cases y2
    rw [upd_ne nc]
    exact I.freeC x c y
  · obtain ⟨y1, y2, y3⟩ := I.pin p hp
    exact ⟨y1, by rw [upd_ne (np p hp)]; exact y2, y3⟩
  · by_cases q : b = a
    · subst q
      rw [upd_same] at y
      cases y
      exact exV_ok e z f
    · rw [upd_ne q] at y
      refine (I.hok b o y).stay (fun c u _ r => r) (fun c r => ?_) fun c xs r => ?_
      · rw [upd_ne (nn r)]
        exact r
      · rw [upd_ne (nn r)]
        exact r
end
/-- what 'except x as n: n is kept' wishes of an error of the body; slot i is n's -/
def wAsK (K : PySem.W.Frag) (c : Value) (i : Nat) (ts : Addr → Value → Option Addr → TS) (D : Ends) : WX := fun cls d σ H =>
  PySem.W.exmOne K cls c = some true ∧ ∃ C dd : Addr, cls = .ref C ∧ d = some dd ∧ ∀ a, H a = none →
    ts a cls d { nx := fun σ' H' => D.nx (σ'.set i none) (upd H' a (ExV C dd a)), rt := fun _ _ => False, bk := fun _ _ => False, ct := fun _ _ => False } (σ.set i (some (.ref a))) H
section
variable {X : Cx} {x n : Str} {c : Value} {i : Nat} {body suite : List Stmt} {b₀ : Stmt} {np pos pos' : Pos} {tb : WX → TS} {ts : Addr → Value → Option Addr → TS}
theorem ps_tryK (h1 : X.stack = X.env :: X.outer) (h2 : X.env.frame = some X.env.locals) (h3 : X.ex = []) (nd : X.N.Nodup) (hi : X.N[i]? = some n) (lo : X.env.kindOf n = some .local) (hc : Names X x c)
    (B1 : ∀ (W : WX) (pn : List (Addr × Obj)) (xe : Value → Shared → Prop), Takes (X.tr pn xe) W → PassesOwn (model X.prog X.w) X.A X.env xe → PSs (X.tr pn xe) body (tb W))
    (S1 : ∀ (a : Addr) (oe : Obj) (cls : Value) (d : Option Addr) (pn : List (Addr × Obj)), Zc cls d oe → (∃ vs, oe.data = .fields vs) → PSs (X.suite a ((a, oe) :: pn)) (b₀ :: suite) (ts a cls d)) :
    PS X (.Try body [.ExceptHandler (some (.Name x np)) (some n) (b₀ :: suite) pos'] [] [] pos) (fun D σ H => tb (wAsK X.K c i ts D) D σ H) := by
  constructor
  intro pins s σ H D I h
  have ok := I.ok
  have frames : X.A.frames = some (X.env :: X.outer) := by
    rw [ok.frames, h1]
  refine wpAny_Try_except ?_
  have T0 := B1 (wAsK X.K c i ts D) (X.pn ++ pins) (fun e s₁ => wpAny (model X.prog X.w) X.A (noteFrame e X.env)
    (fun _ s₂ => wpAny (model X.prog X.w) X.A (setFlight e none) (fun _ s₃ => wpAny (model X.prog X.w) X.A
      (handleBy e X.env [.ExceptHandler (some (.Name x np)) (some n) (b₀ :: suite) pos']) (SP X pins D) X.xe s₃) X.xe s₂) X.xe s₁)
    (fun u s' y => ?_) PassesOwn.looking
  · refine wpAny_mono (T0.run [] s σ H D (I.toTry _) h) (fun f s1 y => ?_) fun e s1 y => y
    cases f with
    | next =>
      obtain ⟨σ1, H1, J, q⟩ := y
      exact wpAny_execs_nil ⟨σ1, H1, J.ofTry ok, q⟩
    | brk =>
      obtain ⟨σ1, H1, J, q⟩ := y
      exact ⟨σ1, H1, J.ofTry ok, q⟩
    | cont =>
      obtain ⟨σ1, H1, J, q⟩ := y
      exact ⟨σ1, H1, J.ofTry ok, q⟩
    | ret u =>
      obtain ⟨v, σ1, H1, J, r, q⟩ := y
      exact ⟨v, σ1, H1, J.ofTry ok, r, q⟩
  · obtain ⟨a, B, sI, pins1, σ1, H1, cls, d, eu, J0, nb, up, sky, na, eos, bare, te, C, dd, ecl, ed, yes⟩ := y
    subst eu
    have J : Inv X pins σ1 H1 sI := J0.ofTry ok
    have sky1 : Sky B (X.env :: X.outer) a (Zc cls d) X.env.locals s'.heap := by
      rw [← h1]
      exact sky
    show wpAny (model X.prog X.w) X.A (noteFrame (.ref a) X.env) _ _ _
    refine Sky.land Zc.steady frames h2 sky1 fun h3' fl3 up3 => ?_
    have J3 : Inv X pins σ1 H1 { s' with heap := h3' } := J.landed nb fl3.1 (up.trans up3) eos bare
    obtain ⟨oe3, vs3, he3, hz3, hd3⟩ := fl3.there
    have nfr : a ∉ frs (X.env :: X.outer) := fun hm => by
      obtain ⟨_, o', e', hnf⟩ := fl3.2.2.1.mem hm
      rw [he3] at e'
      cases e'
      exact hnf _ hd3
    have nL : a ≠ X.env.locals := fun q => nfr (List.mem_filterMap.mpr ⟨X.env, List.mem_cons_self, by rw [h2, q]⟩)
    have nF : a ∉ X.fs := fun hm => by
      obtain ⟨e, he, q⟩ := List.mem_filterMap.mp hm
      exact nfr (List.mem_filterMap.mpr ⟨e, List.mem_cons_of_mem _ he, q⟩)
    -- it was not there ahead of the try
    have nI : sI.heap.get? a = none := by
      cases e : sI.heap.get? a with
      | none => rfl
      | some o =>
        have q := nb a o e (by rw [h1]; exact nfr)
        rw [fl3.2.1] at q
        cases q
    have n0 : X.s_0.heap.get? a = none := by
      cases e : X.s_0.heap.get? a with
      | none => rfl
      | some o =>
        obtain ⟨o', q⟩ := I.base.there a o e (by rw [h3]; exact List.not_mem_nil)
        obtain ⟨o2, q2⟩ := J.base.there a o e (by rw [h3]; exact List.not_mem_nil)
        rw [nI] at q2
        cases q2
    have npn : ∀ p ∈ X.pn ++ pins, p.1 ≠ a := fun p hp q => by
      have y := (J.pin p hp).1
      rw [q, nI] at y
      cases y
    have S3 := J3.suite he3 hd3 na nL nF
    refine wpAny_handleBy_cons (codeAny_handlers_test ?_) (by intro q; cases q)
    have LT : PySem.W.Looks (model X.prog X.w) h3' (typeOf (.ref a)) cls := fun A Q E s k q => wpAny_typeOf_ref (k _ _ he3) (by rw [hz3.1]; exact q)
    have LM := PySem.W.exm_one (M := model X.prog X.w) (J3.kIn) LT te
    have test : ∀ {Q : Value → Shared → Prop} {E : Value → Shared → Prop}, Q c { s' with heap := h3' } →
        wpAny (model X.prog X.w) (X.A.mark (some (.ref a))) (eval (.Name x np) X.env) Q E { s' with heap := h3' } := fun {Q E} q => by
      obtain ⟨hg, hdbg, hm | ⟨hm, hv, hnn⟩⟩ := hc
      · exact ld_glob (X := X.suite a ((a, oe3) :: (X.pn ++ pins))) S3 hg hm q hdbg
      · exact ld_blt (X := X.suite a ((a, oe3) :: (X.pn ++ pins))) S3 hg hm hv q hnn hdbg
    refine test (LM.here ?_)
    refine codeAny_handlers_suite_as ?_
    refine HandSPX.lands_againZ fl3 fun h4 fl4 up4 => ?_
    have J4 : Inv X pins σ1 H1 { s' with heap := h4 } := J.landed nb fl4.1 ((up.trans up3).trans up4) eos bare
    obtain ⟨oe4, vs4, he4, hz4, hd4⟩ := fl4.there
    have S4 := J4.suite he4 hd4 na nL nF
    refine store_ok (X := X.suite a ((a, oe4) :: (X.pn ++ pins))) (v := .ref a) S4 nd hi (.inl lo) rfl (fun s5 S5 => ?_) (.inr lo)
    refine wpAny_mono ((S1 a oe4 cls d (X.pn ++ pins) hz4 ⟨_, hd4⟩).run [] s5 _ H1 _ S5 (yes a na)) (fun f s6 y => ?_) (fun _ _ y => False.elim y)
    cases f with
    | next =>
      obtain ⟨σ6, H6, S6, q6⟩ := y
      obtain ⟨g6, n6, _⟩ := S6.pin (a, oe4) (List.mem_append_left _ List.mem_cons_self)
      have U6 := S6.unsuite ok
      have K6 : Inv X pins σ6 (upd H6 a (ExV C dd a)) s6 := trackE U6 g6 (by rw [← ecl, ← ed]; exact hz4) hd4 n6 n0 nL npn
      exact gone_ok K6 nd hi lo fun s7 J7 => ⟨_, _, J7, q6⟩
    | brk =>
      obtain ⟨_, _, _, q6⟩ := y
      exact q6.elim
    | cont =>
      obtain ⟨_, _, _, q6⟩ := y
      exact q6.elim
    | ret u =>
      obtain ⟨_, _, _, _, _, q6⟩ := y
      exact q6.elim
end
/-- what is asked of an error's class where it is looked at -/
structure ErrK (K : PySem.W.Frag) (C : Addr) : Prop where
  no : PySem.W.findIn K (.ref C) "value" = some none
  xf : XfC K C
  cl : (PySem.W.clsIn K C).isSome = true
  ha : PySem.W.findIn K (.ref C) "__class__" = some (some (.builtin "object.__class__"))
  hn : PySem.W.specialIn K (.builtin "object.__class__") "__get__" = some (some (.builtin "getset_descriptor.__get__"))
  ht : PySem.W.takesIn K (.builtin "object.__class__") = some true
  hm : PySem.W.mroIn K C (.type "object") = some true
/-- .. and where it is raised -/
structure ErrC (K : PySem.W.Frag) (mg : Str → Option Value) (x : Str) (C fI : Addr) : Prop extends ErrK K C where
  g : mg x = some (.ref C)
  ni : PySem.W.nsIn K mainGlobals x = some (some (.ref C))
  ox : OexC K C
  ic : PySem.W.findIn K (.ref C) "__init__" = some (some (.ref fI))
  ti : PySem.W.typeIn K (.ref fI) = some (.type "function")
/-- the class of rank r, as isinstance tells it from the others -/
structure Fx (K : PySem.W.Frag) (C : Addr) (r : Nat) : Prop where
  k : ErrK K C
  ve : PySem.W.kitOne K (.ref C) (.type "ValueError") = some true
  re : ∀ c, PySem.W.nsIn K mainGlobals "RoadError" = some (some (.ref c)) → PySem.W.kitOne K (.ref C) (.ref c) = some true
  y0 : ∀ c, PySem.W.nsIn K mainGlobals "InvalidRoad" = some (some (.ref c)) → PySem.W.kitOne K (.ref C) (.ref c) = some (decide (0 = r))
  y1 : ∀ c, PySem.W.nsIn K mainGlobals "InvalidFraction" = some (some (.ref c)) → PySem.W.kitOne K (.ref C) (.ref c) = some (decide (1 = r))
  y2 : ∀ c, PySem.W.nsIn K mainGlobals "InvalidMap" = some (some (.ref c)) → PySem.W.kitOne K (.ref C) (.ref c) = some (decide (2 = r))
  y3 : ∀ c, PySem.W.nsIn K mainGlobals "InvalidMachine" = some (some (.ref c)) → PySem.W.kitOne K (.ref C) (.ref c) = some (decide (3 = r))
  y4 : ∀ c, PySem.W.nsIn K mainGlobals "InvalidSquare" = some (some (.ref c)) → PySem.W.kitOne K (.ref C) (.ref c) = some (decide (4 = r))
  y5 : ∀ c, PySem.W.nsIn K mainGlobals "InvalidNumber" = some (some (.ref c)) → PySem.W.kitOne K (.ref C) (.ref c) = some (decide (5 = r))
  y6 : ∀ c, PySem.W.nsIn K mainGlobals "InvalidTurn" = some (some (.ref c)) → PySem.W.kitOne K (.ref C) (.ref c) = some (decide (6 = r))
  y7 : ∀ c, PySem.W.nsIn K mainGlobals "HasEnded" = some (some (.ref c)) → PySem.W.kitOne K (.ref C) (.ref c) = some (decide (7 = r))
  y8 : ∀ c, PySem.W.nsIn K mainGlobals "NothingToUndo" = some (some (.ref c)) → PySem.W.kitOne K (.ref C) (.ref c) = some (decide (8 = r))
  y9 : ∀ c, PySem.W.nsIn K mainGlobals "Unreadable" = some (some (.ref c)) → PySem.W.kitOne K (.ref C) (.ref c) = some (decide (9 = r))
  y10 : ∀ c, PySem.W.nsIn K mainGlobals "InvalidBook" = some (some (.ref c)) → PySem.W.kitOne K (.ref C) (.ref c) = some (decide (10 = r))
theorem ns_one {K : PySem.W.Frag} {x : Str} {c d : Addr} (h : PySem.W.nsIn K mainGlobals x = some (some (.ref c))) (h' : PySem.W.nsIn K mainGlobals x = some (some (.ref d))) : d = c := by
  rw [h] at h'
  cases h'
  rfl
/-- isinstance(e, c), e an error that was kept -/
def rIsK (K : PySem.W.Frag) : List V → Hp → VK → Prop := fun xs H Q => ∃ (a C d : Addr) (fs : List (Str × V)) (c : V) (u : Value) (b : Bool), xs = [.ref a, c] ∧ H a = some (ExV C d a) ∧ H d = some (.xd fs) ∧ ErrK K C ∧ ClsV c u ∧
  PySem.W.kitOne K (.ref C) u = some b ∧ Q (.bl b) H
section
variable {X : Cx}
theorem inst_of {pins : List (Addr × Obj)} {σ : L2.St} {H : Hp} {s : Shared} {a C d : Addr} {fs : List (Str × V)} (I : Inv X pins σ H s) (e : H a = some (ExV C d a)) (ed : H d = some (.xd fs)) :
    ∃ (oe od : Obj) (mA : Str → Option Value), PySem.W.InstAt s.heap a oe C (some od) ∧ (∀ n, PySem.W.lookIn n od = some (mA n)) ∧ ∀ f, RelO (fs.lookup f) (mA f) := by
  obtain ⟨oe, vs, h0, hz, hd⟩ := exV_at I.hok e
  have hx : ObjOk X.prog X.w H s.heap d (.xd fs) := I.hok d _ ed
  obtain ⟨mA, hns, hr⟩ := hx
  obtain ⟨od, ho, hl⟩ := lookIn_ns hns
  exact ⟨oe, od, mA, ⟨h0, hz.1, by unfold PySem.W.notCls; rw [hd] <;> rfl, by rw [hz.2]; exact ho⟩, hl, hr⟩
theorem call_isK : CallR X (.builtin "isinstance") (rIsK X.K) := by
  intro pins s σ H xs us Q I r h
  obtain ⟨a, C, d, fs, c, u, b, rfl, e, ed, T, k, ek, q⟩ := h
  obtain ⟨u1, u2, rfl, r1, r2⟩ := vals2 r
  have e2 := k.eq r2
  subst e2
  obtain rfl : u1 = Value.ref a := r1
  obtain ⟨oe, od, mA, J, _, _⟩ := inst_of I e ed
  exact PySem.W.kia_one (PySem.W.kitx_exc T.cl T.xf.ga T.xf.gg T.xf.exC T.ha T.hn T.ht T.hm) I.kIn J ek (fun z => nomatch z) fun tk => ⟨.bl b, H, I.tok tk, rfl, q⟩
/-- e.n, e an error that was kept -/
def tXv (K : PySem.W.Frag) (n : Str) (te : TE) : TE := fun σ H Q => te σ H fun x H1 => ∃ (a C d : Addr) (fs : List (Str × V)) (v : V), x = .ref a ∧ H1 a = some (ExV C d a) ∧ H1 d = some (.xd fs) ∧ fs.lookup n = some v ∧ XfC K C ∧ PySem.W.findIn K (.ref C) n = some none ∧ Q v H1
theorem pe_xv {e : Expr} {te : TE} {pos : Pos} {n : Str} (he : PE X e te) (hb : attributeBase e n X.env (eval e X.env) = eval e X.env := by rfl) : PE X (.Attribute e n pos) (tXv X.K n te) := by
  refine ⟨fun pins s σ H Q I h => ?_⟩
  refine attr_of hb (thn (he.run pins s σ H _ I h) fun u s1 hh => ?_)
  obtain ⟨x, H1, I1, rx, a, C, d, fs, v, ex, e1, ed, l, T, hno, q⟩ := hh
  subst ex
  obtain rfl : u = Value.ref a := rx
  obtain ⟨oe, od, mA, J, hl, hr⟩ := inst_of I1 e1 ed
  obtain ⟨u, hu, ru⟩ := RelO.some_of (v := v) (o := mA n) (by rw [← l]; exact hr n)
  exact HandSPX.exc_get I1.kIn J T.ga T.gg T.exC (PySem.W.findObj_own T.hdC hno rfl (by rw [hl, hu])) (handed_of ru) ⟨v, H1, I1.tok _, ru, q⟩
/-- what the __init__ of the errors does -/
def spInit (K : PySem.W.Frag) : Sp := fun vs H Q _ => ∃ (a C : Addr) (v : V), vs = [.ref a, v] ∧ OexC K C ∧ PySem.W.findIn K (.ref C) "value" = some none ∧ H a = some (exo a C none) ∧
  ∀ dx, H dx = none → dx ≠ a → Q .non (upd (upd H dx (exd dx [(("value" : Str), v)])) a (exo a C (some dx)))
/-- C(e), of the class at C -/
def tMkV (C : Addr) (ta : TA) : L2.St → Hp → XK → Prop := fun σ H Q => ta σ H fun vs H1 => ∃ v, vs = [v] ∧ ∀ d, H1 d = none → Q (.ref C) (some d) (upd H1 d (.xd [(("value" : Str), v)]))
theorem upd_back {H : Hp} {a d : Addr} {o1 o2 o3 o4 : HO} (na : H a = none) (ne : d ≠ a) : upd (del (upd (upd (upd H a o1) d o2) a o3) a) d o4 = upd H d o4 := by
  funext b
  by_cases hd : b = d
  · rw [hd, upd_same, upd_same]
  · rw [upd_ne hd, upd_ne hd]
    by_cases hb : b = a
    · rw [hb, del_same, na]
    · rw [del_ne hb, upd_ne hb, upd_ne hd, upd_ne hb]
theorem upd_none {H : Hp} {a d : Addr} {o : HO} (h : upd H a o d = none) (ne : d ≠ a) : H d = none := by
  rw [upd_ne ne] at h
  exact h
theorem pmk_V {x : Str} {C fI : Addr} {k : Nat} {fd : FuncData} {e : Expr} {ta : TA} {p pos : Pos} (T : ErrC X.K X.mg x C fI) (F1 : FnOk X.prog X.w X.K X.mg X.base CX0 k fI fd ["self", "value"] (spInit X.K))
    (hr : Room (k + 1) X.A) (hb : Binds X.K fd ["self", "value"] []) (hg : Gl X x) (ha : PA X [e] ta)
    (hdb : (x == ("__debug__" : Str)) = false := by decide) (he : starEach (e :: []) X.env = (false, eval e X.env) :: starEach [] X.env := by rfl) (hpl : (backTo pos (starEach [] X.env)).any (·.1) = false := by rfl) :
    PMk X (.Call (.Name x p) [e] [] pos) (tMkV C ta) := by
  intro pins s σ H Q I h
  have ha' : PA X [e] (fun σ H Q' => ∃ Q0 : List V → Hp → Prop, ta σ H Q0 ∧ ∀ vs H1, Q0 vs H1 → Q' vs H1) := ⟨fun pos pins s σ H Q' I h => by
    obtain ⟨Q0, h0, imp⟩ := h
    refine thn (ha.run pos pins s σ H Q0 I h0) fun us s1 z => ?_
    obtain ⟨vs, H1, I1, r1, q⟩ := z
    exact ⟨vs, H1, I1, r1, imp _ _ q⟩⟩
  refine pmk_oex T.ox T.ic T.ti F1 hr hb .nil pass0 hg T.g ha' hdb he hpl pins s σ H Q I ⟨_, h, fun vs H1 z => ?_⟩
  obtain ⟨v, rfl, q⟩ := z
  refine ⟨by show 1 ≤ 1000; decide, fun a na => ⟨a, C, v, rfl, T.ox, T.no, upd_same, fun dx nx ne => ?_⟩⟩
  refine ⟨rfl, dx, _, upd_same, by rw [upd_ne ne]; exact upd_same, upd_none nx ne, ?_⟩
  rw [upd_back na ne]
  exact q dx (upd_none nx ne)
end
/-- four values of a list that is being made -/
def Fs (H2 : Hp) (D : Addr) (g : Nat → Int) (i : Nat) (H3 : Hp) : Prop := Same H2 H3 ∧ H3 D = some (.lst (((List.range i).map g).map V.int))
theorem fs_step {H2 H3 : Hp} {D : Addr} {g : Nat → Int} {i : Nat} {v : V} (h : Fs H2 D g i H3) (hD : H2 D = none) (e : v = .int (g i)) (hi : i < 1000) :
    ∃ acc, H3 D = some (.lst acc) ∧ acc.length < sizeLine ∧ Fs H2 D g (i + 1) (L2.upd H3 D (.lst (acc ++ [v]))) := by
  refine ⟨_, h.2, ?_, ?_, ?_⟩
  · rw [List.length_map, List.length_map, List.length_range]
    exact Nat.lt_trans hi (by decide)
  · exact fun b o z => by rw [upd_ne (ne_of_none z hD)]; exact h.1 b o z
  · rw [upd_same, e, List.range_succ, List.map_append, List.map_append]
    rfl
/-! lists of bools -/
def bsD (l : List Bool) : List PyData := l.map PyData.bool
theorem dp_bs {K : PySem.W.Frag} {H : Hp} : ∀ l : List Bool, DpAll K H (l.map V.bl) (bsD l)
  | [] => .nil
  | b :: l => .cons (.bl b) (dp_bs l)
theorem bs_eqv : ∀ l : List Bool, PyData.eqvAll (bsD l) (bsD l) = true
  | [] => rfl
  | b :: l => by
    show ((b == b) && PyData.eqvAll (bsD l) (bsD l)) = true
    rw [bs_eqv l, beq_self_eq_true]
    rfl
/-! classes as isinstance and except ask them -/
section
variable {K : PySem.W.Frag} {c y : Addr}
theorem kit_self (K : PySem.W.Frag) (c : Addr) : PySem.W.kitOne K (.ref c) (.ref c) = some true := if_pos (beq_self_eq_true _)
theorem kitC {b : Bool} (i : PySem.W.isClsIn K y = true) (t : PySem.W.typeIn K (.ref y) = some (.type "type")) (s : PySem.W.subIn K (.ref c) (.ref y) = some b) : PySem.W.kitCls K (.ref c) (.ref y) = some b := by
  have i' : (PySem.W.clsIn K y).isSome = true := i
  show (if ((PySem.W.clsIn K y).isSome && PySem.W.typeIn K (.ref y) == some (.type "type")) = true then PySem.W.subIn K (.ref c) (.ref y) else none) = some b
  rw [i', t, if_pos (by rfl)]
  exact s
theorem kit_yes (i : PySem.W.isClsIn K y = true) (t : PySem.W.typeIn K (.ref y) = some (.type "type")) (s : PySem.W.subIn K (.ref c) (.ref y) = some true) : PySem.W.kitOne K (.ref c) (.ref y) = some true := by
  unfold PySem.W.kitOne
  rw [kitC i t s]
  exact ite_self _
theorem kit_not (i : PySem.W.isClsIn K y = true) (t : PySem.W.typeIn K (.ref y) = some (.type "type")) (s : PySem.W.subIn K (.ref c) (.ref y) = some false) (o : PySem.W.subIn K (.ref c) (.ref c) = some true) : PySem.W.kitOne K (.ref c) (.ref y) = some false := by
  unfold PySem.W.kitOne
  rw [kitC i t s, if_neg]
  intro z
  have e : Value.ref c = Value.ref y := beq_iff_eq.mp z
  rw [← e, o] at s
  cases s
theorem kit_typ {T : String} (s : PySem.W.subIn K (.ref c) (.type T) = some true) (m : PySem.W.kitMeta T = true) : PySem.W.kitOne K (.ref c) (.type T) = some true := by
  unfold PySem.W.kitOne
  have z : PySem.W.kitCls K (.ref c) (.type T) = some true := by
    show (if PySem.W.kitMeta T = true then PySem.W.subIn K (.ref c) (.type T) else none) = some true
    rw [if_pos m]
    exact s
  rw [z]
  exact ite_self _
theorem exm_yes (b : PySem.W.subIn K (.ref y) (.type "BaseException") = some true) (i : PySem.W.isClsIn K y = true) (t : PySem.W.typeIn K (.ref y) = some (.type "type")) (s : PySem.W.subIn K (.ref c) (.ref y) = some true) : PySem.W.exmOne K (.ref c) (.ref y) = some true := by
  unfold PySem.W.exmOne
  rw [b, if_pos (by rfl)]
  exact kitC i t s
end
section
variable {X : Cx} {CX : CXT} {k : Nat} {f : Addr} {fd : FuncData} {ps ks : List Str} {sp : Sp} {E : L2.St → XK} {x : Str} {p pos : Pos} {kws : List Keyword} {tk : TA} {g : List Value → List Value → List Value} {gV : List V → List V → List V}
theorem go_names {pins : List (Addr × Obj)} {σ : L2.St} {H : Hp} {s : Shared} {Q : VK} {ws : List Value} {zs : List V} (F : FnOk X.prog X.w X.K X.mg X.base CX k f fd ps sp) (hr : Room k X.A) (hb : KBinds X.K fd ps ks g gV) (hx : PassesAt CX X σ (E σ))
    (I : Inv X pins σ H s) (rz : Vals zs ws) (h : sp (gV [] zs) H Q (E σ)) : wpAny (model X.prog X.w) X.A (call (.ref f) [] (ks.zip ws)) (EP X pins σ Q) X.xe s := by
  have r2 := hb.rel (vs := []) (us := []) .nil rz
  have ln : (g [] ws).length = ps.length := by
    rw [← r2.length]
    exact F.len _ _ _ _ h
  have run := F.run X.A X.stack s H ⟨[], ks.zip ws⟩ (g [] ws) (gV [] zs) Q (E σ) hr I.env0 (hb.to s [] ws I.kIn ln) r2 h
  refine wpAny_call (codeAny_mono run fun rs s' y => ?_)
  match rs, y with
  | .error er, y => exact hx pins H s er s' I y
  | .ok (.ret u), y => exact I.after y
/-- a call by names alone, in a try -/
theorem pe_callK0S (F : FnOk X.prog X.w X.K X.mg X.base CX k f fd ps sp) (hr : Room k X.A) (hg : Gl X x) (hm : X.mg x = some (.ref f)) (hk : PySem.W.keepIn X.K (.ref f) = true) (hb : KBinds X.K fd ps ks g gV) (hx : ∀ σ, PassesAt CX X σ (E σ)) (hkw : PK X kws tk)
    (hall : (backToKw pos (keywordEach kws X.env)).all (·.1.isSome) = true := by rfl) (hks : (backToKw pos (keywordEach kws X.env)).filterMap (·.1) = ks := by rfl) (hdb : (x == ("__debug__" : Str)) = false := by decide)
    (hpl : ((backTo pos (starEach [] X.env)).any (·.1) || (backToKw pos (keywordEach kws X.env)).any (·.1.isNone)) = false := by rfl) :
    PE X (.Call (.Name x p) [] kws pos) (fun σ H Q => tCallK sp gV (E σ) tNil tk σ H Q) := by
  refine ⟨fun pins s σ H Q I h => ?_⟩
  refine wpAny_Call_Name_kw (ld_glob I hg hm ?_ hdb)
  refine PySem.W.callWith_KW0 (h₀ := X.base) I.ok.mod.kin hk hall (thn (hkw.run pos pins s σ H _ I h) fun ws s2 z => ?_) hpl
  obtain ⟨zs, H2, I2, rz, q2⟩ := z
  refine ⟨I2.kIn, ?_⟩
  rw [hks]
  exact go_names F hr hb (hx σ) I2 rz q2
end
end Lr

set_option exponentiation.threshold 5000
namespace Lr
open PySem PySem.Spec PyProof.Rows L2
theorem gl2 (x y : Int) : gl [x, y] = Nat.gcd x.natAbs y.natAbs := by
  show Nat.gcd (Nat.gcd 0 x.natAbs) y.natAbs = _
  rw [Nat.gcd_zero_left]
/-- what is a multiple of a pair without a common divisor -/
theorem scale_low {g e P R X Y : Int} (hg : 0 < g) (he : 0 < e) (eP : g * P = e * X) (eR : g * R = e * Y) (xy : Nat.gcd X.natAbs Y.natAbs = 1) : lowl [P, R] = [X, Y] := by
  have k1 : g.natAbs * gl [P, R] = e.natAbs := by
    rw [gl2, ← Nat.gcd_mul_left, ← Int.natAbs_mul, ← Int.natAbs_mul, eP, eR, Int.natAbs_mul, Int.natAbs_mul, Nat.gcd_mul_left, xy, Nat.mul_one]
  have k2 : g * (gl [P, R] : Int) = e := by
    have := congrArg (Nat.cast (R := Int)) k1
    rw [Int.natCast_mul, Int.natAbs_of_nonneg (by omega), Int.natAbs_of_nonneg (by omega)] at this
    exact this
  have kp : (gl [P, R] : Int) ≠ 0 := by
    intro z
    rw [z] at k2
    omega
  have e1 : P = (gl [P, R] : Int) * X := Int.eq_of_mul_eq_mul_left (show g ≠ 0 by omega) (by rw [eP, ← Int.mul_assoc, k2])
  have e2 : R = (gl [P, R] : Int) * Y := Int.eq_of_mul_eq_mul_left (show g ≠ 0 by omega) (by rw [eR, ← Int.mul_assoc, k2])
  have f1 : P / (gl [P, R] : Int) = X := by
    conv => lhs; lhs; rw [e1]
    exact Int.mul_ediv_cancel_left _ kp
  have f2 : R / (gl [P, R] : Int) = Y := by
    conv => lhs; lhs; rw [e2]
    exact Int.mul_ediv_cancel_left _ kp
  show [P / (gl [P, R] : Int), R / (gl [P, R] : Int)] = [X, Y]
  rw [f1, f2]
/-- the two integers of what is sent back -/
def bU (m : M4) (x y : Int) : Int := m.d * x - m.b * y
def bV (m : M4) (x y : Int) : Int := m.a * y - m.c * x
theorem back_a (m : M4) (x y : Int) : m.a * bU m x y + m.b * bV m x y = m.det * x := by
  unfold bU bV M4.det
  rw [Int.mul_sub, Int.mul_sub, Int.sub_mul]
  have e1 : m.a * (m.d * x) = m.a * m.d * x := by rw [Int.mul_assoc]
  have e2 : m.a * (m.b * y) = m.b * (m.a * y) := by rw [Int.mul_left_comm]
  have e3 : m.b * (m.c * x) = m.b * m.c * x := by rw [Int.mul_assoc]
  omega
theorem back_c (m : M4) (x y : Int) : m.c * bU m x y + m.d * bV m x y = m.det * y := by
  unfold bU bV M4.det
  rw [Int.mul_sub, Int.mul_sub, Int.sub_mul]
  have e1 : m.c * (m.d * x) = m.d * (m.c * x) := by rw [Int.mul_left_comm]
  have e2 : m.c * (m.b * y) = m.b * m.c * y := by rw [Int.mul_left_comm, Int.mul_assoc]
  have e3 : m.d * (m.a * y) = m.a * m.d * y := by rw [Int.mul_left_comm, Int.mul_assoc]
  omega
theorem mul_sign {u v : Int} (h : 0 < u * v) : (0 < u ∧ 0 < v) ∨ (u < 0 ∧ v < 0) := by
  rcases Int.lt_trichotomy u 0 with hu | hu | hu
  · rcases Int.lt_trichotomy v 0 with hv | hv | hv
    · exact .inr ⟨hu, hv⟩
    · rw [hv] at h
      simp at h
    · have := Int.mul_neg_of_neg_of_pos hu hv
      omega
  · rw [hu] at h
    simp at h
  · rcases Int.lt_trichotomy v 0 with hv | hv | hv
    · have := Int.mul_neg_of_pos_of_neg hu hv
      omega
    · rw [hv] at h
      simp at h
    · exact .inl ⟨hu, hv⟩
/-- the signs of both, by the size -/
theorem back_sign {m : M4} (n : Nn m) {x y : Int} (hx : 1 ≤ x) (h : 0 < bU m x y * bV m x y) : (0 < m.det → 0 < bU m x y ∧ 0 < bV m x y) ∧ (m.det < 0 → bU m x y < 0 ∧ bV m x y < 0) := by
  have e := back_a m x y
  constructor
  · intro d
    rcases mul_sign h with g | g
    · exact g
    · exfalso
      have h1 := Int.mul_nonneg n.a (show 0 ≤ -bU m x y by omega)
      have h2 := Int.mul_nonneg n.b (show 0 ≤ -bV m x y by omega)
      rw [Int.mul_neg] at h1 h2
      have h3 := Int.mul_pos d (show 0 < x by omega)
      omega
  · intro d
    rcases mul_sign h with g | g
    · exfalso
      have h1 := Int.mul_nonneg n.a (show 0 ≤ bU m x y by omega)
      have h2 := Int.mul_nonneg n.b (show 0 ≤ bV m x y by omega)
      have h3 := Int.mul_neg_of_neg_of_pos d (show 0 < x by omega)
      omega
    · exact g
theorem nat_bU {m : M4} (n : Nn m) (hd : m.det ≠ 0) {x y : Int} (hx : 1 ≤ x) (h : 0 < bU m x y * bV m x y) :
    m.a * ((bU m x y).natAbs : Int) + m.b * ((bV m x y).natAbs : Int) = (m.det.natAbs : Int) * x ∧ m.c * ((bU m x y).natAbs : Int) + m.d * ((bV m x y).natAbs : Int) = (m.det.natAbs : Int) * y := by
  obtain ⟨s1, s2⟩ := back_sign n hx h
  have ea := back_a m x y
  have ec := back_c m x y
  rcases Int.lt_trichotomy m.det 0 with d | d | d
  · obtain ⟨u, v⟩ := s2 d
    rw [show ((bU m x y).natAbs : Int) = -bU m x y by omega, show ((bV m x y).natAbs : Int) = -bV m x y by omega, show (m.det.natAbs : Int) = -m.det by omega]
    simp only [Int.mul_neg, Int.neg_mul]
    omega
  · exact absurd d hd
  · obtain ⟨u, v⟩ := s1 d
    rw [show ((bU m x y).natAbs : Int) = bU m x y by omega, show ((bV m x y).natAbs : Int) = bV m x y by omega, show (m.det.natAbs : Int) = m.det by omega]
    exact ⟨ea, ec⟩
/-- what is sent back is sent there -/
theorem back_low {m : M4} (n : Nn m) (hd : m.det ≠ 0) {x y : Int} (hx : 1 ≤ x) (hy : 1 ≤ y) (xy : Nat.gcd x.natAbs y.natAbs = 1) (h : 0 < bU m x y * bV m x y) :
    ∃ u v : Int, lowl [((bU m x y).natAbs : Int), ((bV m x y).natAbs : Int)] = [u, v] ∧ 1 ≤ u ∧ 1 ≤ v ∧ gl [u, v] = 1 ∧ u ≤ ((bU m x y).natAbs : Int) ∧ v ≤ ((bV m x y).natAbs : Int) ∧ lowl [m.a * u + m.b * v, m.c * u + m.d * v] = [x, y] := by
  obtain ⟨e1, e2⟩ := nat_bU n hd hx h
  have h0 : bU m x y ≠ 0 ∧ bV m x y ≠ 0 := by
    constructor <;> intro z <;> rw [z] at h <;> simp at h
  generalize hU : ((bU m x y).natAbs : Int) = U at *
  generalize hV : ((bV m x y).natAbs : Int) = W at *
  have U0 : 0 < U := by omega
  have W0 : 0 < W := by omega
  have gp : 0 < gl [U, W] := gl_pos (x := U) List.mem_cons_self (by omega)
  have d1 : ((gl [U, W] : Nat) : Int) ∣ U := gl_dvd _ _ List.mem_cons_self
  have d2 : ((gl [U, W] : Nat) : Int) ∣ W := gl_dvd _ _ (List.mem_cons_of_mem _ List.mem_cons_self)
  have q1 := Int.mul_ediv_cancel' d1
  have q2 := Int.mul_ediv_cancel' d2
  have el : lowl [U, W] = [U / (gl [U, W] : Int), W / (gl [U, W] : Int)] := rfl
  have eg := lowl_gl gp
  rw [el] at eg
  have l1 := div_le (k := gl [U, W]) (show 0 ≤ U by omega)
  have l2 := div_le (k := gl [U, W]) (show 0 ≤ W by omega)
  refine ⟨_, _, el, ?_, ?_, eg, l1, l2, ?_⟩
  · by_cases z : U / (gl [U, W] : Int) ≤ 0
    · have := Int.ediv_nonneg (show 0 ≤ U by omega) (Int.natCast_nonneg (gl [U, W]))
      have : U / (gl [U, W] : Int) = 0 := by omega
      rw [this] at q1
      omega
    · omega
  · by_cases z : W / (gl [U, W] : Int) ≤ 0
    · have := Int.ediv_nonneg (show 0 ≤ W by omega) (Int.natCast_nonneg (gl [U, W]))
      have : W / (gl [U, W] : Int) = 0 := by omega
      rw [this] at q2
      omega
    · omega
  · refine scale_low (g := (gl [U, W] : Int)) (e := (m.det.natAbs : Int)) (by omega) (by omega) ?_ ?_ xy
    · rw [← e1, Int.mul_add, ← Int.mul_assoc, ← Int.mul_assoc, Int.mul_comm _ m.a, Int.mul_comm _ m.b, Int.mul_assoc, Int.mul_assoc, q1, q2]
    · rw [← e2, Int.mul_add, ← Int.mul_assoc, ← Int.mul_assoc, Int.mul_comm _ m.c, Int.mul_comm _ m.d, Int.mul_assoc, Int.mul_assoc, q1, q2]
end Lr
namespace Lr
open PySem PySem.Spec PyProof.Rows L2
theorem fact_pos {m : M4} (n : Nn m) (d : 0 < m.det) {x y : Int} (hx : 1 ≤ x) : (m.b * y < x * m.d ∧ x * m.c < m.a * y) ↔ 0 < bU m x y * bV m x y := by
  rw [Int.mul_comm x m.d, Int.mul_comm x m.c]
  constructor
  · rintro ⟨h1, h2⟩
    exact Int.mul_pos (show 0 < m.d * x - m.b * y by omega) (show 0 < m.a * y - m.c * x by omega)
  · intro h
    obtain ⟨h1, h2⟩ := (back_sign n hx h).1 d
    have h1 : 0 < m.d * x - m.b * y := h1
    have h2 : 0 < m.a * y - m.c * x := h2
    omega
theorem fact_neg {m : M4} (n : Nn m) (d : m.det < 0) {x y : Int} (hx : 1 ≤ x) : (m.a * y < x * m.c ∧ x * m.d < m.b * y) ↔ 0 < bU m x y * bV m x y := by
  rw [Int.mul_comm x m.d, Int.mul_comm x m.c]
  constructor
  · rintro ⟨h1, h2⟩
    have := Int.mul_pos (show 0 < -(m.d * x - m.b * y) by omega) (show 0 < -(m.a * y - m.c * x) by omega)
    rw [Int.neg_mul_neg] at this
    exact this
  · intro h
    obtain ⟨h1, h2⟩ := (back_sign n hx h).2 d
    have h1 : m.d * x - m.b * y < 0 := h1
    have h2 : m.a * y - m.c * x < 0 := h2
    omega
theorem shw_non : Shw PyData.none := ⟨rfl, rfl, by show (0 : Nat) ≤ 60; omega, rfl, Nat.zero_le _⟩
theorem Bd.le' {k : Nat} {x y : Int} (h : Bd k y) (l : x.natAbs ≤ y.natAbs) : Bd k x := Nat.lt_of_le_of_lt l h
end Lr
namespace Lr
open PySem PySem.Spec PyProof.Rows L2
theorem map_pos {m : M4} (n : Nn m) (d : m.det ≠ 0) {x y : Int} (hx : 1 ≤ x) (hy : 1 ≤ y) : 0 < m.a * x + m.b * y ∧ 0 < m.c * x + m.d * y := by
  unfold M4.det at d
  have ax := Int.mul_nonneg n.a (show 0 ≤ x by omega)
  have bx := Int.mul_nonneg n.b (show 0 ≤ y by omega)
  have cx := Int.mul_nonneg n.c (show 0 ≤ x by omega)
  have dx := Int.mul_nonneg n.d (show 0 ≤ y by omega)
  have pz : ∀ {u v : Int}, u * v = 0 → 1 ≤ v → u = 0 := fun h k => by
    rcases Int.mul_eq_zero.mp h with z | z
    · exact z
    · omega
  constructor
  · by_cases z : m.a * x + m.b * y = 0
    · exfalso
      apply d
      rw [pz (show m.a * x = 0 by omega) hx, pz (show m.b * y = 0 by omega) hy]
      simp
    · omega
  · by_cases z : m.c * x + m.d * y = 0
    · exfalso
      apply d
      rw [pz (show m.c * x = 0 by omega) hx, pz (show m.d * y = 0 by omega) hy]
      simp
    · omega
theorem iteNN {c A B : Prop} [Decidable c] (hc : ¬ c) (h : A) : if (!decide c) = true then A else B := by
  rw [decide_eq_false hc]
  exact iteT h
end Lr
namespace Lr
open PySem PySem.Spec PyProof.Rows L2
/-- a pair above 0, divided by what divides both -/
theorem low_two {P R : Int} (hP : 0 < P) (hR : 0 < R) : ∃ u v : Int, lowl [P, R] = [u, v] ∧ 1 ≤ u ∧ 1 ≤ v ∧ Nat.gcd u.natAbs v.natAbs = 1 ∧ u ≤ P ∧ v ≤ R ∧ (gl [P, R] : Int) * u = P ∧ (gl [P, R] : Int) * v = R ∧ 0 < gl [P, R] := by
  have gp : 0 < gl [P, R] := gl_pos (x := P) List.mem_cons_self (by omega)
  have d1 : ((gl [P, R] : Nat) : Int) ∣ P := gl_dvd _ _ List.mem_cons_self
  have d2 : ((gl [P, R] : Nat) : Int) ∣ R := gl_dvd _ _ (List.mem_cons_of_mem _ List.mem_cons_self)
  have q1 := Int.mul_ediv_cancel' d1
  have q2 := Int.mul_ediv_cancel' d2
  have el : lowl [P, R] = [P / (gl [P, R] : Int), R / (gl [P, R] : Int)] := rfl
  have eg := lowl_gl gp
  rw [el, gl2] at eg
  have l1 := div_le (k := gl [P, R]) (show 0 ≤ P by omega)
  have l2 := div_le (k := gl [P, R]) (show 0 ≤ R by omega)
  refine ⟨_, _, el, ?_, ?_, eg, l1, l2, q1, q2, gp⟩
  · by_cases z : P / (gl [P, R] : Int) ≤ 0
    · have := Int.ediv_nonneg (show 0 ≤ P by omega) (Int.natCast_nonneg (gl [P, R]))
      have : P / (gl [P, R] : Int) = 0 := by omega
      rw [this] at q1
      omega
    · omega
  · by_cases z : R / (gl [P, R] : Int) ≤ 0
    · have := Int.ediv_nonneg (show 0 ≤ R by omega) (Int.natCast_nonneg (gl [P, R]))
      have : R / (gl [P, R] : Int) = 0 := by omega
      rw [this] at q2
      omega
    · omega
/-- what is sent is sent back -/
theorem sent_back {m : M4} (hd : m.det ≠ 0) {x y u v g : Int} (hx : 1 ≤ x) (hy : 1 ≤ y) (xy : Nat.gcd x.natAbs y.natAbs = 1) (hg : 0 < g) (eu : g * u = m.a * x + m.b * y) (ev : g * v = m.c * x + m.d * y) :
    0 < bU m u v * bV m u v ∧ lowl [((bU m u v).natAbs : Int), ((bV m u v).natAbs : Int)] = [x, y] := by
  have e1 : g * bU m u v = m.det * x := by
    unfold bU M4.det
    rw [Int.mul_sub, Int.mul_left_comm, eu, Int.mul_left_comm g m.b, ev, Int.mul_add, Int.mul_add, Int.sub_mul]
    have h1 : m.d * (m.a * x) = m.a * m.d * x := by rw [Int.mul_left_comm, Int.mul_assoc]
    have h2 : m.d * (m.b * y) = m.b * (m.d * y) := by rw [Int.mul_left_comm]
    have h3 : m.b * (m.c * x) = m.b * m.c * x := by rw [Int.mul_assoc]
    omega
  have e2 : g * bV m u v = m.det * y := by
    unfold bV M4.det
    rw [Int.mul_sub, Int.mul_left_comm, ev, Int.mul_left_comm g m.c, eu, Int.mul_add, Int.mul_add, Int.sub_mul]
    have h1 : m.a * (m.c * x) = m.c * (m.a * x) := by rw [Int.mul_left_comm]
    have h2 : m.a * (m.d * y) = m.a * m.d * y := by rw [Int.mul_assoc]
    have h3 : m.c * (m.b * y) = m.b * m.c * y := by rw [Int.mul_left_comm, Int.mul_assoc]
    omega
  have f1 : g * ((bU m u v).natAbs : Int) = (m.det.natAbs : Int) * x := by
    have := congrArg (fun z : Int => (z.natAbs : Int)) e1
    simp only [Int.natAbs_mul, Int.natCast_mul] at this
    rw [show ((g.natAbs : Nat) : Int) = g by omega, show ((x.natAbs : Nat) : Int) = x by omega] at this
    exact this
  have f2 : g * ((bV m u v).natAbs : Int) = (m.det.natAbs : Int) * y := by
    have := congrArg (fun z : Int => (z.natAbs : Int)) e2
    simp only [Int.natAbs_mul, Int.natCast_mul] at this
    rw [show ((g.natAbs : Nat) : Int) = g by omega, show ((y.natAbs : Nat) : Int) = y by omega] at this
    exact this
  refine ⟨?_, scale_low hg (by omega) f1 f2 xy⟩
  have p : g * bU m u v * (g * bV m u v) = m.det * m.det * (x * y) := by
    rw [e1, e2]
    simp [Int.mul_comm, Int.mul_assoc, Int.mul_left_comm]
  have q : g * bU m u v * (g * bV m u v) = g * g * (bU m u v * bV m u v) := by simp [Int.mul_comm, Int.mul_assoc, Int.mul_left_comm]
  have dd : 0 < m.det * m.det := by
    rcases Int.lt_trichotomy m.det 0 with d | d | d
    · exact Int.mul_pos_of_neg_of_neg d d
    · exact absurd d hd
    · exact Int.mul_pos d d
  have pos : 0 < m.det * m.det * (x * y) := Int.mul_pos dd (Int.mul_pos (by omega) (by omega))
  rw [← p, q] at pos
  have gg : 0 < g * g := Int.mul_pos hg hg
  refine Int.not_le.mp fun z => ?_
  have := Int.mul_nonneg (Int.le_of_lt gg) (show 0 ≤ -(bU m u v * bV m u v) by omega)
  rw [Int.mul_neg] at this
  omega
end Lr
namespace Lr
open PySem PySem.Spec PyProof.Rows L2
/-- a pair of ints from 0 on -/
def Pr (H : Hp) (v : V) : Prop := ∃ (q : Addr) (s t : Int), v = .ref q ∧ H q = some (.tup [.int s, .int t]) ∧ 0 ≤ s ∧ 0 ≤ t ∧ Bd 30 s ∧ Bd 30 t
theorem tup_nea {H : Hp} {a p : Addr} {n : Nat} {xs : List V} (h : Pu H a n) (hp : H p = some (.tup xs)) : p ≠ a := by
  rintro rfl
  obtain ⟨_, _, _, h1, _⟩ := h
  rw [hp] at h1
  cases h1
theorem Pr.kp {H H' : Hp} {a : Addr} {n : Nat} {v : V} (h : Pr H v) (hp : Pu H a n) (k : Kp a H H') : Pr H' v := by
  obtain ⟨q, s, t, e, hq, r⟩ := h
  exact ⟨q, s, t, e, k _ _ (tup_nea hp hq) hq, r⟩
theorem Pr.same {H H' : Hp} {v : V} (h : Pr H v) (k : Same H H') : Pr H' v := by
  obtain ⟨q, s, t, e, hq, r⟩ := h
  exact ⟨q, s, t, e, k _ _ hq, r⟩
theorem far_bd {up far : Int} (u0 : 0 ≤ up) (u1 : up ≤ 1000000) (f0 : 1 ≤ far) (f1 : far ≤ 9) : 0 ≤ up * far ∧ Bd 30 (up * far) ∧ Bd 30 (up * far + 1) := by
  have h0 := Int.mul_nonneg u0 (show 0 ≤ far by omega)
  have h1 : up * far ≤ up * 9 := Int.mul_le_mul_of_nonneg_left f1 u0
  exact ⟨h0, bd_le h0 (by omega), bd_le (by omega) (by omega)⟩
end Lr
namespace Lr
open PySem PySem.Spec PyProof.Rows L2
theorem four_new {H : Hp} {q1 q2 q3 q4 L : Addr} {o1 o2 o3 o4 o5 : HO} (n1 : H q1 = none) (n2 : L2.upd H q1 o1 q2 = none) (n3 : L2.upd (L2.upd H q1 o1) q2 o2 q3 = none) (n4 : L2.upd (L2.upd (L2.upd H q1 o1) q2 o2) q3 o3 q4 = none)
    (n5 : L2.upd (L2.upd (L2.upd (L2.upd H q1 o1) q2 o2) q3 o3) q4 o4 L = none) :
    Same H (L2.upd (L2.upd (L2.upd (L2.upd (L2.upd H q1 o1) q2 o2) q3 o3) q4 o4) L o5) ∧ L2.upd (L2.upd (L2.upd (L2.upd (L2.upd H q1 o1) q2 o2) q3 o3) q4 o4) L o5 L = some o5 ∧
    L2.upd (L2.upd (L2.upd (L2.upd (L2.upd H q1 o1) q2 o2) q3 o3) q4 o4) L o5 q1 = some o1 ∧ L2.upd (L2.upd (L2.upd (L2.upd (L2.upd H q1 o1) q2 o2) q3 o3) q4 o4) L o5 q2 = some o2 ∧
    L2.upd (L2.upd (L2.upd (L2.upd (L2.upd H q1 o1) q2 o2) q3 o3) q4 o4) L o5 q3 = some o3 ∧ L2.upd (L2.upd (L2.upd (L2.upd (L2.upd H q1 o1) q2 o2) q3 o3) q4 o4) L o5 q4 = some o4 := by
  have s1 := (L2.Same.refl H).new (o := o1) n1
  have s2 := (L2.Same.refl _).new (o := o2) n2
  have s3 := (L2.Same.refl _).new (o := o3) n3
  have s4 := (L2.Same.refl _).new (o := o4) n4
  have s5 := (L2.Same.refl _).new (o := o5) n5
  exact ⟨(((s1.trans s2).trans s3).trans s4).trans s5, upd_same, s5 _ _ (s4 _ _ (s3 _ _ (s2 _ _ upd_same))), s5 _ _ (s4 _ _ (s3 _ _ upd_same)), s5 _ _ (s4 _ _ upd_same), s5 _ _ upd_same⟩
end Lr
namespace Lr
open PySem PySem.Spec PyProof.Rows L2
theorem ifI {x k : Int} {A B : Prop} (h1 : x = k → A) (h2 : x ≠ k → B) : if decide (V.int x = V.int k) = true then A else B := by
  by_cases h : x = k
  · rw [decide_eq_true (by rw [h])]
    exact iteT (h1 h)
  · rw [decide_eq_false (fun z => h (V.int.inj z))]
    exact iteF (h2 h)
end Lr
namespace Lr
open PySem PySem.Spec PyProof.Rows L2
/-- a map of integers to 10 ** 6 -/
def Tm (H : Hp) (v : V) (m : M4) : Prop := ∃ p : Addr, v = .ref p ∧ H p = some (.tup (m.l.map V.int)) ∧ Mp m ∧ Le 1000000 m
theorem Tm.kp {H H' : Hp} {a : Addr} {n : Nat} {v : V} {m : M4} (h : Tm H v m) (hp : Pu H a n) (k : Kp a H H') : Tm H' v m := by
  obtain ⟨q, e, hq, r⟩ := h
  exact ⟨q, e, k _ _ (tup_nea hp hq) hq, r⟩
theorem Tm.same {H H' : Hp} {v : V} {m : M4} (h : Tm H v m) (k : Same H H') : Tm H' v m := by
  obtain ⟨q, e, hq, r⟩ := h
  exact ⟨q, e, k _ _ hq, r⟩
theorem Tm.of {H : Hp} {p : Addr} {m : M4} (h : H p = some (.tup (m.l.map V.int))) (mp : Mp m) (ml : Le 1000000 m) : Tm H (.ref p) m := ⟨p, rfl, h, mp, ml⟩
theorem at_any {l : List V} {r : Int} (h0 : 0 ≤ r) (h1 : r < l.length) : ∃ v ∈ l, atI l r = some v := by
  obtain ⟨j, rfl⟩ := nat_of h0
  have hj : j < l.length := by omega
  exact ⟨l[j], List.getElem_mem hj, atI_nat (by rw [List.getElem?_eq_getElem hj])⟩
theorem low_bd {m : M4} {k : Nat} (hd : m.det ≠ 0) (h : ∀ i ∈ m.l, Bd k i) : ∀ i ∈ m.low.l, Bd k i := by
  have g := det_pos_gl hd
  intro i hi
  simp only [M4.l, M4.low, List.mem_cons, List.not_mem_nil, or_false] at hi
  have g' : (0 : Int) < (gl m.l : Int) := by omega
  rcases hi with rfl | rfl | rfl | rfl
  · exact (h m.a (by simp [M4.l])).dv g'
  · exact (h m.b (by simp [M4.l])).dv g'
  · exact (h m.c (by simp [M4.l])).dv g'
  · exact (h m.d (by simp [M4.l])).dv g'
/-- two pairs that tell one fraction -/
theorem low_same {g h P R P' R' : Int} (hg : 0 < g) (hh : 0 < h) (h0 : 0 < P') (h1 : 0 < R') (e1 : g * P = h * P') (e2 : g * R = h * R') : lowl [P, R] = lowl [P', R'] := by
  obtain ⟨u, v, el, _, _, uv, _, _, gu, gv, gp⟩ := low_two h0 h1
  rw [el]
  refine scale_low (g := g) (e := h * (gl [P', R'] : Int)) hg (Int.mul_pos hh (by omega)) ?_ ?_ uv
  · rw [e1, Int.mul_assoc, gu]
  · rw [e2, Int.mul_assoc, gv]
/-- low of a multiple of nothing -/
theorem low_unit {k : Int} (hk : 0 < k) : (M4.mk k 0 0 k).low = M4.one := by
  have e : gl (M4.mk k 0 0 k).l = k.natAbs := by
    show Nat.gcd (Nat.gcd (Nat.gcd (Nat.gcd 0 k.natAbs) (0 : Int).natAbs) (0 : Int).natAbs) k.natAbs = _
    simp
  have e2 : ((k.natAbs : Nat) : Int) = k := by omega
  unfold M4.low M4.one
  rw [e, e2]
  show M4.mk (k / k) (0 / k) (0 / k) (k / k) = _
  rw [Int.ediv_self (by omega), Int.zero_ediv]
theorem low_goal {m : M4} (hd : m.det ≠ 0) (x y : Int) : (gl m.l : Int) * (m.low.a * x + m.low.b * y) = m.a * x + m.b * y ∧ (gl m.l : Int) * (m.low.c * x + m.low.d * y) = m.c * x + m.d * y := by
  have g := fun x hx => gl_dvd m.l x hx
  have ea := Int.mul_ediv_cancel' (g m.a (by simp [M4.l]))
  have eb := Int.mul_ediv_cancel' (g m.b (by simp [M4.l]))
  have ec := Int.mul_ediv_cancel' (g m.c (by simp [M4.l]))
  have ed := Int.mul_ediv_cancel' (g m.d (by simp [M4.l]))
  constructor
  · show (gl m.l : Int) * (m.a / (gl m.l : Int) * x + m.b / (gl m.l : Int) * y) = _
    rw [Int.mul_add, ← Int.mul_assoc, ← Int.mul_assoc, ea, eb]
  · show (gl m.l : Int) * (m.c / (gl m.l : Int) * x + m.d / (gl m.l : Int) * y) = _
    rw [Int.mul_add, ← Int.mul_assoc, ← Int.mul_assoc, ec, ed]
theorem mul_goal (m n : M4) (x y : Int) : (m.mul n).a * x + (m.mul n).b * y = m.a * (n.a * x + n.b * y) + m.b * (n.c * x + n.d * y) ∧ (m.mul n).c * x + (m.mul n).d * y = m.c * (n.a * x + n.b * y) + m.d * (n.c * x + n.d * y) := by
  unfold M4.mul
  simp only [Int.add_mul, Int.mul_add, Int.mul_assoc]
  omega
end Lr
namespace Lr
open PySem PySem.Spec PyProof.Rows L2
theorem goal_goal {R m : M4} (dM : (R.mul m).det ≠ 0) {x y u v g' : Int} (hg : 0 < g') (gu : g' * u = m.a * x + m.b * y) (gv : g' * v = m.c * x + m.d * y) (z0 : 0 < R.a * u + R.b * v) (z1 : 0 < R.c * u + R.d * v) :
    lowl [(R.mul m).low.a * x + (R.mul m).low.b * y, (R.mul m).low.c * x + (R.mul m).low.d * y] = lowl [R.a * u + R.b * v, R.c * u + R.d * v] := by
  obtain ⟨g1, g2⟩ := low_goal dM x y
  obtain ⟨f1, f2⟩ := mul_goal R m x y
  refine low_same (g := (gl (R.mul m).l : Int)) (h := g') (by have := det_pos_gl dM; omega) hg z0 z1 ?_ ?_
  · rw [g1, f1, ← gu, ← gv, Int.mul_add, Int.mul_left_comm g' R.a u, Int.mul_left_comm g' R.b v]
  · rw [g2, f2, ← gu, ← gv, Int.mul_add, Int.mul_left_comm g' R.c u, Int.mul_left_comm g' R.d v]
end Lr
namespace Lr
open PySem PySem.Spec PyProof.Rows L2
theorem turn_A {m : M4} (h : Mp m) (hb : m.b = 0) (hc : m.c = 0) : ((M4.mk m.d 0 0 m.a).mul m).low = M4.one ∧ (m.mul (M4.mk m.d 0 0 m.a)).low = M4.one ∧ Mp (M4.mk m.d 0 0 m.a) ∧ m.a ≠ 0 := by
  obtain ⟨a, b, c, d⟩ := m
  obtain ⟨nn, dt, gd⟩ := h
  have hb : b = 0 := hb
  have hc : c = 0 := hc
  subst hb hc
  have a0 : 0 ≤ a := nn.a
  have d0 : 0 ≤ d := nn.d
  have dt : a * d - 0 * 0 ≠ 0 := dt
  have p : 0 < a * d := by
    have := Int.mul_nonneg a0 d0
    omega
  have q : 0 < d * a := by rw [Int.mul_comm]; exact p
  have e1 : (M4.mk d 0 0 a).mul (M4.mk a 0 0 d) = M4.mk (d * a) 0 0 (d * a) := by
    unfold M4.mul
    simp [Int.mul_comm]
  have e2 : (M4.mk a 0 0 d).mul (M4.mk d 0 0 a) = M4.mk (d * a) 0 0 (d * a) := by
    unfold M4.mul
    simp [Int.mul_comm]
  refine ⟨by show ((M4.mk d 0 0 a).mul (M4.mk a 0 0 d)).low = _; rw [e1, low_unit q], by show ((M4.mk a 0 0 d).mul (M4.mk d 0 0 a)).low = _; rw [e2, low_unit q], ⟨⟨d0, Int.le_refl 0, Int.le_refl 0, a0⟩, ?_, ?_⟩, ?_⟩
  · show d * a - 0 * 0 ≠ 0
    omega
  · have : Nat.gcd (Nat.gcd (Nat.gcd (Nat.gcd 0 a.natAbs) 0) 0) d.natAbs = 1 := gd
    show Nat.gcd (Nat.gcd (Nat.gcd (Nat.gcd 0 d.natAbs) 0) 0) a.natAbs = 1
    simp at this ⊢
    rw [Nat.gcd_comm]
    exact this
  · show a ≠ 0
    rintro rfl
    simp at p
theorem turn_B {m : M4} (h : Mp m) (ha : m.a = 0) (hd : m.d = 0) : ((M4.mk 0 m.b m.c 0).mul m).low = M4.one ∧ (m.mul (M4.mk 0 m.b m.c 0)).low = M4.one ∧ Mp (M4.mk 0 m.b m.c 0) ∧ m.b ≠ 0 := by
  obtain ⟨a, b, c, d⟩ := m
  have ha : a = 0 := ha
  have hd : d = 0 := hd
  subst ha hd
  have b0 : 0 ≤ b := h.nn.b
  have c0 : 0 ≤ c := h.nn.c
  have dt : 0 * 0 - b * c ≠ 0 := h.dt
  have p : 0 < b * c := by
    have := Int.mul_nonneg b0 c0
    omega
  have e1 : (M4.mk 0 b c 0).mul (M4.mk 0 b c 0) = M4.mk (b * c) 0 0 (b * c) := by
    unfold M4.mul
    simp [Int.mul_comm]
  refine ⟨by show ((M4.mk 0 b c 0).mul (M4.mk 0 b c 0)).low = _; rw [e1, low_unit p], by show ((M4.mk 0 b c 0).mul (M4.mk 0 b c 0)).low = _; rw [e1, low_unit p], h, ?_⟩
  show b ≠ 0
  rintro rfl
  simp at p
theorem mk_diag {u v : Int} (hu : 1 ≤ u) (hv : 1 ≤ v) : Nn (M4.mk u 0 0 v) ∧ (M4.mk u 0 0 v).det ≠ 0 ∧ Nn (M4.mk 0 u v 0) ∧ (M4.mk 0 u v 0).det ≠ 0 := by
  have p := Int.mul_pos (show 0 < u by omega) (show 0 < v by omega)
  refine ⟨⟨by show 0 ≤ u; omega, Int.le_refl 0, Int.le_refl 0, by show 0 ≤ v; omega⟩, ?_, ⟨Int.le_refl 0, by show 0 ≤ u; omega, by show 0 ≤ v; omega, Int.le_refl 0⟩, ?_⟩
  · show u * v - 0 * 0 ≠ 0
    omega
  · show 0 * 0 - u * v ≠ 0
    omega
end Lr

set_option exponentiation.threshold 5000
namespace Lr
open PySem PySem.Spec PyProof.Rows L2
/-! endless roads -/
/-- a road that is the same when so many turns are put behind it -/
def Per (w : List Bool) (p : Nat) : Prop := ∀ i, i < w.length → w[(i + p) % w.length]? = w[i]?
theorem per_len (w : List Bool) : Per w w.length := fun i hi => by
  rw [Nat.add_mod_right, Nat.mod_eq_of_lt hi]
theorem Per.at {w : List Bool} {p : Nat} (h : Per w p) (i : Nat) : w[(i + p) % w.length]? = w[i % w.length]? := by
  by_cases h0 : w.length = 0
  · rw [h0, Nat.mod_zero, Nat.mod_zero, List.getElem?_eq_none (by omega), List.getElem?_eq_none (by omega)]
  · have := h (i % w.length) (Nat.mod_lt _ (by omega))
    rw [Nat.mod_add_mod] at this
    exact this
theorem Per.sub {w : List Bool} {p r : Nat} (h : Per w p) (k : Per w (r + p)) : Per w r := fun i hi => by
  rw [← h.at (i + r), Nat.add_assoc, k i hi]
theorem Per.mul {w : List Bool} {p : Nat} (h : Per w p) (k : Nat) : Per w (k * p) := by
  induction k with
  | zero => exact fun i hi => by rw [Nat.zero_mul, Nat.add_zero, Nat.mod_eq_of_lt hi]
  | succ k ih => exact fun i hi => by rw [Nat.succ_mul, ← Nat.add_assoc, h.at, ih i hi]
/-- the least one -/
def Least (w : List Bool) (p : Nat) : Prop := 1 ≤ p ∧ p ≤ w.length ∧ Per w p ∧ ∀ k, 1 ≤ k → k < p → ¬ Per w k
theorem Least.dvd {w : List Bool} {p : Nat} (h : Least w p) : w.length % p = 0 := by
  obtain ⟨p1, pn, hp, hm⟩ := h
  by_cases z : w.length % p = 0
  · exact z
  · exfalso
    refine hm (w.length % p) (by omega) (Nat.mod_lt _ (by omega)) ?_
    have k := hp.mul (w.length / p)
    refine Per.sub k ?_
    rw [Nat.mul_comm, Nat.mod_add_div]
    exact per_len w
theorem Least.eq {w : List Bool} {p q : Nat} (h : Least w p) (k : Least w q) : p = q := by
  rcases Nat.lt_trichotomy p q with z | z | z
  · exact absurd h.2.2.1 (k.2.2.2 p h.1 z)
  · exact z
  · exact absurd k.2.2.1 (h.2.2.2 q k.1 z)
theorem repR_at {u : List Bool} {k i : Nat} (h : i < k * u.length) : (repR u k)[i]? = u[i % u.length]? := by
  induction k generalizing i with
  | zero => omega
  | succ k ih =>
    have e : repR u (k + 1) = u ++ repR u k := by
      unfold repR
      rw [List.replicate_succ, List.flatten_cons]
    rw [e]
    by_cases hi : i < u.length
    · rw [List.getElem?_append_left hi, Nat.mod_eq_of_lt hi]
    · rw [List.getElem?_append_right (by omega), ih (by rw [Nat.succ_mul] at h; omega), ← Nat.mod_eq_sub_mod (by omega)]
/-- where it comes round -/
theorem Per.low {w : List Bool} {p : Nat} (h : Per w p) (p1 : 1 ≤ p) (hp : p ≤ w.length) : ∀ i, i < w.length → w[i]? = (w.take p)[i % p]? := by
  intro i
  induction i using Nat.strongRecOn with
  | ind i ih =>
    intro hi
    by_cases z : i < p
    · rw [Nat.mod_eq_of_lt z, List.getElem?_take_of_lt z]
    · have e := h (i - p) (by omega)
      rw [show i - p + p = i by omega, Nat.mod_eq_of_lt hi] at e
      rw [e, ih (i - p) (by omega) (by omega), ← Nat.mod_eq_sub_mod (by omega)]
theorem per_rep {w : List Bool} {p : Nat} (p1 : 1 ≤ p) (hp : p ≤ w.length) : repR (w.take p) (w.length / p) = w ↔ Per w p ∧ w.length % p = 0 := by
  have tl : (w.take p).length = p := by rw [List.length_take]; omega
  constructor
  · intro e
    have el := congrArg List.length e
    rw [repR_len, tl] at el
    have m0 : w.length % p = 0 := by
      rw [← el]
      exact Nat.mul_mod_left _ _
    refine ⟨fun i hi => ?_, m0⟩
    have key : ∀ j, j < w.length → w[j]? = (w.take p)[j % p]? := fun j hj => by
      have := repR_at (u := w.take p) (k := w.length / p) (i := j) (by rw [tl, el]; exact hj)
      rw [e, tl] at this
      exact this
    have n0 : 0 < w.length := by omega
    rw [key _ (Nat.mod_lt _ n0), key _ hi]
    congr 1
    have d : p ∣ w.length := Nat.dvd_of_mod_eq_zero m0
    rw [Nat.mod_mod_of_dvd _ d, Nat.add_mod_right]
  · rintro ⟨h, m0⟩
    have el : w.length / p * p = w.length := Nat.div_mul_cancel (Nat.dvd_of_mod_eq_zero m0)
    refine List.ext_getElem? fun i => ?_
    by_cases hi : i < w.length
    · rw [repR_at (by rw [tl, el]; exact hi), tl, h.low p1 hp i hi]
    · rw [List.getElem?_eq_none (by rw [repR_len, tl, el]; omega), List.getElem?_eq_none (by omega)]
/-- what is told of an endless road at a place -/
def sq (f l : List Bool) (i : Nat) : Option Bool := if i < f.length then f[i]? else l[(i - f.length) % l.length]?
theorem sq_take (f l : List Bool) (hl : l ≠ []) {k i : Nat} (h : i < f.length + k) : (f ++ repR l k)[i]? = sq f l i := by
  unfold sq
  have l1 : 1 ≤ l.length := Nat.pos_of_ne_zero fun z => hl (List.length_eq_zero_iff.mp z)
  split
  · rename_i hi
    rw [List.getElem?_append_left hi]
  · rename_i hi
    rw [List.getElem?_append_right (by omega), repR_at]
    have : k * 1 ≤ k * l.length := Nat.mul_le_mul_left k l1
    omega
theorem sq_least {w : List Bool} {p : Nat} (h : Least w p) (f : List Bool) : sq f (w.take p) = sq f w := by
  have p1 := h.1
  have pn := h.2.1
  have tl : (w.take p).length = p := by rw [List.length_take]; omega
  funext i
  unfold sq
  split
  · rfl
  · have m := Nat.mod_lt (i - f.length) (show 0 < w.length by omega)
    rw [h.2.2.1.low p1 pn _ m, tl, Nat.mod_mod_of_dvd _ (Nat.dvd_of_mod_eq_zero h.dvd)]
/-! a turn of the road ahead that is one of the ring -/
def rr (l : List Bool) : List Bool := match l.getLast? with
  | none => []
  | some t => t :: l.dropLast
def stp (c : List Bool × List Bool) : List Bool × List Bool := if c.1.getLast? = c.2.getLast? then (c.1.dropLast, rr c.2) else c
theorem rr_len (l : List Bool) : (rr l).length = l.length := by
  unfold rr
  cases h : l.getLast? with
  | none => rw [List.getLast?_eq_none_iff.mp h]
  | some t =>
    have : l ≠ [] := fun z => by rw [z] at h; cases h
    have := List.length_pos_iff.mpr this
    simp [List.length_dropLast]
    omega
theorem last_ex {l : List Bool} {t : Bool} (h : l.getLast? = some t) : ∃ d, l = d ++ [t] := by
  have ne : l ≠ [] := fun z => by rw [z] at h; cases h
  have e := List.dropLast_concat_getLast ne
  rw [List.getLast?_eq_some_getLast ne] at h
  exact ⟨l.dropLast, by rw [← Option.some.inj h, e]⟩
theorem rr_snoc (d : List Bool) (t : Bool) : rr (d ++ [t]) = t :: d := by
  unfold rr
  simp
theorem rr_at {l : List Bool} {i : Nat} (hi : i < l.length) : (rr l)[i]? = l[(i + (l.length - 1)) % l.length]? := by
  cases h : l.getLast? with
  | none =>
    rw [List.getLast?_eq_none_iff.mp h] at hi
    exact absurd hi (Nat.not_lt_zero _)
  | some t =>
    obtain ⟨d, rfl⟩ := last_ex h
    rw [rr_snoc]
    have len : (d ++ [t]).length = d.length + 1 := by simp
    rw [len] at hi ⊢
    cases i with
    | zero =>
      rw [Nat.zero_add, Nat.mod_eq_of_lt (by omega), Nat.add_sub_cancel, List.getElem?_append_right (Nat.le_refl _), Nat.sub_self]
      rfl
    | succ i =>
      rw [show i + 1 + (d.length + 1 - 1) = i + (d.length + 1) by omega, Nat.add_mod_right, Nat.mod_eq_of_lt (by omega), List.getElem?_append_left (by omega)]
      rfl
theorem stp_snoc (f l : List Bool) (t : Bool) : stp (f ++ [t], l ++ [t]) = (f, t :: l) := by
  unfold stp
  simp [rr_snoc]
theorem sq_stp (c : List Bool × List Bool) : sq (stp c).1 (stp c).2 = sq c.1 c.2 := by
  obtain ⟨f, l⟩ := c
  by_cases h : f.getLast? = l.getLast?
  · cases hf : f.getLast? with
    | none =>
      have f0 := List.getLast?_eq_none_iff.mp hf
      have l0 := List.getLast?_eq_none_iff.mp (h.symm.trans hf)
      subst f0 l0
      rfl
    | some t =>
      obtain ⟨f, rfl⟩ := last_ex hf
      obtain ⟨l, rfl⟩ := last_ex (h.symm.trans hf)
      rw [stp_snoc]
      have lf : (f ++ [t]).length = f.length + 1 := by simp
      have ll : (l ++ [t]).length = l.length + 1 := by simp
      have lr : (t :: l).length = l.length + 1 := rfl
      funext i
      show (if i < f.length then f[i]? else (t :: l)[(i - f.length) % (t :: l).length]?) = if i < (f ++ [t]).length then (f ++ [t])[i]? else (l ++ [t])[(i - (f ++ [t]).length) % (l ++ [t]).length]?
      by_cases h1 : i < f.length
      · rw [if_pos h1, if_pos (by omega), List.getElem?_append_left h1]
      · rw [if_neg h1, ← rr_snoc, rr_len, rr_at (Nat.mod_lt _ (by omega)), ll, Nat.mod_add_mod]
        by_cases h2 : i < f.length + 1
        · have e : i = f.length := by omega
          rw [if_pos (by omega), e, Nat.sub_self, Nat.zero_add, Nat.mod_eq_of_lt (by omega), Nat.add_sub_cancel, List.getElem?_append_right (Nat.le_refl _), List.getElem?_append_right (Nat.le_refl _), Nat.sub_self, Nat.sub_self]
        · rw [if_neg (by omega), lf, show i - f.length + (l.length + 1 - 1) = i - (f.length + 1) + (l.length + 1) by omega, Nat.add_mod_right]
  · have e : stp (f, l) = (f, l) := by
      unfold stp
      rw [if_neg h]
    rw [e]
theorem per_rr {l : List Bool} {k : Nat} (h : Per (rr l) k) : Per l k := by
  intro i hi
  have n0 : 0 < l.length := by omega
  have e := h.at (i + 1)
  rw [rr_len] at e
  rw [rr_at (Nat.mod_lt _ n0), rr_at (Nat.mod_lt _ n0), Nat.mod_add_mod, Nat.mod_add_mod, show i + 1 + k + (l.length - 1) = i + k + l.length by omega, show i + 1 + (l.length - 1) = i + l.length by omega, Nat.add_mod_right, Nat.add_mod_right, Nat.mod_eq_of_lt hi] at e
  exact e
/-- a ring that comes round at no less than its length -/
def Prim (l : List Bool) : Prop := l ≠ [] ∧ ∀ k, 1 ≤ k → k < l.length → ¬ Per l k
theorem Prim.least {l : List Bool} (h : Prim l) : Least l l.length := ⟨Nat.pos_of_ne_zero fun z => h.1 (List.length_eq_zero_iff.mp z), Nat.le_refl _, per_len l, h.2⟩
theorem Prim.rr {l : List Bool} (h : Prim l) : Prim (rr l) := by
  refine ⟨fun z => h.1 ?_, fun k k1 k2 p => h.2 k k1 (by rw [rr_len] at k2; exact k2) (per_rr p)⟩
  have := rr_len l
  rw [z] at this
  exact List.length_eq_zero_iff.mp this.symm
theorem Least.prim {w : List Bool} {p : Nat} (h : Least w p) : Prim (w.take p) := by
  have p1 := h.1
  have pn := h.2.1
  have tl : (w.take p).length = p := by rw [List.length_take]; omega
  refine ⟨fun z => ?_, fun k k1 k2 q => h.2.2.2 k k1 (by omega) fun i hi => ?_⟩
  · rw [z] at tl
    simp at tl
    omega
  · have n0 : 0 < w.length := by omega
    rw [h.2.2.1.low p1 pn _ (Nat.mod_lt _ n0), h.2.2.1.low p1 pn _ hi, Nat.mod_mod_of_dvd _ (Nat.dvd_of_mod_eq_zero h.dvd)]
    have := q.at i
    rw [tl] at this
    exact this
theorem Prim.stp {c : List Bool × List Bool} (h : Prim c.2) : Prim (stp c).2 := by
  unfold Lr.stp
  split
  · exact h.rr
  · exact h
end Lr

set_option exponentiation.threshold 5000
namespace Lr
open PySem PySem.Spec PyProof.Rows L2
def its : Nat → List Bool × List Bool → List Bool × List Bool
  | 0, c => c
  | n + 1, c => stp (its n c)
theorem its_fix {c : List Bool × List Bool} {i : Nat} (h : stp (its i c) = its i c) : ∀ n, i ≤ n → its n c = its i c := by
  intro n hn
  induction n with
  | zero => rw [Nat.le_zero.mp hn]
  | succ n ih =>
    by_cases e : i = n + 1
    · rw [e]
    · show stp (its n c) = _
      rw [ih (by omega), h]
theorem stp_ne {c : List Bool × List Bool} (h : c.1.getLast? ≠ c.2.getLast?) : stp c = c := by
  unfold stp
  rw [if_neg h]
theorem stp_ring {c : List Bool × List Bool} (h : c.2 ≠ []) : (stp c).2 ≠ [] := by
  unfold stp
  split
  · intro z
    have := rr_len c.2
    have z : rr c.2 = [] := z
    rw [z] at this
    exact h (List.length_eq_zero_iff.mp this.symm)
  · exact h
theorem its_ring {c : List Bool × List Bool} (h : c.2 ≠ []) (n : Nat) : (its n c).2 ≠ [] := by
  induction n with
  | zero => exact h
  | succ n ih => exact stp_ring ih
theorem its_len {c : List Bool × List Bool} (n : Nat) : stp (its n c) = its n c ∨ (its n c).1.length + n = c.1.length := by
  induction n with
  | zero => exact .inr rfl
  | succ n ih =>
    show stp (stp (its n c)) = stp (its n c) ∨ (stp (its n c)).1.length + (n + 1) = c.1.length
    rcases ih with e | e
    · rw [e]
      exact .inl e
    · by_cases h : (its n c).1.getLast? = (its n c).2.getLast?
      · by_cases z : (its n c).1 = []
        · left
          have e2 : (its n c).2 = [] := by
            rw [z] at h
            exact List.getLast?_eq_none_iff.mp h.symm
          have e3 : its n c = ([], []) := Prod.ext z e2
          rw [e3]
          rfl
        · right
          have : (stp (its n c)).1 = (its n c).1.dropLast := by
            unfold stp
            rw [if_pos h]
          have p := List.length_pos_iff.mpr z
          rw [this, List.length_dropLast]
          omega
      · left
        rw [stp_ne h, stp_ne h]
theorem its_end {c : List Bool × List Bool} (h : c.2 ≠ []) : stp (its c.1.length c) = its c.1.length c := by
  rcases its_len (c := c) c.1.length with e | e
  · exact e
  · have z : (its c.1.length c).1 = [] := List.length_eq_zero_iff.mp (by omega)
    refine stp_ne ?_
    rw [z]
    intro k
    exact its_ring h _ (List.getLast?_eq_none_iff.mp k.symm)
theorem its_le (c : List Bool × List Bool) (n : Nat) : (its n c).1.length ≤ c.1.length ∧ (its n c).2.length = c.2.length := by
  induction n with
  | zero => exact ⟨Nat.le_refl _, rfl⟩
  | succ n ih =>
    show (stp (its n c)).1.length ≤ _ ∧ (stp (its n c)).2.length = _
    unfold stp
    split
    · rw [List.length_dropLast]
      exact ⟨by omega, by rw [rr_len]; exact ih.2⟩
    · exact ih
theorem its_sq (c : List Bool × List Bool) (n : Nat) : sq (its n c).1 (its n c).2 = sq c.1 c.2 := by
  induction n with
  | zero => rfl
  | succ n ih =>
    show sq (stp (its n c)).1 (stp (its n c)).2 = _
    rw [sq_stp, ih]
theorem its_prim {c : List Bool × List Bool} (h : Prim c.2) (n : Nat) : Prim (its n c).2 := by
  induction n with
  | zero => exact h
  | succ n ih => exact Prim.stp ih
/-- the least way of a course -/
def Lw (f w : List Bool) (c : List Bool × List Bool) : Prop := ∃ p, Least w p ∧ c = its f.length (f, w.take p)
theorem Lw.eq {f w : List Bool} {c d : List Bool × List Bool} (h : Lw f w c) (k : Lw f w d) : c = d := by
  obtain ⟨p, hp, rfl⟩ := h
  obtain ⟨q, hq, rfl⟩ := k
  rw [hp.eq hq]
theorem Lw.sq {f w : List Bool} {c : List Bool × List Bool} (h : Lw f w c) : sq c.1 c.2 = Lr.sq f w := by
  obtain ⟨p, hp, rfl⟩ := h
  rw [its_sq]
  exact sq_least hp f
theorem Lw.prim {f w : List Bool} {c : List Bool × List Bool} (h : Lw f w c) : Prim c.2 := by
  obtain ⟨p, hp, rfl⟩ := h
  exact its_prim hp.prim _
theorem Lw.fix {f w : List Bool} {c : List Bool × List Bool} (h : Lw f w c) : stp c = c := by
  obtain ⟨p, hp, rfl⟩ := h
  exact its_end (c := (f, w.take p)) hp.prim.1
theorem Lw.len {f w : List Bool} {c : List Bool × List Bool} (h : Lw f w c) : c.1.length ≤ f.length ∧ 1 ≤ c.2.length ∧ c.2.length ≤ w.length := by
  obtain ⟨p, hp, rfl⟩ := h
  obtain ⟨h1, h2⟩ := its_le (f, w.take p) f.length
  have p1 := hp.1
  have pn := hp.2.1
  have tl : (w.take p).length = p := by rw [List.length_take]; omega
  refine ⟨h1, ?_, ?_⟩
  · rw [h2]
    show 1 ≤ (w.take p).length
    omega
  · rw [h2]
    show (w.take p).length ≤ _
    omega
theorem Lw.self {f w : List Bool} {c : List Bool × List Bool} (h : Lw f w c) : Lw c.1 c.2 c := by
  refine ⟨c.2.length, h.prim.least, ?_⟩
  rw [List.take_length]
  exact (its_fix (i := 0) (c := (c.1, c.2)) h.fix c.1.length (Nat.zero_le _)).symm
/-! where a ring is found within two of them -/
theorem per_at {w : List Bool} {i : Nat} (hi : i ≤ w.length) : ((w ++ w).drop i).take w.length = w ↔ Per w i := by
  have key : ∀ j, j < w.length → (((w ++ w).drop i).take w.length)[j]? = w[(j + i) % w.length]? := fun j hj => by
    rw [List.getElem?_take_of_lt hj, List.getElem?_drop]
    by_cases h : i + j < w.length
    · rw [List.getElem?_append_left h, Nat.add_comm j i, Nat.mod_eq_of_lt h]
    · rw [List.getElem?_append_right (by omega), Nat.add_comm j i, Nat.mod_eq_sub_mod (by omega), Nat.mod_eq_of_lt (by omega)]
  constructor
  · intro e j hj
    rw [← key j hj, e]
  · intro h
    refine List.ext_getElem? fun j => ?_
    by_cases hj : j < w.length
    · rw [key j hj, h j hj]
    · rw [List.getElem?_eq_none (by rw [List.length_take]; omega), List.getElem?_eq_none (by omega)]
theorem at_per {w : List Bool} {i : Nat} : StrLaws.At (rd (w ++ w)) (rd w) (rd (w ++ w)).length i ↔ i ≤ w.length ∧ Per w i := by
  unfold StrLaws.At
  rw [rd_len, rd_len, List.length_append, StrLaws.subAt_eq, rd_cps, rd_cps, rd_len, ← List.map_drop, ← List.map_take]
  constructor
  · rintro ⟨h1, h2⟩
    refine ⟨by omega, (per_at (by omega)).mp ?_⟩
    exact List.map_inj_right (fun a b => sg_inj) |>.mp (eq_of_beq h2)
  · rintro ⟨h1, h2⟩
    refine ⟨by omega, ?_⟩
    rw [(per_at h1).mpr h2]
    exact beq_self_eq_true _
theorem find_ring {w : List Bool} (hw : w ≠ []) : ∃ p : Nat, Txt.find3 (rd (w ++ w)) (rd w) 1 = (p : Int) ∧ Least w p := by
  have n0 := List.length_pos_iff.mpr hw
  unfold Txt.find3
  have e : fromIndex (rd (w ++ w)).length 1 = 1 := rfl
  rw [e]
  rcases StrLaws.occ_head_from (rd (w ++ w)) (rd w) 1 1 (Nat.le_refl 1) with ⟨h0, hn⟩ | ⟨k, r, h0, hlo, hk, hn⟩
  · exact absurd (at_per.mpr ⟨Nat.le_refl _, per_len w⟩) (hn w.length n0)
  · rw [h0]
    obtain ⟨k1, k2⟩ := at_per.mp hk
    exact ⟨k, rfl, hlo, k1, k2, fun j j1 j2 h => hn j j1 j2 (at_per.mpr ⟨by omega, h⟩)⟩
/-! the last turn -/
def last1 (w : List Bool) : List Bool := match w.getLast? with
  | none => []
  | some t => [t]
theorem cut_last (w : List Bool) : cutS (rd w) (some (-1)) none = rd (last1 w) := by
  have e : HT.sIx w.length 0 (some (-1)) = w.length - 1 := by
    show (if (-1 : Int) < 0 then ((-1 : Int) + (w.length : Int)).toNat else min (-1 : Int).toNat w.length) = w.length - 1
    rw [if_pos (by decide)]
    omega
  rw [cut_rd, HT.sIx_none, e, List.take_of_length_le (by rw [List.length_drop]; omega)]
  congr 1
  unfold last1
  cases h : w.getLast? with
  | none =>
    rw [List.getLast?_eq_none_iff.mp h]
    rfl
  | some t =>
    obtain ⟨d, rfl⟩ := last_ex h
    simp
theorem last_eq {f l : List Bool} (hl : l ≠ []) : last1 f = last1 l ↔ f.getLast? = l.getLast? := by
  unfold last1
  cases h1 : l.getLast? with
  | none => exact absurd (List.getLast?_eq_none_iff.mp h1) hl
  | some t =>
    cases h2 : f.getLast? with
    | none => simp
    | some u => simp
theorem rr_last {l : List Bool} (hl : l ≠ []) : rr l = last1 l ++ l.dropLast := by
  unfold rr last1
  cases h1 : l.getLast? with
  | none => exact absurd (List.getLast?_eq_none_iff.mp h1) hl
  | some t => rfl
end Lr
namespace Lr
open PySem PySem.Spec PyProof.Rows L2
theorem at_last {w : List Bool} {t : Bool} (h : w.getLast? = some t) : atI (rd w).cps.toList (-1) = some (sg t) := by
  obtain ⟨d, rfl⟩ := last_ex h
  rw [rd_cps]
  unfold atI ixN
  rw [if_neg (by decide)]
  have len : ((d ++ [t]).map sg).length = d.length + 1 := by simp
  rw [len, if_pos (by omega)]
  show ((d ++ [t]).map sg)[((-1 : Int) + ((d.length + 1 : Nat) : Int)).toNat]? = _
  rw [show ((-1 : Int) + ((d.length + 1 : Nat) : Int)).toNat = d.length by omega]
  simp
theorem last_len {w : List Bool} {t : Bool} (h : w.getLast? = some t) : 1 ≤ w.length := by
  obtain ⟨d, rfl⟩ := last_ex h
  simp
theorem ifRd {u v : List Bool} {A B : Prop} (h1 : u = v → A) (h2 : u ≠ v → B) : if decide (V.str (rd u) = V.str (rd v)) = true then A else B := by
  by_cases h : u = v
  · rw [decide_eq_true (by rw [h])]
    exact iteT (h1 h)
  · rw [decide_eq_false (fun z => h (rd_inj (V.str.inj z)))]
    exact iteF (h2 h)
theorem ifRdN {u v : List Bool} {A B : Prop} (h1 : u ≠ v → A) (h2 : u = v → B) : if (!decide (V.str (rd u) = V.str (rd v))) = true then A else B := by
  by_cases h : u = v
  · rw [decide_eq_true (by rw [h])]
    exact iteF (h2 h)
  · rw [decide_eq_false (fun z => h (rd_inj (V.str.inj z)))]
    exact iteT (h1 h)
theorem ifNil {u : List Bool} {A B : Prop} (h1 : u = [] → A) (h2 : u ≠ [] → B) : if decide (V.str (rd u) = V.str ("" : Str)) = true then A else B := by
  rw [← rd_nil]
  exact ifRd h1 h2
theorem ifNilN {u : List Bool} {A B : Prop} (h1 : u ≠ [] → A) (h2 : u = [] → B) : if (!decide (V.str (rd u) = V.str ("" : Str))) = true then A else B := by
  rw [← rd_nil]
  exact ifRdN h1 h2
theorem least_ex {w : List Bool} (h : w ≠ []) : ∃ p, Least w p := by
  obtain ⟨p, _, l⟩ := find_ring h
  exact ⟨p, l⟩
/-- the text of a pair of roads -/
def pairD (f l : List Bool) : PyData := .tuple [.str (rd f), .str (rd l)]
theorem dp_pair {K : PySem.W.Frag} {H : Hp} {a : Addr} {f l : List Bool} (h : SqT K H a [.str (rd f), .str (rd l)]) : Dp K H (.ref a) (pairD f l) := .tup h (.cons (.str _) (.cons (.str _) .nil))
end Lr
namespace Lr
open PySem PySem.Spec PyProof.Rows L2
/-- an if statement as a whole, whose ways meet -/
theorem meetS {t : TT} {ta tb : TS} {D : Ends} {σ : L2.St} {H : Hp} (P : L2.St → Hp → Prop) (h : ∀ N : L2.St → Hp → Prop, (∀ σ' H', P σ' H' → N σ' H') → tIfS t ta tb { D with nx := N } σ H) (q : ∀ σ' H', P σ' H' → D.nx σ' H') : tIfS t ta tb D σ H := h D.nx q
theorem LR_at {r : Int} (h0 : 0 ≤ r) (h1 : r < 2) : ∃ t : Bool, atI ("LR" : Str).cps.toList r = some (sg t) := by
  have c : r = 0 ∨ r = 1 := by omega
  rcases c with rfl | rfl
  · exact ⟨false, by decide +kernel⟩
  · exact ⟨true, by decide +kernel⟩
end Lr
namespace Lr
open PySem PySem.Spec PyProof.Rows L2
theorem shw_rd {w : List Bool} (h : w.length ≤ 8000) : Shw (.str (rd w)) := by
  refine ⟨rfl, rfl, by show (0 : Nat) ≤ 60; omega, ?_, ?_⟩
  · show ((rd w).cps.toList.all fun c => decide (c < 16 ^ 8)) = true
    rw [rd_cps, List.all_map, List.all_eq_true]
    intro t _
    cases t <;> decide
  · show (rd w).cps.size ≤ 8000
    exact Nat.le_trans (Nat.le_of_eq (rd_len w)) h
theorem shw_pair {f l : List Bool} (h1 : f.length ≤ 3000) (h2 : l.length ≤ 3000) : Shw (pairD f l) := by
  have a := shw_rd (w := f) (by omega)
  have b := shw_rd (w := l) (by omega)
  refine ⟨rfl, rfl, ?_, ?_, ?_⟩
  · show max 0 (max 0 0) + 1 ≤ 60
    decide
  · show (PyData.leavesShort 2000 (.str (rd f)) && (PyData.leavesShort 2000 (.str (rd l)) && true)) = true
    rw [a.lv, b.lv]
    rfl
  · show (rd f).cps.size + 1 + ((rd l).cps.size + 1 + 0) ≤ 8000
    have e1 : (rd f).cps.size = f.length := rd_len f
    have e2 : (rd l).cps.size = l.length := rd_len l
    omega
/-- first turns -/
theorem take_sq {f l g m : List Bool} (hl : l ≠ []) (hm : m ≠ []) (e : sq f l = sq g m) (k : Nat) : (f ++ repR l k).take k = (g ++ repR m k).take k := by
  have len : ∀ (f l : List Bool), l ≠ [] → k ≤ (f ++ repR l k).length := fun f l hl => by
    have p := List.length_pos_iff.mpr hl
    rw [List.length_append, repR_len]
    have : k * 1 ≤ k * l.length := Nat.mul_le_mul_left k p
    omega
  refine List.ext_getElem? fun i => ?_
  by_cases hi : i < k
  · rw [List.getElem?_take_of_lt hi, List.getElem?_take_of_lt hi, sq_take f l hl (by omega), sq_take g m hm (by omega), e]
  · rw [List.getElem?_eq_none (by rw [List.length_take]; omega), List.getElem?_eq_none (by rw [List.length_take]; omega)]
end Lr

set_option exponentiation.threshold 5000
namespace Lr
open PySem PySem.Spec PyProof.Rows L2
/-- so many first turns -/
def ft (f l : List Bool) (n : Nat) : List Bool := (f ++ repR l n).take n
theorem sq_any {f l : List Bool} {r i : Nat} (h : i < f.length + r * l.length) : (f ++ repR l r)[i]? = sq f l i := by
  unfold sq
  split
  · rename_i hi
    rw [List.getElem?_append_left hi]
  · rename_i hi
    rw [List.getElem?_append_right (by omega), repR_at (by omega)]
theorem ft_any {f l : List Bool} {r n : Nat} (hl : l ≠ []) (h : n ≤ f.length + r * l.length) : (f ++ repR l r).take n = ft f l n := by
  have p := List.length_pos_iff.mpr hl
  have q : n * 1 ≤ n * l.length := Nat.mul_le_mul_left n p
  unfold ft
  refine List.ext_getElem? fun i => ?_
  by_cases hi : i < n
  · rw [List.getElem?_take_of_lt hi, List.getElem?_take_of_lt hi, sq_any (by omega), sq_any (by omega)]
  · rw [List.getElem?_eq_none (by rw [List.length_take]; omega), List.getElem?_eq_none (by rw [List.length_take]; omega)]
theorem ft_len {f l : List Bool} (hl : l ≠ []) (n : Nat) : (ft f l n).length = n := by
  have p := List.length_pos_iff.mpr hl
  have q : n * 1 ≤ n * l.length := Nat.mul_le_mul_left n p
  unfold ft
  rw [List.length_take, List.length_append, repR_len]
  omega
theorem ft_at {f l : List Bool} (hl : l ≠ []) {n i : Nat} (hi : i < n) : (ft f l n)[i]? = sq f l i := by
  have p := List.length_pos_iff.mpr hl
  have q : n * 1 ≤ n * l.length := Nat.mul_le_mul_left n p
  unfold ft
  rw [List.getElem?_take_of_lt hi, sq_any (by omega)]
theorem ft_take {f l : List Bool} (hl : l ≠ []) {n k : Nat} (h : n ≤ k) : (ft f l k).take n = ft f l n := by
  refine List.ext_getElem? fun i => ?_
  by_cases hi : i < n
  · rw [List.getElem?_take_of_lt hi, ft_at hl (by omega), ft_at hl hi]
  · rw [List.getElem?_eq_none (by rw [List.length_take]; omega), List.getElem?_eq_none (by rw [ft_len hl]; omega)]
theorem ft_eq {f l g m : List Bool} (hl : l ≠ []) (hm : m ≠ []) {n : Nat} : ft f l n = ft g m n ↔ ∀ i, i < n → sq f l i = sq g m i := by
  constructor
  · intro e i hi
    rw [← ft_at hl hi, e, ft_at hm hi]
  · intro h
    refine List.ext_getElem? fun i => ?_
    by_cases hi : i < n
    · rw [ft_at hl hi, ft_at hm hi, h i hi]
    · rw [List.getElem?_eq_none (by rw [ft_len hl]; omega), List.getElem?_eq_none (by rw [ft_len hm]; omega)]
theorem sq_per {f l : List Bool} (hl : l ≠ []) {i : Nat} (h : f.length ≤ i) : sq f l (i + l.length) = sq f l i := by
  unfold sq
  rw [if_neg (by omega), if_neg (by omega), show i + l.length - f.length = i - f.length + l.length by omega, Nat.add_mod_right]
/-- two rings that agree for as many turns as both have agree for ever -/
theorem agree_all {f l g m : List Bool} (hl : l ≠ []) (hm : m ≠ []) {M : Nat} (h1 : f.length ≤ M) (h2 : g.length ≤ M) (h : ∀ i, i < M + l.length + m.length → sq f l i = sq g m i) : ∀ i, sq f l i = sq g m i := by
  have p := List.length_pos_iff.mpr hl
  have q := List.length_pos_iff.mpr hm
  intro i
  induction i using Nat.strongRecOn with
  | ind i ih =>
    by_cases z : i < M + l.length + m.length
    · exact h i z
    · have e1 : sq f l i = sq f l (i - l.length) := by
        have := sq_per (f := f) hl (i := i - l.length) (by omega)
        rw [show i - l.length + l.length = i by omega] at this
        exact this
      have e2 : sq g m (i - l.length) = sq g m (i - l.length - m.length) := by
        have := sq_per (f := g) hm (i := i - l.length - m.length) (by omega)
        rw [show i - l.length - m.length + m.length = i - l.length by omega] at this
        exact this
      have e3 : sq f l (i - m.length) = sq f l (i - l.length - m.length) := by
        have := sq_per (f := f) hl (i := i - l.length - m.length) (by omega)
        rw [show i - l.length - m.length + l.length = i - m.length by omega] at this
        exact this
      have e4 : sq g m i = sq g m (i - m.length) := by
        have := sq_per (f := g) hm (i := i - m.length) (by omega)
        rw [show i - m.length + m.length = i by omega] at this
        exact this
      rw [e1, ih (i - l.length) (by omega), e2, ← ih (i - l.length - m.length) (by omega), ← e3, ih (i - m.length) (by omega), ← e4]
/-- the order of texts -/
def ltW (u v : List Bool) : Prop := u.map sg < v.map sg
instance (u v : List Bool) : Decidable (ltW u v) := inferInstanceAs (Decidable (u.map sg < v.map sg))
theorem lt_app {a b x y : List Nat} (h : a.length = b.length) (ne : a ≠ b) : a ++ x < b ++ y ↔ a < b := by
  induction a generalizing b with
  | nil =>
    cases b with
    | nil => exact absurd rfl ne
    | cons _ _ => cases h
  | cons c a ih =>
    cases b with
    | nil => cases h
    | cons d b =>
      have hl : a.length = b.length := Nat.succ.inj h
      rw [List.cons_append, List.cons_append, List.cons_lt_cons_iff, List.cons_lt_cons_iff]
      by_cases e : c = d
      · subst e
        have ne' : a ≠ b := fun z => ne (by rw [z])
        rw [ih hl ne']
      · constructor
        · rintro (z | z)
          · exact .inl z
          · exact absurd z.1 e
        · rintro (z | z)
          · exact .inl z
          · exact absurd z.1 e
theorem lt_irr (a : List Nat) : ¬ a < a := List.lt_irrefl a
theorem lt_asy {a b : List Nat} (h : a < b) : ¬ b < a := List.lt_asymm h
/-- the order of endless roads, by any number of turns that is enough -/
theorem ord_same {f l g m : List Bool} (hl : l ≠ []) (hm : m ≠ []) {M n k : Nat} (h1 : f.length ≤ M) (h2 : g.length ≤ M) (hn : M + l.length + m.length ≤ n) (hk : n ≤ k) : ltW (ft f l n) (ft g m n) ↔ ltW (ft f l k) (ft g m k) := by
  by_cases e : ft f l n = ft g m n
  · have all := agree_all hl hm h1 h2 fun i hi => (ft_eq hl hm).mp e i (by omega)
    have e2 : ft f l k = ft g m k := (ft_eq hl hm).mpr fun i _ => all i
    rw [e, e2]
    exact ⟨fun z => absurd z (lt_irr _), fun z => absurd z (lt_irr _)⟩
  · unfold ltW
    have d1 : ft f l k = ft f l n ++ (ft f l k).drop n := by rw [← ft_take hl hk, List.take_append_drop]
    have d2 : ft g m k = ft g m n ++ (ft g m k).drop n := by rw [← ft_take hm hk, List.take_append_drop]
    rw [d1, d2, List.map_append, List.map_append]
    refine (lt_app ?_ ?_).symm
    · rw [List.length_map, List.length_map, ft_len hl, ft_len hm]
    · intro z
      exact e (List.map_inj_right (fun a b => sg_inj) |>.mp z)
/-- -1, 0 or 1 -/
def ordW (u v : List Bool) : Int := if ltW u v then -1 else if ltW v u then 1 else 0
theorem ordW_int (u v : List Bool) : (if decide (ltW v u) = true then (1 : Int) else 0) - (if decide (ltW u v) = true then 1 else 0) = ordW u v := by
  unfold ordW
  by_cases h1 : ltW u v
  · have h2 : ¬ ltW v u := lt_asy h1
    rw [if_pos h1, decide_eq_true h1, decide_eq_false h2]
    rfl
  · rw [if_neg h1, decide_eq_false h1]
    by_cases h2 : ltW v u
    · rw [if_pos h2, decide_eq_true h2]
      rfl
    · rw [if_neg h2, decide_eq_false h2]
      rfl
theorem ordW_neg (u v : List Bool) : ordW v u = - ordW u v := by
  unfold ordW
  by_cases h1 : ltW u v
  · have h2 : ¬ ltW v u := lt_asy h1
    rw [if_pos h1, if_neg h2, if_pos h1]
    rfl
  · by_cases h2 : ltW v u
    · rw [if_pos h2, if_neg h1, if_pos h2]
    · rw [if_neg h2, if_neg h1, if_neg h1, if_neg h2]
      rfl
theorem ordW_sml (u v : List Bool) : Sml (ordW u v) := by
  unfold ordW
  split
  · show (1 : Nat) < 2 ^ 1900
    exact Nat.one_lt_two_pow (by decide)
  · split
    · show (1 : Nat) < 2 ^ 1900
      exact Nat.one_lt_two_pow (by decide)
    · exact Nat.pow_pos (by decide)
/-- both turns -/
def Both (w : List Bool) : Prop := false ∈ w ∧ true ∈ w
theorem in_rd {t : Bool} {w : List Bool} : sg t ∈ (rd w).cps.toList ↔ t ∈ w := by
  rw [rd_cps]
  constructor
  · intro h
    obtain ⟨u, hu, e⟩ := List.mem_map.mp h
    rw [sg_inj e] at hu
    exact hu
  · exact fun h => List.mem_map.mpr ⟨t, h, rfl⟩
theorem Both.ne {w : List Bool} (h : Both w) : w ≠ [] := fun z => by
  rw [z] at h
  exact absurd h.1 List.not_mem_nil
theorem str_L : ("L" : Str) = ⟨#[sg false]⟩ := by decide +kernel
theorem str_R : ("R" : Str) = ⟨#[sg true]⟩ := by decide +kernel
end Lr

set_option exponentiation.threshold 5000
namespace Lr
open PySem PySem.Spec PyProof.Rows L2
/-! squares of courses -/
def M4.adj (m : M4) : M4 := ⟨m.d, -m.b, -m.c, m.a⟩
/-- around the ring, moved to the beginning -/
def arnd (f w : List Bool) : M4 := ((mat f).mul (mat w)).mul (mat f).adj
/-- the three integers of a square, whatever divides them -/
structure T3 where
  (x y z : Int)
@[ext] theorem T3.ext' {s t : T3} (h1 : s.x = t.x) (h2 : s.y = t.y) (h3 : s.z = t.z) : s = t := by
  cases s; cases t; simp_all
def T3.l (t : T3) : List Int := [t.x, t.y, t.z]
def T3.sc (k : Int) (t : T3) : T3 := ⟨k * t.x, k * t.y, k * t.z⟩
def M4.tr3 (m : M4) : T3 := ⟨m.c, m.d - m.a, -m.b⟩
theorem adj_mul (m : M4) (h : m.det = 1) : m.adj.mul m = M4.one := by
  unfold M4.det at h
  unfold M4.adj M4.mul M4.one
  refine M4.ext ?_ ?_ ?_ ?_ <;> simp only [Int.neg_mul]
  · rw [Int.mul_comm m.d m.a]
    omega
  · rw [Int.mul_comm m.d m.b]
    omega
  · rw [Int.mul_comm m.c m.a]
    omega
  · rw [Int.mul_comm m.c m.b]
    omega
theorem mul_adj (m : M4) (h : m.det = 1) : m.mul m.adj = M4.one := by
  unfold M4.det at h
  unfold M4.adj M4.mul M4.one
  refine M4.ext ?_ ?_ ?_ ?_ <;> simp only [Int.mul_neg]
  · omega
  · rw [Int.mul_comm m.b m.a]
    omega
  · rw [Int.mul_comm m.d m.c]
    omega
  · rw [Int.mul_comm m.d m.a, Int.mul_comm m.c m.b]
    omega
theorem adj_prod (m n : M4) : (m.mul n).adj = n.adj.mul m.adj := by
  unfold M4.adj M4.mul
  refine M4.ext ?_ ?_ ?_ ?_ <;> simp only [Int.mul_neg, Int.neg_mul, Int.neg_neg]
  · rw [Int.mul_comm m.c n.b, Int.mul_comm m.d n.d]
    omega
  · rw [Int.mul_comm m.a n.b, Int.mul_comm m.b n.d]
    omega
  · rw [Int.mul_comm m.c n.a, Int.mul_comm m.d n.c]
    omega
  · rw [Int.mul_comm m.a n.a, Int.mul_comm m.b n.c]
    omega
def M4.tra (m : M4) : Int := m.a + m.d
theorem tra_comm (m n : M4) : (m.mul n).tra = (n.mul m).tra := by
  unfold M4.tra M4.mul
  show m.a * n.a + m.b * n.c + (m.c * n.b + m.d * n.d) = n.a * m.a + n.b * m.c + (n.c * m.b + n.d * m.d)
  rw [Int.mul_comm m.a, Int.mul_comm m.b, Int.mul_comm m.c, Int.mul_comm m.d]
  omega
theorem arnd_tra (f w : List Bool) : (arnd f w).tra = (mat w).tra := by
  unfold arnd
  rw [tra_comm, ← M4.mul_assoc, adj_mul _ (mat_det f), M4.one_mul]
theorem adj_det (m : M4) : m.adj.det = m.det := by
  unfold M4.adj M4.det
  simp only [Int.neg_mul_neg]
  rw [Int.mul_comm m.d, Int.mul_comm m.b]
theorem arnd_det (f w : List Bool) : (arnd f w).det = 1 := by
  unfold arnd
  rw [M4.det_mul, M4.det_mul, adj_det, mat_det, mat_det]
  rfl
/-- a turn of the ring that goes ahead -/
theorem arnd_on (f v : List Bool) (t : Bool) : arnd (f ++ [t]) (v ++ [t]) = arnd f (t :: v) := by
  unfold arnd
  rw [mat_app f [t], mat_app v [t], show t :: v = [t] ++ v from rfl, mat_app [t] v, adj_prod]
  generalize mat f = A
  generalize mat v = V
  have h := mat_det [t]
  generalize mat [t] = X at *
  calc ((A.mul X).mul (V.mul X)).mul (X.adj.mul A.adj) = ((A.mul (X.mul V)).mul (X.mul X.adj)).mul A.adj := by simp only [M4.mul_assoc]
    _ = (A.mul (X.mul V)).mul A.adj := by rw [mul_adj X h, M4.mul_one]
theorem arnd_twice (f w : List Bool) : arnd f (w ++ w) = (arnd f w).mul (arnd f w) := by
  unfold arnd
  rw [mat_app w w]
  have h := mat_det f
  generalize mat f = A at *
  generalize mat w = R
  calc (A.mul (R.mul R)).mul A.adj = ((A.mul R).mul (M4.one.mul R)).mul A.adj := by rw [M4.one_mul, M4.mul_assoc A R R]
    _ = ((A.mul R).mul ((A.adj.mul A).mul R)).mul A.adj := by rw [adj_mul A h]
    _ = ((A.mul R).mul A.adj).mul ((A.mul R).mul A.adj) := by simp only [M4.mul_assoc]
theorem arnd_ahead (u f w : List Bool) : arnd (u ++ f) w = ((mat u).mul (arnd f w)).mul (mat u).adj := by
  unfold arnd
  rw [mat_app, adj_prod]
  simp only [M4.mul_assoc]
theorem sq_tr3 (m : M4) : (m.mul m).tr3 = m.tr3.sc m.tra := by
  unfold M4.tr3 M4.mul T3.sc M4.tra
  refine T3.ext' ?_ ?_ ?_
  · show m.c * m.a + m.d * m.c = (m.a + m.d) * m.c
    rw [Int.add_mul, Int.mul_comm m.c m.a]
  · show m.c * m.b + m.d * m.d - (m.a * m.a + m.b * m.c) = (m.a + m.d) * (m.d - m.a)
    rw [Int.add_mul, Int.mul_sub, Int.mul_sub, Int.mul_comm m.c m.b, Int.mul_comm m.d m.a]
    omega
  · show -(m.a * m.b + m.b * m.d) = (m.a + m.d) * -m.b
    rw [Int.mul_neg, Int.add_mul, Int.mul_comm m.b m.d]
/-- more, less -/
theorem tr3_R (m : M4) : (((mat [true]).mul m).mul (mat [true]).adj).tr3 = ⟨m.tr3.x, m.tr3.y - 2 * m.tr3.x, m.tr3.x - m.tr3.y + m.tr3.z⟩ := by
  have e : mat [true] = ⟨1, 1, 0, 1⟩ := rfl
  rw [e]
  unfold M4.tr3 M4.mul M4.adj
  refine T3.ext' ?_ ?_ ?_ <;> simp <;> omega
theorem tr3_L (m : M4) : (((mat [false]).mul m).mul (mat [false]).adj).tr3 = ⟨m.tr3.x - m.tr3.y + m.tr3.z, m.tr3.y - 2 * m.tr3.z, m.tr3.z⟩ := by
  have e : mat [false] = ⟨1, 0, 1, 1⟩ := rfl
  rw [e]
  unfold M4.tr3 M4.mul M4.adj
  refine T3.ext' ?_ ?_ ?_ <;> simp <;> omega
/-- entries of a road with both turns -/
theorem mat_ge (w : List Bool) : 1 ≤ (mat w).a ∧ 1 ≤ (mat w).d ∧ (true ∈ w → 1 ≤ (mat w).b) ∧ (false ∈ w → 1 ≤ (mat w).c) := by
  induction w using snoc_ind with
  | h0 => exact ⟨by decide, by decide, fun h => absurd h List.not_mem_nil, fun h => absurd h List.not_mem_nil⟩
  | h1 l x ih =>
    obtain ⟨h1, h2, h3, h4⟩ := ih
    have nn := mat_nn l
    obtain ⟨n1, n2, n3, n4⟩ := nn
    rw [mat_snoc]
    cases x
    · refine ⟨by show 1 ≤ (mat l).a + (mat l).b; omega, h2, fun h => ?_, fun _ => by show 1 ≤ (mat l).c + (mat l).d; omega⟩
      simp at h
      exact h3 h
    · refine ⟨h1, by show 1 ≤ (mat l).c + (mat l).d; omega, fun _ => by show 1 ≤ (mat l).a + (mat l).b; omega, fun h => ?_⟩
      simp at h
      exact h4 h
theorem tra_both {w : List Bool} (h : Both w) : 3 ≤ (mat w).tra := by
  obtain ⟨h1, h2, h3, h4⟩ := mat_ge w
  have b := h3 h.2
  have c := h4 h.1
  have d := mat_det w
  unfold M4.det at d
  have p := Int.mul_pos (show 0 < (mat w).b by omega) (show 0 < (mat w).c by omega)
  unfold M4.tra
  by_cases z : (mat w).a + (mat w).d ≤ 2
  · have e1 : (mat w).a = 1 := by omega
    have e2 : (mat w).d = 1 := by omega
    rw [e1, e2] at d
    omega
  · omega
theorem arnd_ne {f w : List Bool} (h : Both w) : (arnd f w).tr3.x ≠ 0 := by
  intro z
  have z : (arnd f w).c = 0 := z
  have d := arnd_det f w
  have t := tra_both h
  rw [← arnd_tra f w] at t
  unfold M4.det at d
  unfold M4.tra at t
  rw [z, Int.mul_zero, Int.sub_zero] at d
  generalize (arnd f w).a = a at *
  generalize (arnd f w).d = e at *
  have u : a.natAbs * e.natAbs = 1 := by rw [← Int.natAbs_mul, d]; rfl
  have u1 := Nat.eq_one_of_mul_eq_one_right u
  have u2 := Nat.eq_one_of_mul_eq_one_left u
  omega
/-- the square without a common divisor, the first integer above 0 -/
def Nsq (t d : T3) : Prop := ∃ k : Int, k ≠ 0 ∧ t = d.sc k ∧ gl d.l = 1 ∧ 0 < d.x
theorem gl_sc (k : Int) (d : T3) : gl (d.sc k).l = k.natAbs * gl d.l := by
  show Nat.gcd (Nat.gcd (Nat.gcd 0 (k * d.x).natAbs) (k * d.y).natAbs) (k * d.z).natAbs = k.natAbs * Nat.gcd (Nat.gcd (Nat.gcd 0 d.x.natAbs) d.y.natAbs) d.z.natAbs
  simp only [Nat.gcd_zero_left, Int.natAbs_mul, Nat.gcd_mul_left]
theorem Nsq.eq {t d e : T3} (h : Nsq t d) (k : Nsq t e) : d = e := by
  obtain ⟨i, i0, hi, gi, pi⟩ := h
  obtain ⟨j, j0, hj, gj, pj⟩ := k
  have g := congrArg (fun z => gl (T3.l z)) (hi.symm.trans hj)
  simp only [gl_sc, gi, gj, Nat.mul_one] at g
  have ex : i * d.x = j * e.x := congrArg T3.x (hi.symm.trans hj)
  have ey : i * d.y = j * e.y := congrArg T3.y (hi.symm.trans hj)
  have ez : i * d.z = j * e.z := congrArg T3.z (hi.symm.trans hj)
  have ij : i = j := by
    rcases Int.natAbs_eq_natAbs_iff.mp g with z | z
    · exact z
    · exfalso
      rw [z, Int.neg_mul] at ex
      rcases Int.lt_trichotomy j 0 with s | s | s
      · have := Int.mul_neg_of_neg_of_pos s pi
        have := Int.mul_neg_of_neg_of_pos s pj
        omega
      · exact j0 s
      · have := Int.mul_pos s pi
        have := Int.mul_pos s pj
        omega
  subst ij
  exact T3.ext' (Int.eq_of_mul_eq_mul_left i0 ex) (Int.eq_of_mul_eq_mul_left i0 ey) (Int.eq_of_mul_eq_mul_left i0 ez)
theorem sc_sc (i j : Int) (d : T3) : (d.sc j).sc i = d.sc (i * j) := by
  unfold T3.sc
  simp only [Int.mul_assoc]
theorem Nsq.scale {t d : T3} {k : Int} (h : Nsq t d) (hk : k ≠ 0) : Nsq (t.sc k) d := by
  obtain ⟨i, i0, hi, gi, pi⟩ := h
  exact ⟨k * i, Int.mul_ne_zero hk i0, by rw [hi, sc_sc], gi, pi⟩
/-- unimodular changes of a square -/
def T3.up (t : T3) : T3 := ⟨t.x, t.y - 2 * t.x, t.x - t.y + t.z⟩
def T3.dn (t : T3) : T3 := ⟨t.x - t.y + t.z, t.y - 2 * t.z, t.z⟩
theorem up_dvd (t : T3) : gl t.up.l = gl t.l := by
  refine Nat.dvd_antisymm (gl_of_dvd _ _ fun x hx => ?_) (gl_of_dvd _ _ fun x hx => ?_)
  · have g := gl_dvd t.up.l
    have g1 : ((gl t.up.l : Nat) : Int) ∣ t.x := g t.x (by simp [T3.l, T3.up])
    have g2 : ((gl t.up.l : Nat) : Int) ∣ t.y - 2 * t.x := g _ (by simp [T3.l, T3.up])
    have g3 : ((gl t.up.l : Nat) : Int) ∣ t.x - t.y + t.z := g _ (by simp [T3.l, T3.up])
    have g4 : ((gl t.up.l : Nat) : Int) ∣ t.y := by
      have := Int.dvd_add g2 (Int.dvd_mul_of_dvd_right (b := 2) g1)
      rw [show t.y - 2 * t.x + 2 * t.x = t.y by omega] at this
      exact this
    have g5 : ((gl t.up.l : Nat) : Int) ∣ t.z := by
      have := Int.dvd_add (Int.dvd_sub g3 g1) g4
      rw [show t.x - t.y + t.z - t.x + t.y = t.z by omega] at this
      exact this
    simp only [T3.l, List.mem_cons, List.not_mem_nil, or_false] at hx
    rcases hx with rfl | rfl | rfl
    · exact g1
    · exact g4
    · exact g5
  · have g := gl_dvd t.l
    have g1 : ((gl t.l : Nat) : Int) ∣ t.x := g t.x (by simp [T3.l])
    have g2 : ((gl t.l : Nat) : Int) ∣ t.y := g t.y (by simp [T3.l])
    have g3 : ((gl t.l : Nat) : Int) ∣ t.z := g t.z (by simp [T3.l])
    simp only [T3.l, T3.up, List.mem_cons, List.not_mem_nil, or_false] at hx
    rcases hx with rfl | rfl | rfl
    · exact g1
    · exact Int.dvd_sub g2 (Int.dvd_mul_of_dvd_right g1)
    · exact Int.dvd_add (Int.dvd_sub g1 g2) g3
theorem rev_gl (t : T3) : gl (T3.mk t.z t.y t.x).l = gl t.l := by
  refine Nat.dvd_antisymm (gl_of_dvd _ _ fun x hx => gl_dvd _ x ?_) (gl_of_dvd _ _ fun x hx => gl_dvd _ x ?_)
  · simp only [T3.l, List.mem_cons, List.not_mem_nil, or_false] at hx ⊢
    rcases hx with rfl | rfl | rfl
    · exact .inr (.inr rfl)
    · exact .inr (.inl rfl)
    · exact .inl rfl
  · simp only [T3.l, List.mem_cons, List.not_mem_nil, or_false] at hx ⊢
    rcases hx with rfl | rfl | rfl
    · exact .inr (.inr rfl)
    · exact .inr (.inl rfl)
    · exact .inl rfl
theorem dn_dvd (t : T3) : gl t.dn.l = gl t.l := by
  have e : t.dn = T3.mk (T3.mk t.z t.y t.x).up.z (T3.mk t.z t.y t.x).up.y (T3.mk t.z t.y t.x).up.x := by
    unfold T3.dn T3.up
    refine T3.ext' ?_ rfl rfl
    show t.x - t.y + t.z = t.z - t.y + t.x
    omega
  rw [e, rev_gl, up_dvd, rev_gl]
/-- it is made by dividing -/
theorem nsq_div {t : T3} {s : Int} (hx : t.x ≠ 0) (hs : s = 1 ∧ 0 < t.x ∨ s = -1 ∧ t.x < 0) : Nsq t ⟨s * (t.x / (gl t.l : Int)), s * (t.y / (gl t.l : Int)), s * (t.z / (gl t.l : Int))⟩ := by
  have gp : 0 < gl t.l := gl_pos (x := t.x) (by simp [T3.l]) hx
  have d1 := Int.mul_ediv_cancel' (gl_dvd t.l t.x (by simp [T3.l]))
  have d2 := Int.mul_ediv_cancel' (gl_dvd t.l t.y (by simp [T3.l]))
  have d3 := Int.mul_ediv_cancel' (gl_dvd t.l t.z (by simp [T3.l]))
  have gg := lowl_gl gp
  have el : lowl t.l = (T3.mk (t.x / (gl t.l : Int)) (t.y / (gl t.l : Int)) (t.z / (gl t.l : Int))).l := rfl
  rw [el] at gg
  generalize t.x / (gl t.l : Int) = X at *
  generalize t.y / (gl t.l : Int) = Y at *
  generalize t.z / (gl t.l : Int) = Z at *
  have es : (T3.mk (s * X) (s * Y) (s * Z)) = (T3.mk X Y Z).sc s := rfl
  have sn : s.natAbs = 1 := by rcases hs with ⟨h, _⟩ | ⟨h, _⟩ <;> rw [h] <;> rfl
  have ss : s * s = 1 := by rcases hs with ⟨h, _⟩ | ⟨h, _⟩ <;> rw [h] <;> rfl
  refine ⟨s * (gl t.l : Int), ?_, ?_, ?_, ?_⟩
  · refine Int.mul_ne_zero ?_ (by omega)
    rcases hs with ⟨h, _⟩ | ⟨h, _⟩ <;> rw [h] <;> decide
  · rw [es, sc_sc]
    have e1 : s * (gl t.l : Int) * s = (gl t.l : Int) := by rw [Int.mul_comm s, Int.mul_assoc, ss, Int.mul_one]
    rw [e1]
    exact T3.ext' d1.symm d2.symm d3.symm
  · rw [es, gl_sc, sn, gg]
  · show 0 < s * X
    have gi : (0 : Int) < (gl t.l : Int) := by omega
    rcases hs with ⟨h, p⟩ | ⟨h, p⟩
    · rw [h, Int.one_mul]
      rw [← d1] at p
      refine Int.not_le.mp fun z => ?_
      have := Int.mul_nonneg (Int.le_of_lt gi) (show 0 ≤ -X by omega)
      rw [Int.mul_neg] at this
      omega
    · rw [h]
      rw [← d1] at p
      have : X < 0 := by
        refine Int.not_le.mp fun z => ?_
        have := Int.mul_nonneg (Int.le_of_lt gi) z
        omega
      omega
end Lr
namespace Lr
open PySem PySem.Spec PyProof.Rows L2
theorem nsq_sign {t e : T3} {k : Int} (hk : k ≠ 0) (ht : t = e.sc k) (ge : gl e.l = 1) (ex : e.x ≠ 0) : Nsq t (if e.x < 0 then e.sc (-1) else e) := by
  by_cases h : e.x < 0
  · rw [if_pos h]
    refine ⟨-k, by omega, ?_, by rw [gl_sc, ge]; rfl, ?_⟩
    · rw [sc_sc, ht, Int.neg_mul_neg, Int.mul_one]
    · show 0 < -1 * e.x
      omega
  · rw [if_neg h]
    exact ⟨k, hk, ht, ge, by omega⟩
theorem up_sc (k : Int) (d : T3) : (d.sc k).up = d.up.sc k := by
  unfold T3.up T3.sc
  refine T3.ext' rfl ?_ ?_
  · show k * d.y - 2 * (k * d.x) = k * (d.y - 2 * d.x)
    rw [Int.mul_sub, Int.mul_left_comm]
  · show k * d.x - k * d.y + k * d.z = k * (d.x - d.y + d.z)
    rw [Int.mul_add, Int.mul_sub]
theorem dn_sc (k : Int) (d : T3) : (d.sc k).dn = d.dn.sc k := by
  unfold T3.dn T3.sc
  refine T3.ext' ?_ ?_ rfl
  · show k * d.x - k * d.y + k * d.z = k * (d.x - d.y + d.z)
    rw [Int.mul_add, Int.mul_sub]
  · show k * d.y - 2 * (k * d.z) = k * (d.y - 2 * d.z)
    rw [Int.mul_sub, Int.mul_left_comm]
def sgn3 (e : T3) : T3 := if e.x < 0 then e.sc (-1) else e
/-- a turn R or L ahead -/
theorem nsq_R {f w : List Bool} {d : T3} (hb : Both w) (h : Nsq (arnd f w).tr3 d) : Nsq (arnd (true :: f) w).tr3 (sgn3 d.up) := by
  obtain ⟨k, k0, hk, gd, dx⟩ := h
  have e : (arnd (true :: f) w).tr3 = d.up.sc k := by
    rw [show true :: f = [true] ++ f from rfl, arnd_ahead, tr3_R, ← up_sc, ← hk]
    rfl
  refine nsq_sign k0 e (by rw [up_dvd, gd]) fun z => arnd_ne (f := true :: f) hb ?_
  rw [e]
  show k * d.up.x = 0
  rw [z, Int.mul_zero]
theorem nsq_L {f w : List Bool} {d : T3} (hb : Both w) (h : Nsq (arnd f w).tr3 d) : Nsq (arnd (false :: f) w).tr3 (sgn3 d.dn) := by
  obtain ⟨k, k0, hk, gd, dx⟩ := h
  have e : (arnd (false :: f) w).tr3 = d.dn.sc k := by
    rw [show false :: f = [false] ++ f from rfl, arnd_ahead, tr3_L, ← dn_sc, ← hk]
    rfl
  refine nsq_sign k0 e (by rw [dn_dvd, gd]) fun z => arnd_ne (f := false :: f) hb ?_
  rw [e]
  show k * d.dn.x = 0
  rw [z, Int.mul_zero]
theorem arnd_bd {f w : List Bool} (hf : f.length ≤ 70) (hw : w.length ≤ 20) : (∀ i ∈ (mat f).l, Bd 200 i) ∧ (∀ i ∈ (mat w).l, Bd 200 i) ∧ (∀ i ∈ ((mat f).mul (mat w)).l, Bd 200 i) ∧ (∀ i ∈ (mat f).adj.l, Bd 200 i) ∧ (∀ i ∈ (arnd f w).l, Bd 200 i) := by
  have b1 := bd_mat hf
  have b2 := bd_mat hw
  have mb : ∀ {m n : M4} {j k : Nat}, (∀ i ∈ m.l, Bd j i) → (∀ i ∈ n.l, Bd k i) → ∀ i ∈ (m.mul n).l, Bd (j + k + 1) i := fun {m n j k} hm hn i hi => by
    have ba := hm m.a (by simp [M4.l])
    have bb := hm m.b (by simp [M4.l])
    have bc := hm m.c (by simp [M4.l])
    have bd := hm m.d (by simp [M4.l])
    have ca := hn n.a (by simp [M4.l])
    have cb := hn n.b (by simp [M4.l])
    have cc := hn n.c (by simp [M4.l])
    have cd := hn n.d (by simp [M4.l])
    simp only [M4.l, M4.mul, List.mem_cons, List.not_mem_nil, or_false] at hi
    rcases hi with rfl | rfl | rfl | rfl
    · exact (ba.mul ca).add (bb.mul cc)
    · exact (ba.mul cb).add (bb.mul cd)
    · exact (bc.mul ca).add (bd.mul cc)
    · exact (bc.mul cb).add (bd.mul cd)
  have b3 := mb b1 b2
  have b4 : ∀ i ∈ (mat f).adj.l, Bd (70 + 1) i := fun i hi => by
    simp only [M4.l, M4.adj, List.mem_cons, List.not_mem_nil, or_false] at hi
    have ng : ∀ {x : Int}, Bd (70 + 1) x → Bd (70 + 1) (-x) := fun {x} h => by
      unfold Bd at *
      rw [Int.natAbs_neg]
      exact h
    rcases hi with rfl | rfl | rfl | rfl
    · exact b1 _ (by simp [M4.l])
    · exact ng (b1 _ (by simp [M4.l]))
    · exact ng (b1 _ (by simp [M4.l]))
    · exact b1 _ (by simp [M4.l])
  have b5 := mb b3 b4
  exact ⟨fun i hi => (b1 i hi).up (by decide), fun i hi => (b2 i hi).up (by decide), fun i hi => (b3 i hi).up (by decide), fun i hi => (b4 i hi).up (by decide), fun i hi => (b5 i hi).up (by decide)⟩
end Lr
namespace Lr
open PySem PySem.Spec PyProof.Rows L2
theorem arnd_gl (f w : List Bool) : gl (arnd f w).tr3.l = gl (mat w).tr3.l := by
  induction f with
  | nil =>
    have e : arnd [] w = mat w := by
      unfold arnd
      rw [show mat [] = M4.one from rfl, M4.one_mul, show M4.one.adj = M4.one from rfl, M4.mul_one]
    rw [e]
  | cons t f ih =>
    cases t
    · rw [show false :: f = [false] ++ f from rfl, arnd_ahead, tr3_L, ← ih]
      exact dn_dvd _
    · rw [show true :: f = [true] ++ f from rfl, arnd_ahead, tr3_R, ← ih]
      exact up_dvd _
theorem arnd_gl_lt {f w : List Bool} (hw : w.length ≤ 20) (hb : Both w) : gl (arnd f w).tr3.l < 2 ^ 22 := by
  rw [arnd_gl]
  have c := (mat_ge w).2.2.2 hb.1
  have le := gl_le (l := (mat w).tr3.l) (x := (mat w).c) (by simp [T3.l, M4.tr3]) (by omega)
  have b := bd_mat hw (mat w).c (by simp [M4.l])
  unfold Bd at b
  omega
theorem fdiv_neg_of {x g : Int} (h : g ∣ x) : x.fdiv (-g) = -1 * (x / g) := by
  rw [Int.fdiv_eq_ediv_of_dvd (Int.neg_dvd.mpr h), Int.ediv_neg]
  omega
end Lr
namespace Lr
open PySem PySem.Spec PyProof.Rows L2
theorem sq_on (f w : List Bool) (t : Bool) : sq (f ++ [t]) (w ++ [t]) = sq f (t :: w) := by
  have := sq_stp (f ++ [t], w ++ [t])
  rw [stp_snoc] at this
  exact this.symm
theorem sq_twice {f w : List Bool} (h : w ≠ []) : sq f (w ++ w) = sq f w := by
  have p := List.length_pos_iff.mpr h
  funext i
  unfold sq
  split
  · rfl
  · rw [List.length_append]
    have hm := Nat.mod_lt (i - f.length) (show 0 < w.length + w.length by omega)
    have e : (i - f.length) % (w.length + w.length) % w.length = (i - f.length) % w.length := Nat.mod_mod_of_dvd _ ⟨2, by omega⟩
    generalize (i - f.length) % (w.length + w.length) = k at *
    rw [← e]
    by_cases h1 : k < w.length
    · rw [List.getElem?_append_left h1, Nat.mod_eq_of_lt h1]
    · rw [List.getElem?_append_right (by omega), Nat.mod_eq_sub_mod (by omega), Nat.mod_eq_of_lt (by omega)]
/-- one course told in two ways -/
def Told (g m f w : List Bool) : Prop := sq g m = sq f w ∧ ∃ k : Int, 0 < k ∧ (arnd g m).tr3 = (arnd f w).tr3.sc k
theorem Told.refl (f w : List Bool) : Told f w f w := ⟨rfl, 1, by decide, by unfold T3.sc; simp only [Int.one_mul]⟩
theorem Told.on {g v f w : List Bool} {t : Bool} (h : Told g (t :: v) f w) : Told (g ++ [t]) (v ++ [t]) f w := by
  obtain ⟨e, k, k0, ek⟩ := h
  exact ⟨by rw [sq_on, e], k, k0, by rw [arnd_on, ek]⟩
theorem Told.twice {g m f w : List Bool} (h : Told g m f w) (b : Both m) : Told g (m ++ m) f w := by
  obtain ⟨e, k, k0, ek⟩ := h
  have t := tra_both b
  refine ⟨by rw [sq_twice b.ne, e], (mat m).tra * k, Int.mul_pos (by omega) k0, ?_⟩
  rw [arnd_twice, sq_tr3, arnd_tra, ek, sc_sc]
theorem Told.nsq {g m f w : List Bool} {d : T3} (h : Told g m f w) (n : Nsq (arnd f w).tr3 d) : Nsq (arnd g m).tr3 d := by
  obtain ⟨_, k, k0, ek⟩ := h
  rw [ek]
  exact n.scale (by omega)
end Lr
namespace Lr
open PySem PySem.Spec PyProof.Rows L2
theorem nsq_bd {t d : T3} {j : Nat} (h : Nsq t d) (b : ∀ i ∈ t.l, Bd j i) : ∀ i ∈ d.l, Bd j i := by
  obtain ⟨k, k0, hk, _, _⟩ := h
  have key : ∀ x : Int, Bd j (k * x) → Bd j x := fun x hx => by
    unfold Bd at *
    rw [Int.natAbs_mul] at hx
    have : 1 * x.natAbs ≤ k.natAbs * x.natAbs := Nat.mul_le_mul_right _ (by omega)
    omega
  rw [hk] at b
  intro i hi
  simp only [T3.l, List.mem_cons, List.not_mem_nil, or_false] at hi
  rcases hi with rfl | rfl | rfl
  · exact key _ (b _ (by simp [T3.l, T3.sc]))
  · exact key _ (b _ (by simp [T3.l, T3.sc]))
  · exact key _ (b _ (by simp [T3.l, T3.sc]))
theorem tr3_bd {m : M4} {k : Nat} (h : ∀ i ∈ m.l, Bd k i) : ∀ i ∈ m.tr3.l, Bd (k + 1) i := by
  intro i hi
  simp only [T3.l, M4.tr3, List.mem_cons, List.not_mem_nil, or_false] at hi
  rcases hi with rfl | rfl | rfl
  · exact (h _ (by simp [M4.l])).up (by omega)
  · exact (h _ (by simp [M4.l])).sub (h _ (by simp [M4.l]))
  · have := h m.b (by simp [M4.l])
    unfold Bd at *
    rw [Int.natAbs_neg, Nat.pow_succ]
    omega
theorem sgn_neg {e : T3} (h : e.x < 0) : (sgn3 e).l = [-e.x, -e.y, -e.z] := by
  unfold sgn3
  rw [if_pos h]
  show [-1 * e.x, -1 * e.y, -1 * e.z] = _
  simp only [Int.neg_mul, Int.one_mul]
theorem sgn_pos {e : T3} (h : ¬ e.x < 0) : (sgn3 e).l = e.l := by
  unfold sgn3
  rw [if_neg h]
end Lr

set_option exponentiation.threshold 5000
namespace Lr
open PySem PySem.Spec PyProof.Rows L2
/-! texts that are no roads -/
def IsRd (t : Str) : Prop := ∃ w, t = rd w
/-- no road (0), no ring (1), no ring with both turns (2) -/
def OddT (p : Str × Nat) : Prop := ¬ IsRd p.1 ∨ (0 < p.2 ∧ p.1 = ("" : Str)) ∨ (1 < p.2 ∧ ¬ (76 ∈ p.1.cps.toList ∧ 82 ∈ p.1.cps.toList))
open Classical in
/-- the first odd one -/
noncomputable def Fo : List (Str × Nat) → Option Str
  | [] => none
  | p :: l => if OddT p then some p.1 else Fo l
theorem fo_yes {p : Str × Nat} {l : List (Str × Nat)} (h : OddT p) : Fo (p :: l) = some p.1 := by
  unfold Fo
  exact if_pos h
theorem fo_no {p : Str × Nat} {l : List (Str × Nat)} (h : ¬ OddT p) : Fo (p :: l) = Fo l := by
  conv => lhs; unfold Fo
  exact if_neg h
theorem fo_none {p : Str × Nat} {l : List (Str × Nat)} (h : Fo (p :: l) = none) : ¬ OddT p ∧ Fo l = none := by
  by_cases c : OddT p
  · rw [fo_yes c] at h
    cases h
  · exact ⟨c, by rw [fo_no c] at h; exact h⟩
theorem odd_0 {t : Str} : OddT (t, 0) ↔ ¬ IsRd t := ⟨fun h => by
  rcases h with h | h | h
  · exact h
  · exact absurd h.1 (by show ¬ 0 < 0; decide)
  · exact absurd h.1 (by show ¬ 1 < 0; decide), fun h => .inl h⟩
theorem rd_empty : ("" : Str) = rd [] := by decide +kernel
theorem rd_eq_empty {w : List Bool} : rd w = ("" : Str) ↔ w = [] := by
  rw [rd_empty]
  exact ⟨fun h => rd_inj h, fun h => by rw [h]⟩
theorem both_rd {w : List Bool} : (76 ∈ (rd w).cps.toList ∧ 82 ∈ (rd w).cps.toList) ↔ Both w := by
  rw [rd_cps]
  constructor
  · rintro ⟨h1, h2⟩
    obtain ⟨b, hb, e⟩ := List.mem_map.mp h1
    obtain ⟨c, hc, e2⟩ := List.mem_map.mp h2
    refine ⟨?_, ?_⟩
    · cases b
      · exact hb
      · exact absurd e (by decide)
    · cases c
      · exact absurd e2 (by decide)
      · exact hc
  · rintro ⟨h1, h2⟩
    exact ⟨List.mem_map.mpr ⟨_, h1, rfl⟩, List.mem_map.mpr ⟨_, h2, rfl⟩⟩
theorem odd_1 {w : List Bool} : OddT (rd w, 1) ↔ w = [] := ⟨fun h => by
  rcases h with h | h | h
  · exact absurd ⟨w, rfl⟩ h
  · exact rd_eq_empty.mp h.2
  · exact absurd h.1 (by show ¬ 1 < 1; decide), fun h => .inr (.inl ⟨by show 0 < 1; decide, rd_eq_empty.mpr h⟩)⟩
theorem odd_2 {w : List Bool} : OddT (rd w, 2) ↔ ¬ Both w := ⟨fun h => by
  rcases h with h | h | h
  · exact absurd ⟨w, rfl⟩ h
  · exact fun b => b.ne (rd_eq_empty.mp h.2)
  · exact fun b => h.2 (both_rd.mpr b), fun h => .inr (.inr ⟨by show 1 < 2; decide, fun b => h (both_rd.mp b)⟩)⟩
/-- an error with a value is raised -/
def Rs (K : PySem.W.Frag) (H : Hp) (E : XK) (x : Str) (v : V) : Prop := ∀ H1, Same H H1 → ∀ C d, PySem.W.nsIn K mainGlobals x = some (some (.ref C)) → H1 d = none → E (.ref C) (some d) (L2.upd H1 d (.xd [("value", v)]))
theorem Rs.same {K : PySem.W.Frag} {H H' : Hp} {E : XK} {x : Str} {v : V} (h : Rs K H E x v) (s : Same H H') : Rs K H' E x v := fun H1 s1 => h H1 (s.trans s1)
theorem Rs.now {K : PySem.W.Frag} {H : Hp} {E : XK} {x : Str} {v : V} (h : Rs K H E x v) {C d : Addr} (hC : PySem.W.nsIn K mainGlobals x = some (some (.ref C))) (hd : H d = none) : E (.ref C) (some d) (L2.upd H d (.xd [("value", v)])) := h H (L2.Same.refl H) C d hC hd
theorem isrd_of {t : Str} (h : ∀ x ∈ t.cps.toList, x = 76 ∨ x = 82) : IsRd t := by
  refine ⟨t.cps.toList.map fun x => decide (x = 82), str_ext ?_⟩
  rw [rd_cps, List.map_map]
  refine (List.map_id _).symm.trans (List.map_congr_left fun x hx => ?_)
  rcases h x hx with rfl | rfl <;> rfl
/-- signs that there are -/
def Sok (t : Str) : Prop := ∀ c ∈ t.cps.toList, c < 1114112
theorem rd_sok (w : List Bool) : Sok (rd w) := fun c hc => by
  rw [rd_cps] at hc
  obtain ⟨b, _, rfl⟩ := List.mem_map.mp hc
  cases b <;> decide
theorem app_sok {x y : Str} (hx : Sok x) (hy : Sok y) : Sok (x ++ y) := fun c hc => by
  have e : (x ++ y).cps.toList = x.cps.toList ++ y.cps.toList := by
    show (x.cps ++ y.cps).toList = _
    simp
  rw [e] at hc
  rcases List.mem_append.mp hc with h | h
  · exact hx c h
  · exact hy c h
/-- signs as texts -/
def sgT (c : Nat) : Str := ⟨#[c]⟩
def sgD (l : List Nat) : List PyData := l.map fun c => .str (sgT c)
theorem dp_sg {K : PySem.W.Frag} {H : Hp} : ∀ l : List Nat, DpAll K H (l.map fun c => V.str (sgT c)) (sgD l)
  | [] => .nil
  | c :: l => .cons (.str _) (dp_sg l)
theorem sg_lay : ∀ l : List Nat, (∀ c ∈ l, c < 1114112) → PyData.canLayAll0 (sgD l) = true ∧ PyData.depthAll (sgD l) = 0
  | [], _ => ⟨rfl, rfl⟩
  | c :: l, h => by
    obtain ⟨h1, h2⟩ := sg_lay l fun x hx => h x (List.mem_cons_of_mem _ hx)
    have hc := h c List.mem_cons_self
    constructor
    · show (PyData.strOk (sgT c) && PyData.canLayAll0 (sgD l)) = true
      rw [h1]
      have e : PyData.strOk (sgT c) = decide (c < 1114112) := by
        show (#[c] : Array Nat).all (fun x => decide (x < 0x110000)) = _
        simp
      rw [e, decide_eq_true hc]
      rfl
    · show max 0 (PyData.depthAll (sgD l)) = 0
      rw [h2]
      rfl
theorem sg_shaped {l : List Nat} (h : ∀ c ∈ l, c < 1114112) : SeqAt.shaped (.list (sgD l)) = true := by
  obtain ⟨h1, h2⟩ := sg_lay l h
  show (PyData.canLayAll0 (sgD l) && decide (PyData.depthAll (sgD l) + 1 ≤ 64)) = true
  rw [h1, h2]
  rfl
theorem sg_eqv (l : List Nat) : PyData.eqv (.list (sgD l)) (.list []) = decide (l = []) := by
  cases l with
  | nil => rfl
  | cons c l => rfl
def FracP (x y : Int) : Prop := 1 ≤ x ∧ 1 ≤ y ∧ Nat.gcd x.natAbs y.natAbs = 1
/-- the texts that a question is asked about, with what is wanted of them -/
def itemsV (way : Nat) (t0 t1 t2 t3 : Str) : List (Str × Nat) := match way with
  | 0 => [(t0, 0)]
  | 1 => []
  | 2 => [(t0, 0), (t1, 0)]
  | 3 => [(t0, 0), (t1, 1)]
  | 4 => [(t0, 0), (t1, 2), (t2, 0), (t3, 2)]
  | 5 => [(t0, 0), (t1, 1)]
  | _ => [(t0, 0), (t1, 2)]
open Classical in
/-- what is due: a rank and a value -/
noncomputable def dueV (way : Nat) (t0 t1 t2 t3 : Str) (p : Addr) (x y many : Int) : Option (Nat × V) := match Fo (itemsV way t0 t1 t2 t3) with
  | some t => some (0, .str t)
  | none => if way = 1 ∧ ¬ FracP x y then some (1, .ref p) else if way = 5 ∧ many < 0 then some (5, .int many) else none
/-- a list of texts that are looked at: tuples of a text and a number -/
def Parts (H : Hp) (L : Addr) (ps : List (Addr × Str × Nat)) : Prop := H L = some (.lst (ps.map fun p => .ref p.1)) ∧ ∀ p ∈ ps, H p.1 = some (.tup [.str p.2.1, .int (p.2.2 : Nat)])
theorem Parts.same {H H' : Hp} {L : Addr} {ps : List (Addr × Str × Nat)} (h : Parts H L ps) (s : Same H H') : Parts H' L ps := ⟨s _ _ h.1, fun p hp => s _ _ (h.2 p hp)⟩
theorem Parts.upd {H : Hp} {L M : Addr} {ps : List (Addr × Str × Nat)} {xs ys : List V} (h : Parts H L ps) (hM : H M = some (.lst xs)) (n : L ≠ M) : Parts (L2.upd H M (.lst ys)) L ps :=
  ⟨by rw [upd_ne n]; exact h.1, fun p hp => by
    rw [upd_ne]
    · exact h.2 p hp
    · intro z
      have := h.2 p hp
      rw [z, hM] at this
      cases this⟩
/-- the list that tells an odd text -/
def OddL (H : Hp) (r : Addr) : Option Str → Prop
  | none => H r = some (.lst [])
  | some t => H r = some (.lst [.str t])
/-- the list that tells what is due -/
def DueL (H : Hp) (r : Addr) : Option (Nat × V) → Prop
  | none => H r = some (.lst [])
  | some (k, v) => H r = some (.lst [.int (k : Nat), v])
theorem fo_mem : ∀ {l : List (Str × Nat)} {t : Str}, Fo l = some t → ∃ z ∈ l, z.1 = t
  | [], t, h => nomatch h
  | p :: l, t, h => by
    by_cases c : OddT p
    · rw [fo_yes c] at h
      exact ⟨p, List.mem_cons_self, Option.some.inj h⟩
    · rw [fo_no c] at h
      obtain ⟨z, hz, e⟩ := fo_mem h
      exact ⟨z, List.mem_cons_of_mem _ hz, e⟩
theorem str_ok {t : Str} (h : Sok t) : PyData.strOk t = true := by
  show t.cps.all (fun x => decide (x < 0x110000)) = true
  rw [Array.all_eq_true]
  intro i hi
  exact decide_eq_true (h _ (by simp))
theorem str_shaped {t : Str} (h : Sok t) : SeqAt.shaped (.list [.str t]) = true := by
  show ((PyData.strOk t && true) && decide (max 0 0 + 1 ≤ 64)) = true
  rw [str_ok h]
  rfl
/-- the class of a rank -/
def errN (k : Nat) : Str := match k with
  | 0 => "InvalidRoad"
  | 1 => "InvalidFraction"
  | _ => "InvalidNumber"
section
variable {way : Nat} {t0 t1 t2 t3 : Str} {p : Addr} {x y many : Int}
theorem due_odd {t : Str} (h : Fo (itemsV way t0 t1 t2 t3) = some t) : dueV way t0 t1 t2 t3 p x y many = some (0, .str t) := by
  unfold dueV
  rw [h]
theorem due_none (h : Fo (itemsV way t0 t1 t2 t3) = none) (h1 : ¬ (way = 1 ∧ ¬ FracP x y)) (h2 : ¬ (way = 5 ∧ many < 0)) : dueV way t0 t1 t2 t3 p x y many = none := by
  unfold dueV
  rw [h]
  exact (if_neg h1).trans (if_neg h2)
theorem due_frac (h : ¬ FracP x y) : dueV 1 t0 t1 t2 t3 p x y many = some (1, .ref p) := by
  unfold dueV
  exact if_pos ⟨rfl, h⟩
theorem due_num (h : Fo (itemsV 5 t0 t1 t2 t3) = none) (m : many < 0) : dueV 5 t0 t1 t2 t3 p x y many = some (5, .int many) := by
  unfold dueV
  rw [h]
  exact (if_neg (fun z => absurd z.1 (by decide))).trans (if_pos ⟨rfl, m⟩)
end
theorem shw_txt {t : Str} (h : Sok t) (l : t.length ≤ 8000) : Shw (.str t) := by
  refine ⟨rfl, rfl, (by show (0 : Nat) ≤ 60; omega), ?_, ?_⟩
  · show (t.cps.toList.all fun c => decide (c < 16 ^ 8)) = true
    exact List.all_eq_true.mpr fun c hc => decide_eq_true (Nat.lt_trans (h c hc) (by decide))
  · show t.cps.size ≤ 8000
    exact l
/-- where the ways of a statement meet -/
theorem meetSeq {t u : TS} {D : Ends} {σ : L2.St} {H : Hp} (P : L2.St → Hp → Prop) (h : ∀ N : L2.St → Hp → Prop, (∀ σ' H', P σ' H' → N σ' H') → t { D with nx := N } σ H) (q : ∀ σ' H', P σ' H' → u D σ' H') : tSeq t u D σ H := h (u D) q
theorem asgSeq {u : TS} {D : Ends} {σ : L2.St} {H : Hp} {v : V} {i : Nat} (h : u D (σ.set i (some v)) H) : tSeq (tAsg (tC v) (gName i)) u D σ H := h
theorem due_shaped {k : Int} {dat : PyData} (h : PyData.canLay0 dat = true ∧ dat.depth ≤ 60) : SeqAt.shaped (.list [.int k, dat]) = true := by
  show ((true && (PyData.canLay0 dat && true)) && decide (max 0 (max dat.depth 0) + 1 ≤ 64)) = true
  rw [h.1]
  have := h.2
  rw [decide_eq_true (by omega)]
  rfl
end Lr

set_option exponentiation.threshold 5000
namespace Lr
open PySem PySem.Spec PyProof.Rows L2
/-! spreads -/
def T3.disc (t : T3) : Int := t.y * t.y - 4 * t.x * t.z
theorem disc_sc (k : Int) (d : T3) : (d.sc k).disc = k * k * d.disc := by
  show k * d.y * (k * d.y) - 4 * (k * d.x) * (k * d.z) = k * k * (d.y * d.y - 4 * d.x * d.z)
  rw [Int.mul_sub]
  congr 1
  · simp only [Int.mul_assoc, Int.mul_left_comm]
  · simp only [Int.mul_assoc, Int.mul_left_comm]
theorem disc_tr3 (m : M4) : m.tr3.disc = m.tra * m.tra - 4 * m.det := by
  unfold T3.disc M4.tr3 M4.tra M4.det
  show (m.d - m.a) * (m.d - m.a) - 4 * m.c * -m.b = (m.a + m.d) * (m.a + m.d) - 4 * (m.a * m.d - m.b * m.c)
  rw [Int.sub_mul, Int.mul_sub, Int.mul_sub, Int.add_mul, Int.mul_add, Int.mul_add, Int.mul_neg, Int.mul_assoc 4, Int.mul_comm m.c m.b, Int.mul_comm m.d m.a]
  omega
/-- the spread times what divides it -/
theorem disc_w {f w : List Bool} {d : T3} (n : Nsq (arnd f w).tr3 d) : (gl (mat w).tr3.l : Int) * (gl (mat w).tr3.l : Int) * d.disc = (mat w).tra * (mat w).tra - 4 := by
  obtain ⟨k, k0, hk, gd, _⟩ := n
  have g : gl (arnd f w).tr3.l = k.natAbs := by rw [hk, gl_sc, gd, Nat.mul_one]
  rw [arnd_gl] at g
  have e := congrArg T3.disc hk
  rw [disc_tr3, disc_sc, arnd_tra, arnd_det] at e
  rw [g, Int.natAbs_mul_self' k, ← e]
  omega
theorem disc_pos {f w : List Bool} {d : T3} (b : Both w) (n : Nsq (arnd f w).tr3 d) : 1 ≤ d.disc ∧ ∀ s : Int, s * s ≠ d.disc := by
  have e := disc_w n
  have t := tra_both b
  generalize (mat w).tra = T at *
  generalize (gl (mat w).tr3.l : Int) = g at *
  have T9 : 3 * T ≤ T * T := Int.mul_le_mul_of_nonneg_right t (by omega)
  have gg : 0 ≤ g * g := by
    rcases Int.le_total 0 g with h | h
    · exact Int.mul_nonneg h h
    · have := Int.mul_nonneg (show 0 ≤ -g by omega) (show 0 ≤ -g by omega)
      rw [Int.neg_mul_neg] at this
      exact this
  constructor
  · refine Int.not_lt.mp fun z => ?_
    have := Int.mul_nonneg gg (show 0 ≤ -d.disc by omega)
    rw [Int.mul_neg] at this
    omega
  · intro s hs
    rw [← hs] at e
    have e2 : (g * s) * (g * s) = T * T - 4 := by
      rw [← e]
      simp only [Int.mul_assoc, Int.mul_left_comm]
    obtain ⟨u, u0, hu⟩ : ∃ u : Int, 0 ≤ u ∧ u * u = T * T - 4 := by
      rcases Int.le_total 0 (g * s) with h | h
      · exact ⟨_, h, e2⟩
      · exact ⟨-(g * s), by omega, by rw [Int.neg_mul_neg]; exact e2⟩
    by_cases h : u ≤ T - 1
    · have h1 : u * u ≤ (T - 1) * (T - 1) := Int.mul_le_mul h h u0 (by omega)
      rw [Int.sub_mul, Int.mul_sub] at h1
      omega
    · have h1 : T * T ≤ u * u := Int.mul_le_mul (by omega) (by omega) (by omega) u0
      omega
/-- one ring, or rings of one trace and one divisor -/
theorem disc_same {f w g m : List Bool} {d e : T3} (b : Both w) (n : Nsq (arnd f w).tr3 d) (k : Nsq (arnd g m).tr3 e) (ht : (mat m).tra = (mat w).tra) (hg : gl (mat m).tr3.l = gl (mat w).tr3.l) : e.disc = d.disc := by
  have e1 := disc_w n
  have e2 := disc_w k
  rw [ht, hg, ← e1] at e2
  have t := tra_both b
  have T9 : 3 * (mat w).tra ≤ (mat w).tra * (mat w).tra := Int.mul_le_mul_of_nonneg_right t (by omega)
  refine Int.eq_of_mul_eq_mul_left ?_ e2
  intro z
  rw [z, Int.zero_mul] at e1
  omega
theorem ring_on (v : List Bool) (t : Bool) : (mat (v ++ [t])).tra = (mat (t :: v)).tra ∧ gl (mat (v ++ [t])).tr3.l = gl (mat (t :: v)).tr3.l := by
  have e : arnd [t] (v ++ [t]) = arnd [] (t :: v) := arnd_on [] v t
  have e1 := arnd_tra [t] (v ++ [t])
  have e2 := arnd_gl [t] (v ++ [t])
  rw [e] at e1 e2
  exact ⟨by rw [← e1, arnd_tra], by rw [← e2, arnd_gl]⟩
theorem mat_not (w : List Bool) : mat (w.map not) = ⟨(mat w).d, (mat w).c, (mat w).b, (mat w).a⟩ := by
  induction w using snoc_ind with
  | h0 => rfl
  | h1 l x ih =>
    rw [List.map_append]
    show mat (l.map not ++ [!x]) = _
    rw [mat_snoc, ih, mat_snoc]
    cases x
    · refine M4.ext rfl ?_ rfl ?_
      · show (mat l).d + (mat l).c = (mat l).c + (mat l).d
        omega
      · show (mat l).b + (mat l).a = (mat l).a + (mat l).b
        omega
    · refine M4.ext ?_ rfl ?_ rfl
      · show (mat l).d + (mat l).c = (mat l).c + (mat l).d
        omega
      · show (mat l).b + (mat l).a = (mat l).a + (mat l).b
        omega
theorem ring_not (w : List Bool) : (mat (w.map not)).tra = (mat w).tra ∧ gl (mat (w.map not)).tr3.l = gl (mat w).tr3.l := by
  rw [mat_not]
  constructor
  · show (mat w).d + (mat w).a = (mat w).a + (mat w).d
    omega
  · have e : (M4.mk (mat w).d (mat w).c (mat w).b (mat w).a).tr3 = (T3.mk (mat w).tr3.z (mat w).tr3.y (mat w).tr3.x).sc (-1) := by
      refine T3.ext' ?_ ?_ ?_
      · show (mat w).b = -1 * -(mat w).b
        omega
      · show (mat w).a - (mat w).d = -1 * ((mat w).d - (mat w).a)
        omega
      · show -(mat w).c = -1 * (mat w).c
        omega
    rw [e, gl_sc, rev_gl]
    exact Nat.one_mul _
theorem both_not {w : List Bool} (h : Both w) : Both (w.map not) := ⟨List.mem_map.mpr ⟨true, h.2, rfl⟩, List.mem_map.mpr ⟨false, h.1, rfl⟩⟩
theorem disc_bd {d : T3} {k : Nat} (h : ∀ i ∈ d.l, Bd k i) : Bd (2 * k + 4) d.disc := by
  have bx := h d.x (by simp [T3.l])
  have by' := h d.y (by simp [T3.l])
  have bz := h d.z (by simp [T3.l])
  have b4 : Bd (3 + k + k) (4 * d.x * d.z) := ((bd_le (k := 3) (by decide) (by decide)).mul bx).mul bz
  exact (((by'.mul by').up (by omega)).sub (b4.up (show 3 + k + k ≤ 2 * k + 3 by omega)) : Bd (2 * k + 3 + 1) _)
/-! a comprehension over a road -/
theorem lc_rd {w : List Bool} {g : TG} {tt : TT} {te : TE} {vs : List Nat} {σ : L2.St} {H1 : Hp} {D : Addr} {Qd : Hp → Prop} (Pv : Nat → Hp → Prop) (h0 : Pv 0 (L2.upd H1 D (.lst [])))
    (hs : ∀ i t H, w[i]? = some t → Pv i H → g (.str (rd [t])) (wipe σ vs) H fun σ2 H2 => wipe σ2 vs = wipe σ vs ∧ tt σ2 H2 fun b H3 =>
      if b = true then te σ2 H3 fun y H4 => ∃ acc, H4 D = some (.lst acc) ∧ acc.length < sizeLine ∧ Pv (i + 1) (L2.upd H4 D (.lst (acc ++ [y]))) else Pv (i + 1) H3) (hd : ∀ H, Pv w.length H → Qd H) :
    ∃ W : Nat → Nat → Hp → Prop, (∃ m, W 0 m (L2.upd H1 D (.lst []))) ∧ ∀ i m H, W i m H →
      ((Its (rd w)).stop i H ∧ Qd H) ∨ ((Its (rd w)).go i H ∧ ∃ Nx : Hp → Prop, (∀ H', Nx H' → ∃ m', m' < m ∧ W (i + 1) m' H') ∧ ∀ x H', (Its (rd w)).yld i H x H' → g x (wipe σ vs) H' fun σ2 H2 => wipe σ2 vs = wipe σ vs ∧ tt σ2 H2 fun b H3 =>
        if b = true then te σ2 H3 fun y H4 => ∃ acc, H4 D = some (.lst acc) ∧ acc.length < sizeLine ∧ Nx (L2.upd H4 D (.lst (acc ++ [y]))) else Nx H3) := by
  have es : (rd w).cps.size = w.length := rd_len w
  refine lc_it walk_str Pv h0 (fun _ _ _ _ => trivial) ?_ ?_
  · rintro i x H H' hi p ⟨rfl, c, hc, rfl⟩
    have hi' : i < w.length := by omega
    have ec : c = sg w[i] := by
      have e1 : (rd w).cps.toList[i]? = some c := by rw [Array.getElem?_toList]; exact hc
      rw [rd_cps, List.getElem?_map, List.getElem?_eq_getElem hi'] at e1
      exact (Option.some.inj e1).symm
    have e2 : (⟨#[c]⟩ : Str) = rd [w[i]] := by rw [ec]; rfl
    rw [e2]
    exact hs i w[i] H' (List.getElem?_eq_getElem hi') p
  · intro H p
    rw [es] at p
    exact hd H p
end Lr

set_option exponentiation.threshold 5000
namespace Lr
open PySem PySem.Spec PyProof.Rows L2
/-! what is sure of a map, and what is left of it -/
def bal (m : M4) : Prop := (m.a - m.c) * (m.b - m.d) < 0
def Stl (m : M4) (w : List Bool) (r : M4) : Prop := m = (mat w).mul r ∧ Nn r ∧ bal r
def M4.sum (m : M4) : Int := m.a + m.b + m.c + m.d
theorem mat_R : mat [true] = ⟨1, 1, 0, 1⟩ := rfl
theorem mat_L : mat [false] = ⟨1, 0, 1, 1⟩ := rfl
theorem mul_R (n : M4) : (mat [true]).mul n = ⟨n.a + n.c, n.b + n.d, n.c, n.d⟩ := by
  rw [mat_R]
  unfold M4.mul
  refine M4.ext ?_ ?_ ?_ ?_ <;> simp
theorem mul_L (n : M4) : (mat [false]).mul n = ⟨n.a, n.b, n.a + n.c, n.b + n.d⟩ := by
  rw [mat_L]
  unfold M4.mul
  refine M4.ext ?_ ?_ ?_ ?_ <;> simp
theorem cons_mul (t : Bool) (v : List Bool) (r : M4) : (mat (t :: v)).mul r = (mat [t]).mul ((mat v).mul r) := by
  rw [show t :: v = [t] ++ v from rfl, mat_app, M4.mul_assoc]
theorem nn_mul {m n : M4} (h : Nn m) (k : Nn n) : Nn (m.mul n) := by
  have := Int.mul_nonneg h.a k.a
  have := Int.mul_nonneg h.b k.c
  have := Int.mul_nonneg h.a k.b
  have := Int.mul_nonneg h.b k.d
  have := Int.mul_nonneg h.c k.a
  have := Int.mul_nonneg h.d k.c
  have := Int.mul_nonneg h.c k.b
  have := Int.mul_nonneg h.d k.d
  exact ⟨by show 0 ≤ m.a * n.a + m.b * n.c; omega, by show 0 ≤ m.a * n.b + m.b * n.d; omega, by show 0 ≤ m.c * n.a + m.d * n.c; omega, by show 0 ≤ m.c * n.b + m.d * n.d; omega⟩
theorem nn_adj {w : List Bool} {n : M4} : ((mat w).adj.mul ((mat w).mul n)) = n := by
  rw [← M4.mul_assoc, adj_mul _ (mat_det w), M4.one_mul]
theorem det_w (w : List Bool) (n : M4) : ((mat w).mul n).det = n.det := by
  rw [M4.det_mul, mat_det, Int.one_mul]
/-- both columns of a map are more than nothing -/
theorem col_pos {n : M4} (h : Nn n) (d : n.det ≠ 0) : 0 < n.a + n.c ∧ 0 < n.b + n.d ∧ 0 < n.a + n.b ∧ 0 < n.c + n.d := by
  obtain ⟨h1, h2, h3, h4⟩ := h
  unfold M4.det at d
  refine ⟨?_, ?_, ?_, ?_⟩ <;> refine Int.not_le.mp fun z => d ?_
  · rw [show n.a = 0 by omega, show n.c = 0 by omega]
    simp
  · rw [show n.b = 0 by omega, show n.d = 0 by omega]
    simp
  · rw [show n.a = 0 by omega, show n.b = 0 by omega]
    simp
  · rw [show n.c = 0 by omega, show n.d = 0 by omega]
    simp
/-- the next turn is sure, or none is -/
theorem next_sure {m : M4} (h : Nn m) (d : m.det ≠ 0) : (m.c ≤ m.a ∧ m.d ≤ m.b) ∨ (m.a ≤ m.c ∧ m.b ≤ m.d) ∨ bal m := by
  by_cases c1 : m.c ≤ m.a <;> by_cases c2 : m.d ≤ m.b
  · exact .inl ⟨c1, c2⟩
  · by_cases c3 : m.a ≤ m.c
    · exact .inr (.inl ⟨c3, by omega⟩)
    · exact .inr (.inr (Int.mul_neg_of_pos_of_neg (by omega) (by omega)))
  · by_cases c3 : m.b ≤ m.d
    · exact .inr (.inl ⟨by omega, c3⟩)
    · exact .inr (.inr (Int.mul_neg_of_neg_of_pos (by omega) (by omega)))
  · exact .inr (.inl ⟨by omega, by omega⟩)
theorem turn_nbal {t : Bool} {n : M4} (h : Nn n) : 0 ≤ (((mat [t]).mul n).a - ((mat [t]).mul n).c) * (((mat [t]).mul n).b - ((mat [t]).mul n).d) := by
  obtain ⟨h1, h2, h3, h4⟩ := h
  cases t
  · rw [mul_L]
    show 0 ≤ (n.a - (n.a + n.c)) * (n.b - (n.b + n.d))
    rw [show n.a - (n.a + n.c) = -n.c by omega, show n.b - (n.b + n.d) = -n.d by omega, Int.neg_mul_neg]
    exact Int.mul_nonneg h3 h4
  · rw [mul_R]
    show 0 ≤ (n.a + n.c - n.c) * (n.b + n.d - n.d)
    rw [show n.a + n.c - n.c = n.a by omega, show n.b + n.d - n.d = n.b by omega]
    exact Int.mul_nonneg h1 h2
theorem Stl.nil {m r : M4} (h : Stl m [] r) : m = r ∧ bal m := by
  obtain ⟨h1, h2, h3⟩ := h
  have e : m = r := by rw [h1]; exact M4.one_mul r
  exact ⟨e, by rw [e]; exact h3⟩
theorem Stl.tail {m r : M4} {t : Bool} {v : List Bool} (h : Stl m (t :: v) r) : m = (mat [t]).mul ((mat v).mul r) ∧ Stl ((mat v).mul r) v r ∧ Nn ((mat v).mul r) ∧ ¬ bal m := by
  obtain ⟨h1, h2, h3⟩ := h
  have e : m = (mat [t]).mul ((mat v).mul r) := by rw [h1, cons_mul]
  have n := nn_mul (mat_nn v) h2
  refine ⟨e, ⟨rfl, h2, h3⟩, n, fun b => ?_⟩
  unfold bal at b
  have := turn_nbal (t := t) n
  rw [← e] at this
  omega
theorem stl_one : ∀ {w v : List Bool} {m r s : M4}, m.det ≠ 0 → Stl m w r → Stl m v s → w = v ∧ r = s
  | [], [], m, r, s, d, h, k => ⟨rfl, by rw [← h.nil.1, ← k.nil.1]⟩
  | [], _ :: _, m, r, s, d, h, k => absurd h.nil.2 k.tail.2.2.2
  | _ :: _, [], m, r, s, d, h, k => absurd k.nil.2 h.tail.2.2.2
  | t :: w, u :: v, m, r, s, d, h, k => by
    obtain ⟨e1, h1, n1, _⟩ := h.tail
    obtain ⟨e2, k1, n2, _⟩ := k.tail
    have d1 : ((mat w).mul r).det ≠ 0 := by rw [e1, det_w] at d; exact d
    have d2 : ((mat v).mul s).det ≠ 0 := by rw [e2, det_w] at d; exact d
    have p1 := col_pos n1 d1
    have p2 := col_pos n2 d2
    have tu : t = u := by
      have e : (mat [t]).mul ((mat w).mul r) = (mat [u]).mul ((mat v).mul s) := by rw [← e1, ← e2]
      cases t <;> cases u
      · rfl
      · exfalso
        rw [mul_L, mul_R] at e
        have a := congrArg M4.a e
        have b := congrArg M4.b e
        have c := congrArg M4.c e
        have d := congrArg M4.d e
        simp only at a b c d
        have := n1.c
        have := n1.d
        have := n2.a
        have := n2.b
        omega
      · exfalso
        rw [mul_L, mul_R] at e
        have a := congrArg M4.a e
        have b := congrArg M4.b e
        have c := congrArg M4.c e
        have d := congrArg M4.d e
        simp only at a b c d
        have := n1.a
        have := n1.b
        have := n2.c
        have := n2.d
        omega
      · rfl
    subst tu
    have e : (mat w).mul r = (mat v).mul s := by
      rw [← nn_adj (w := [t]) (n := (mat w).mul r), ← e1, e2, nn_adj]
    obtain ⟨e3, e4⟩ := stl_one d1 h1 (by rw [e]; exact k1)
    exact ⟨by rw [e3], e4⟩
theorem stl_ex : ∀ (k : Nat) {m : M4}, Nn m → m.det ≠ 0 → m.sum ≤ k → ∃ w r, Stl m w r ∧ (w.length : Int) ≤ k
  | 0, m, h, d, hs => by
    have := col_pos h d
    unfold M4.sum at hs
    omega
  | k + 1, m, h, d, hs => by
    have p := col_pos h d
    rcases next_sure h d with c | c | c
    · have e : m = (mat [true]).mul ⟨m.a - m.c, m.b - m.d, m.c, m.d⟩ := by
        rw [mul_R]
        refine M4.ext ?_ ?_ rfl rfl
        · show m.a = m.a - m.c + m.c
          omega
        · show m.b = m.b - m.d + m.d
          omega
      have n1 : Nn ⟨m.a - m.c, m.b - m.d, m.c, m.d⟩ := ⟨by show 0 ≤ m.a - m.c; omega, by show 0 ≤ m.b - m.d; omega, h.c, h.d⟩
      have d1 : (M4.mk (m.a - m.c) (m.b - m.d) m.c m.d).det ≠ 0 := by
        have z := d
        rw [e, det_w] at z
        exact z
      obtain ⟨w, r, s, l⟩ := stl_ex k n1 d1 (by unfold M4.sum at *; show m.a - m.c + (m.b - m.d) + m.c + m.d ≤ k; omega)
      refine ⟨true :: w, r, ⟨?_, s.2⟩, by simp only [List.length_cons]; omega⟩
      rw [cons_mul, ← s.1]
      exact e
    · have e : m = (mat [false]).mul ⟨m.a, m.b, m.c - m.a, m.d - m.b⟩ := by
        rw [mul_L]
        refine M4.ext rfl rfl ?_ ?_
        · show m.c = m.a + (m.c - m.a)
          omega
        · show m.d = m.b + (m.d - m.b)
          omega
      have n1 : Nn ⟨m.a, m.b, m.c - m.a, m.d - m.b⟩ := ⟨h.a, h.b, by show 0 ≤ m.c - m.a; omega, by show 0 ≤ m.d - m.b; omega⟩
      have d1 : (M4.mk m.a m.b (m.c - m.a) (m.d - m.b)).det ≠ 0 := by
        have z := d
        rw [e, det_w] at z
        exact z
      obtain ⟨w, r, s, l⟩ := stl_ex k n1 d1 (by unfold M4.sum at *; show m.a + m.b + (m.c - m.a) + (m.d - m.b) ≤ k; omega)
      refine ⟨false :: w, r, ⟨?_, s.2⟩, by simp only [List.length_cons]; omega⟩
      rw [cons_mul, ← s.1]
      exact e
    · exact ⟨[], m, ⟨(M4.one_mul m).symm, h, c⟩, by show (0 : Int) ≤ _; omega⟩
/-- going on -/
theorem Stl.on {m r n s : M4} {w v : List Bool} (h : Stl m w r) (k : Stl (r.mul n) v s) : Stl (m.mul n) (w ++ v) s := by
  refine ⟨?_, k.2⟩
  rw [h.1, mat_app, M4.mul_assoc, k.1, M4.mul_assoc]
theorem Stl.det {m r : M4} {w : List Bool} (h : Stl m w r) : r.det = m.det := by rw [h.1, det_w]
/-- what is left is small -/
theorem bal_le {r : M4} (h : Nn r) (b : bal r) : r.a + r.b ≤ (r.det.natAbs : Int) ∧ r.c + r.d ≤ (r.det.natAbs : Int) := by
  obtain ⟨h1, h2, h3, h4⟩ := h
  unfold bal at b
  have key : (r.c < r.a ∧ r.b < r.d) ∨ (r.a < r.c ∧ r.d < r.b) := by
    rcases Int.lt_trichotomy r.a r.c with x | x | x
    · refine .inr ⟨x, Int.not_le.mp fun y => ?_⟩
      have := Int.mul_nonneg (show 0 ≤ r.c - r.a by omega) (show 0 ≤ r.d - r.b by omega)
      rw [show (r.c - r.a) * (r.d - r.b) = (r.a - r.c) * (r.b - r.d) by rw [← Int.neg_mul_neg]; congr 1 <;> omega] at this
      omega
    · rw [x, Int.sub_self, Int.zero_mul] at b
      omega
    · refine .inl ⟨x, Int.not_le.mp fun y => ?_⟩
      have := Int.mul_nonneg (show 0 ≤ r.a - r.c by omega) (show 0 ≤ r.b - r.d by omega)
      omega
  unfold M4.det
  rcases key with ⟨x, y⟩ | ⟨x, y⟩
  · have e1 : r.a * r.d - r.b * r.c = r.a + r.b + (r.a * (r.d - r.b - 1) + r.b * (r.a - r.c - 1)) := by
      simp only [Int.mul_sub, Int.mul_one]
      rw [Int.mul_comm r.b r.a]
      omega
    have e2 : r.a * r.d - r.b * r.c = r.c + r.d + (r.d * (r.a - r.c - 1) + r.c * (r.d - r.b - 1)) := by
      simp only [Int.mul_sub, Int.mul_one]
      rw [Int.mul_comm r.d r.a, Int.mul_comm r.d r.c, Int.mul_comm r.c r.b]
      omega
    have q1 := Int.mul_nonneg h1 (show 0 ≤ r.d - r.b - 1 by omega)
    have q2 := Int.mul_nonneg h2 (show 0 ≤ r.a - r.c - 1 by omega)
    have q3 := Int.mul_nonneg h4 (show 0 ≤ r.a - r.c - 1 by omega)
    have q4 := Int.mul_nonneg h3 (show 0 ≤ r.d - r.b - 1 by omega)
    generalize r.a * r.d - r.b * r.c = D at *
    omega
  · have e1 : r.b * r.c - r.a * r.d = r.a + r.b + (r.b * (r.c - r.a - 1) + r.a * (r.b - r.d - 1)) := by
      simp only [Int.mul_sub, Int.mul_one]
      rw [Int.mul_comm r.b r.a]
      omega
    have e2 : r.b * r.c - r.a * r.d = r.c + r.d + (r.c * (r.b - r.d - 1) + r.d * (r.c - r.a - 1)) := by
      simp only [Int.mul_sub, Int.mul_one]
      rw [Int.mul_comm r.c r.b, Int.mul_comm r.d r.a, Int.mul_comm r.d r.c]
      omega
    have q1 := Int.mul_nonneg h2 (show 0 ≤ r.c - r.a - 1 by omega)
    have q2 := Int.mul_nonneg h1 (show 0 ≤ r.b - r.d - 1 by omega)
    have q3 := Int.mul_nonneg h3 (show 0 ≤ r.b - r.d - 1 by omega)
    have q4 := Int.mul_nonneg h4 (show 0 ≤ r.c - r.a - 1 by omega)
    have e3 : r.a * r.d - r.b * r.c = -(r.b * r.c - r.a * r.d) := by omega
    rw [e3]
    generalize r.b * r.c - r.a * r.d = D at *
    omega
end Lr

set_option exponentiation.threshold 5000
namespace Lr
open PySem PySem.Spec PyProof.Rows L2
/-! steps to what is left, and bounds -/
theorem le_bd {k : Nat} {x B : Int} (h0 : 0 ≤ x) (h : x ≤ B) (b : Bd k B) : Bd k x := by
  unfold Bd at *
  omega
inductive StC (n : M4) (r : M4) : List Bool → Prop where
  | stop : bal n → n = r → StC n r []
  | right (v : List Bool) : ¬ bal n → n.c ≤ n.a → n.d ≤ n.b → n.c + n.d < n.a + n.b → Stl ⟨n.a - n.c, n.b - n.d, n.c, n.d⟩ v r → Nn ⟨n.a - n.c, n.b - n.d, n.c, n.d⟩ → (M4.mk (n.a - n.c) (n.b - n.d) n.c n.d).det = n.det → StC n r (true :: v)
  | left (v : List Bool) : ¬ bal n → n.a ≤ n.c → n.b ≤ n.d → n.a + n.b < n.c + n.d → Stl ⟨n.a, n.b, n.c - n.a, n.d - n.b⟩ v r → Nn ⟨n.a, n.b, n.c - n.a, n.d - n.b⟩ → (M4.mk n.a n.b (n.c - n.a) (n.d - n.b)).det = n.det → StC n r (false :: v)
theorem Stl.step {n r : M4} {w : List Bool} (d : n.det ≠ 0) (h : Stl n w r) : StC n r w := by
  cases w with
  | nil => exact .stop h.nil.2 h.nil.1
  | cons t v =>
    obtain ⟨e, s, nn, nb⟩ := h.tail
    have dd : ((mat v).mul r).det = n.det := by rw [e, det_w, det_w, det_w]
    have p := col_pos nn (by rw [dd]; exact d)
    generalize (mat v).mul r = k at *
    cases t
    · rw [mul_L] at e
      have ek : (⟨n.a, n.b, n.c - n.a, n.d - n.b⟩ : M4) = k := by
        rw [e]
        refine M4.ext rfl rfl ?_ ?_
        · show k.a + k.c - k.a = k.c
          omega
        · show k.b + k.d - k.b = k.d
          omega
      refine .left v nb ?_ ?_ ?_ (by rw [ek]; exact s) (by rw [ek]; exact nn) (by rw [ek]; exact dd)
      · rw [e]
        show k.a ≤ k.a + k.c
        have := nn.c
        omega
      · rw [e]
        show k.b ≤ k.b + k.d
        have := nn.d
        omega
      · rw [e]
        show k.a + k.b < k.a + k.c + (k.b + k.d)
        omega
    · rw [mul_R] at e
      have ek : (⟨n.a - n.c, n.b - n.d, n.c, n.d⟩ : M4) = k := by
        rw [e]
        refine M4.ext ?_ ?_ rfl rfl
        · show k.a + k.c - k.c = k.a
          omega
        · show k.b + k.d - k.d = k.b
          omega
      refine .right v nb ?_ ?_ ?_ (by rw [ek]; exact s) (by rw [ek]; exact nn) (by rw [ek]; exact dd)
      · rw [e]
        show k.c ≤ k.a + k.c
        have := nn.a
        omega
      · rw [e]
        show k.d ≤ k.b + k.d
        have := nn.b
        omega
      · rw [e]
        show k.c + k.d < k.a + k.c + (k.b + k.d)
        omega
/-- a column behind a road, beside the middle -/
theorem col_test {P : M4} (h : P.det = 1) (x y : Int) : (P.a * x + P.b * y) * (P.d + P.c) - (P.b + P.a) * (P.c * x + P.d * y) = x - y := by
  have e : (P.a * x + P.b * y) * (P.d + P.c) - (P.b + P.a) * (P.c * x + P.d * y) = (P.a * P.d - P.b * P.c) * (x - y) := by
    simp only [Int.add_mul, Int.mul_add, Int.sub_mul, Int.mul_sub]
    simp only [Int.mul_assoc, Int.mul_comm, Int.mul_left_comm]
    omega
  rw [e]
  have : P.a * P.d - P.b * P.c = 1 := h
  rw [this, Int.one_mul]
def M4.swp (m : M4) : M4 := ⟨m.b, m.a, m.d, m.c⟩
theorem swp_mul (m n : M4) : m.mul n.swp = (m.mul n).swp := rfl
theorem Nn.swp {m : M4} (h : Nn m) : Nn m.swp := ⟨h.b, h.a, h.d, h.c⟩
theorem swp_det (m : M4) : m.swp.det = -m.det := by
  show m.b * m.c - m.a * m.d = -(m.a * m.d - m.b * m.c)
  omega
theorem Stl.swp {m r : M4} {w : List Bool} (h : Stl m w r) : Stl m.swp w r.swp := by
  refine ⟨?_, h.2.1.swp, ?_⟩
  · rw [swp_mul, ← h.1]
  · have := h.2.2
    unfold bal at *
    show (r.b - r.d) * (r.a - r.c) < 0
    rw [Int.mul_comm]
    exact this
theorem Le.swp {B : Int} {m : M4} (h : Le B m) : Le B m.swp := ⟨h.b, h.a, h.d, h.c⟩
theorem stl_read {r : M4} (h : Nn r) (b : bal r) (d : r.det ≠ 0) (l : r.det.natAbs ≤ 12) (f : List Bool) : ∃ v s, Stl (r.mul (mat f)) v s ∧ v.length ≤ 48 * f.length := by
  induction f using snoc_ind with
  | h0 => exact ⟨[], r, ⟨by show r.mul M4.one = (mat []).mul r; rw [M4.mul_one]; exact (M4.one_mul r).symm, h, b⟩, Nat.le_refl _⟩
  | h1 f t ih =>
    obtain ⟨v, s, hs, hl⟩ := ih
    have ds : s.det = r.det := by rw [hs.det, M4.det_mul, mat_det, Int.mul_one]
    obtain ⟨q1, q2⟩ := bal_le hs.2.1 hs.2.2
    have n1 : Nn (s.mul (mat [t])) := nn_mul hs.2.1 (mat_nn _)
    have d1 : (s.mul (mat [t])).det ≠ 0 := by
      rw [M4.det_mul, mat_det, Int.mul_one, ds]
      exact d
    have sm : (s.mul (mat [t])).sum ≤ (48 : Nat) := by
      rw [← turnM_mul]
      rw [ds] at q1 q2
      obtain ⟨h1, h2, h3, h4⟩ := hs.2.1
      unfold M4.sum turnM
      cases t
      · show s.a + s.b + s.b + (s.c + s.d) + s.d ≤ _
        omega
      · show s.a + (s.a + s.b) + s.c + (s.c + s.d) ≤ _
        omega
    obtain ⟨v', s', hs', hl'⟩ := stl_ex 48 n1 d1 sm
    refine ⟨v ++ v', s', ?_, ?_⟩
    · rw [mat_app, ← M4.mul_assoc]
      exact hs.on hs'
    · rw [List.length_append, List.length_append]
      show _ ≤ 48 * (f.length + 1)
      omega
theorem stl_next {m : M4} (h : Nn m) (d : m.det ≠ 0) (l : m.det.natAbs ≤ 12) (le : Le 60 m) (f : List Bool) : ∃ v s, Stl (m.mul (mat f)) v s ∧ v.length ≤ 240 + 48 * f.length := by
  obtain ⟨w, r, hr, lr⟩ := stl_ex 240 h d (by obtain ⟨h1, h2, h3, h4⟩ := le; unfold M4.sum; omega)
  obtain ⟨v, s, hs, hl⟩ := stl_read hr.2.1 hr.2.2 (by rw [hr.det]; exact d) (by rw [hr.det]; exact l) f
  refine ⟨w ++ v, s, hr.on hs, ?_⟩
  rw [List.length_append]
  omega
/-- the middle of a road is no more than what a map behind it has -/
theorem mid_le {P n : M4} {B : Int} (hP : Nn P) (hn : Nn n) (d : n.det ≠ 0) (l : Le B (P.mul n)) : P.b + P.a ≤ 2 * B ∧ P.d + P.c ≤ 2 * B := by
  obtain ⟨_, _, p1, p2⟩ := col_pos hn d
  obtain ⟨la, lb, lc, ld⟩ := l
  have h1 : P.a * 1 ≤ P.a * (n.a + n.b) := Int.mul_le_mul_of_nonneg_left (by omega) hP.a
  have h2 : P.b * 1 ≤ P.b * (n.c + n.d) := Int.mul_le_mul_of_nonneg_left (by omega) hP.b
  have h3 : P.c * 1 ≤ P.c * (n.a + n.b) := Int.mul_le_mul_of_nonneg_left (by omega) hP.c
  have h4 : P.d * 1 ≤ P.d * (n.c + n.d) := Int.mul_le_mul_of_nonneg_left (by omega) hP.d
  rw [Int.mul_add] at h1 h2 h3 h4
  have la : P.a * n.a + P.b * n.c ≤ B := la
  have lb : P.a * n.b + P.b * n.d ≤ B := lb
  have lc : P.c * n.a + P.d * n.c ≤ B := lc
  have ld : P.c * n.b + P.d * n.d ≤ B := ld
  constructor <;> omega
theorem bal_pos {n : M4} (h : Nn n) (d : 0 < n.det) (b : bal n) : n.c < n.a ∧ n.b < n.d := by
  unfold bal at b
  unfold M4.det at d
  obtain ⟨h1, h2, h3, h4⟩ := h
  rcases Int.lt_trichotomy n.a n.c with x | x | x
  · exfalso
    have y : n.d < n.b := Int.not_le.mp fun y => by
      have := Int.mul_nonneg (show 0 ≤ n.c - n.a by omega) (show 0 ≤ n.d - n.b by omega)
      rw [show (n.c - n.a) * (n.d - n.b) = (n.a - n.c) * (n.b - n.d) by rw [← Int.neg_mul_neg]; congr 1 <;> omega] at this
      omega
    have k1 : n.a * n.d ≤ n.c * n.d := Int.mul_le_mul_of_nonneg_right (by omega) h4
    have k2 : n.c * n.d ≤ n.c * n.b := Int.mul_le_mul_of_nonneg_left (by omega) h3
    rw [Int.mul_comm n.c n.b] at k2
    omega
  · rw [x, Int.sub_self, Int.zero_mul] at b
    omega
  · refine ⟨x, Int.not_le.mp fun y => ?_⟩
    have := Int.mul_nonneg (show 0 ≤ n.a - n.c by omega) (show 0 ≤ n.b - n.d by omega)
    omega
theorem two_bd {k : Nat} {x B : Int} (h0 : 0 ≤ x) (h : x ≤ 2 * B) (b : Bd k B) : Bd (k + 1) x := by
  unfold Bd at *
  rw [Nat.pow_succ]
  omega
theorem turn_le {m : M4} {B : Int} {t : Bool} (h : Nn m) (l : Le B m) : Le (2 * B) (m.mul (mat [t])) := by
  rw [← turnM_mul]
  obtain ⟨a0, b0, c0, d0⟩ := h
  obtain ⟨a1, b1, c1, d1⟩ := l
  cases t
  · exact ⟨by show m.a + m.b ≤ _; omega, by show m.b ≤ _; omega, by show m.c + m.d ≤ _; omega, by show m.d ≤ _; omega⟩
  · exact ⟨by show m.a ≤ _; omega, by show m.a + m.b ≤ _; omega, by show m.c ≤ _; omega, by show m.c + m.d ≤ _; omega⟩
theorem bds_of {m : M4} {B : Int} {k : Nat} (h : Nn m) (l : Le B m) (b : Bd k B) : ∀ i ∈ m.l, Bd k i := by
  intro i hi
  have ba := le_bd h.a l.a b
  have bb := le_bd h.b l.b b
  have bc := le_bd h.c l.c b
  have bd := le_bd h.d l.d b
  unfold M4.l at hi
  simp only [List.mem_cons, List.not_mem_nil, or_false] at hi
  rcases hi with rfl | rfl | rfl | rfl <;> assumption
theorem Stl.le12 {m r : M4} {w : List Bool} (h : Stl m w r) (l : m.det.natAbs ≤ 12) : Le 12 r := by
  obtain ⟨q1, q2⟩ := bal_le h.2.1 h.2.2
  rw [h.det] at q1 q2
  obtain ⟨a0, b0, c0, d0⟩ := h.2.1
  exact ⟨by omega, by omega, by omega, by omega⟩
theorem Le.up {a b : Int} {m : M4} (h : Le a m) (l : a ≤ b) : Le b m := ⟨Int.le_trans h.a l, Int.le_trans h.b l, Int.le_trans h.c l, Int.le_trans h.d l⟩
theorem ifY {p : Prop} [Decidable p] {A B : Prop} (h : p) (a : A) : if decide p = true then A else B := by
  rw [if_pos (decide_eq_true h)]
  exact a
theorem ifN {p : Prop} [Decidable p] {A B : Prop} (h : ¬ p) (b : B) : if decide p = true then A else B := by
  rw [if_neg (fun z => h (of_decide_eq_true z))]
  exact b
end Lr

set_option exponentiation.threshold 5000
namespace Lr
open PySem PySem.Spec PyProof.Rows L2
/-! what a map makes of a course: the words and what is left, ring by ring -/
open Classical in
noncomputable def out (m : M4) : List Bool × M4 := if h : ∃ p : List Bool × M4, Stl m p.1 p.2 then choose h else ([], m)
theorem out_of {m r : M4} {w : List Bool} (d : m.det ≠ 0) (h : Stl m w r) : Stl m (out m).1 (out m).2 ∧ (out m).1 = w ∧ (out m).2 = r := by
  have ex : ∃ p : List Bool × M4, Stl m p.1 p.2 := ⟨(w, r), h⟩
  have e : out m = Classical.choose ex := by
    unfold out
    rw [dif_pos ex]
  have s := Classical.choose_spec ex
  rw [← e] at s
  exact ⟨s, stl_one d s h⟩
noncomputable def stR (m : M4) (f l : List Bool) : Nat → M4
  | 0 => (out (m.mul (mat f))).2
  | k + 1 => (out ((stR m f l k).mul (mat l))).2
noncomputable def stW (m : M4) (f l : List Bool) : Nat → List Bool
  | 0 => (out (m.mul (mat f))).1
  | k + 1 => (out ((stR m f l k).mul (mat l))).1
structure Okm (m : M4) : Prop where
  nn : Nn m
  d0 : m.det ≠ 0
  dt : m.det.natAbs ≤ 12
  le : Le 60 m
theorem det_mat (m : M4) (f : List Bool) : (m.mul (mat f)).det = m.det := by rw [M4.det_mul, mat_det, Int.mul_one]
theorem st_zero {m : M4} (o : Okm m) (f l : List Bool) : Stl (m.mul (mat f)) (stW m f l 0) (stR m f l 0) ∧ (stW m f l 0).length ≤ 240 + 48 * f.length := by
  obtain ⟨v, s, h, hl⟩ := stl_next o.nn o.d0 o.dt o.le f
  obtain ⟨h1, h2, h3⟩ := out_of (by rw [det_mat]; exact o.d0) h
  refine ⟨h1, ?_⟩
  show (out (m.mul (mat f))).1.length ≤ _
  rw [h2]
  exact hl
structure Okr (m r : M4) : Prop where
  nn : Nn r
  bl : bal r
  de : r.det = m.det
theorem st_all {m : M4} (o : Okm m) (f l : List Bool) : ∀ k, Okr m (stR m f l k)
  | 0 => by
    have h := (st_zero o f l).1
    exact ⟨h.2.1, h.2.2, by rw [h.det, det_mat]⟩
  | k + 1 => by
    have h := st_all o f l k
    obtain ⟨v, s, hs, hl⟩ := stl_read h.nn h.bl (by rw [h.de]; exact o.d0) (by rw [h.de]; exact o.dt) l
    obtain ⟨h1, h2, h3⟩ := out_of (by rw [det_mat, h.de]; exact o.d0) hs
    exact ⟨h1.2.1, h1.2.2, by show (out _).2.det = _; rw [h1.det, det_mat, h.de]⟩
theorem st_succ {m : M4} (o : Okm m) (f l : List Bool) (k : Nat) : Stl ((stR m f l k).mul (mat l)) (stW m f l (k + 1)) (stR m f l (k + 1)) ∧ (stW m f l (k + 1)).length ≤ 48 * l.length := by
  have h := st_all o f l k
  obtain ⟨v, s, hs, hl⟩ := stl_read h.nn h.bl (by rw [h.de]; exact o.d0) (by rw [h.de]; exact o.dt) l
  obtain ⟨h1, h2, h3⟩ := out_of (by rw [det_mat, h.de]; exact o.d0) hs
  refine ⟨h1, ?_⟩
  show (out ((stR m f l k).mul (mat l))).1.length ≤ _
  rw [h2]
  exact hl
theorem Okr.le {m r : M4} (h : Okr m r) (o : Okm m) : Le 12 r := by
  obtain ⟨q1, q2⟩ := bal_le h.nn h.bl
  have := o.dt
  rw [h.de] at q1 q2
  obtain ⟨a0, b0, c0, d0⟩ := h.nn
  exact ⟨by omega, by omega, by omega, by omega⟩
/-- so many words -/
noncomputable def wl (m : M4) (f l : List Bool) (k : Nat) : List (List Bool) := (List.range k).map (stW m f l)
theorem wl_succ (m : M4) (f l : List Bool) (k : Nat) : wl m f l (k + 1) = wl m f l k ++ [stW m f l k] := by
  unfold wl
  rw [List.range_succ, List.map_append]
  rfl
theorem wl_len (m : M4) (f l : List Bool) (k : Nat) : (wl m f l k).length = k := by
  unfold wl
  rw [List.length_map, List.length_range]
theorem wl_take (m : M4) (f l : List Bool) {j k : Nat} (h : j ≤ k) : (wl m f l k).take j = wl m f l j := by
  unfold wl
  rw [← List.map_take, List.take_range, Nat.min_eq_left h]
theorem wl_size {m : M4} (o : Okm m) (f l : List Bool) : ∀ k, (wl m f l (k + 1)).flatten.length ≤ 240 + 48 * f.length + k * (48 * l.length)
  | 0 => by
    have := (st_zero o f l).2
    rw [wl_succ]
    simp [wl]
    omega
  | k + 1 => by
    have h1 := wl_size o f l k
    have h2 := (st_succ o f l k).2
    rw [wl_succ, List.flatten_append, List.length_append, show [stW m f l (k + 1)].flatten = stW m f l (k + 1) by simp]
    have e : (k + 1) * (48 * l.length) = k * (48 * l.length) + 48 * l.length := Nat.succ_mul _ _
    omega
theorem wl_stl {m : M4} (o : Okm m) (f l : List Bool) : ∀ k, Stl (m.mul (mat (f ++ repR l k))) (wl m f l (k + 1)).flatten (stR m f l k)
  | 0 => by
    have := (st_zero o f l).1
    have e : f ++ repR l 0 = f := List.append_nil f
    have e2 : (wl m f l 1).flatten = stW m f l 0 := by
      show ([] ++ [stW m f l 0]).flatten = _
      simp
    rw [e, e2]
    exact this
  | k + 1 => by
    have h1 := wl_stl o f l k
    have h2 := (st_succ o f l k).1
    have e : f ++ repR l (k + 1) = (f ++ repR l k) ++ l := by
      unfold repR
      rw [List.replicate_succ', List.flatten_append, List.append_assoc]
      simp
    have e2 : (wl m f l (k + 1 + 1)).flatten = (wl m f l (k + 1)).flatten ++ stW m f l (k + 1) := by
      rw [wl_succ, List.flatten_append]
      simp
    rw [e, e2, mat_app, ← M4.mul_assoc]
    exact h1.on h2
/-! what is left comes again -/
def codes : List (Nat × Nat × Nat) := ((List.range 12).flatMap fun x => (List.range 12).flatMap fun y => (List.range 12).map fun z => (x, y, z)).filter fun t => decide (t.1 + t.2.1 + t.2.2 ≤ 11)
theorem codes_len : codes.length = 364 := by decide +kernel
theorem mem_codes {x y z : Nat} (h : x + y + z ≤ 11) : (x, y, z) ∈ codes := by
  unfold codes
  rw [List.mem_filter]
  refine ⟨?_, decide_eq_true h⟩
  rw [List.mem_flatMap]
  refine ⟨x, List.mem_range.mpr (by omega), ?_⟩
  rw [List.mem_flatMap]
  refine ⟨y, List.mem_range.mpr (by omega), ?_⟩
  rw [List.mem_map]
  exact ⟨z, List.mem_range.mpr (by omega), rfl⟩
def code (r : M4) : Nat × Nat × Nat := ((r.a - r.c - 1).toNat, r.b.toNat, r.c.toNat)
theorem code_le {r : M4} (n : Nn r) (b : bal r) (d : 0 < r.det) (l : r.det ≤ 12) : code r ∈ codes := by
  obtain ⟨h1, h2⟩ := bal_pos n d b
  obtain ⟨a0, b0, c0, d0⟩ := n
  refine mem_codes ?_
  have e : r.det = r.c * (r.d - r.b) + (r.a - r.c) * r.b + (r.a - r.c) * (r.d - r.b) := by
    unfold M4.det
    simp only [Int.mul_sub, Int.sub_mul]
    rw [Int.mul_comm r.b r.c]
    omega
  have k1 : r.c * 1 ≤ r.c * (r.d - r.b) := Int.mul_le_mul_of_nonneg_left (by omega) c0
  have k2 : 1 * r.b ≤ (r.a - r.c) * r.b := Int.mul_le_mul_of_nonneg_right (by omega) b0
  have k3 : (r.a - r.c) * 1 ≤ (r.a - r.c) * (r.d - r.b) := Int.mul_le_mul_of_nonneg_left (by omega) (by omega)
  rw [Int.mul_one] at k1 k3
  rw [Int.one_mul] at k2
  omega
theorem code_one {r s : M4} (n : Nn r) (b : bal r) (n' : Nn s) (b' : bal s) (d : 0 < r.det) (e : r.det = s.det) (h : code r = code s) : r = s := by
  obtain ⟨h1, h2⟩ := bal_pos n d b
  obtain ⟨h3, h4⟩ := bal_pos n' (by omega) b'
  obtain ⟨a0, b0, c0, d0⟩ := n
  obtain ⟨a1, b1, c1, d1⟩ := n'
  have e1 := congrArg Prod.fst h
  have e2 := congrArg (fun t => t.2.1) h
  have e3 := congrArg (fun t => t.2.2) h
  have e1 : (r.a - r.c - 1).toNat = (s.a - s.c - 1).toNat := e1
  have e2 : r.b.toNat = s.b.toNat := e2
  have e3 : r.c.toNat = s.c.toNat := e3
  have eb : r.b = s.b := by omega
  have ec : r.c = s.c := by omega
  have ea : r.a = s.a := by omega
  refine M4.ext ea eb ec ?_
  unfold M4.det at e
  rw [ea, eb, ec] at e
  have : s.a * r.d = s.a * s.d := by omega
  exact Int.eq_of_mul_eq_mul_left (by omega) this
theorem st_rep_pos {R : Nat → M4} {D : Int} (h : ∀ k, Nn (R k) ∧ bal (R k) ∧ (R k).det = D) (d : 0 < D) (l : D ≤ 12) : ∃ n, n ≤ 364 ∧ ∃ j, j < n ∧ R n = R j := by
  refine Classical.byContradiction fun z => ?_
  have nd : ((List.range 365).map fun k => code (R k)).Nodup := by
    rw [List.Nodup, List.pairwise_map]
    refine (List.nodup_range (n := 365)).imp_of_mem fun {a b} ha hb ne e => ?_
    have ha := List.mem_range.mp ha
    have hb := List.mem_range.mp hb
    have e := code_one (h a).1 (h a).2.1 (h b).1 (h b).2.1 (by rw [(h a).2.2]; exact d) (by rw [(h a).2.2, (h b).2.2]) e
    rcases Nat.lt_or_gt_of_ne ne with x | x
    · exact z ⟨b, by omega, a, x, e.symm⟩
    · exact z ⟨a, by omega, b, x, e⟩
  have := List.Nodup.length_le_of_subset nd (l₂ := codes) (fun x hx => by
    obtain ⟨k, _, rfl⟩ := List.mem_map.mp hx
    exact code_le (h k).1 (h k).2.1 (by rw [(h k).2.2]; exact d) (by rw [(h k).2.2]; exact l))
  rw [List.length_map, List.length_range, codes_len] at this
  omega
theorem swp_swp (m : M4) : m.swp.swp = m := rfl
theorem st_rep {m : M4} (o : Okm m) (f l : List Bool) : ∃ n, n ≤ 364 ∧ ∃ j, j < n ∧ stR m f l n = stR m f l j := by
  have d0 := o.d0
  have dt := o.dt
  by_cases d : 0 < m.det
  · exact st_rep_pos (R := stR m f l) (D := m.det) (fun k => ⟨(st_all o f l k).nn, (st_all o f l k).bl, (st_all o f l k).de⟩) d (by omega)
  · obtain ⟨n, hn, j, hj, e⟩ := st_rep_pos (R := fun k => (stR m f l k).swp) (D := -m.det) (fun k => by
      have h := st_all o f l k
      refine ⟨h.nn.swp, ?_, by rw [swp_det, h.de]⟩
      have := h.bl
      unfold bal at *
      show ((stR m f l k).b - (stR m f l k).d) * ((stR m f l k).a - (stR m f l k).c) < 0
      rw [Int.mul_comm]
      exact this) (by omega) (by omega)
    refine ⟨n, hn, j, hj, ?_⟩
    rw [← swp_swp (stR m f l n), ← swp_swp (stR m f l j)]
    exact congrArg M4.swp e
theorem first_ex {p : Nat → Prop} (h : ∃ n, p n) : ∃ n, p n ∧ ∀ k, k < n → ¬ p k := by
  obtain ⟨n, hn⟩ := h
  induction n using Nat.strongRecOn with
  | ind n ih =>
    by_cases z : ∃ k, k < n ∧ p k
    · obtain ⟨k, hk, pk⟩ := z
      exact ih k hk pk
    · exact ⟨n, hn, fun k hk pk => z ⟨k, hk, pk⟩⟩
/-- where what is left comes again for the first time -/
structure Fst (R : Nat → M4) (n j : Nat) : Prop where
  lt : j < n
  eq : R n = R j
  no : ∀ b, b < n → ∀ a, a < b → R b ≠ R a
theorem fst_ex {m : M4} (o : Okm m) (f l : List Bool) : ∃ n j, n ≤ 364 ∧ Fst (stR m f l) n j := by
  obtain ⟨k, hk, j0, hj0, e0⟩ := st_rep o f l
  obtain ⟨n, ⟨j, hj, e⟩, no⟩ := first_ex (p := fun n => ∃ j, j < n ∧ stR m f l n = stR m f l j) ⟨k, j0, hj0, e0⟩
  refine ⟨n, j, ?_, hj, e, fun b hb a ha z => no b hb ⟨a, ha, z⟩⟩
  refine Nat.le_trans (Nat.not_lt.mp fun z => no k z ⟨j0, hj0, e0⟩) hk
theorem wl_drop {m : M4} {f l : List Bool} {j n : Nat} (h : j < n) : (wl m f l (j + 1)).flatten ++ ((wl m f l (n + 1)).drop (j + 1)).flatten = (wl m f l (n + 1)).flatten := by
  rw [← List.flatten_append]
  congr 1
  rw [← wl_take m f l (show j + 1 ≤ n + 1 by omega), List.take_append_drop]
/-! the same for a course told otherwise -/
theorem mul_cancel {x y : M4} (d : x.det ≠ 0) (h : x.mul y = x) : y.b = 0 := by
  have e1 := congrArg M4.b h
  have e2 := congrArg M4.d h
  have e1 : x.a * y.b + x.b * y.d = x.b := e1
  have e2 : x.c * y.b + x.d * y.d = x.d := e2
  unfold M4.det at d
  have k : (x.a * x.d - x.b * x.c) * y.b = x.d * (x.a * y.b + x.b * y.d) - x.b * (x.c * y.b + x.d * y.d) := by
    simp only [Int.mul_add, Int.sub_mul]
    simp only [Int.mul_assoc, Int.mul_comm, Int.mul_left_comm]
    omega
  rw [e1, e2, Int.mul_comm x.d x.b, Int.sub_self] at k
  rcases Int.mul_eq_zero.mp k with z | z
  · exact absurd z d
  · exact z
theorem ring_ne {m : M4} (o : Okm m) {f l : List Bool} (bl : true ∈ l) {n j : Nat} (h : Fst (stR m f l) n j) : ((wl m f l (n + 1)).drop (j + 1)).flatten ≠ [] := by
  intro z
  have h1 := wl_stl o f l n
  have h2 := wl_stl o f l j
  have e := wl_drop (m := m) (f := f) (l := l) h.lt
  rw [z, List.append_nil] at e
  rw [← e, h.eq] at h1
  have e3 : m.mul (mat (f ++ repR l n)) = m.mul (mat (f ++ repR l j)) := by rw [h1.1, ← h2.1]
  obtain ⟨k, rfl⟩ : ∃ k, n = j + (k + 1) := ⟨n - j - 1, by have := h.lt; omega⟩
  have e4 : f ++ repR l (j + (k + 1)) = (f ++ repR l j) ++ repR l (k + 1) := by
    unfold repR
    rw [← List.replicate_append_replicate, List.flatten_append, List.append_assoc]
  rw [e4, mat_app, ← M4.mul_assoc] at e3
  have b0 := mul_cancel (by rw [det_mat]; exact o.d0) e3
  have := (mat_ge (repR l (k + 1))).2.2.1 (by
    unfold repR
    rw [List.replicate_succ, List.flatten_cons]
    exact List.mem_append_left _ bl)
  omega
/-- words go on -/
theorem stl_pre {m : M4} (o : Okm m) {u v : List Bool} {w x : List Bool} {r s : M4} (h : Stl (m.mul (mat u)) w r) (k : Stl (m.mul (mat (u ++ v))) x s) : ∃ y, x = w ++ y := by
  have d : r.det = m.det := by rw [h.det, det_mat]
  obtain ⟨y, t, ht, _⟩ := stl_read h.2.1 h.2.2 (by rw [d]; exact o.d0) (by rw [d]; exact o.dt) v
  have := h.on ht
  rw [M4.mul_assoc, ← mat_app] at this
  exact ⟨y, (stl_one (by rw [det_mat]; exact o.d0) k this).1⟩
/-- the ring goes round -/
theorem rg_on {m : M4} (o : Okm m) {f l : List Bool} {n j : Nat} (h : Fst (stR m f l) n j) : ∀ a, Stl (m.mul (mat (f ++ repR l (j + a * (n - j))))) ((wl m f l (j + 1)).flatten ++ repR ((wl m f l (n + 1)).drop (j + 1)).flatten a) (stR m f l j)
  | 0 => by
    rw [Nat.zero_mul]
    show Stl (m.mul (mat (f ++ repR l j))) ((wl m f l (j + 1)).flatten ++ []) _
    rw [List.append_nil]
    exact wl_stl o f l j
  | a + 1 => by
    have ih := rg_on o h a
    have h1 := wl_stl o f l n
    have h2 := wl_stl o f l j
    rw [h.eq, ← wl_drop h.lt] at h1
    obtain ⟨k, rfl⟩ : ∃ k, n = j + k := ⟨n - j, by have := h.lt; omega⟩
    rw [show j + k - j = k by omega] at ih ⊢
    have e4 : f ++ repR l (j + k) = (f ++ repR l j) ++ repR l k := by
      unfold repR
      rw [← List.replicate_append_replicate, List.flatten_append, List.append_assoc]
    have e5 : f ++ repR l (j + (a + 1) * k) = (f ++ repR l (j + a * k)) ++ repR l k := by
      unfold repR
      rw [Nat.succ_mul, ← Nat.add_assoc, ← List.replicate_append_replicate, List.flatten_append, List.append_assoc]
    rw [e4, mat_app, ← M4.mul_assoc] at h1
    have st : Stl ((stR m f l j).mul (mat (repR l k))) ((wl m f l (j + k + 1)).drop (j + 1)).flatten (stR m f l j) := by
      refine ⟨?_, h1.2⟩
      have e6 := h1.1
      rw [h2.1, mat_app, M4.mul_assoc, M4.mul_assoc] at e6
      have e7 := congrArg (fun x => (mat (wl m f l (j + 1)).flatten).adj.mul x) e6
      simp only [nn_adj] at e7
      exact e7
    rw [e5, mat_app, ← M4.mul_assoc]
    have e8 : repR ((wl m f l (j + k + 1)).drop (j + 1)).flatten (a + 1) = repR ((wl m f l (j + k + 1)).drop (j + 1)).flatten a ++ ((wl m f l (j + k + 1)).drop (j + 1)).flatten := by
      unfold repR
      rw [List.replicate_succ', List.flatten_append]
      simp
    rw [e8, ← List.append_assoc]
    exact ih.on st
theorem units65 {k : Nat} {A : Around} (h : Room k A) : A.units + 65 < cLine := by
  have := h.un
  omega
end Lr

set_option exponentiation.threshold 5000
namespace Lr
open PySem PySem.Spec PyProof.Rows L2
/-! what is due of a question of maps -/
open Classical in
noncomputable def dueM (way : Nat) (pm pn pp : Addr) (m n : M4) (x y : Int) (t0 t1 : Str) : Option (Nat × V) :=
  if ¬ Mp m then some (2, .ref pm) else if way = 2 ∧ ¬ Mp n then some (2, .ref pn) else if (way = 1 ∨ way = 4) ∧ ¬ FracP x y then some (1, .ref pp) else if way = 7 then (Fo [(t0, 0), (t1, 2)]).map fun t => (0, .str t) else none
section
variable {way : Nat} {pm pn pp : Addr} {m n : M4} {x y : Int} {t0 t1 : Str}
theorem dueM_m (h : ¬ Mp m) : dueM way pm pn pp m n x y t0 t1 = some (2, .ref pm) := by
  unfold dueM
  rw [if_pos h]
theorem dueM_n (h : Mp m) (k : ¬ Mp n) : dueM 2 pm pn pp m n x y t0 t1 = some (2, .ref pn) := by
  unfold dueM
  rw [if_neg (fun z => z h), if_pos ⟨rfl, k⟩]
theorem dueM_f (h : Mp m) (c : way = 1 ∨ way = 4) (k : ¬ FracP x y) : dueM way pm pn pp m n x y t0 t1 = some (1, .ref pp) := by
  unfold dueM
  rw [if_neg (fun z => z h), if_neg (fun z => by have := z.1; omega), if_pos ⟨c, k⟩]
theorem dueM_7 (h : Mp m) : dueM 7 pm pn pp m n x y t0 t1 = (Fo [(t0, 0), (t1, 2)]).map fun t => (0, .str t) := by
  unfold dueM
  rw [if_neg (fun z => z h), if_neg (fun z => by have := z.1; omega), if_neg (fun z => by have := z.1; omega), if_pos rfl]
theorem dueM_no (h : Mp m) (c : way ≠ 7) (k1 : way = 2 → Mp n) (k2 : way = 1 ∨ way = 4 → FracP x y) : dueM way pm pn pp m n x y t0 t1 = none := by
  unfold dueM
  rw [if_neg (fun z => z h), if_neg (fun z => z.2 (k1 z.1)), if_neg (fun z => z.2 (k2 z.1)), if_neg c]
end
/-- the class of a rank -/
def errM (k : Nat) : Str := match k with
  | 0 => "InvalidRoad"
  | 1 => "InvalidFraction"
  | _ => "InvalidMap"
end Lr

set_option exponentiation.threshold 5000
namespace Lr
/-! forms that are read on, turn by turn -/
def T3.go (t : T3) (b : Bool) : T3 := if b then ⟨t.x, 2 * t.x + t.y, t.x + t.y + t.z⟩ else ⟨t.x + t.y + t.z, t.y + 2 * t.z, t.z⟩
def T3.act (t : T3) (m : M4) : T3 := ⟨t.x * m.a * m.a + t.y * m.a * m.c + t.z * m.c * m.c, 2 * t.x * m.a * m.b + t.y * (m.a * m.d + m.b * m.c) + 2 * t.z * m.c * m.d, t.x * m.b * m.b + t.y * m.b * m.d + t.z * m.d * m.d⟩
def T3.gos (t : T3) (w : List Bool) : T3 := w.foldl T3.go t
theorem act_one (t : T3) : t.act M4.one = t := by
  obtain ⟨x, y, z⟩ := t
  simp only [T3.act, M4.one]
  congr 1 <;> grind
theorem act_mul (t : T3) (m n : M4) : t.act (m.mul n) = (t.act m).act n := by
  obtain ⟨x, y, z⟩ := t
  simp only [T3.act, M4.mul]
  congr 1 <;> grind
theorem act_turn (t : T3) (b : Bool) : t.act (mat [b]) = t.go b := by
  obtain ⟨x, y, z⟩ := t
  cases b
  · rw [mat_L]
    simp only [T3.act, T3.go, Bool.false_eq_true, if_false]
    congr 1 <;> grind
  · rw [mat_R]
    simp only [T3.act, T3.go, if_true]
    congr 1 <;> grind
theorem gos_snoc (t : T3) (w : List Bool) (b : Bool) : t.gos (w ++ [b]) = (t.gos w).go b := by
  unfold T3.gos
  rw [List.foldl_append]
  rfl
theorem gos_act (t : T3) (w : List Bool) : t.gos w = t.act (mat w) := by
  induction w using snoc_ind with
  | h0 => exact (act_one t).symm
  | h1 w b ih => rw [gos_snoc, ih, mat_app, act_mul, act_turn]
theorem gos_app (t : T3) (u v : List Bool) : t.gos (u ++ v) = (t.gos u).gos v := by
  unfold T3.gos
  rw [List.foldl_append]
theorem act_disc (t : T3) (m : M4) (h : m.det = 1) : (t.act m).disc = t.disc := by
  obtain ⟨x, y, z⟩ := t
  unfold M4.det at h
  simp only [T3.act, T3.disc]
  grind
theorem gos_disc (t : T3) (w : List Bool) : (t.gos w).disc = t.disc := by rw [gos_act, act_disc _ _ (mat_det w)]
theorem go_disc (t : T3) (b : Bool) : (t.go b).disc = t.disc := by
  have h := gos_disc t [b]
  exact h
/-- what a map of size 1 leaves a form, is its own form but for a factor -/
theorem act_fix {t : T3} {m : M4} (h : m.det = 1) (e : t.act m = t) : m.tr3.sc t.x = t.sc m.c := by
  obtain ⟨x, y, z⟩ := t
  obtain ⟨p, q, r, s⟩ := m
  unfold M4.det at h
  simp only [T3.act, T3.mk.injEq] at e
  obtain ⟨e1, e2, e3⟩ := e
  simp only [T3.sc, M4.tr3]
  congr 1 <;> grind
theorem act_own {m : M4} (h : m.det = 1) : m.tr3.act m = m.tr3 := by
  obtain ⟨p, q, r, s⟩ := m
  unfold M4.det at h
  simp only [T3.act, M4.tr3]
  congr 1 <;> grind
theorem act_sc (k : Int) (t : T3) (m : M4) : (t.sc k).act m = (t.act m).sc k := by
  obtain ⟨x, y, z⟩ := t
  simp only [T3.act, T3.sc]
  congr 1 <;> grind
theorem sc_inj {k : Int} (hk : k ≠ 0) {s t : T3} (h : s.sc k = t.sc k) : s = t := by
  obtain ⟨x, y, z⟩ := s
  obtain ⟨u, v, w⟩ := t
  simp only [T3.sc, T3.mk.injEq] at h
  obtain ⟨h1, h2, h3⟩ := h
  rw [Int.mul_eq_mul_left_iff hk] at h1 h2 h3
  rw [h1, h2, h3]
theorem act_keep {t : T3} {m : M4} (h : m.det = 1) {k l : Int} (hl : l ≠ 0) (e : m.tr3.sc k = t.sc l) : t.act m = t := by
  have z := act_own h
  have y : (t.act m).sc l = t.sc l := by rw [← act_sc, ← e, act_sc, z]
  exact sc_inj hl y
/-- a map again and again -/
def M4.pw (m : M4) : Nat → M4
  | 0 => M4.one
  | n + 1 => (M4.pw m n).mul m
theorem mat_rep (u : List Bool) (n : Nat) : mat (repR u n) = (mat u).pw n := by
  induction n with
  | zero => rfl
  | succ n ih =>
    have e : repR u (n + 1) = repR u n ++ u := by
      unfold repR
      rw [List.replicate_succ', List.flatten_append]
      simp
    rw [e, mat_app, ih]
    rfl
theorem pw_lin {m : M4} (h : m.det = 1) (n : Nat) : ∃ α β : Int, m.pw n = ⟨α * m.a + β, α * m.b, α * m.c, α * m.d + β⟩ := by
  induction n with
  | zero => exact ⟨0, 1, by simp [M4.pw, M4.one]⟩
  | succ n ih =>
    obtain ⟨α, β, e⟩ := ih
    refine ⟨α * m.tra + β, -α, ?_⟩
    show (m.pw n).mul m = _
    rw [e]
    unfold M4.det at h
    simp only [M4.mul, M4.tra]
    congr 1 <;> grind
theorem pw_tr3 {m : M4} (h : m.det = 1) (n : Nat) : ∃ α : Int, (m.pw n).tr3 = m.tr3.sc α := by
  obtain ⟨α, β, e⟩ := pw_lin h n
  refine ⟨α, ?_⟩
  rw [e]
  simp only [M4.tr3, T3.sc]
  congr 1 <;> grind
/-- a form that is met -/
structure Met (D : Int) (t : T3) : Prop where
  x : 0 < t.x
  z : t.z < 0
  d : t.disc = D
def T3.at1 (t : T3) : Int := t.x + t.y + t.z
def T3.nx (t : T3) : Bool := decide (t.at1 < 0)
def T3.st (t : T3) : T3 := t.go t.nx
theorem Met.ne {D : Int} {t : T3} (h : Met D t) (ns : ∀ s : Int, s * s ≠ D) : t.at1 ≠ 0 := fun e => by
  have hd := h.d
  unfold T3.disc at hd
  unfold T3.at1 at e
  refine ns (t.x - t.z) ?_
  grind
theorem Met.step {D : Int} {t : T3} (h : Met D t) (ns : ∀ s : Int, s * s ≠ D) : Met D t.st := by
  have n := h.ne ns
  have hx := h.x
  have hz := h.z
  refine ⟨?_, ?_, by unfold T3.st; rw [go_disc, h.d]⟩
  · unfold T3.st T3.nx T3.go
    by_cases c : t.at1 < 0
    · rw [decide_eq_true c]
      exact hx
    · rw [decide_eq_false c]
      show 0 < t.x + t.y + t.z
      unfold T3.at1 at c n
      omega
  · unfold T3.st T3.nx T3.go
    by_cases c : t.at1 < 0
    · rw [decide_eq_true c]
      show t.x + t.y + t.z < 0
      exact c
    · rw [decide_eq_false c]
      exact hz
theorem Met.inj {D : Int} {s t : T3} (hs : Met D s) (ht : Met D t) (e : s.st = t.st) : s = t := by
  have key : ∀ {t : T3}, Met D t → (t.nx = true → t.st.x - t.st.y + t.st.z < 0) ∧ (t.nx = false → 0 < t.st.x - t.st.y + t.st.z) := fun {t} h => by
    have hx := h.x
    have hz := h.z
    unfold T3.st
    constructor
    · intro c
      rw [c]
      show t.x - (2 * t.x + t.y) + (t.x + t.y + t.z) < 0
      omega
    · intro c
      rw [c]
      show 0 < t.x + t.y + t.z - (t.y + 2 * t.z) + t.z
      omega
  obtain ⟨s1, s2⟩ := key hs
  obtain ⟨t1, t2⟩ := key ht
  have en : s.nx = t.nx := by
    cases a : s.nx <;> cases b : t.nx
    · rfl
    · have := s2 a
      have := t1 b
      rw [e] at *
      omega
    · have := s1 a
      have := t2 b
      rw [e] at *
      omega
    · rfl
  unfold T3.st at e
  rw [en] at e
  obtain ⟨a, b, c⟩ := s
  obtain ⟨a', b', c'⟩ := t
  cases z : T3.nx ⟨a', b', c'⟩ <;> rw [z] at e <;> simp only [T3.go, Bool.false_eq_true, if_true, if_false, T3.mk.injEq] at e <;> obtain ⟨e1, e2, e3⟩ := e <;> congr 1 <;> omega
/-- the turns that are met, and the form behind them -/
def T3.way (t : T3) : Nat → List Bool
  | 0 => []
  | n + 1 => t.way n ++ [(t.gos (t.way n)).nx]
theorem way_len (t : T3) (n : Nat) : (t.way n).length = n := by
  induction n with
  | zero => rfl
  | succ n ih =>
    show (t.way n ++ [_]).length = _
    rw [List.length_append, ih]
    rfl
theorem way_st (t : T3) (n : Nat) : t.gos (t.way (n + 1)) = (t.gos (t.way n)).st := by
  show t.gos (t.way n ++ [_]) = _
  rw [gos_snoc]
  rfl
theorem way_take (t : T3) {j n : Nat} (h : j ≤ n) : (t.way n).take j = t.way j := by
  induction n with
  | zero =>
    have : j = 0 := by omega
    subst this
    rfl
  | succ n ih =>
    show (t.way n ++ [_]).take j = _
    by_cases c : j ≤ n
    · rw [List.take_append_of_le_length (by rw [way_len]; exact c), ih c]
    · have : j = n + 1 := by omega
      subst this
      rw [List.take_of_length_le (by rw [List.length_append, way_len]; simp)]
      rfl
theorem way_met {D : Int} {t : T3} (h : Met D t) (ns : ∀ s : Int, s * s ≠ D) (n : Nat) : Met D (t.gos (t.way n)) := by
  induction n with
  | zero => exact h
  | succ n ih =>
    rw [way_st]
    exact ih.step ns
theorem way_back {D : Int} {t : T3} (h : Met D t) (ns : ∀ s : Int, s * s ≠ D) {i k : Nat} (e : t.gos (t.way (i + k)) = t.gos (t.way i)) : t.gos (t.way k) = t := by
  induction i with
  | zero =>
    rw [Nat.zero_add] at e
    exact e
  | succ i ih =>
    refine ih ((way_met h ns _).inj (way_met h ns _) ?_)
    rw [← way_st, ← way_st, ← e]
    congr 2
    omega
end Lr

set_option exponentiation.threshold 5000
namespace Lr
/-! forms come again: there are but so many -/
def fcode (S : Nat) (t : T3) : Nat := ((t.y + S).toNat * 2 + (if t.x ≤ -t.z then 0 else 1)) * (S + 1) + (if t.x ≤ -t.z then t.x else -t.z).toNat
theorem Met.bds {D : Int} {t : T3} {S : Nat} (h : Met D t) (hS : D < (S + 1) * (S + 1)) : -(S : Int) ≤ t.y ∧ t.y ≤ S ∧ (if t.x ≤ -t.z then t.x else -t.z) ≤ S ∧ 0 < (if t.x ≤ -t.z then t.x else -t.z) := by
  have hx := h.x
  have hz := h.z
  have hd := h.d
  unfold T3.disc at hd
  have p : 0 < t.x * (-t.z) := Int.mul_pos hx (by omega)
  have ey : t.y * t.y = D - 4 * (t.x * (-t.z)) := by grind
  have y1 : ¬ (S + 1 : Int) ≤ t.y := fun c => by
    have := Int.mul_le_mul c c (by omega) (by omega)
    omega
  have y2 : ¬ t.y ≤ -(S + 1 : Int) := fun c => by
    have c : (S + 1 : Int) ≤ -t.y := by omega
    have := Int.mul_le_mul c c (by omega) (by omega)
    rw [Int.neg_mul_neg] at this
    omega
  refine ⟨by omega, by omega, ?_, by split <;> omega⟩
  have yy : 0 ≤ t.y * t.y := by
    rcases Int.le_total 0 t.y with c | c
    · exact Int.mul_nonneg c c
    · rw [← Int.neg_mul_neg]
      exact Int.mul_nonneg (by omega) (by omega)
  refine Int.not_lt.mp fun c => ?_
  have a1 : (S + 1 : Int) ≤ t.x := by split at c <;> omega
  have a2 : (S + 1 : Int) ≤ -t.z := by split at c <;> omega
  have := Int.mul_le_mul a1 a2 (by omega) (by omega)
  omega
theorem Met.code_lt {D : Int} {t : T3} {S : Nat} (h : Met D t) (hS : D < (S + 1) * (S + 1)) : fcode S t < (2 * S + 1) * 2 * (S + 1) := by
  obtain ⟨y1, y2, m1, m2⟩ := h.bds hS
  unfold fcode
  generalize (if t.x ≤ -t.z then t.x else -t.z) = m at m1 m2
  have e : (t.y + S).toNat ≤ 2 * S := by omega
  have e2 : (if t.x ≤ -t.z then 0 else 1 : Nat) ≤ 1 := by split <;> omega
  have e3 : m.toNat < S + 1 := by omega
  have : ((t.y + S).toNat * 2 + (if t.x ≤ -t.z then 0 else 1)) * (S + 1) ≤ (4 * S + 1) * (S + 1) := Nat.mul_le_mul_right _ (by omega)
  have : (2 * S + 1) * 2 * (S + 1) = (4 * S + 1) * (S + 1) + (S + 1) := by grind
  omega
theorem Met.code_inj {D : Int} {s t : T3} {S : Nat} (hs : Met D s) (ht : Met D t) (hS : D < (S + 1) * (S + 1)) (e : fcode S s = fcode S t) : s = t := by
  obtain ⟨y1, y2, m1, m2⟩ := hs.bds hS
  obtain ⟨y3, y4, m3, m4⟩ := ht.bds hS
  have ds := hs.d
  have dt := ht.d
  have sx := hs.x
  have tx := ht.x
  have sz := hs.z
  have tz := ht.z
  unfold fcode at e
  unfold T3.disc at ds dt
  have lo : ∀ {a b c d : Nat}, c < S + 1 → d < S + 1 → a * (S + 1) + c = b * (S + 1) + d → a = b ∧ c = d := fun {a b c d} h1 h2 h => by
    have z1 : (a * (S + 1) + c) / (S + 1) = a := by rw [Nat.mul_comm, Nat.mul_add_div (by omega), Nat.div_eq_of_lt h1, Nat.add_zero]
    have z2 : (b * (S + 1) + d) / (S + 1) = b := by rw [Nat.mul_comm, Nat.mul_add_div (by omega), Nat.div_eq_of_lt h2, Nat.add_zero]
    have : a = b := by rw [← z1, ← z2, h]
    subst this
    exact ⟨rfl, by omega⟩
  obtain ⟨e1, e2⟩ := lo (by omega) (by omega) e
  have ey : s.y = t.y := by
    split at e1 <;> split at e1 <;> omega
  have exz : s.x * s.z = t.x * t.z := by rw [ey] at ds; grind
  have goal : s.x = t.x ∧ s.z = t.z := by
    by_cases c : s.x ≤ -s.z
    · have c' : t.x ≤ -t.z := by
        rw [if_pos c] at e1
        split at e1
        · assumption
        · omega
      rw [if_pos c, if_pos c'] at e2
      rw [if_pos c] at m2
      rw [if_pos c'] at m4
      have : s.x = t.x := by omega
      rw [this] at exz
      exact ⟨this, (Int.mul_eq_mul_left_iff (by omega)).mp exz⟩
    · have c' : ¬ t.x ≤ -t.z := by
        rw [if_neg c] at e1
        split at e1
        · omega
        · assumption
      rw [if_neg c, if_neg c'] at e2
      have : s.z = t.z := by omega
      rw [this] at exz
      exact ⟨(Int.mul_eq_mul_right_iff (by omega)).mp exz, this⟩
  obtain ⟨a, b, c⟩ := s
  obtain ⟨a', b', c'⟩ := t
  simp only at goal ey
  rw [goal.1, goal.2, ey]
/-- the first time that a form comes again -/
structure Ret (t : T3) (n : Nat) : Prop where
  pos : 1 ≤ n
  eq : t.gos (t.way n) = t
  no : ∀ k, 1 ≤ k → k < n → t.gos (t.way k) ≠ t
theorem ret_ex {D : Int} {t : T3} {S : Nat} (h : Met D t) (ns : ∀ s : Int, s * s ≠ D) (hS : D < (S + 1) * (S + 1)) : ∃ n, n ≤ (2 * S + 1) * 2 * (S + 1) ∧ Ret t n := by
  generalize hB : (2 * S + 1) * 2 * (S + 1) = B
  have ex : ∃ n, 1 ≤ n ∧ n ≤ B ∧ t.gos (t.way n) = t := by
    refine Classical.byContradiction fun no => ?_
    have nd : ((List.range (B + 1)).map fun i => fcode S (t.gos (t.way i))).Nodup := by
      rw [List.Nodup, List.pairwise_map]
      refine List.pairwise_lt_range.imp_of_mem fun {a b} ha hb lt ne => no ?_
      have z := (way_met h ns a).code_inj (way_met h ns b) hS ne
      refine ⟨b - a, by omega, by have := List.mem_range.mp hb; omega, way_back h ns (i := a) ?_⟩
      rw [show a + (b - a) = b by omega]
      exact z.symm
    have z := List.Nodup.length_le_of_subset nd (l₂ := List.range B) (fun x hx => by
      obtain ⟨k, hk, rfl⟩ := List.mem_map.mp hx
      have := (way_met h ns k).code_lt hS
      exact List.mem_range.mpr (by omega))
    rw [List.length_map, List.length_range, List.length_range] at z
    omega
  obtain ⟨n, ⟨n1, nB, e⟩, mn⟩ := first_ex (p := fun n => 1 ≤ n ∧ n ≤ B ∧ t.gos (t.way n) = t) ex
  exact ⟨n, nB, n1, e, fun k k1 kn z => mn k kn ⟨k1, by omega, z⟩⟩
theorem Ret.ne {t : T3} {n : Nat} (h : Ret t n) : t.way n ≠ [] := fun z => by
  have e := way_len t n
  rw [z] at e
  have := h.pos
  have : (0 : Nat) = n := e
  omega
theorem Ret.both {D : Int} {t : T3} {n : Nat} (m : Met D t) (h : Ret t n) : Both (t.way n) := by
  have e := act_fix (mat_det (t.way n)) (by rw [← gos_act]; exact h.eq)
  have hx := m.x
  have hz := m.z
  obtain ⟨g1, g2, g3, g4⟩ := mat_ge (t.way n)
  simp only [T3.sc, M4.tr3, T3.mk.injEq] at e
  obtain ⟨e1, e2, e3⟩ := e
  have one : false ∈ t.way n ∨ true ∈ t.way n := by
    cases c : t.way n with
    | nil => exact absurd c h.ne
    | cons b r =>
      cases b
      · exact .inl List.mem_cons_self
      · exact .inr List.mem_cons_self
  have f1 : false ∈ t.way n → true ∈ t.way n := fun f => Classical.byContradiction fun c => by
    have hc := g4 f
    have hb : (mat (t.way n)).b = 0 := by
      have : ∀ w : List Bool, ¬ true ∈ w → (mat w).b = 0 := by
        intro w
        induction w using snoc_ind with
        | h0 => intro _; rfl
        | h1 w b ih =>
          intro hn
          rw [mat_snoc]
          cases b
          · exact ih fun z => hn (List.mem_append_left _ z)
          · exact absurd (List.mem_append_right _ List.mem_cons_self) hn
      exact this _ c
    rw [hb] at e3
    have : (mat (t.way n)).c * t.z = 0 := by omega
    rcases Int.mul_eq_zero.mp this with z | z <;> omega
  have f2 : true ∈ t.way n → false ∈ t.way n := fun f => Classical.byContradiction fun c => by
    have hb := g3 f
    have hc : (mat (t.way n)).c = 0 := by
      have : ∀ w : List Bool, ¬ false ∈ w → (mat w).c = 0 := by
        intro w
        induction w using snoc_ind with
        | h0 => intro _; rfl
        | h1 w b ih =>
          intro hn
          rw [mat_snoc]
          cases b
          · exact absurd (List.mem_append_right _ List.mem_cons_self) hn
          · exact ih fun z => hn (List.mem_append_left _ z)
      exact this _ c
    rw [hc, Int.zero_mul] at e3
    rcases Int.mul_eq_zero.mp e3 with z | z <;> omega
  rcases one with z | z
  · exact ⟨z, f1 z⟩
  · exact ⟨f2 z, z⟩
theorem Ret.prim {D : Int} {t : T3} {n : Nat} (m : Met D t) (h : Ret t n) : Prim (t.way n) := by
  refine ⟨h.ne, fun k k1 kl hp => ?_⟩
  rw [way_len] at kl
  obtain ⟨p, hl⟩ := least_ex h.ne
  have pk : p ≤ k := Nat.not_lt.mp fun z => hl.2.2.2 k k1 z hp
  have e := (per_rep hl.1 hl.2.1).mpr ⟨hl.2.2.1, hl.dvd⟩
  rw [way_take t (by omega)] at e
  have b := h.both m
  have c1 := (mat_ge (t.way n)).2.2.2 b.1
  have f := act_fix (mat_det (t.way n)) (by rw [← gos_act]; exact h.eq)
  obtain ⟨α, hα⟩ := pw_tr3 (mat_det (t.way p)) ((t.way n).length / p)
  rw [← mat_rep, e] at hα
  rw [hα, sc_sc] at f
  refine h.no p hl.1 (by omega) ?_
  rw [gos_act]
  exact act_keep (mat_det _) (by omega) f
def T3.lw (t : T3) : T3 := ⟨t.x / (gl t.l : Int), t.y / (gl t.l : Int), t.z / (gl t.l : Int)⟩
theorem lw_l (t : T3) : t.lw.l = lowl t.l := rfl
theorem lw_nsq {t : T3} (h : 0 < t.x) : Nsq t t.lw := by
  have z := nsq_div (t := t) (s := 1) (by omega) (.inl ⟨rfl, h⟩)
  simp only [Int.one_mul] at z
  exact z
theorem Ret.nsq {D : Int} {t : T3} {n : Nat} (m : Met D t) (h : Ret t n) : Nsq (arnd [] (t.way n)).tr3 t.lw := by
  have e : arnd [] (t.way n) = mat (t.way n) := by
    show ((M4.one.mul (mat (t.way n))).mul M4.one.adj) = _
    rw [M4.one_mul]
    show (mat (t.way n)).mul M4.one = _
    exact M4.mul_one _
  have b := h.both m
  have c1 := (mat_ge (t.way n)).2.2.2 b.1
  have f := act_fix (mat_det (t.way n)) (by rw [← gos_act]; exact h.eq)
  rw [e]
  have own : (mat (t.way n)).tr3.x ≠ 0 := by
    show (mat (t.way n)).c ≠ 0
    omega
  have hx := m.x
  have d := nsq_div (t := (mat (t.way n)).tr3) (s := 1) own (.inl ⟨rfl, by show 0 < (mat (t.way n)).c; omega⟩)
  have d1 := d.scale (k := t.x) (by omega)
  have d2 := (lw_nsq hx).scale (k := (mat (t.way n)).c) (by omega)
  rw [f] at d1
  rw [← d1.eq d2]
  exact d
end Lr

set_option exponentiation.threshold 5000
namespace Lr
/-! how many forms of a number to 18000 there are at most -/
def dvs (n : Nat) : List Nat := (List.range 68).filter fun k => k != 0 && n % k == 0
theorem dvs_all : (List.range 4501).all (fun n => n == 0 || Nat.ble (dvs n).length 27) = true := by decide +kernel
theorem dvs_len {n : Nat} (h0 : 0 < n) (h : n ≤ 4500) : (dvs n).length ≤ 27 := by
  have z := List.all_eq_true.mp dvs_all n (List.mem_range.mpr (by omega))
  rcases Bool.or_eq_true_iff.mp z with y | y
  · have : n = 0 := by simpa using y
    omega
  · exact Nat.le_of_ble_eq_true y
def fcs (D : Int) : List (Nat × Nat × Nat) := (List.range 269).flatMap fun (i : Nat) => if (D - ((i : Int) - 134) * ((i : Int) - 134)) % 4 = 0 ∧ 0 < D - ((i : Int) - 134) * ((i : Int) - 134) then (dvs ((D - ((i : Int) - 134) * ((i : Int) - 134)) / 4).toNat).flatMap fun k => [(i, k, 0), (i, k, 1)] else []
theorem sum_le {α : Type} {f g : α → Nat} : ∀ {l : List α}, (∀ x ∈ l, f x ≤ g x) → (l.map f).sum ≤ (l.map g).sum
  | [], _ => Nat.le_refl _
  | x :: l, h => by
    have a := h x List.mem_cons_self
    have b := sum_le (l := l) fun y hy => h y (List.mem_cons_of_mem _ hy)
    rw [List.map_cons, List.map_cons, List.sum_cons, List.sum_cons]
    exact Nat.add_le_add a b
theorem two_len (l : List Nat) (i : Nat) : (l.flatMap fun k => [(i, k, 0), (i, k, 1)]).length = 2 * l.length := by
  induction l with
  | nil => rfl
  | cons x l ih =>
    rw [List.flatMap_cons, List.length_append, ih]
    simp only [List.length_cons, List.length_nil]
    omega
theorem fcs_len {D : Int} (h : D ≤ 18000) : (fcs D).length ≤ 7290 := by
  unfold fcs
  rw [List.length_flatMap]
  have key : ∀ r : Nat, D % 2 = (r : Nat) → ∀ i ∈ List.range 269, (if (D - ((i : Int) - 134) * ((i : Int) - 134)) % 4 = 0 ∧ 0 < D - ((i : Int) - 134) * ((i : Int) - 134) then (dvs ((D - ((i : Int) - 134) * ((i : Int) - 134)) / 4).toNat).flatMap fun k => [(i, k, 0), (i, k, 1)] else []).length ≤ if i % 2 = r then 54 else 0 := by
    intro r hr i hi
    by_cases c : (D - ((i : Int) - 134) * ((i : Int) - 134)) % 4 = 0 ∧ 0 < D - ((i : Int) - 134) * ((i : Int) - 134)
    · rw [if_pos c, two_len]
      obtain ⟨c1, c2⟩ := c
      have sq : 0 ≤ ((i : Int) - 134) * ((i : Int) - 134) := by
        rcases Int.le_total 0 ((i : Int) - 134) with c | c
        · exact Int.mul_nonneg c c
        · rw [← Int.neg_mul_neg]
          exact Int.mul_nonneg (by omega) (by omega)
      have par : (((i : Int) - 134) * ((i : Int) - 134)) % 2 = (i : Int) % 2 := by
        rcases Int.emod_two_eq i with z | z
        · obtain ⟨j, hj⟩ : ∃ j, (i : Int) - 134 = 2 * j := ⟨((i : Int) - 134) / 2, by omega⟩
          rw [hj, Int.mul_assoc, Int.mul_emod_right]
          omega
        · obtain ⟨j, hj⟩ : ∃ j, (i : Int) - 134 = 2 * j + 1 := ⟨((i : Int) - 134) / 2, by omega⟩
          rw [hj]
          have : (2 * j + 1) * (2 * j + 1) = 2 * (j * (2 * j) + 2 * j) + 1 := by grind
          omega
      generalize ((i : Int) - 134) * ((i : Int) - 134) = y at *
      rw [if_pos (by omega)]
      have := dvs_len (n := ((D - y) / 4).toNat) (by omega) (by omega)
      omega
    · rw [if_neg c]
      exact Nat.zero_le _
  rcases Int.emod_two_eq D with z | z
  · refine Nat.le_trans (sum_le (key 0 z)) ?_
    decide +kernel
  · refine Nat.le_trans (sum_le (key 1 z)) ?_
    decide +kernel
def fcode2 (t : T3) : Nat × Nat × Nat := ((t.y + 134).toNat, (if t.x ≤ -t.z then t.x else -t.z).toNat, if t.x ≤ -t.z then 0 else 1)
theorem Met.code2 {D : Int} {t : T3} (h : Met D t) (hD : D ≤ 18000) : fcode2 t ∈ fcs D := by
  obtain ⟨y1, y2, m1, m2⟩ := h.bds (S := 134) (by omega)
  have hx := h.x
  have hz := h.z
  have hd := h.d
  unfold T3.disc at hd
  have p : 0 < t.x * (-t.z) := Int.mul_pos hx (by omega)
  have mul_le : (if t.x ≤ -t.z then t.x else -t.z) * (if t.x ≤ -t.z then t.x else -t.z) ≤ t.x * (-t.z) := by
    split
    · exact Int.mul_le_mul_of_nonneg_left (by assumption) (by omega)
    · exact Int.mul_le_mul_of_nonneg_right (by omega) (by omega)
  have e4 : D - t.y * t.y = 4 * (t.x * (-t.z)) := by grind
  have yy : 0 ≤ t.y * t.y := by
    rcases Int.le_total 0 t.y with c | c
    · exact Int.mul_nonneg c c
    · rw [← Int.neg_mul_neg]
      exact Int.mul_nonneg (by omega) (by omega)
  have m67 : (if t.x ≤ -t.z then t.x else -t.z) ≤ 67 := by
    generalize (if t.x ≤ -t.z then t.x else -t.z) = m at *
    refine Int.not_lt.mp fun c => ?_
    have := Int.mul_le_mul (show (68 : Int) ≤ m by omega) (show (68 : Int) ≤ m by omega) (by omega) (by omega)
    omega
  have dv : ∃ k : Nat, (t.x * (-t.z)) = (if t.x ≤ -t.z then t.x else -t.z) * (k : Int) := by
    split
    · exact ⟨(-t.z).toNat, by rw [Int.toNat_of_nonneg (by omega)]⟩
    · exact ⟨t.x.toNat, by rw [Int.toNat_of_nonneg (by omega), Int.mul_comm]⟩
  have ei : (((t.y + 134).toNat : Nat) : Int) - 134 = t.y := by omega
  unfold fcs fcode2
  refine List.mem_flatMap.mpr ⟨(t.y + 134).toNat, List.mem_range.mpr (by omega), ?_⟩
  rw [ei, if_pos ⟨by omega, by omega⟩]
  have e5 : ((D - t.y * t.y) / 4).toNat = (t.x * (-t.z)).toNat := by omega
  rw [e5]
  generalize (if t.x ≤ -t.z then t.x else -t.z) = m at *
  obtain ⟨k, hk⟩ := dv
  refine List.mem_flatMap.mpr ⟨m.toNat, ?_, ?_⟩
  · unfold dvs
    refine List.mem_filter.mpr ⟨List.mem_range.mpr (by omega), ?_⟩
    have en : (t.x * (-t.z)).toNat = m.toNat * k := by
      rw [hk]
      obtain ⟨j, ej⟩ : ∃ j : Nat, m = (j : Int) := ⟨m.toNat, by omega⟩
      rw [ej, ← Int.natCast_mul, Int.toNat_natCast, Int.toNat_natCast]
    rw [en, Nat.mul_mod_right]
    have : (m.toNat != 0) = true := by
      have : m.toNat ≠ 0 := by omega
      simpa using this
    rw [this]
    rfl
  · split
    · exact List.mem_cons_self
    · exact List.mem_cons_of_mem _ List.mem_cons_self
theorem Met.code2_inj {D : Int} {s t : T3} (hs : Met D s) (ht : Met D t) (hD : D ≤ 18000) (e : fcode2 s = fcode2 t) : s = t := by
  refine hs.code_inj ht (S := 134) (by omega) ?_
  obtain ⟨y1, y2, m1, m2⟩ := hs.bds (S := 134) (by omega)
  obtain ⟨y3, y4, m3, m4⟩ := ht.bds (S := 134) (by omega)
  unfold fcode2 at e
  simp only [Prod.mk.injEq] at e
  obtain ⟨e1, e2, e3⟩ := e
  unfold fcode
  rw [e2, e3]
  have : (s.y + (134 : Nat)).toNat = (t.y + (134 : Nat)).toNat := by omega
  rw [this]
theorem ret_ex2 {D : Int} {t : T3} (h : Met D t) (ns : ∀ s : Int, s * s ≠ D) (hD : D ≤ 18000) : ∃ n, n ≤ 7290 ∧ Ret t n := by
  have ex : ∃ n, 1 ≤ n ∧ n ≤ 7290 ∧ t.gos (t.way n) = t := by
    refine Classical.byContradiction fun no => ?_
    have nd : ((List.range 7291).map fun i => fcode2 (t.gos (t.way i))).Nodup := by
      rw [List.Nodup, List.pairwise_map]
      refine List.pairwise_lt_range.imp_of_mem fun {a b} ha hb lt ne => no ?_
      have z := (way_met h ns a).code2_inj (way_met h ns b) hD ne
      refine ⟨b - a, by omega, by have := List.mem_range.mp hb; omega, way_back h ns (i := a) ?_⟩
      rw [show a + (b - a) = b by omega]
      exact z.symm
    have z := List.Nodup.length_le_of_subset nd (l₂ := fcs D) (fun x hx => by
      obtain ⟨k, hk, rfl⟩ := List.mem_map.mp hx
      exact (way_met h ns k).code2 hD)
    have := fcs_len hD
    rw [List.length_map, List.length_range] at z
    omega
  obtain ⟨n, ⟨n1, nB, e⟩, mn⟩ := first_ex (p := fun n => 1 ≤ n ∧ n ≤ 7290 ∧ t.gos (t.way n) = t) ex
  exact ⟨n, nB, n1, e, fun k k1 kn z => mn k kn ⟨k1, by omega, z⟩⟩
end Lr

set_option exponentiation.threshold 5000
namespace Lr
open PySem PySem.Spec PyProof.Rows L2
/-! one endless road has one least way -/
theorem per_of {c d : List Bool × List Bool} (hc : c.2 ≠ []) (hd : d.2 ≠ []) (e : sq c.1 c.2 = sq d.1 d.2) : Per c.2 d.2.length := by
  have p1 := List.length_pos_iff.mpr hc
  intro i hi
  have M1 : d.1.length * 1 ≤ d.1.length * c.2.length := Nat.mul_le_mul_left _ p1
  have e1 : sq c.1 c.2 (c.1.length + i + d.1.length * c.2.length) = c.2[i]? := by
    unfold sq
    rw [if_neg (by omega), show c.1.length + i + d.1.length * c.2.length - c.1.length = i + d.1.length * c.2.length by omega, Nat.add_mul_mod_self_right, Nat.mod_eq_of_lt hi]
  have e2 : sq c.1 c.2 (c.1.length + i + d.1.length * c.2.length + d.2.length) = c.2[(i + d.2.length) % c.2.length]? := by
    unfold sq
    rw [if_neg (by omega), show c.1.length + i + d.1.length * c.2.length + d.2.length - c.1.length = i + d.2.length + d.1.length * c.2.length by omega, Nat.add_mul_mod_self_right]
  rw [← e2, ← e1, e]
  exact sq_per hd (by omega)
theorem prim_dvd {c d : List Bool × List Bool} (hc : Prim c.2) (hd : Prim d.2) (e : sq c.1 c.2 = sq d.1 d.2) : c.2.length ∣ d.2.length := by
  have p := per_of hc.1 hd.1 e
  have p1 := List.length_pos_iff.mpr hc.1
  have k : Per c.2 (d.2.length % c.2.length) := by
    refine Per.sub ((per_len c.2).mul (d.2.length / c.2.length)) ?_
    rw [Nat.mul_comm, Nat.mod_add_div]
    exact p
  refine Nat.dvd_of_mod_eq_zero ?_
  by_cases z : 1 ≤ d.2.length % c.2.length
  · exact absurd k (hc.2 _ z (Nat.mod_lt _ p1))
  · omega
theorem front_le {c d : List Bool × List Bool} (hc : c.2 ≠ []) (hd : d.2 ≠ []) (l : c.2.length = d.2.length) (fd : stp d = d) (e : sq c.1 c.2 = sq d.1 d.2) : d.1.length ≤ c.1.length := by
  refine Nat.not_lt.mp fun z => ?_
  have p1 := List.length_pos_iff.mpr hd
  have e1 : sq d.1 d.2 (d.1.length - 1) = d.1.getLast? := by
    unfold sq
    rw [if_pos (by omega), List.getLast?_eq_getElem?]
  have e2 : sq d.1 d.2 (d.1.length - 1 + c.2.length) = d.2.getLast? := by
    unfold sq
    rw [if_neg (by omega), List.getLast?_eq_getElem?, show d.1.length - 1 + c.2.length - d.1.length = d.2.length - 1 by omega, Nat.mod_eq_of_lt (by omega)]
  have e3 := sq_per (f := c.1) hc (i := d.1.length - 1) (by omega)
  rw [e, e1, e2] at e3
  have e4 : stp d = (d.1.dropLast, rr d.2) := by
    unfold stp
    rw [if_pos e3.symm]
  rw [fd] at e4
  have e5 := congrArg (fun x => x.1.length) e4
  simp only [List.length_dropLast] at e5
  omega
theorem sq_one {c d : List Bool × List Bool} (hc : Prim c.2) (hd : Prim d.2) (fc : stp c = c) (fd : stp d = d) (e : sq c.1 c.2 = sq d.1 d.2) : c = d := by
  have l : c.2.length = d.2.length := Nat.dvd_antisymm (prim_dvd hc hd e) (prim_dvd hd hc e.symm)
  have p1 := List.length_pos_iff.mpr hc.1
  have h1 := front_le hc.1 hd.1 l fd e
  have h2 := front_le hd.1 hc.1 l.symm fc e.symm
  have l1 : c.1.length = d.1.length := by omega
  have e1 : c.1 = d.1 := by
    refine List.ext_getElem? fun i => ?_
    by_cases hi : i < c.1.length
    · have z := congrFun e i
      unfold sq at z
      rw [if_pos hi, if_pos (by omega)] at z
      exact z
    · rw [List.getElem?_eq_none (by omega), List.getElem?_eq_none (by omega)]
  have e2 : c.2 = d.2 := by
    refine List.ext_getElem? fun i => ?_
    by_cases hi : i < c.2.length
    · have z := congrFun e (c.1.length + i)
      unfold sq at z
      rw [if_neg (by omega), if_neg (by omega), show c.1.length + i - c.1.length = i by omega, show c.1.length + i - d.1.length = i by omega, Nat.mod_eq_of_lt hi, Nat.mod_eq_of_lt (by omega)] at z
      exact z
    · rw [List.getElem?_eq_none (by omega), List.getElem?_eq_none (by omega)]
  exact Prod.ext e1 e2
theorem Lw.same {f l g k : List Bool} {c d : List Bool × List Bool} (e : Lr.sq f l = Lr.sq g k) (h : Lw f l c) (h' : Lw g k d) : c = d :=
  sq_one h.prim h'.prim h.fix h'.fix (by rw [h.sq, h'.sq, e])
theorem ft_pre {f l : List Bool} (hl : l ≠ []) {A N : Nat} (h : (f ++ repR l A).length ≤ N) : ∃ v, ft f l N = (f ++ repR l A) ++ v := by
  refine ⟨(ft f l N).drop (f ++ repR l A).length, ?_⟩
  have e : (ft f l N).take (f ++ repR l A).length = f ++ repR l A := by
    rw [ft_take hl h, ← ft_any (r := A) hl (by rw [List.length_append, repR_len]; exact Nat.le_refl _), List.take_length]
  have z := (List.take_append_drop (f ++ repR l A).length (ft f l N)).symm
  rw [e] at z
  exact z
theorem told_sq {m : M4} (o : Okm m) {f l g k : List Bool} (bl : true ∈ l) (bk : true ∈ k) (e : sq f l = sq g k) {n j n' j' : Nat} (h : Fst (stR m f l) n j) (h' : Fst (stR m g k) n' j') :
    sq (wl m f l (j + 1)).flatten ((wl m f l (n + 1)).drop (j + 1)).flatten = sq (wl m g k (j' + 1)).flatten ((wl m g k (n' + 1)).drop (j' + 1)).flatten := by
  have r1 := ring_ne o bl h
  have r2 := ring_ne o bk h'
  have q1 := List.length_pos_iff.mpr r1
  have q2 := List.length_pos_iff.mpr r2
  have hl : l ≠ [] := List.ne_nil_of_mem bl
  have hk : k ≠ [] := List.ne_nil_of_mem bk
  funext i
  have s1 := rg_on o h (i + 1)
  have s2 := rg_on o h' (i + 1)
  have g1 : i < (wl m f l (j + 1)).flatten.length + (i + 1) * ((wl m f l (n + 1)).drop (j + 1)).flatten.length := by
    have : (i + 1) * 1 ≤ (i + 1) * ((wl m f l (n + 1)).drop (j + 1)).flatten.length := Nat.mul_le_mul_left _ q1
    omega
  have g2 : i < (wl m g k (j' + 1)).flatten.length + (i + 1) * ((wl m g k (n' + 1)).drop (j' + 1)).flatten.length := by
    have : (i + 1) * 1 ≤ (i + 1) * ((wl m g k (n' + 1)).drop (j' + 1)).flatten.length := Nat.mul_le_mul_left _ q2
    omega
  rw [← sq_any g1, ← sq_any g2]
  have g1' : i < ((wl m f l (j + 1)).flatten ++ repR ((wl m f l (n + 1)).drop (j + 1)).flatten (i + 1)).length := by
    rw [List.length_append, repR_len]
    exact g1
  have g2' : i < ((wl m g k (j' + 1)).flatten ++ repR ((wl m g k (n' + 1)).drop (j' + 1)).flatten (i + 1)).length := by
    rw [List.length_append, repR_len]
    exact g2
  generalize (wl m f l (j + 1)).flatten ++ repR ((wl m f l (n + 1)).drop (j + 1)).flatten (i + 1) = W at *
  generalize (wl m g k (j' + 1)).flatten ++ repR ((wl m g k (n' + 1)).drop (j' + 1)).flatten (i + 1) = W' at *
  generalize j + (i + 1) * (n - j) = A at *
  generalize j' + (i + 1) * (n' - j') = A' at *
  obtain ⟨v, hv⟩ := ft_pre (f := f) hl (A := A) (N := (f ++ repR l A).length + (g ++ repR k A').length) (by omega)
  obtain ⟨v', hv'⟩ := ft_pre (f := g) hk (A := A') (N := (f ++ repR l A).length + (g ++ repR k A').length) (by omega)
  have ee : ft f l ((f ++ repR l A).length + (g ++ repR k A').length) = ft g k ((f ++ repR l A).length + (g ++ repR k A').length) := (ft_eq hl hk).mpr fun i _ => congrFun e i
  obtain ⟨x, s, hx, _⟩ := stl_next o.nn o.d0 o.dt o.le (ft f l ((f ++ repR l A).length + (g ++ repR k A').length))
  have hx' := hx
  rw [hv] at hx
  rw [ee, hv'] at hx'
  obtain ⟨y, ey⟩ := stl_pre o s1 hx
  obtain ⟨y', ey'⟩ := stl_pre o s2 hx'
  have t1 : x[i]? = W[i]? := by rw [ey, List.getElem?_append_left g1']
  have t2 : x[i]? = W'[i]? := by rw [ey', List.getElem?_append_left g2']
  rw [← t1, t2]
section
variable {X : Cx}
theorem op_mulB : OpR X (binaryOp .Mult) (fun x y H Q => ∃ (z : Str) (n : Int), x = .str z ∧ y = .int n ∧ z.length ≤ 1000000 ∧ 0 ≤ n ∧ n ≤ 1000000 ∧ z.length * n.toNat ≤ 1000000 ∧ Q (.str (repT z n)) H) := by
  intro pins s σ H x y v u Q I rx ry h
  obtain ⟨z, n, rfl, rfl, hz, n0, n1, hp, q⟩ := h
  obtain ⟨t, rfl⟩ := rx
  obtain ⟨t2, rfl⟩ := ry
  refine PySem.P.mul_str (by rw [decide_eq_false (by omega), decide_eq_false (by omega)]; rfl) (fun h1 _ => ?_) (fun h1 _ => ?_) ?_
  · have : (2 ^ 63 - 1 : Int) / n ≥ 1000000 := by
      have e1 : (1000000 : Int) * n ≤ 2 ^ 63 - 1 := by omega
      exact (Int.le_ediv_iff_mul_le (by omega)).mpr e1
    have hz' : ((z.length : Nat) : Int) ≤ 1000000 := by omega
    omega
  · have := hp
    unfold PySem.Builtin.Str.tooLong
    exact decide_eq_false (by have e : sizeLine = 16777216 := by decide
                              omega)
  · by_cases h1 : n < 1
    · rw [if_pos h1]
      have e : repT z n = Str.empty := by
        have : n.toNat = 0 := by omega
        unfold repT
        rw [this]
        rfl
      rw [e] at q
      exact ⟨by decide, ⟨.str _, H, I.tok _, ⟨_, rfl⟩, q⟩⟩
    · rw [if_neg h1]
      by_cases h2 : (n == 1 || z.length == 0) = true
      · rw [if_pos h2]
        have e : repT z n = z := by
          refine str_ext ?_
          show ((List.replicate n.toNat z.cps.toList).flatten).toArray.toList = z.cps.toList
          rw [List.toList_toArray]
          rcases Bool.or_eq_true_iff.mp h2 with h3 | h3
          · have : n = 1 := by simpa using h3
            rw [this]
            simp
          · have h4 : z.length = 0 := by simpa using h3
            have h5 : z.cps.toList = [] := by
              rw [← List.length_eq_zero_iff]
              exact h4
            rw [h5]
            simp
        rw [e] at q
        exact ⟨.str _, H, I, ⟨_, rfl⟩, q⟩
      · rw [if_neg h2]
        have e : (⟨(List.replicate n.toNat z.cps).foldl (· ++ ·) #[]⟩ : Str) = repT z n := by
          refine str_ext ?_
          show ((List.replicate n.toNat z.cps).foldl (· ++ ·) #[]).toList = ((List.replicate n.toNat z.cps.toList).flatten).toArray.toList
          rw [rep_list, List.toList_toArray]
        rw [e]
        refine ⟨?_, ⟨.str _, H, I.tok _, ⟨_, rfl⟩, q⟩⟩
        rw [repT_len]
        have := hp
        have e : sizeLine = 16777216 := by decide
        omega
end
end Lr

set_option exponentiation.threshold 5000
namespace Lr
open PySem PySem.Spec PyProof.Rows L2
/-! ways that meet behind a test, an expression -/
theorem testM {t : TT} {σ : L2.St} {H : Hp} {R : Bool → Hp → Prop} (c : Bool) (P : Hp → Prop) (h : ∀ R' : Bool → Hp → Prop, (∀ H3, P H3 → R' c H3) → t σ H R') (k : ∀ H3, P H3 → R c H3) : t σ H R := h R k
theorem exprM {t : TE} {σ : L2.St} {H : Hp} {R : VK} (P : V → Hp → Prop) (h : ∀ R' : VK, (∀ v H3, P v H3 → R' v H3) → t σ H R') (k : ∀ v H3, P v H3 → R v H3) : t σ H R := h R k
theorem stmtM {t : TS} {D : Ends} {σ : L2.St} {H : Hp} (P : L2.St → Hp → Prop) (h : ∀ N : L2.St → Hp → Prop, (∀ σ' H', P σ' H' → N σ' H') → t { D with nx := N } σ H) (q : ∀ σ' H', P σ' H' → D.nx σ' H') : t D σ H := h D.nx q
theorem valM {P : V → Hp → Prop} {x y : V} {H : Hp} (e : x = y) (h : P y H) : P x H := by
  rw [e]
  exact h
theorem mulB {x y a b : Int} (x0 : 0 ≤ x) (x1 : x ≤ a) (y0 : 0 ≤ y) (y1 : y ≤ b) : 0 ≤ x * y ∧ x * y ≤ a * b := ⟨Int.mul_nonneg x0 y0, Int.mul_le_mul x1 y1 y0 (Int.le_trans x0 x1)⟩
end Lr

set_option exponentiation.threshold 5000
namespace Lr
/-! long rings -/
def T3.fx (m : M4) : T3 := ⟨m.c, m.d - m.a, -m.b⟩
theorem mul_bd {m n : M4} {j k : Nat} (hm : ∀ i ∈ m.l, Bd j i) (hn : ∀ i ∈ n.l, Bd k i) : ∀ i ∈ (m.mul n).l, Bd (j + k + 1) i := fun i hi => by
  have ba := hm m.a (by simp [M4.l])
  have bb := hm m.b (by simp [M4.l])
  have bc := hm m.c (by simp [M4.l])
  have bd := hm m.d (by simp [M4.l])
  have ca := hn n.a (by simp [M4.l])
  have cb := hn n.b (by simp [M4.l])
  have cc := hn n.c (by simp [M4.l])
  have cd := hn n.d (by simp [M4.l])
  simp only [M4.l, M4.mul, List.mem_cons, List.not_mem_nil, or_false] at hi
  rcases hi with rfl | rfl | rfl | rfl
  · exact (ba.mul ca).add (bb.mul cc)
  · exact (ba.mul cb).add (bb.mul cd)
  · exact (bc.mul ca).add (bd.mul cc)
  · exact (bc.mul cb).add (bd.mul cd)
theorem adj_bd {m : M4} {k : Nat} (h : ∀ i ∈ m.l, Bd k i) : ∀ i ∈ m.adj.l, Bd k i := fun i hi => by
  have ng : ∀ {x : Int}, Bd k x → Bd k (-x) := fun {x} h => by
    unfold Bd at *
    rw [Int.natAbs_neg]
    exact h
  simp only [M4.l, M4.adj, List.mem_cons, List.not_mem_nil, or_false] at hi
  rcases hi with rfl | rfl | rfl | rfl
  · exact h _ (by simp [M4.l])
  · exact ng (h _ (by simp [M4.l]))
  · exact ng (h _ (by simp [M4.l]))
  · exact h _ (by simp [M4.l])
theorem arnd_big {f w : List Bool} (hf : f.length ≤ 70) (hw : w.length ≤ 8000) : (∀ i ∈ (mat f).l, Bd 8300 i) ∧ (∀ i ∈ (mat w).l, Bd 8300 i) ∧ (∀ i ∈ ((mat f).mul (mat w)).l, Bd 8300 i) ∧ (∀ i ∈ (mat f).adj.l, Bd 8300 i) ∧ (∀ i ∈ (arnd f w).l, Bd 8300 i) := by
  have b1 := bd_mat hf
  have b2 := bd_mat hw
  have b3 : ∀ i ∈ ((mat f).mul (mat w)).l, Bd (8070 + 1) i := by
    rw [← mat_app]
    exact bd_mat (by rw [List.length_append]; omega)
  have b4 := adj_bd b1
  have b5 := mul_bd b3 b4
  exact ⟨fun i hi => (b1 i hi).up (by decide), fun i hi => (b2 i hi).up (by decide), fun i hi => (b3 i hi).up (by decide), fun i hi => (b4 i hi).up (by decide), fun i hi => (b5 i hi).up (by decide)⟩
open PySem PySem.Spec PyProof.Rows L2
theorem eqv_pair_self (f l : List Bool) : PyData.eqv (pairD f l) (pairD f l) = true := by
  show ((rd f == rd f) && ((rd l == rd l) && true)) = true
  simp
theorem shaped_pair (f l : List Bool) : SeqAt.shaped (pairD f l) = true := by
  unfold SeqAt.shaped
  rw [Bool.and_eq_true_iff]
  exact ⟨by simp [pairD, PyData.canLay0, PyData.canLayAll0, str_ok (rd_sok f), str_ok (rd_sok l)], decide_eq_true (by show (1 : Nat) ≤ 64; decide)⟩
theorem prim_self {w : List Bool} (h : Prim w) {c : List Bool × List Bool} (k : Lw [] w c) : c = ([], w) := by
  obtain ⟨p, lp, rfl⟩ := k
  have e : p = w.length := lp.eq h.least
  rw [e, List.take_length]
  rfl
end Lr

set_option exponentiation.threshold 5000
namespace Lr
open PySem PySem.Spec PyProof.Rows L2
/-! lists of tuples of four integers -/
theorem M4.l_inj {m n : M4} (h : m.l = n.l) : m = n := by
  unfold M4.l at h
  simp only [List.cons.injEq, and_true] at h
  obtain ⟨h1, h2, h3, h4⟩ := h
  exact M4.ext h1 h2 h3 h4
theorem tups_lay : ∀ (ls : List (List Int)), PyData.canLayAll0 (ls.map tupD) = true ∧ PyData.depthAll (ls.map tupD) ≤ 1
  | [] => ⟨rfl, Nat.zero_le _⟩
  | l :: ls => by
    obtain ⟨h1, h2⟩ := tups_lay ls
    constructor
    · show (PyData.canLayAll0 (intsD l) && PyData.canLayAll0 (ls.map tupD)) = true
      rw [h1, lay_ints]
      rfl
    · show max (PyData.depthAll (intsD l) + 1) (PyData.depthAll (ls.map tupD)) ≤ 1
      rw [depth0_ints]
      omega
theorem tups_shaped (ls : List (List Int)) : SeqAt.shaped (.list (ls.map tupD)) = true := by
  obtain ⟨h1, h2⟩ := tups_lay ls
  show (PyData.canLayAll0 (ls.map tupD) && decide (PyData.depthAll (ls.map tupD) + 1 ≤ 64)) = true
  rw [h1, decide_eq_true (by omega)]
  rfl
theorem dpAll_of {K : PySem.W.Frag} {H : Hp} : ∀ {ps : List Addr} {R : Nat → M4}, (∀ k a, ps[k]? = some a → H a = some (.tup ((R k).l.map V.int))) → DpAll K H (ps.map V.ref) (((List.range ps.length).map fun k => (R k).l).map tupD)
  | [], R, h => .nil
  | a :: ps, R, h => by
    rw [List.length_cons, List.range_succ_eq_map, List.map_cons, List.map_cons, List.map_cons, List.map_map]
    exact .cons (dp_tup (SqT.of (h 0 a rfl))) (by
      have z := dpAll_of (K := K) (ps := ps) (R := fun k => R (k + 1)) fun k b hb => h (k + 1) b hb
      rw [List.map_map]
      rw [List.map_map] at z
      exact z)
theorem tups_at {R : Nat → M4} {n k : Nat} (h : k < n) : (((List.range n).map fun k => (R k).l).map tupD)[k]? = some (tupD (R k).l) := by
  rw [List.getElem?_map, List.getElem?_map, List.getElem?_range h]
  rfl
theorem tups_any {R : Nat → M4} {n : Nat} {r : M4} : ((((List.range n).map fun k => (R k).l).map tupD).any fun z => PyData.eqv z (tupD r.l)) = true ↔ ∃ k, k < n ∧ R k = r := by
  rw [List.any_eq_true]
  constructor
  · rintro ⟨z, hz, e⟩
    rw [List.mem_map] at hz
    obtain ⟨l, hl, rfl⟩ := hz
    rw [List.mem_map] at hl
    obtain ⟨k, hk, rfl⟩ := hl
    rw [eqv_tup] at e
    exact ⟨k, List.mem_range.mp hk, M4.l_inj (of_decide_eq_true e)⟩
  · rintro ⟨k, hk, rfl⟩
    refine ⟨tupD (R k).l, ?_, by rw [eqv_tup]; exact decide_eq_true rfl⟩
    exact List.mem_map.mpr ⟨(R k).l, List.mem_map.mpr ⟨k, List.mem_range.mpr hk, rfl⟩, rfl⟩
theorem cutV_take (xs : List V) (k : Nat) : cutV xs none (some (k : Int)) = xs.take k := by
  unfold cutV
  rw [HT.sIx_none, HT.sIx_nat, List.drop_zero, Nat.sub_zero]
  by_cases h : k ≤ xs.length
  · rw [Nat.min_eq_left h]
  · rw [Nat.min_eq_right (by omega), List.take_length, List.take_of_length_le (by omega)]
theorem cutV_drop (xs : List V) (k : Nat) : cutV xs (some (k : Int)) none = xs.drop k := by
  unfold cutV
  rw [HT.sIx_none, HT.sIx_nat]
  by_cases h : k ≤ xs.length
  · rw [Nat.min_eq_left h, List.take_of_length_le (by rw [List.length_drop]; exact Nat.le_refl _)]
  · rw [Nat.min_eq_right (by omega), List.drop_length, List.drop_eq_nil_of_le (by omega), List.take_nil]
theorem mul_bds {m n : M4} {j k : Nat} (hm : ∀ i ∈ m.l, Bd j i) (hn : ∀ i ∈ n.l, Bd k i) : ∀ i ∈ (m.mul n).l, Bd (j + k + 1) i := by
  intro i hi
  have ba := hm m.a (by simp [M4.l])
  have bb := hm m.b (by simp [M4.l])
  have bc := hm m.c (by simp [M4.l])
  have bd := hm m.d (by simp [M4.l])
  have ca := hn n.a (by simp [M4.l])
  have cb := hn n.b (by simp [M4.l])
  have cc := hn n.c (by simp [M4.l])
  have cd := hn n.d (by simp [M4.l])
  simp only [M4.l, M4.mul, List.mem_cons, List.not_mem_nil, or_false] at hi
  rcases hi with rfl | rfl | rfl | rfl
  · exact (ba.mul ca).add (bb.mul cc)
  · exact (ba.mul cb).add (bb.mul cd)
  · exact (bc.mul ca).add (bd.mul cc)
  · exact (bc.mul cb).add (bd.mul cd)
theorem le_sum {m : M4} (h : Nn m) : Le m.sum m := by
  obtain ⟨a0, b0, c0, d0⟩ := h
  unfold M4.sum
  exact ⟨by omega, by omega, by omega, by omega⟩
theorem bd_sum {m : M4} {k : Nat} (h : ∀ i ∈ m.l, Bd k i) : Bd (k + 3) m.sum := by
  have ba := h m.a (by simp [M4.l])
  have bb := h m.b (by simp [M4.l])
  have bc := h m.c (by simp [M4.l])
  have bd := h m.d (by simp [M4.l])
  exact ((ba.add bb).add (bc.up (Nat.le_succ _))).add (bd.up (by omega))
def M4.key (m : M4) : List Key := m.l.map Sum.inl
theorem M4.key_inj {m n : M4} (h : m.key = n.key) : m = n := by
  refine M4.l_inj ?_
  exact List.map_inj_right (fun _ _ z => Sum.inl.inj z) |>.mp h
theorem M4.key_ints (m : M4) : m.key.map kV = m.l.map V.int := rfl
theorem key_put {kvs : List (List Key × V)} {R : Nat → M4} {L : Nat → V} {i : Nat} (h1 : ∀ a, a < i → valV kvs (R a).key = some (L a)) (h2 : ∀ r : M4, (∀ a, a < i → R a ≠ r) → valV kvs r.key = none) (n : ∀ a, a < i → R a ≠ R i) :
    (putK kvs (R i).key (L i)).length = kvs.length + 1 ∧ (∀ a, a < i + 1 → valV (putK kvs (R i).key (L i)) (R a).key = some (L a)) ∧ ∀ r : M4, (∀ a, a < i + 1 → R a ≠ r) → valV (putK kvs (R i).key (L i)) r.key = none := by
  have e := h2 (R i) n
  refine ⟨by rw [putK_new _ e, List.length_append]; rfl, fun a ha => ?_, fun r hr => ?_⟩
  · rw [valV_put]
    by_cases z : a = i
    · rw [z, if_pos rfl]
    · rw [if_neg (fun y => n a (by omega) (M4.key_inj y))]
      exact h1 a (by omega)
  · rw [valV_put, if_neg (fun y => hr i (by omega) (M4.key_inj y).symm)]
    exact h2 r fun a ha => hr a (by omega)
theorem key_some {kvs : List (List Key × V)} {R : Nat → M4} {i : Nat} {r : M4} (h2 : ∀ r : M4, (∀ a, a < i → R a ≠ r) → valV kvs r.key = none) (h : (valV kvs r.key).isSome = true) : ∃ a, a < i ∧ R a = r := by
  refine Classical.byContradiction fun z => ?_
  rw [h2 r fun a ha e => z ⟨a, ha, e⟩] at h
  cases h
end Lr

set_option exponentiation.threshold 5000
namespace Lr
open PySem PySem.Spec PyProof.Rows L2
/-! repr of what is long -/
structure ShwF (d : PyData) : Prop where
  sh : d.showable = true
  nd : d.hasDict = false
  dp : d.depth ≤ 60
  ft : d.shown.length ≤ sizeLine
def rReprF (K : PySem.W.Frag) : List V → Hp → VK → Prop := fun xs H Q => ∃ v d, xs = [v] ∧ Dp K H v d ∧ ShwF d ∧ Q (.str d.shown) H
section
variable {X : Cx}
theorem call_reprF {k : Nat} (hG : X.A.guards = some []) (hr : Room k X.A) : CallR X (.builtin "repr") (rReprF X.K) := by
  intro pins s σ H xs us Q I r h
  obtain ⟨v, d, rfl, hd, hs, q⟩ := h
  obtain ⟨u, rfl, hu⟩ := vals1 r
  have un := hr.units
  obtain ⟨as, rd⟩ := Dp.reads I d v u hd hu
  have far : ∀ (a : Addr), u = .ref a → wpAny (model X.prog X.w) X.A (call (.builtin "repr") [u]) (EP X pins σ Q) X.xe s := fun a ea => by
    rw [ea] at rd ⊢
    exact repr_of_reads' rd hs.sh (PyData.noDict_hsm hs.nd) hG (by have := hs.dp; omega) (fun _ _ z => z) (fun h' u tk hk => ⟨.str d.shown, H, I.kept (t' := tk) hk, ⟨u, rfl⟩, q⟩) hs.ft
  cases hd with
  | non =>
    cases (show u = Value.none from hu)
    exact PySem.P.repr_of_none ⟨.str _, H, I.tok _, ⟨_, rfl⟩, q⟩
  | bl b =>
    cases (show u = Value.bool b from hu)
    exact PySem.P.repr_of_bool ⟨.str _, H, I.tok _, ⟨_, rfl⟩, q⟩
  | int i =>
    obtain ⟨t, e⟩ := (show ∃ t, u = Value.int i t from hu)
    cases e
    exact PySem.P.repr_of_int (of_decide_eq_true hs.sh) ⟨.str _, H, I.tok _, ⟨_, rfl⟩, q⟩
  | str x =>
    obtain ⟨t, e⟩ := (show ∃ t, u = Value.str x t from hu)
    cases e
    exact PySem.P.repr_of_str ⟨.str _, H, I.tok _, ⟨_, rfl⟩, q⟩ hs.ft
  | lst hl ha => exact far _ hu
  | tup hl ha => exact far _ hu
end
theorem shwF_pair {f l : List Bool} (h : f.length + l.length ≤ 400000) : ShwF (pairD f l) := by
  have lv : ∀ w : List Bool, PyData.leavesShort 20 (.str (rd w)) = true := fun w => by
    show ((rd w).cps.toList.all fun c => decide (c < 16 ^ 8)) = true
    rw [rd_cps, List.all_map, List.all_eq_true]
    intro t _
    cases t <;> decide
  have lp : PyData.leavesShort 20 (pairD f l) = true := by
    show (PyData.leavesShort 20 (.str (rd f)) && (PyData.leavesShort 20 (.str (rd l)) && true)) = true
    rw [lv, lv]
    rfl
  refine ⟨rfl, rfl, ?_, ?_⟩
  · show max 0 (max 0 0) + 1 ≤ 60
    decide
  · have z := PyData.shown_le_bulk 20 (by decide) _ lp
    have e : sizeLine = 16777216 := by decide
    have b : (pairD f l).bulk = (rd f).cps.size + 1 + ((rd l).cps.size + 1 + 0) := rfl
    have e1 : (rd f).cps.size = f.length := rd_len f
    have e2 : (rd l).cps.size = l.length := rd_len l
    omega
end Lr

set_option exponentiation.threshold 5000
namespace Lr
open PySem PySem.Spec PyProof.Rows L2
/-! what `fixed` hands back -/
inductive FxR where
  | non
  | nil
  | fr (x y : Int)
  | rg (w : List Bool)
def FxR.At (H H' : Hp) (v : V) : FxR → Prop
  | .non => v = .non
  | .nil => ∃ r, v = .ref r ∧ H r = none ∧ H' r = some (.lst [])
  | .fr x y => ∃ r q, v = .ref r ∧ H r = none ∧ H q = none ∧ H' r = some (.lst [.ref q]) ∧ H' q = some (.tup [.int x, .int y])
  | .rg w => ∃ r q, v = .ref r ∧ H r = none ∧ H q = none ∧ H' r = some (.lst [.ref q]) ∧ H' q = some (.tup [.str (rd []), .str (rd w)])
def FxR.data : FxR → PyData
  | .non => .none
  | .nil => .list []
  | .fr x y => .list [tupD [x, y]]
  | .rg w => .list [pairD [] w]
theorem FxR.At.dp {K : PySem.W.Frag} {H H' : Hp} {v : V} {R : FxR} (h : R.At H H' v) : Dp K H' v R.data := by
  cases R with
  | non =>
    obtain rfl : v = .non := h
    exact .non
  | nil =>
    obtain ⟨r, rfl, _, h⟩ := h
    exact .lst (SqL.of h) .nil
  | fr x y =>
    obtain ⟨r, q, rfl, _, _, h1, h2⟩ := h
    exact .lst (SqL.of h1) (.cons (dp_tup (l := [x, y]) (SqT.of h2)) .nil)
  | rg w =>
    obtain ⟨r, q, rfl, _, _, h1, h2⟩ := h
    exact .lst (SqL.of h1) (.cons (dp_pair (SqT.of h2)) .nil)
theorem FxR.At.same {H H1 H2 : Hp} {v : V} {R : FxR} (h : R.At H H1 v) (s : Same H1 H2) : R.At H H2 v := by
  cases R with
  | non => exact h
  | nil =>
    obtain ⟨r, e, n, h⟩ := h
    exact ⟨r, e, n, s _ _ h⟩
  | fr x y =>
    obtain ⟨r, q, e, n1, n2, h1, h2⟩ := h
    exact ⟨r, q, e, n1, n2, s _ _ h1, s _ _ h2⟩
  | rg w =>
    obtain ⟨r, q, e, n1, n2, h1, h2⟩ := h
    exact ⟨r, q, e, n1, n2, s _ _ h1, s _ _ h2⟩
theorem lv_rd (w : List Bool) (B : Nat) : PyData.leavesShort B (.str (rd w)) = true := by
  show ((rd w).cps.toList.all fun c => decide (c < 16 ^ 8)) = true
  rw [rd_cps, List.all_map, List.all_eq_true]
  intro t _
  cases t <;> decide
theorem shwF_fr {x y : Int} (hx : Sml x) (hy : Sml y) : ShwF (.list [tupD [x, y]]) := by
  obtain ⟨h1, h2, h3, h4, h5⟩ := ints_ok (l := [x, y]) (fun i hi => by
    simp only [List.mem_cons, List.not_mem_nil, or_false] at hi
    rcases hi with rfl | rfl
    · exact hx
    · exact hy)
  refine ⟨?_, ?_, ?_, ?_⟩
  · show (PyData.showableAll (intsD [x, y]) && true) = true
    rw [h1]
    rfl
  · show (PyData.hasDictAll (intsD [x, y]) || false) = false
    rw [h2]
    rfl
  · show max (PyData.depthAll (intsD [x, y]) + 1) 0 + 1 ≤ 60
    omega
  · have lv : PyData.leavesShort 2000 (.list [tupD [x, y]]) = true := by
      show (PyData.leavesShortAll 2000 (intsD [x, y]) && true) = true
      rw [h3]
      rfl
    have z := PyData.shown_le_bulk 2000 (by decide) _ lv
    have e : sizeLine = 16777216 := by decide
    have b : (PyData.list [tupD [x, y]]).bulk = PyData.bulkAll (intsD [x, y]) + 1 + 0 := rfl
    rw [h4] at b
    simp only [List.length_cons, List.length_nil] at b
    omega
theorem shwF_rg {w : List Bool} (h : w.length ≤ 400000) : ShwF (.list [pairD [] w]) := by
  obtain ⟨h1, h2, h3, h4⟩ := shwF_pair (f := []) (l := w) (by simpa using h)
  refine ⟨?_, ?_, ?_, ?_⟩
  · show ((pairD [] w).showable && true) = true
    rw [h1]
    rfl
  · show ((pairD [] w).hasDict || false) = false
    rw [h2]
    rfl
  · show max ((pairD [] w).depth) 0 + 1 ≤ 60
    have : (pairD [] w).depth = 1 := rfl
    omega
  · have lv : PyData.leavesShort 20 (.list [pairD [] w]) = true := by
      show ((PyData.leavesShort 20 (.str (rd [])) && (PyData.leavesShort 20 (.str (rd w)) && true)) && true) = true
      rw [lv_rd, lv_rd]
      rfl
    have z := PyData.shown_le_bulk 20 (by decide) _ lv
    have e : sizeLine = 16777216 := by decide
    have b : (PyData.list [pairD [] w]).bulk = ((rd []).cps.size + 1 + ((rd w).cps.size + 1 + 0)) + 1 + 0 := rfl
    have e1 : (rd []).cps.size = 0 := rd_len []
    have e2 : (rd w).cps.size = w.length := rd_len w
    omega
/-- how many -/
def FxR.n : FxR → Nat
  | .fr _ _ => 1
  | .rg _ => 1
  | _ => 0
structure FxOk (m : M4) (R : FxR) : Prop where
  non : R = .non ↔ m = M4.one
  c0 : m ≠ M4.one → m.c = 0 → (m.a < m.d ∧ 0 < m.b ↔ R.n = 1)
  c1 : m.c ≠ 0 → m.b = 0 → (m.d < m.a ↔ R.n = 1)
  c2 : m.c ≠ 0 → m.b ≠ 0 → R.n = 1
  fr : ∀ x y, R = .fr x y → 1 ≤ x ∧ 1 ≤ y ∧ gl [x, y] = 1 ∧ Bd 200 x ∧ Bd 200 y ∧ m.c * x * x + (m.d - m.a) * x * y = m.b * y * y
  rg : ∀ w, R = .rg w → w.length ≤ 8000 ∧ Both w ∧ Prim w ∧ 0 < m.c ∧ Nsq (arnd [] w).tr3 (T3.lw (T3.fx m))
theorem FxOk.shw {m : M4} {R : FxR} (h : FxOk m R) : ShwF R.data := by
  cases R with
  | non => exact ⟨rfl, rfl, by show (0 : Nat) ≤ 60; decide, by decide +kernel⟩
  | nil => exact ⟨rfl, rfl, by show max 0 0 + 1 ≤ 60; decide, by decide +kernel⟩
  | fr x y =>
    obtain ⟨_, _, _, h1, h2, _⟩ := h.fr x y rfl
    exact shwF_fr (h1.up (by decide)) (h2.up (by decide))
  | rg w =>
    obtain ⟨h1, _⟩ := h.rg w rfl
    exact shwF_rg (by omega)
theorem FxR.At.lst {H H' : Hp} {v : V} {R : FxR} (h : R.At H H' v) (no : R ≠ .non) : ∃ (r : Addr) (xs : List V), v = .ref r ∧ H r = none ∧ H' r = some (.lst xs) ∧ xs.length = R.n ∧
    ∀ x ∈ xs, ∃ q, x = .ref q ∧ q ≠ r ∧ ((∃ x y, R = .fr x y ∧ H' q = some (.tup [.int x, .int y])) ∨ ∃ w, R = .rg w ∧ H' q = some (.tup [.str (rd []), .str (rd w)])) := by
  cases R with
  | non => exact absurd rfl no
  | nil =>
    obtain ⟨r, e, n, h⟩ := h
    exact ⟨r, [], e, n, h, rfl, fun x hx => absurd hx List.not_mem_nil⟩
  | fr x y =>
    obtain ⟨r, q, e, n1, n2, h1, h2⟩ := h
    refine ⟨r, _, e, n1, h1, rfl, fun z hz => ?_⟩
    rw [List.mem_singleton.mp hz]
    exact ⟨q, rfl, (fun z => by rw [z, h1] at h2; cases h2), .inl ⟨x, y, rfl, h2⟩⟩
  | rg w =>
    obtain ⟨r, q, e, n1, n2, h1, h2⟩ := h
    refine ⟨r, _, e, n1, h1, rfl, fun z hz => ?_⟩
    rw [List.mem_singleton.mp hz]
    exact ⟨q, rfl, (fun z => by rw [z, h1] at h2; cases h2), .inr ⟨w, rfl, h2⟩⟩
theorem FxR.n_le (R : FxR) : R.n ≤ 1 := by cases R <;> first | exact Nat.zero_le _ | exact Nat.le_refl _
end Lr

set_option exponentiation.threshold 5000
namespace Lr
open PySem PySem.Spec PyProof.Rows L2
/-- isqrt(n) -/
theorem cr_isqrt {X : Cx} : CallR X (.builtin "math.isqrt") (fun vs H Q => ∃ n : Int, vs = [.int n] ∧ 0 ≤ n ∧ n < 2 ^ 64 ∧ ∀ s : Int, 0 ≤ s → s * s ≤ n → n < (s + 1) * (s + 1) → Q (.int s) H) := by
  intro pins s σ H vs us Q I r h
  obtain ⟨n, rfl, n0, n1, q⟩ := h
  obtain ⟨u, rfl, hu⟩ := vals1 r
  obtain ⟨t, rfl⟩ := hu
  obtain ⟨h1, h2⟩ := PySem.Float64.isqrt_spec n.toNat
  refine PySem.W.mg_isqrt n0 n1 ⟨.int _, H, I.tok _, ⟨_, rfl⟩, q _ (by omega) ?_ ?_⟩
  · rw [← Int.natCast_mul]
    omega
  · have : ((PySem.Float64.isqrt n.toNat : Nat) : Int) + 1 = ((PySem.Float64.isqrt n.toNat + 1 : Nat) : Int) := by omega
    rw [this, ← Int.natCast_mul]
    omega
end Lr

set_option exponentiation.threshold 5000
namespace Lr
open PySem PySem.Spec PyProof.Rows L2
/-! a dict written with one key that is a tuple -/
def tDisp1T (tk tv : TE) : TE := fun σ H Q => ∀ p, H p = none → tPairs [(tk, tv)] σ (upd H p (.dT [])) fun ps H2 => ∃ (key : List Key) (b : Addr) (y : V), ps = [(.ref b, y)] ∧ H2 p = some (.dT []) ∧ H2 b = some (.tup (key.map kV)) ∧ Q (.ref p) (upd H2 p (.dT [(key, y)]))
section
variable {X : Cx}
theorem pe_disp1T {k v : Expr} {pos : Pos} {tk tv : TE} (hu : X.A.units + 1 < cLine) (hk : PE X k tk) (hv : PE X v tv) : PE X (.Dict [some k] [v] pos) (tDisp1T tk tv) := by
  refine ⟨fun pins s σ H Q I h => ?_⟩
  refine wpAny_Dict_any rfl rfl (by simp) (Nat.le_of_ble_eq_true rfl) ?_
  have I1 : L2.Inv X pins σ (upd H s.heap.objs.size (.dT [])) { heap := s.heap.push { cls := .type "dict", data := .dict #[] }, gens := s.gens, drawn := s.drawn, toks := s.toks, os := s.os } := by
    refine I.laid (fun b u e => Heap.get?_push_of_some _ e) (Nat.le_refl _) ?_
    refine ⟨Nat.zero_le _, ?_, [], .nil, _, #[], 0, Heap.get?_push_size _ rfl, ?_, rfl, rfl, .nil⟩
    · have z := I.big
      exact beq_eq_false_iff_ne.mpr (fun y => by rw [y] at z; exact Nat.lt_irrefl _ z)
    · exact ⟨rfl, rfl, rfl⟩
  refine wpAny_mono ((pps_cons hk hv pps_nil).run pins _ σ _ (fun ps H2 => ∃ (key : List Key) (b : Addr) (y : V), ps = [(.ref b, y)] ∧ H2 s.heap.objs.size = some (.dT []) ∧ H2 b = some (.tup (key.map kV)) ∧ Q (.ref s.heap.objs.size) (upd H2 s.heap.objs.size (.dT [(key, y)]))) I1 ?_) (fun vs s1 z => ?_) (fun _ _ z => z)
  · exact h _ I.fresh
  · obtain ⟨ps, H2, I2, vv, key, b, y, rfl, hd, hb, q⟩ := z
    obtain ⟨u, e⟩ : ∃ u, vs = [(.ref b, u)] ∧ L2.RelV y u := by
      cases vv with
      | cons h t =>
        cases t
        obtain ⟨h1, h2⟩ := h
        exact ⟨_, by rw [← (show _ = Value.ref b from h1)], h2⟩
    obtain ⟨rfl, hy⟩ := e
    generalize s.heap.objs.size = d at *
    obtain ⟨_, hs, xs, hx, hdo⟩ := dt_of I2.hok hd
    cases hx
    have nb : b ≠ d := fun z => by
      rw [z, hd] at hb
      cases hb
    have run : wpAny (model X.prog X.w) X.A (dictSet d (.ref b) u) (fun _ s' => ∃ H', L2.Inv X pins σ H' s' ∧ Q (.ref d) H') X.xe s1 := by
      refine wpAny_dictSet_heap (knd := tupleKind (mixKind X.prog X.w)) (show X.A.units < cLine by omega) (key_of I2.hok hb) hdo (fun h' hd' sb => ?_) (Nat.zero_le _)
      obtain ⟨o, es, ep, g1, g2, g3, g4, g5, g6⟩ := hd'
      refine ⟨_, I2.write (x := d) (e := d) (o := .dT [(key, y)]) (by rw [hd]; trivial) (.inl rfl) (fun c w nc e => by rw [sb.2 c nc]; exact e) ⟨o, g1⟩ ?_, q⟩
      exact ⟨sz (by show 1 ≤ 1000000; decide), hs, [(key, b, u)], .cons ⟨rfl, by rw [upd_ne nb]; exact hb, hy⟩ .nil, o, es, ep, g1, g2, g3, g4, g6⟩
    refine wpAny_forIn_list _ (fun l _ s' => (l = [(Value.ref b, u)] ∧ s' = s1) ∨ (l = [] ∧ ∃ H', L2.Inv X pins σ H' s' ∧ Q (.ref d) H')) _ (fun x rest c s' z => ?_) (fun c s' z => ?_) _ _ (.inl ⟨rfl, rfl⟩)
    · rcases z with ⟨z1, rfl⟩ | ⟨z1, _⟩
      · cases z1
        refine wpAny_bind (wpAny_mono run (fun _ s2 z => wpAny_pure (.inr ⟨rfl, z⟩)) (fun _ _ z => z))
      · cases z1
    · rcases z with ⟨z1, _⟩ | ⟨_, H', I', q'⟩
      · cases z1
      · exact ⟨.ref d, H', I', rfl, q'⟩
end
end Lr

set_option exponentiation.threshold 5000
namespace Lr
open PySem PySem.Spec PyProof.Rows L2
/-! the road of a fraction -/
theorem wa_R (v : List Bool) : wa (true :: v) = wa v + wb v ∧ wb (true :: v) = wb v := by
  have h := wa_app [true] v
  rw [mat_R] at h
  obtain ⟨h1, h2⟩ := h
  have h1 : wa (true :: v) = 1 * wa v + 1 * wb v := h1
  have h2 : wb (true :: v) = 0 * wa v + 1 * wb v := h2
  omega
theorem wa_L (v : List Bool) : wa (false :: v) = wa v ∧ wb (false :: v) = wa v + wb v := by
  have h := wa_app [false] v
  rw [mat_L] at h
  obtain ⟨h1, h2⟩ := h
  have h1 : wa (false :: v) = 1 * wa v + 0 * wb v := h1
  have h2 : wb (false :: v) = 1 * wa v + 1 * wb v := h2
  omega
theorem road_ex : ∀ (k x y : Nat), 1 ≤ x → 1 ≤ y → Nat.gcd x y = 1 → x + y ≤ k → ∃ w : List Bool, wa w = x ∧ wb w = y ∧ w.length ≤ k
  | 0, x, y, hx, hy, _, h => by omega
  | k + 1, x, y, hx, hy, hg, h => by
    rcases Nat.lt_trichotomy x y with c | c | c
    · obtain ⟨w, h1, h2, h3⟩ := road_ex k x (y - x) hx (by omega) (by rw [Nat.gcd_comm, Nat.gcd_sub_self_left (by omega), Nat.gcd_comm]; exact hg) (by omega)
      obtain ⟨e1, e2⟩ := wa_L w
      refine ⟨false :: w, by rw [e1, h1], by rw [e2, h1, h2]; omega, ?_⟩
      rw [List.length_cons]
      omega
    · subst c
      rw [Nat.gcd_self] at hg
      subst hg
      exact ⟨[], rfl, rfl, Nat.zero_le _⟩
    · obtain ⟨w, h1, h2, h3⟩ := road_ex k (x - y) y (by omega) hy (by rw [Nat.gcd_sub_self_left (by omega)]; exact hg) (by omega)
      obtain ⟨e1, e2⟩ := wa_R w
      refine ⟨true :: w, by rw [e1, h1, h2]; omega, by rw [e2, h2], ?_⟩
      rw [List.length_cons]
      omega
/-- the end of a state: the road of what a map makes of 1 -/
def EndOf (r : M4) (e : List Bool) : Prop := lowl [r.a * 1 + r.b * 1, r.c * 1 + r.d * 1] = [wa e, wb e]
theorem end_ex {r : M4} (n : Nn r) (d : r.det ≠ 0) (l : Le 12 r) : ∃ e, EndOf r e ∧ e.length ≤ 48 := by
  obtain ⟨_, _, p1, p2⟩ := col_pos n d
  obtain ⟨a1, b1, c1, d1⟩ := l
  obtain ⟨u, v, e, u1, v1, g, uP, vR, _⟩ := low_two (P := r.a * 1 + r.b * 1) (R := r.c * 1 + r.d * 1) (by omega) (by omega)
  obtain ⟨w, h1, h2, h3⟩ := road_ex 48 u.natAbs v.natAbs (by omega) (by omega) g (by omega)
  refine ⟨w, ?_, h3⟩
  unfold EndOf
  rw [e, h1, h2]
  congr 1
  · omega
  · congr 1
    omega
theorem EndOf.one {r : M4} {e f : List Bool} (h : EndOf r e) (k : EndOf r f) : e = f := by
  unfold EndOf at *
  rw [h] at k
  simp only [List.cons.injEq, and_true] at k
  exact wa_inj k.1 k.2
/-! the maps that stand at the states, as they are come to -/
noncomputable def rd1 (r : M4) (t : Bool) : M4 := (out (r.mul (mat [t]))).2
noncomputable def wd1 (r : M4) (t : Bool) : List Bool := (out (r.mul (mat [t]))).1
theorem read1 {m r : M4} (o : Okm m) (h : Okr m r) (t : Bool) : Stl (r.mul (mat [t])) (wd1 r t) (rd1 r t) ∧ (wd1 r t).length ≤ 48 ∧ Okr m (rd1 r t) := by
  obtain ⟨v, s, hs, hl⟩ := stl_read h.nn h.bl (by rw [h.de]; exact o.d0) (by rw [h.de]; exact o.dt) [t]
  obtain ⟨h1, h2, h3⟩ := out_of (by rw [det_mat, h.de]; exact o.d0) hs
  refine ⟨h1, ?_, h1.2.1, h1.2.2, by show (out _).2.det = _; rw [h1.det, det_mat, h.de]⟩
  show (out (r.mul (mat [t]))).1.length ≤ _
  rw [h2]
  exact hl
open Classical in
noncomputable def addM (l : List M4) (q : M4) : List M4 := if q ∈ l then l else l ++ [q]
theorem addM_in {l : List M4} {q : M4} (h : q ∈ l) : addM l q = l := by
  unfold addM
  rw [if_pos h]
theorem addM_out {l : List M4} {q : M4} (h : ¬ q ∈ l) : addM l q = l ++ [q] := by
  unfold addM
  rw [if_neg h]
theorem addM_pre (l : List M4) (q : M4) : ∃ x, addM l q = l ++ x := by
  by_cases h : q ∈ l
  · exact ⟨[], by rw [addM_in h, List.append_nil]⟩
  · exact ⟨[q], addM_out h⟩
theorem addM_mem (l : List M4) (q : M4) : q ∈ addM l q := by
  by_cases h : q ∈ l
  · rw [addM_in h]
    exact h
  · rw [addM_out h]
    exact List.mem_append_right _ List.mem_cons_self
structure Lst (m : M4) (l : List M4) : Prop where
  ok : ∀ r ∈ l, Okr m r
  nd : l.Nodup
theorem Lst.add {m : M4} {l : List M4} {q : M4} (h : Lst m l) (k : Okr m q) : Lst m (addM l q) := by
  by_cases c : q ∈ l
  · rw [addM_in c]
    exact h
  · rw [addM_out c]
    refine ⟨fun r hr => ?_, ?_⟩
    · rcases List.mem_append.mp hr with z | z
      · exact h.ok r z
      · rw [List.mem_singleton.mp z]
        exact k
    · rw [List.nodup_append]
      refine ⟨h.nd, by simp, fun a ha b hb e => ?_⟩
      rw [List.mem_singleton.mp hb] at e
      exact c (e ▸ ha)
theorem Lst.len {m : M4} {l : List M4} (o : Okm m) (h : Lst m l) : l.length ≤ 364 := by
  have d0 := o.d0
  have dt := o.dt
  rw [← codes_len]
  by_cases d : 0 < m.det
  · have nd : (l.map code).Nodup := by
      rw [List.Nodup, List.pairwise_map]
      refine h.nd.imp_of_mem fun {a b} ha hb ne e => ne ?_
      exact code_one (h.ok a ha).nn (h.ok a ha).bl (h.ok b hb).nn (h.ok b hb).bl (by rw [(h.ok a ha).de]; exact d) (by rw [(h.ok a ha).de, (h.ok b hb).de]) e
    have z := List.Nodup.length_le_of_subset nd (l₂ := codes) (fun x hx => by
      obtain ⟨k, hk, rfl⟩ := List.mem_map.mp hx
      have z := h.ok k hk
      exact code_le z.nn z.bl (by rw [z.de]; exact d) (by rw [z.de]; omega))
    rw [List.length_map] at z
    exact z
  · have bs : ∀ r : M4, bal r → bal r.swp := fun r b => by
      unfold bal at *
      show (r.b - r.d) * (r.a - r.c) < 0
      rw [Int.mul_comm]
      exact b
    have nd : (l.map fun r => code r.swp).Nodup := by
      rw [List.Nodup, List.pairwise_map]
      refine h.nd.imp_of_mem fun {a b} ha hb ne e => ne ?_
      have z := code_one (h.ok a ha).nn.swp (bs _ (h.ok a ha).bl) (h.ok b hb).nn.swp (bs _ (h.ok b hb).bl) (by rw [swp_det, (h.ok a ha).de]; omega) (by rw [swp_det, swp_det, (h.ok a ha).de, (h.ok b hb).de]) e
      rw [← swp_swp a, ← swp_swp b]
      exact congrArg M4.swp z
    have z := List.Nodup.length_le_of_subset nd (l₂ := codes) (fun x hx => by
      obtain ⟨k, hk, rfl⟩ := List.mem_map.mp hx
      have z := h.ok k hk
      exact code_le z.nn.swp (bs _ z.bl) (by rw [swp_det, z.de]; omega) (by rw [swp_det, z.de]; omega))
    rw [List.length_map] at z
    exact z
noncomputable def enm (r0 : M4) : Nat → List M4
  | 0 => [r0]
  | s + 1 => match (enm r0 s)[s]? with
    | none => enm r0 s
    | some r => addM (addM (enm r0 s) (rd1 r false)) (rd1 r true)
theorem enm_some {r0 r : M4} {s : Nat} (h : (enm r0 s)[s]? = some r) : enm r0 (s + 1) = addM (addM (enm r0 s) (rd1 r false)) (rd1 r true) := by
  show (match (enm r0 s)[s]? with
    | none => enm r0 s
    | some r => addM (addM (enm r0 s) (rd1 r false)) (rd1 r true)) = _
  rw [h]
theorem enm_none {r0 : M4} {s : Nat} (h : (enm r0 s).length ≤ s) : enm r0 (s + 1) = enm r0 s := by
  show (match (enm r0 s)[s]? with
    | none => enm r0 s
    | some r => addM (addM (enm r0 s) (rd1 r false)) (rd1 r true)) = _
  rw [List.getElem?_eq_none h]
theorem enm_ok {m r0 : M4} (o : Okm m) (h : Okr m r0) : ∀ s, Lst m (enm r0 s)
  | 0 => ⟨fun r hr => by rw [List.mem_singleton.mp hr]; exact h, by show [r0].Nodup; simp⟩
  | s + 1 => by
    have ih := enm_ok o h s
    cases c : (enm r0 s)[s]? with
    | none => rw [enm_none (List.getElem?_eq_none_iff.mp c)]; exact ih
    | some r =>
      have hr := ih.ok r (List.mem_of_getElem? c)
      rw [enm_some c]
      exact (ih.add (read1 o hr false).2.2).add (read1 o hr true).2.2
theorem enm_pre (r0 : M4) (s : Nat) : ∃ x, enm r0 (s + 1) = enm r0 s ++ x := by
  cases c : (enm r0 s)[s]? with
  | none => exact ⟨[], by rw [enm_none (List.getElem?_eq_none_iff.mp c), List.append_nil]⟩
  | some r =>
    obtain ⟨x, hx⟩ := addM_pre (enm r0 s) (rd1 r false)
    obtain ⟨y, hy⟩ := addM_pre (addM (enm r0 s) (rd1 r false)) (rd1 r true)
    exact ⟨x ++ y, by rw [enm_some c, hy, hx, List.append_assoc]⟩
theorem enm_le (r0 : M4) (s : Nat) : ∀ k, ∃ x, enm r0 (s + k) = enm r0 s ++ x
  | 0 => ⟨[], by rw [List.append_nil]; rfl⟩
  | k + 1 => by
    obtain ⟨x, hx⟩ := enm_le r0 s k
    obtain ⟨y, hy⟩ := enm_pre r0 (s + k)
    exact ⟨x ++ y, by rw [← Nat.add_assoc, hy, hx, List.append_assoc]⟩
/-- where no state is left to be read on -/
structure Fin (r0 : M4) (N : Nat) : Prop where
  eq : (enm r0 N).length = N
  no : ∀ s, s < N → s < (enm r0 s).length
theorem fin_ex {m r0 : M4} (o : Okm m) (h : Okr m r0) : ∃ N, N ≤ 364 ∧ Fin r0 N := by
  obtain ⟨N, hN, no⟩ := first_ex (p := fun s => (enm r0 s).length ≤ s) ⟨364, (enm_ok o h 364).len o⟩
  have n364 : N ≤ 364 := Nat.not_lt.mp fun z => no 364 z ((enm_ok o h 364).len o)
  refine ⟨N, n364, ?_, fun s hs => Nat.not_le.mp (no s hs)⟩
  cases N with
  | zero =>
    have : (1 : Nat) ≤ 0 := hN
    omega
  | succ k =>
    obtain ⟨x, hx⟩ := enm_pre r0 k
    have z := Nat.not_le.mp (no k (Nat.lt_succ_self k))
    have e : (enm r0 (k + 1)).length = (enm r0 k).length + x.length := by rw [hx, List.length_append]
    have := hN
    omega
theorem Fin.past {r0 : M4} {N : Nat} (h : Fin r0 N) : ∀ k, enm r0 (N + k) = enm r0 N
  | 0 => rfl
  | k + 1 => by
    have ih := h.past k
    rw [← Nat.add_assoc, enm_none (by rw [ih, h.eq]; omega), ih]
/-! the rows of a machine -/
structure Rw where
  (w : List Bool) (j : Nat) (v : List Bool) (k : Nat) (e : List Bool)
structure RwOk (l : List M4) (r : M4) (x : Rw) : Prop where
  w : x.w = wd1 r false
  j : l[x.j]? = some (rd1 r false)
  v : x.v = wd1 r true
  k : l[x.k]? = some (rd1 r true)
  e : EndOf r x.e
theorem nodup_at {l : List M4} (h : l.Nodup) {i j : Nat} {r : M4} (hi : l[i]? = some r) (hj : l[j]? = some r) : i = j := by
  obtain ⟨h1, e1⟩ := List.getElem?_eq_some_iff.mp hi
  obtain ⟨h2, e2⟩ := List.getElem?_eq_some_iff.mp hj
  have z := List.pairwise_iff_getElem.mp h
  rcases Nat.lt_trichotomy i j with c | c | c
  · exact absurd (e1.trans e2.symm) (z i j h1 h2 c)
  · exact c
  · exact absurd (e2.trans e1.symm) (z j i h2 h1 c)
theorem RwOk.one {l : List M4} (h : l.Nodup) {r : M4} {x y : Rw} (hx : RwOk l r x) (hy : RwOk l r y) : x = y := by
  have e1 := hx.w.trans hy.w.symm
  have e2 := nodup_at h hx.j hy.j
  have e3 := hx.v.trans hy.v.symm
  have e4 := nodup_at h hx.k hy.k
  have e5 := hx.e.one hy.e
  cases x
  cases y
  simp only at e1 e2 e3 e4 e5
  subst e1 e2 e3 e4 e5
  rfl
theorem at_pre {l x : List M4} {i : Nat} {r : M4} (h : l[i]? = some r) : (l ++ x)[i]? = some r := by
  rw [List.getElem?_append_left (List.getElem?_eq_some_iff.mp h).1]
  exact h
theorem RwOk.up {l x : List M4} {r : M4} {y : Rw} (h : RwOk l r y) : RwOk (l ++ x) r y := ⟨h.w, at_pre h.j, h.v, at_pre h.k, h.e⟩
/-- the rows, so many -/
structure Rws (l : List M4) (rs : List Rw) : Prop where
  at_ : ∀ (i : Nat) (x : Rw), rs[i]? = some x → ∃ r : M4, l[i]? = some r ∧ RwOk l r x
theorem Rws.one {l : List M4} (h : l.Nodup) {rs qs : List Rw} (hr : Rws l rs) (hq : Rws l qs) (e : rs.length = qs.length) : rs = qs := by
  refine List.ext_getElem? fun i => ?_
  by_cases hi : i < rs.length
  · obtain ⟨r, h1, h2⟩ := hr.at_ i _ (List.getElem?_eq_getElem hi)
    obtain ⟨q, h3, h4⟩ := hq.at_ i _ (List.getElem?_eq_getElem (show i < qs.length by omega))
    rw [h1] at h3
    cases h3
    rw [List.getElem?_eq_getElem hi, List.getElem?_eq_getElem (show i < qs.length by omega), h2.one h h4]
  · rw [List.getElem?_eq_none (by omega), List.getElem?_eq_none (by omega)]
theorem Rws.up {l x : List M4} {rs : List Rw} (h : Rws l rs) : Rws (l ++ x) rs := ⟨fun i y hy => by
  obtain ⟨r, h1, h2⟩ := h.at_ i y hy
  exact ⟨r, at_pre h1, h2.up⟩⟩
theorem Rws.snoc {l : List M4} {rs : List Rw} {r : M4} {x : Rw} (h : Rws l rs) (hr : l[rs.length]? = some r) (hx : RwOk l r x) : Rws l (rs ++ [x]) := ⟨fun i y hy => by
  by_cases hi : i < rs.length
  · rw [List.getElem?_append_left hi] at hy
    exact h.at_ i y hy
  · have : i = rs.length := by
      have := (List.getElem?_eq_some_iff.mp hy).1
      rw [List.length_append] at this
      have : i < rs.length + 1 := this
      omega
    subst this
    rw [List.getElem?_append_right (Nat.le_refl _), Nat.sub_self] at hy
    cases hy
    exact ⟨r, hr, hx⟩⟩
end Lr

set_option exponentiation.threshold 5000
namespace Lr
open PySem PySem.Spec PyProof.Rows L2
/-! maps and rows in the heap -/
def TupS (H H' : Hp) : Prop := ∀ b xs, H b = some (.tup xs) → H' b = some (.tup xs)
theorem TupS.of {H H' : Hp} (h : Same H H') : TupS H H' := fun b xs e => h b _ e
theorem TupS.trans {H H1 H2 : Hp} (x : TupS H H1) (y : TupS H1 H2) : TupS H H2 := fun b xs e => y b xs (x b xs e)
theorem TupS.lst {H : Hp} {a : Addr} {xs : List V} {o : HO} (h : H a = some (.lst xs)) : TupS H (upd H a o) := fun b ys e => by
  rw [upd_ne (fun z => by rw [z, h] at e; cases e)]
  exact e
theorem TupS.dT {H : Hp} {a : Addr} {xs : List (List Key × V)} {o : HO} (h : H a = some (.dT xs)) : TupS H (upd H a o) := fun b ys e => by
  rw [upd_ne (fun z => by rw [z, h] at e; cases e)]
  exact e
def MapsL (H : Hp) (ps : List Addr) (l : List M4) : Prop := ps.length = l.length ∧ ∀ (k : Nat) (a : Addr) (r : M4), ps[k]? = some a → l[k]? = some r → H a = some (.tup (r.l.map V.int))
theorem MapsL.up {H H' : Hp} {ps : List Addr} {l : List M4} (h : MapsL H ps l) (t : TupS H H') : MapsL H' ps l := ⟨h.1, fun k a r x y => t _ _ (h.2 k a r x y)⟩
theorem MapsL.snoc {H : Hp} {ps : List Addr} {l : List M4} {q : Addr} {r : M4} (h : MapsL H ps l) (e : H q = some (.tup (r.l.map V.int))) : MapsL H (ps ++ [q]) (l ++ [r]) := by
  refine ⟨by rw [List.length_append, List.length_append, h.1]; rfl, fun k a s x y => ?_⟩
  by_cases c : k < ps.length
  · rw [List.getElem?_append_left c] at x
    rw [List.getElem?_append_left (by rw [← h.1]; exact c)] at y
    exact h.2 k a s x y
  · rw [List.getElem?_append_right (by omega)] at x
    rw [List.getElem?_append_right (by rw [← h.1]; omega), ← h.1] at y
    cases d : k - ps.length with
    | zero =>
      rw [d] at x y
      cases x
      cases y
      exact e
    | succ n =>
      rw [d] at x
      cases x
theorem MapsL.at_ {H : Hp} {ps : List Addr} {l : List M4} (h : MapsL H ps l) {k : Nat} {r : M4} (y : l[k]? = some r) : ∃ a, ps[k]? = some a ∧ H a = some (.tup (r.l.map V.int)) := by
  have c : k < ps.length := by rw [h.1]; exact (List.getElem?_eq_some_iff.mp y).1
  exact ⟨_, List.getElem?_eq_getElem c, h.2 k _ r (List.getElem?_eq_getElem c) y⟩
theorem MapsL.dp {K : PySem.W.Frag} {H : Hp} : ∀ {ps : List Addr} {l : List M4}, MapsL H ps l → DpAll K H (ps.map V.ref) ((l.map M4.l).map tupD)
  | [], [], _ => .nil
  | [], _ :: _, h => by have := h.1; cases this
  | _ :: _, [], h => by have := h.1; cases this
  | a :: ps, r :: l, h => .cons (dp_tup (SqT.of (h.2 0 a r rfl rfl))) (MapsL.dp (ps := ps) (l := l) ⟨Nat.succ.inj h.1, fun k b s x y => h.2 (k + 1) b s x y⟩)
theorem maps_any {l : List M4} {r : M4} : (((l.map M4.l).map tupD).any fun z => PyData.eqv z (tupD r.l)) = true ↔ r ∈ l := by
  rw [List.any_eq_true]
  constructor
  · rintro ⟨z, hz, e⟩
    rw [List.mem_map] at hz
    obtain ⟨y, hy, rfl⟩ := hz
    rw [List.mem_map] at hy
    obtain ⟨s, hs, rfl⟩ := hy
    rw [eqv_tup] at e
    rw [← M4.l_inj (of_decide_eq_true e)]
    exact hs
  · intro h
    exact ⟨tupD r.l, List.mem_map.mpr ⟨r.l, List.mem_map.mpr ⟨r, h, rfl⟩, rfl⟩, by rw [eqv_tup]; exact decide_eq_true rfl⟩
theorem maps_at {l : List M4} {k : Nat} : ((l.map M4.l).map tupD)[k]? = (l[k]?).map fun r => tupD r.l := by
  rw [List.getElem?_map, List.getElem?_map]
  cases l[k]? <;> rfl
/-- the first place -/
theorem first_at {l : List M4} {r : M4} (h : r ∈ l) : ∃ j : Nat, l[j]? = some r ∧ ∀ (k : Nat) (s : M4), k < j → l[k]? = some s → s ≠ r := by
  obtain ⟨j, hj, no⟩ := first_ex (p := fun j : Nat => l[j]? = some r) (List.getElem?_of_mem h)
  exact ⟨j, hj, fun k s hk hs e => no k hk (by rw [hs, e])⟩
def RowAt (H : Hp) (a : Addr) (x : Rw) : Prop := ∃ b c : Addr, H a = some (.tup [.ref b, .ref c, .str (rd x.e)]) ∧ H b = some (.tup [.str (rd x.w), .int (x.j : Nat)]) ∧ H c = some (.tup [.str (rd x.v), .int (x.k : Nat)])
theorem RowAt.up {H H' : Hp} {a : Addr} {x : Rw} (h : RowAt H a x) (t : TupS H H') : RowAt H' a x := by
  obtain ⟨b, c, h1, h2, h3⟩ := h
  exact ⟨b, c, t _ _ h1, t _ _ h2, t _ _ h3⟩
def RowsL (H : Hp) (as : List Addr) (rs : List Rw) : Prop := as.length = rs.length ∧ ∀ (k : Nat) (a : Addr) (x : Rw), as[k]? = some a → rs[k]? = some x → RowAt H a x
theorem RowsL.up {H H' : Hp} {as : List Addr} {rs : List Rw} (h : RowsL H as rs) (t : TupS H H') : RowsL H' as rs := ⟨h.1, fun k a x y z => (h.2 k a x y z).up t⟩
theorem RowsL.snoc {H : Hp} {as : List Addr} {rs : List Rw} {q : Addr} {x : Rw} (h : RowsL H as rs) (e : RowAt H q x) : RowsL H (as ++ [q]) (rs ++ [x]) := by
  refine ⟨by rw [List.length_append, List.length_append, h.1]; rfl, fun k a s x y => ?_⟩
  by_cases c : k < as.length
  · rw [List.getElem?_append_left c] at x
    rw [List.getElem?_append_left (by rw [← h.1]; exact c)] at y
    exact h.2 k a s x y
  · rw [List.getElem?_append_right (by omega)] at x
    rw [List.getElem?_append_right (by rw [← h.1]; omega), ← h.1] at y
    cases d : k - as.length with
    | zero =>
      rw [d] at x y
      cases x
      cases y
      exact e
    | succ n =>
      rw [d] at x
      cases x
theorem out_ok {m : M4} (o : Okm m) : Stl m (out m).1 (out m).2 ∧ (out m).1.length ≤ 240 ∧ Okr m (out m).2 := by
  obtain ⟨w, r, h, l⟩ := stl_ex 240 o.nn o.d0 (by obtain ⟨h1, h2, h3, h4⟩ := o.le; unfold M4.sum; omega)
  obtain ⟨h1, h2, h3⟩ := out_of o.d0 h
  refine ⟨h1, by rw [h2]; omega, h1.2.1, h1.2.2, h1.det⟩
/-- the maps found, read on by some turns of one of them -/
noncomputable def addT (r : M4) (l : List M4) (pre : List Bool) : List M4 := pre.foldl (fun l t => addM l (rd1 r t)) l
theorem addT_snoc (r : M4) (l : List M4) (pre : List Bool) (t : Bool) : addT r l (pre ++ [t]) = addM (addT r l pre) (rd1 r t) := by
  unfold addT
  rw [List.foldl_append]
  rfl
theorem addT_ok {m r : M4} {l : List M4} (o : Okm m) (hr : Okr m r) (h : Lst m l) (pre : List Bool) : Lst m (addT r l pre) ∧ ∃ x, addT r l pre = l ++ x := by
  induction pre using snoc_ind with
  | h0 => exact ⟨h, [], (List.append_nil l).symm⟩
  | h1 pre t ih =>
    obtain ⟨h1, x, h2⟩ := ih
    obtain ⟨y, hy⟩ := addM_pre (addT r l pre) (rd1 r t)
    rw [addT_snoc]
    exact ⟨h1.add (read1 o hr t).2.2, x ++ y, by rw [hy, h2, List.append_assoc]⟩
theorem enm_addT {r0 r : M4} {s : Nat} (h : (enm r0 s)[s]? = some r) : addT r (enm r0 s) [false, true] = enm r0 (s + 1) := (enm_some h).symm
theorem end_gl {r : M4} (n : Nn r) (d : r.det ≠ 0) (l : Le 12 r) : 0 < gl [r.a * 1 + r.b * 1, r.c * 1 + r.d * 1] ∧ Sml (gl [r.a * 1 + r.b * 1, r.c * 1 + r.d * 1] : Nat) := by
  obtain ⟨_, _, p1, p2⟩ := col_pos n d
  obtain ⟨a1, b1, c1, d1⟩ := l
  obtain ⟨u, v, e, u1, v1, g, uP, vR, gu, gv, gp⟩ := low_two (P := r.a * 1 + r.b * 1) (R := r.c * 1 + r.d * 1) (by omega) (by omega)
  refine ⟨gp, ?_⟩
  have : (gl [r.a * 1 + r.b * 1, r.c * 1 + r.d * 1] : Int) * 1 ≤ (gl [r.a * 1 + r.b * 1, r.c * 1 + r.d * 1] : Int) * u := Int.mul_le_mul_of_nonneg_left u1 (by omega)
  have k : gl [r.a * 1 + r.b * 1, r.c * 1 + r.d * 1] ≤ 24 := by omega
  unfold Sml
  exact Nat.lt_of_le_of_lt (show ((gl [r.a * 1 + r.b * 1, r.c * 1 + r.d * 1] : Nat) : Int).natAbs ≤ 24 by omega) (by decide)
theorem end_sml {e : List Bool} (h : e.length ≤ 1000) : Sml (wa e) ∧ Sml (wb e) := up_sml (by omega)
theorem RowsL.nil {H : Hp} : RowsL H [] [] := ⟨rfl, fun k a x y => by cases y⟩
end Lr

set_option exponentiation.threshold 5000
namespace Lr
open PySem PySem.Spec PyProof.Rows L2
/-! the numbers of the maps found, and the steps -/
structure DictL (kvs : List (List Key × V)) (l : List M4) : Prop where
  len : kvs.length = l.length
  yes : ∀ (k : Nat) (r : M4), l[k]? = some r → valV kvs r.key = some (.int (k : Nat))
  no : ∀ r : M4, ¬ r ∈ l → valV kvs r.key = none
theorem DictL.snoc {kvs : List (List Key × V)} {l : List M4} {q : M4} (h : DictL kvs l) (n : ¬ q ∈ l) : DictL (putK kvs q.key (.int (l.length : Nat))) (l ++ [q]) := by
  have e := h.no q n
  refine ⟨by rw [putK_new _ e, List.length_append, List.length_append, h.len]; rfl, fun k r hk => ?_, fun r hr => ?_⟩
  · rw [valV_put]
    by_cases c : k < l.length
    · rw [List.getElem?_append_left c] at hk
      rw [if_neg (fun z => n (by rw [← M4.key_inj z]; exact List.mem_of_getElem? hk))]
      exact h.yes k r hk
    · have ck : k = l.length := by
        have := (List.getElem?_eq_some_iff.mp hk).1
        rw [List.length_append] at this
        have : k < l.length + 1 := this
        omega
      subst ck
      rw [List.getElem?_append_right (Nat.le_refl _), Nat.sub_self] at hk
      cases hk
      rw [if_pos rfl]
  · rw [valV_put, if_neg (fun z => hr (by rw [M4.key_inj z]; exact List.mem_append_right _ List.mem_cons_self))]
    exact h.no r fun z => hr (List.mem_append_left _ z)
theorem DictL.one (q : M4) : DictL [(q.key, .int (0 : Nat))] [q] := by
  refine ⟨rfl, fun k r hk => ?_, fun r hr => ?_⟩
  · cases k with
    | zero =>
      cases hk
      unfold valV
      simp
    | succ k => cases hk
  · have ne : ¬ q.key = r.key := fun z => hr (by rw [M4.key_inj z]; exact List.mem_cons_self)
    unfold valV
    simp [ne]
theorem DictL.some {kvs : List (List Key × V)} {l : List M4} {q : M4} (h : DictL kvs l) : (valV kvs q.key).isSome = true ↔ q ∈ l := by
  constructor
  · intro c
    refine Classical.byContradiction fun z => ?_
    rw [h.no q z] at c
    cases c
  · intro c
    obtain ⟨k, hk⟩ := List.getElem?_of_mem c
    rw [h.yes k q hk]
    rfl
def StepAt (H : Hp) (a : Addr) (x : Rw) : Prop := ∃ b c : Addr, H a = some (.tup [.ref b, .ref c]) ∧ H b = some (.tup [.str (rd x.w), .int (x.j : Nat)]) ∧ H c = some (.tup [.str (rd x.v), .int (x.k : Nat)])
theorem StepAt.up {H H' : Hp} {a : Addr} {x : Rw} (h : StepAt H a x) (t : TupS H H') : StepAt H' a x := by
  obtain ⟨b, c, h1, h2, h3⟩ := h
  exact ⟨b, c, t _ _ h1, t _ _ h2, t _ _ h3⟩
def StepsL (H : Hp) (as : List Addr) (rs : List Rw) : Prop := as.length = rs.length ∧ ∀ (k : Nat) (a : Addr) (x : Rw), as[k]? = some a → rs[k]? = some x → StepAt H a x
theorem StepsL.up {H H' : Hp} {as : List Addr} {rs : List Rw} (h : StepsL H as rs) (t : TupS H H') : StepsL H' as rs := ⟨h.1, fun k a x y z => (h.2 k a x y z).up t⟩
theorem StepsL.snoc {H : Hp} {as : List Addr} {rs : List Rw} {q : Addr} {x : Rw} (h : StepsL H as rs) (e : StepAt H q x) : StepsL H (as ++ [q]) (rs ++ [x]) := by
  refine ⟨by rw [List.length_append, List.length_append, h.1]; rfl, fun k a s x y => ?_⟩
  by_cases c : k < as.length
  · rw [List.getElem?_append_left c] at x
    rw [List.getElem?_append_left (by rw [← h.1]; exact c)] at y
    exact h.2 k a s x y
  · rw [List.getElem?_append_right (by omega)] at x
    rw [List.getElem?_append_right (by rw [← h.1]; omega), ← h.1] at y
    cases d : k - as.length with
    | zero =>
      rw [d] at x y
      cases x
      cases y
      exact e
    | succ n =>
      rw [d] at x
      cases x
theorem StepsL.nil {H : Hp} : StepsL H [] [] := ⟨rfl, fun k a x y => by cases y⟩
end Lr

set_option exponentiation.threshold 5000
namespace Lr
open PySem PySem.Spec PyProof.Rows L2
/-- for over zip of two lists of one length -/
theorem for_zip {K : PySem.W.Frag} {a b : Addr} {xs ys : List V} {g : TG} {tb : TS} {D : Ends} {σ : L2.St} {H : Hp} (len : xs.length = ys.length) (Pv : Nat → L2.St → Hp → Prop) (h0 : Pv 0 σ H)
    (keep : ∀ (i : Nat) (σ : L2.St) (H : Hp), i ≤ xs.length → Pv i σ H → SqL K H a xs ∧ SqL K H b ys)
    (step : ∀ (i : Nat) (x y : V) (T : Addr) (σ : L2.St) (H : Hp), xs[i]? = some x → ys[i]? = some y → Pv i σ H → H T = none → g (.ref T) σ (upd H T (.tup [x, y])) fun σ2 H2 => tb { nx := Pv (i + 1), rt := D.rt, bk := D.nx, ct := Pv (i + 1) } σ2 H2)
    (fin : ∀ (σ : L2.St) (H : Hp), Pv xs.length σ H → D.nx σ H) :
    ∃ W : Nat → Nat → L2.St → Hp → Prop, (∃ m, W 0 m σ H) ∧ ∀ (i m : Nat) (σ : L2.St) (H : Hp), W i m σ H →
      (Itz K a b).stop i H ∧ D.nx σ H ∨ (Itz K a b).go i H ∧ ∃ N : L2.St → Hp → Prop, (∀ (σ' : L2.St) (H' : Hp), N σ' H' → ∃ m', m' < m ∧ W (i + 1) m' σ' H') ∧
        ∀ (x : V) (H' : Hp), (Itz K a b).yld i H x H' → g x σ H' fun σ2 H2 => tb { nx := N, rt := D.rt, bk := D.nx, ct := N } σ2 H2 := by
  refine ⟨fun i m σ H => m = xs.length - i ∧ i ≤ xs.length ∧ Pv i σ H, ⟨_, rfl, Nat.zero_le _, h0⟩, ?_⟩
  rintro i m σ H ⟨rfl, hi, hp⟩
  obtain ⟨hx, hy⟩ := keep i σ H hi hp
  by_cases c : i < xs.length
  · obtain ⟨x, ex⟩ : ∃ x, xs[i]? = some x := ⟨_, List.getElem?_eq_getElem c⟩
    obtain ⟨y, ey⟩ : ∃ y, ys[i]? = some y := ⟨_, List.getElem?_eq_getElem (by omega)⟩
    refine .inr ⟨⟨xs, ys, x, y, hx, hy, ex, ey⟩, Pv (i + 1), fun σ' H' z => ⟨xs.length - (i + 1), by omega, rfl, c, z⟩, ?_⟩
    rintro v H' ⟨T, x', y', rfl, nT, rfl, h1, h2⟩
    have e1 := h1 xs hx
    have e2 := h2 ys hy
    exact step i x' y' T σ H e1 e2 hp nT
  · have e : i = xs.length := by omega
    subst e
    exact .inl ⟨⟨xs, ys, hx, hy, .inl (Nat.le_refl _)⟩, fin σ H hp⟩
/-! what divides all of a map -/
theorem gl_mulR (m n : M4) : gl m.l ∣ gl (m.mul n).l := by
  have h := gl_dvd m.l
  have ha := h m.a (by simp [M4.l])
  have hb := h m.b (by simp [M4.l])
  have hc := h m.c (by simp [M4.l])
  have hd := h m.d (by simp [M4.l])
  refine gl_of_dvd _ _ fun x hx => ?_
  simp only [M4.l, M4.mul, List.mem_cons, List.not_mem_nil, or_false] at hx
  rcases hx with rfl | rfl | rfl | rfl
  · exact Int.dvd_add (Int.dvd_mul_of_dvd_left ha) (Int.dvd_mul_of_dvd_left hb)
  · exact Int.dvd_add (Int.dvd_mul_of_dvd_left ha) (Int.dvd_mul_of_dvd_left hb)
  · exact Int.dvd_add (Int.dvd_mul_of_dvd_left hc) (Int.dvd_mul_of_dvd_left hd)
  · exact Int.dvd_add (Int.dvd_mul_of_dvd_left hc) (Int.dvd_mul_of_dvd_left hd)
theorem gl_mulL (m n : M4) : gl n.l ∣ gl (m.mul n).l := by
  have h := gl_dvd n.l
  have ha := h n.a (by simp [M4.l])
  have hb := h n.b (by simp [M4.l])
  have hc := h n.c (by simp [M4.l])
  have hd := h n.d (by simp [M4.l])
  refine gl_of_dvd _ _ fun x hx => ?_
  simp only [M4.l, M4.mul, List.mem_cons, List.not_mem_nil, or_false] at hx
  rcases hx with rfl | rfl | rfl | rfl
  · exact Int.dvd_add (Int.dvd_mul_of_dvd_right ha) (Int.dvd_mul_of_dvd_right hc)
  · exact Int.dvd_add (Int.dvd_mul_of_dvd_right hb) (Int.dvd_mul_of_dvd_right hd)
  · exact Int.dvd_add (Int.dvd_mul_of_dvd_right ha) (Int.dvd_mul_of_dvd_right hc)
  · exact Int.dvd_add (Int.dvd_mul_of_dvd_right hb) (Int.dvd_mul_of_dvd_right hd)
theorem Stl.gl {m r : M4} {w : List Bool} (h : Stl m w r) : Lr.gl r.l = Lr.gl m.l := by
  refine Nat.dvd_antisymm ?_ ?_
  · rw [h.1]
    exact gl_mulL _ _
  · have e : (mat w).adj.mul m = r := by rw [h.1, nn_adj]
    rw [← e]
    exact gl_mulL _ _
theorem gl_right (m : M4) (f : List Bool) : gl (m.mul (mat f)).l = gl m.l := by
  refine Nat.dvd_antisymm ?_ (gl_mulR _ _)
  have e : (m.mul (mat f)).mul (mat f).adj = m := by rw [M4.mul_assoc, mul_adj _ (mat_det f), M4.mul_one]
  have z := gl_mulR (m.mul (mat f)) (mat f).adj
  rw [e] at z
  exact z
theorem enm_gl {m r0 : M4} (o : Okm m) (h : Okr m r0) (g : gl r0.l = 1) : ∀ s, ∀ r ∈ enm r0 s, gl r.l = 1
  | 0, r, hr => by
    rw [List.mem_singleton.mp hr]
    exact g
  | s + 1, r, hr => by
    cases c : (enm r0 s)[s]? with
    | none =>
      rw [enm_none (List.getElem?_eq_none_iff.mp c)] at hr
      exact enm_gl o h g s r hr
    | some q =>
      have hq := List.mem_of_getElem? c
      have gq := enm_gl o h g s q hq
      have oq := (enm_ok o h s).ok q hq
      have one : ∀ t, gl (rd1 q t).l = 1 := fun t => by rw [(read1 o oq t).1.gl, gl_right, gq]
      have add : ∀ (l : List M4) (x : M4), r ∈ addM l x → r ∈ l ∨ r = x := fun l x h => by
        by_cases c : x ∈ l
        · rw [addM_in c] at h
          exact .inl h
        · rw [addM_out c] at h
          rcases List.mem_append.mp h with z | z
          · exact .inl z
          · exact .inr (List.mem_singleton.mp z)
      rw [enm_some c] at hr
      rcases add _ _ hr with z | z
      · rcases add _ _ z with y | y
        · exact enm_gl o h g s r y
        · rw [y]
          exact one _
      · rw [z]
        exact one _
end Lr

set_option exponentiation.threshold 5000
namespace Lr
open PySem PySem.Spec PyProof.Rows L2
/-! the text of a machine -/
def rowD (y : Rw) : PyData := .tuple [.tuple [.str (rd y.w), .int (y.j : Nat)], .tuple [.str (rd y.v), .int (y.k : Nat)], .str (rd y.e)]
def machD (w : List Bool) (rs : List Rw) : PyData := .tuple [.str (rd w), .list (rs.map rowD)]
theorem RowAt.dp {K : PySem.W.Frag} {H : Hp} {a : Addr} {y : Rw} (h : RowAt H a y) : Dp K H (.ref a) (rowD y) := by
  obtain ⟨b, c, h1, h2, h3⟩ := h
  exact .tup (SqT.of h1) (.cons (.tup (SqT.of h2) (.cons (.str _) (.cons (.int _) .nil))) (.cons (.tup (SqT.of h3) (.cons (.str _) (.cons (.int _) .nil))) (.cons (.str _) .nil)))
theorem RowsL.dp {K : PySem.W.Frag} {H : Hp} : ∀ {as : List Addr} {rs : List Rw}, RowsL H as rs → DpAll K H (as.map V.ref) (rs.map rowD)
  | [], [], _ => .nil
  | [], _ :: _, h => by have := h.1; cases this
  | _ :: _, [], h => by have := h.1; cases this
  | a :: as, y :: rs, h => .cons (h.2 0 a y rfl rfl).dp (RowsL.dp (as := as) (rs := rs) ⟨Nat.succ.inj h.1, fun k b s x z => h.2 (k + 1) b s x z⟩)
theorem mach_dp {K : PySem.W.Frag} {H : Hp} {p q : Addr} {w : List Bool} {as : List Addr} {rs : List Rw} (h : H p = some (.tup [.str (rd w), .ref q])) (hq : H q = some (.lst (as.map V.ref))) (hr : RowsL H as rs) : Dp K H (.ref p) (machD w rs) :=
  .tup (SqT.of h) (.cons (.str _) (.cons (.lst (SqL.of hq) hr.dp) .nil))
structure Small (y : Rw) : Prop where
  w : y.w.length ≤ 48
  v : y.v.length ≤ 48
  e : y.e.length ≤ 48
  j : y.j ≤ 400
  k : y.k ≤ 400
theorem rd_short (w : List Bool) : PyData.leavesShort 100 (.str (rd w)) = true := by
  show ((rd w).cps.toList.all fun c => decide (c < 16 ^ 8)) = true
  rw [rd_cps, List.all_map, List.all_eq_true]
  intro t _
  cases t <;> decide
theorem int_small {n : Nat} (h : n ≤ 400) : PyData.showable (.int (n : Nat)) = true ∧ PyData.leavesShort 100 (.int (n : Nat)) = true := by
  have lg : ((n : Nat) : Int).natAbs.log2 < 20 := PySem.Flt.log2_lt_of (k := 20) (by decide) (by show ((n : Nat) : Int).natAbs < 2 ^ 20; omega)
  refine ⟨decide_eq_true (Nat.lt_trans lg (by decide)), decide_eq_true ?_⟩
  have z := int_text_length_le (k := 20) (by decide) lg
  show (Str.ofString (toString ((n : Nat) : Int))).length ≤ 100
  rw [PySem.ofString_length]
  omega
theorem row_shw {y : Rw} (h : Small y) : (rowD y).showable = true ∧ (rowD y).hasDict = false ∧ (rowD y).leavesShort 100 = true ∧ (rowD y).bulk ≤ 151 ∧ (rowD y).depth ≤ 2 := by
  obtain ⟨j1, j2⟩ := int_small h.j
  obtain ⟨k1, k2⟩ := int_small h.k
  refine ⟨?_, rfl, ?_, ?_, by show max (max 0 (max 0 0) + 1) (max (max 0 (max 0 0) + 1) (max 0 0)) + 1 ≤ 2; decide⟩
  · show ((true && (PyData.showable (.int (y.j : Nat)) && true)) && ((true && (PyData.showable (.int (y.k : Nat)) && true)) && (true && true))) = true
    rw [j1, k1]
    rfl
  · show ((PyData.leavesShort 100 (.str (rd y.w)) && (PyData.leavesShort 100 (.int (y.j : Nat)) && true)) && ((PyData.leavesShort 100 (.str (rd y.v)) && (PyData.leavesShort 100 (.int (y.k : Nat)) && true)) && (PyData.leavesShort 100 (.str (rd y.e)) && true))) = true
    rw [j2, k2, rd_short, rd_short, rd_short]
    rfl
  · show ((rd y.w).cps.size + 1 + (0 + 1 + 0)) + 1 + (((rd y.v).cps.size + 1 + (0 + 1 + 0)) + 1 + ((rd y.e).cps.size + 1 + 0)) ≤ 151
    have e1 : (rd y.w).cps.size = y.w.length := rd_len y.w
    have e2 : (rd y.v).cps.size = y.v.length := rd_len y.v
    have e3 : (rd y.e).cps.size = y.e.length := rd_len y.e
    have := h.w
    have := h.v
    have := h.e
    omega
theorem rows_shw : ∀ {rs : List Rw}, (∀ y ∈ rs, Small y) → PyData.showableAll (rs.map rowD) = true ∧ PyData.hasDictAll (rs.map rowD) = false ∧ PyData.leavesShortAll 100 (rs.map rowD) = true ∧ PyData.bulkAll (rs.map rowD) ≤ 152 * rs.length ∧ PyData.depthAll (rs.map rowD) ≤ 2
  | [], _ => ⟨rfl, rfl, rfl, Nat.zero_le _, Nat.zero_le _⟩
  | y :: rs, h => by
    obtain ⟨h1, h2, h3, h4, h5⟩ := rows_shw (rs := rs) fun z hz => h z (List.mem_cons_of_mem _ hz)
    obtain ⟨g1, g2, g3, g4, g5⟩ := row_shw (h y List.mem_cons_self)
    refine ⟨?_, ?_, ?_, ?_, ?_⟩
    · show ((rowD y).showable && PyData.showableAll (rs.map rowD)) = true
      rw [g1, h1]
      rfl
    · show ((rowD y).hasDict || PyData.hasDictAll (rs.map rowD)) = false
      rw [g2, h2]
      rfl
    · show ((rowD y).leavesShort 100 && PyData.leavesShortAll 100 (rs.map rowD)) = true
      rw [g3, h3]
      rfl
    · show (rowD y).bulk + 1 + PyData.bulkAll (rs.map rowD) ≤ 152 * (rs.length + 1)
      omega
    · show max (rowD y).depth (PyData.depthAll (rs.map rowD)) ≤ 2
      omega
theorem mach_shw {w : List Bool} {rs : List Rw} (hw : w.length ≤ 240) (hl : rs.length ≤ 400) (h : ∀ y ∈ rs, Small y) : ShwF (machD w rs) := by
  obtain ⟨h1, h2, h3, h4, h5⟩ := rows_shw h
  have lv : PyData.leavesShort 100 (machD w rs) = true := by
    show (PyData.leavesShort 100 (.str (rd w)) && (PyData.leavesShortAll 100 (rs.map rowD) && true)) = true
    rw [rd_short, h3]
    rfl
  refine ⟨?_, ?_, ?_, ?_⟩
  · show (true && (PyData.showableAll (rs.map rowD) && true)) = true
    rw [h1]
    rfl
  · show (false || (PyData.hasDictAll (rs.map rowD) || false)) = false
    rw [h2]
    rfl
  · show max 0 (max (PyData.depthAll (rs.map rowD) + 1) 0) + 1 ≤ 60
    omega
  · have z := PyData.shown_le_bulk 100 (by decide) _ lv
    have e : sizeLine = 16777216 := by decide
    have b : (machD w rs).bulk = (rd w).cps.size + 1 + (PyData.bulkAll (rs.map rowD) + 1 + 0) := rfl
    have e1 : (rd w).cps.size = w.length := rd_len w
    omega
theorem rows_small {m r0 : M4} {N : Nat} (o : Okm m) (O0 : Okr m r0) {rs : List Rw} (hr : Rws (enm r0 N) rs) (hN : N ≤ 364) (fn : Fin r0 N) : ∀ y ∈ rs, Small y := by
  intro y hy
  obtain ⟨i, hi⟩ := List.getElem?_of_mem hy
  obtain ⟨r, h1, h2⟩ := hr.at_ i y hi
  have lt := enm_ok o O0 N
  have Or := lt.ok r (List.mem_of_getElem? h1)
  obtain ⟨e, he, le⟩ := end_ex Or.nn (by rw [Or.de]; exact o.d0) (Or.le o)
  have a1 := (List.getElem?_eq_some_iff.mp h2.j).1
  have a2 := (List.getElem?_eq_some_iff.mp h2.k).1
  rw [fn.eq] at a1 a2
  exact ⟨by rw [h2.w]; exact (read1 o Or false).2.1, by rw [h2.v]; exact (read1 o Or true).2.1, by rw [h2.e.one he]; exact le, by omega, by omega⟩
/-- the image of a road's fraction is what is written and the end -/
theorem img_low {m r : M4} {f v e : List Bool} (o : Okm m) (hf : f.length ≤ 60) (h : Stl (m.mul (mat f)) v r) (he : EndOf r e) :
    lowl [m.a * wa f + m.b * wb f, m.c * wa f + m.d * wb f] = [wa (v ++ e), wb (v ++ e)] ∧ 0 < gl [m.a * wa f + m.b * wb f, m.c * wa f + m.d * wb f] ∧
      Sml (gl [m.a * wa f + m.b * wb f, m.c * wa f + m.d * wb f] : Nat) ∧ Sml (wa (v ++ e)) ∧ Sml (wb (v ++ e)) ∧ Bd 900 (wa f) ∧ Bd 900 (wb f) := by
  have dr : r.det ≠ 0 := by rw [h.det, det_mat]; exact o.d0
  obtain ⟨_, _, p1, p2⟩ := col_pos h.2.1 dr
  obtain ⟨u, w, e0, u1, w1, g0, uP, wR, gu, gw, gp⟩ := low_two (P := r.a * 1 + r.b * 1) (R := r.c * 1 + r.d * 1) (by omega) (by omega)
  unfold EndOf at he
  rw [he] at e0
  simp only [List.cons.injEq, and_true] at e0
  obtain ⟨rfl, rfl⟩ := e0
  obtain ⟨x1, x2⟩ := wa_app v e
  have em := h.1
  have ma := congrArg M4.a em
  have mb := congrArg M4.b em
  have mc := congrArg M4.c em
  have md := congrArg M4.d em
  have ma : m.a * (mat f).a + m.b * (mat f).c = (mat v).a * r.a + (mat v).b * r.c := ma
  have mb : m.a * (mat f).b + m.b * (mat f).d = (mat v).a * r.b + (mat v).b * r.d := mb
  have mc : m.c * (mat f).a + m.d * (mat f).c = (mat v).c * r.a + (mat v).d * r.c := mc
  have md : m.c * (mat f).b + m.d * (mat f).d = (mat v).c * r.b + (mat v).d * r.d := md
  have fa : wa f = (mat f).a + (mat f).b := rfl
  have fb : wb f = (mat f).c + (mat f).d := rfl
  have bf := bd_mat (k := 60) hf
  have bfa : Bd 62 (wa f) := (bf _ (by simp [M4.l])).add (bf _ (by simp [M4.l]))
  have bfb : Bd 62 (wb f) := (bf _ (by simp [M4.l])).add (bf _ (by simp [M4.l]))
  have bm := bds_of o.nn o.le (show Bd 10 60 by unfold Bd; decide)
  have bP : Bd 73 (m.a * wa f + m.b * wb f) := ((bm m.a (by simp [M4.l])).mul bfa).add ((bm m.b (by simp [M4.l])).mul bfb)
  have bR : Bd 73 (m.c * wa f + m.d * wb f) := ((bm m.c (by simp [M4.l])).mul bfa).add ((bm m.d (by simp [M4.l])).mul bfb)
  have eP : m.a * wa f + m.b * wb f = (gl [r.a * 1 + r.b * 1, r.c * 1 + r.d * 1] : Int) * wa (v ++ e) := by
    rw [x1, Int.mul_add, Int.mul_left_comm, gu, Int.mul_left_comm _ (mat v).b, gw, fa, fb]
    simp only [Int.mul_add, Int.mul_one]
    omega
  have eR : m.c * wa f + m.d * wb f = (gl [r.a * 1 + r.b * 1, r.c * 1 + r.d * 1] : Int) * wb (v ++ e) := by
    rw [x2, Int.mul_add, Int.mul_left_comm, gu, Int.mul_left_comm _ (mat v).d, gw, fa, fb]
    simp only [Int.mul_add, Int.mul_one]
    omega
  rw [eP] at bP ⊢
  rw [eR] at bR ⊢
  generalize gl [r.a * 1 + r.b * 1, r.c * 1 + r.d * 1] = g at *
  obtain ⟨y1, y2⟩ := up_pos (v ++ e)
  have cop := road_gcd (v ++ e)
  generalize wa (v ++ e) = x at *
  generalize wb (v ++ e) = y at *
  have gg : gl [(g : Int) * x, (g : Int) * y] = g := by
    show Nat.gcd (Nat.gcd 0 ((g : Int) * x).natAbs) ((g : Int) * y).natAbs = g
    rw [Nat.gcd_zero_left, Int.natAbs_mul, Int.natAbs_mul, Int.natAbs_natCast, Nat.gcd_mul_left, cop, Nat.mul_one]
  have k1 : (1 : Int) * x ≤ (g : Int) * x := Int.mul_le_mul_of_nonneg_right (by omega) (by omega)
  have k2 : (1 : Int) * y ≤ (g : Int) * y := Int.mul_le_mul_of_nonneg_right (by omega) (by omega)
  have k3 : (g : Int) * 1 ≤ (g : Int) * x := Int.mul_le_mul_of_nonneg_left (by omega) (by omega)
  have tp : (2 : Nat) ^ 73 ≤ 2 ^ 1900 := Nat.pow_le_pow_right (by decide) (by decide)
  unfold Bd at bP bR
  refine ⟨?_, by rw [gg]; exact gp, ?_, ?_, ?_, bfa.up (by decide), bfb.up (by decide)⟩
  · show [(g : Int) * x / (gl [(g : Int) * x, (g : Int) * y] : Int), (g : Int) * y / (gl [(g : Int) * x, (g : Int) * y] : Int)] = [x, y]
    rw [gg, Int.mul_ediv_cancel_left _ (by omega), Int.mul_ediv_cancel_left _ (by omega)]
  · rw [gg]
    unfold Sml
    exact Nat.lt_of_lt_of_le (Nat.lt_of_le_of_lt (show ((g : Nat) : Int).natAbs ≤ ((g : Int) * x).natAbs by omega) bP) tp
  · unfold Sml
    exact Nat.lt_of_lt_of_le (Nat.lt_of_le_of_lt (show x.natAbs ≤ ((g : Int) * x).natAbs by omega) bP) tp
  · unfold Sml
    exact Nat.lt_of_lt_of_le (Nat.lt_of_le_of_lt (show y.natAbs ≤ ((g : Int) * y).natAbs by omega) bR) tp
theorem TupS.kp {H H' : Hp} {a : Addr} {n : Nat} (hp : Pu H a n) (k : Kp a H H') : TupS H H' := fun b xs e => k b _ (tup_nea hp e) e
end Lr

set_option exponentiation.threshold 5000
namespace Lr
open PySem PySem.Spec PyProof.Rows L2
/-! all maps of a size to twelve are come to: by reckoning -/
structure Q4 where
  (a b c d : Nat)
  deriving DecidableEq
def Q4.m (q : Q4) : M4 := ⟨q.a, q.b, q.c, q.d⟩
def Q4.bal (q : Q4) : Bool := (decide (q.c < q.a) && decide (q.b < q.d)) || (decide (q.a < q.c) && decide (q.d < q.b))
def cset : Nat → Q4 → Q4
  | 0, q => q
  | k + 1, q => if q.bal then q else if decide (q.c ≤ q.a) && decide (q.d ≤ q.b) then cset k ⟨q.a - q.c, q.b - q.d, q.c, q.d⟩ else cset k ⟨q.a, q.b, q.c - q.a, q.d - q.b⟩
theorem q4_bal {q : Q4} : q.bal = true ↔ Lr.bal q.m := by
  unfold Q4.bal Lr.bal Q4.m
  show _ ↔ ((q.a : Int) - q.c) * ((q.b : Int) - q.d) < 0
  constructor
  · intro h
    rcases Bool.or_eq_true_iff.mp h with z | z
    · obtain ⟨z1, z2⟩ := Bool.and_eq_true_iff.mp z
      have z1 := of_decide_eq_true z1
      have z2 := of_decide_eq_true z2
      exact Int.mul_neg_of_pos_of_neg (by omega) (by omega)
    · obtain ⟨z1, z2⟩ := Bool.and_eq_true_iff.mp z
      have z1 := of_decide_eq_true z1
      have z2 := of_decide_eq_true z2
      exact Int.mul_neg_of_neg_of_pos (by omega) (by omega)
  · intro h
    rcases Nat.lt_trichotomy q.a q.c with x | x | x
    · have y : q.d < q.b := Nat.not_le.mp fun y => by
        have := Int.mul_nonneg (show 0 ≤ (q.c : Int) - q.a by omega) (show 0 ≤ (q.d : Int) - q.b by omega)
        rw [show ((q.c : Int) - q.a) * ((q.d : Int) - q.b) = ((q.a : Int) - q.c) * ((q.b : Int) - q.d) by rw [← Int.neg_mul_neg]; congr 1 <;> omega] at this
        omega
      rw [decide_eq_true x, decide_eq_true y]
      simp
    · rw [x, Int.sub_self, Int.zero_mul] at h
      omega
    · have y : q.b < q.d := Nat.not_le.mp fun y => by
        have := Int.mul_nonneg (show 0 ≤ (q.a : Int) - q.c by omega) (show 0 ≤ (q.b : Int) - q.d by omega)
        omega
      rw [decide_eq_true x, decide_eq_true y]
      rfl
theorem cset_ok : ∀ (k : Nat) {q : Q4} {w : List Bool} {r : M4}, q.m.det ≠ 0 → Stl q.m w r → w.length ≤ k → (cset k q).m = r
  | 0, q, w, r, d, h, l => by
    have e : w = [] := List.length_eq_zero_iff.mp (by omega)
    subst e
    exact h.nil.1
  | k + 1, q, w, r, d, h, l => by
    unfold cset
    cases h.step d with
    | stop b e =>
      rw [if_pos (q4_bal.mpr b)]
      exact e
    | right v nb h1 h2 h3 h4 h5 h6 =>
      have h1' : (q.c : Int) ≤ q.a := h1
      have h2' : (q.d : Int) ≤ q.b := h2
      rw [if_neg (fun z => nb (q4_bal.mp z)), decide_eq_true (show q.c ≤ q.a by omega), decide_eq_true (show q.d ≤ q.b by omega)]
      have e : (Q4.mk (q.a - q.c) (q.b - q.d) q.c q.d).m = ⟨q.m.a - q.m.c, q.m.b - q.m.d, q.m.c, q.m.d⟩ := by
        unfold Q4.m
        refine M4.ext ?_ ?_ rfl rfl
        · show ((q.a - q.c : Nat) : Int) = (q.a : Int) - q.c
          omega
        · show ((q.b - q.d : Nat) : Int) = (q.b : Int) - q.d
          omega
      exact cset_ok k (by rw [e, h6]; exact d) (by rw [e]; exact h4) (by simp at l; omega)
    | left v nb h1 h2 h3 h4 h5 h6 =>
      have h1' : (q.a : Int) ≤ q.c := h1
      have h2' : (q.b : Int) ≤ q.d := h2
      have h3' : (q.a : Int) + q.b < q.c + q.d := h3
      have no : (decide (q.c ≤ q.a) && decide (q.d ≤ q.b)) = false := by
        rw [Bool.and_eq_false_iff]
        by_cases c : q.c ≤ q.a
        · exact .inr (decide_eq_false (by omega))
        · exact .inl (decide_eq_false c)
      rw [if_neg (fun z => nb (q4_bal.mp z)), no]
      have e : (Q4.mk q.a q.b (q.c - q.a) (q.d - q.b)).m = ⟨q.m.a, q.m.b, q.m.c - q.m.a, q.m.d - q.m.b⟩ := by
        unfold Q4.m
        refine M4.ext rfl rfl ?_ ?_
        · show ((q.c - q.a : Nat) : Int) = (q.c : Int) - q.a
          omega
        · show ((q.d - q.b : Nat) : Int) = (q.d : Int) - q.b
          omega
      exact cset_ok k (by rw [e, h6]; exact d) (by rw [e]; exact h4) (by simp at l; omega)
def qrd (q : Q4) (t : Bool) : Q4 := if t then cset 48 ⟨q.a, q.a + q.b, q.c, q.c + q.d⟩ else cset 48 ⟨q.a + q.b, q.b, q.c + q.d, q.d⟩
theorem qrd_ok {m : M4} (o : Okm m) {q : Q4} (h : Okr m q.m) (t : Bool) : (qrd q t).m = rd1 q.m t := by
  obtain ⟨s, l, _⟩ := read1 o h t
  have d : (q.m.mul (mat [t])).det ≠ 0 := by rw [det_mat, h.de]; exact o.d0
  rw [← turnM_mul] at s d
  unfold qrd
  cases t
  · have e : turnM q.m false = (Q4.mk (q.a + q.b) q.b (q.c + q.d) q.d).m := by
      unfold turnM Q4.m
      refine M4.ext ?_ rfl ?_ rfl
      · show (q.a : Int) + q.b = ((q.a + q.b : Nat) : Int)
        omega
      · show (q.c : Int) + q.d = ((q.c + q.d : Nat) : Int)
        omega
    rw [e] at s d
    exact cset_ok 48 d s l
  · have e : turnM q.m true = (Q4.mk q.a (q.a + q.b) q.c (q.c + q.d)).m := by
      unfold turnM Q4.m
      refine M4.ext rfl ?_ rfl ?_
      · show (q.a : Int) + q.b = ((q.a + q.b : Nat) : Int)
        omega
      · show (q.c : Int) + q.d = ((q.c + q.d : Nat) : Int)
        omega
    rw [e] at s d
    exact cset_ok 48 d s l
/-- the maps of a size, as the law lists them -/
def lstd (D : Nat) : List Q4 := (List.range D).flatMap fun p => (List.range (D / (p + 1))).flatMap fun q => (List.range ((D - (p + 1) * (q + 1)) / (q + 1) + 1)).flatMap fun c =>
  if (D - (p + 1) * (q + 1) - c * (q + 1)) % (p + 1) = 0 then [⟨c + (p + 1), (D - (p + 1) * (q + 1) - c * (q + 1)) / (p + 1), c, (D - (p + 1) * (q + 1) - c * (q + 1)) / (p + 1) + (q + 1)⟩] else []
def Q4.swp (q : Q4) : Q4 := ⟨q.b, q.a, q.d, q.c⟩
def Q4.g1 (q : Q4) : Bool := Nat.gcd (Nat.gcd (Nat.gcd q.a q.b) q.c) q.d == 1
def lsts (s : Bool) (D : Nat) : List Q4 := ((if s then lstd D else (lstd D).map Q4.swp)).filter Q4.g1
def fwd : Nat → List Q4 → List Q4 → List Q4
  | 0, _, seen => seen
  | _, [], seen => seen
  | k + 1, q :: todo, seen =>
    let l := qrd q false
    let s1 := if seen.contains l then (todo, seen) else (l :: todo, l :: seen)
    let r := qrd q true
    let s2 := if s1.2.contains r then s1 else (r :: s1.1, r :: s1.2)
    fwd k s2.1 s2.2
def bck (B : List Q4) : Nat → List Q4 → List Q4
  | 0, S => S
  | k + 1, S => bck B k (B.filter fun q => S.contains q || S.contains (qrd q false) || S.contains (qrd q true))
def chk (s : Bool) (D : Nat) : Bool :=
  let B := lsts s D
  let z : Q4 := if s then ⟨D, 0, 0, 1⟩ else ⟨0, D, 1, 0⟩
  let S := bck B 12 [z]
  let F := fwd 100 [z] [z]
  B.all (fun q => S.contains q && F.contains q)
theorem chk_all : ((List.range 12).all fun D => chk true (D + 1) && chk false (D + 1)) = true := by decide +kernel
end Lr

set_option exponentiation.threshold 5000
namespace Lr
open PySem PySem.Spec PyProof.Rows L2
/-! all maps of a size to twelve are come to -/
theorem enm_closed {r0 r : M4} {N : Nat} (fn : Fin r0 N) (h : r ∈ enm r0 N) (t : Bool) : rd1 r t ∈ enm r0 N := by
  obtain ⟨i, hi⟩ := List.getElem?_of_mem h
  have ci : i < N := by
    have := (List.getElem?_eq_some_iff.mp hi).1
    rw [fn.eq] at this
    exact this
  obtain ⟨k, rfl⟩ : ∃ k, N = i + 1 + k := ⟨N - (i + 1), by omega⟩
  obtain ⟨x, hx⟩ := enm_le r0 (i + 1) k
  obtain ⟨y, hy⟩ := enm_pre r0 i
  have li := fn.no i ci
  have e : (enm r0 i)[i]? = some r := by
    rw [hx, hy, List.append_assoc, List.getElem?_append_left li] at hi
    exact hi
  rw [hx]
  refine List.mem_append_left _ ?_
  rw [enm_some e]
  cases t
  · obtain ⟨z, hz⟩ := addM_pre (addM (enm r0 i) (rd1 r false)) (rd1 r true)
    rw [hz]
    exact List.mem_append_left _ (addM_mem _ _)
  · exact addM_mem _ _
def Reach (m : M4) (q s : Q4) : Prop := ∀ C : M4 → Prop, (∀ r t, C r → C (rd1 r t)) → C q.m → C s.m
theorem fwd_ok {m : M4} (o : Okm m) {z : Q4} : ∀ (k : Nat) (todo seen : List Q4), (∀ s ∈ todo, Okr m s.m ∧ Reach m z s) → (∀ s ∈ seen, Okr m s.m ∧ Reach m z s) → ∀ s ∈ fwd k todo seen, Okr m s.m ∧ Reach m z s
  | 0, _, seen, _, h2, s, hs => h2 s hs
  | k + 1, [], seen, _, h2, s, hs => h2 s hs
  | k + 1, q :: todo, seen, h1, h2, s, hs => by
    obtain ⟨oq, rq⟩ := h1 q List.mem_cons_self
    have nx : ∀ t, Okr m (qrd q t).m ∧ Reach m z (qrd q t) := fun t => by
      have e := qrd_ok o oq t
      refine ⟨by rw [e]; exact (read1 o oq t).2.2, fun C hc hz => ?_⟩
      rw [e]
      exact hc _ t (rq C hc hz)
    have td : ∀ s ∈ todo, Okr m s.m ∧ Reach m z s := fun s hs => h1 s (List.mem_cons_of_mem _ hs)
    have cons : ∀ (x : Q4) (l : List Q4), (Okr m x.m ∧ Reach m z x) → (∀ s ∈ l, Okr m s.m ∧ Reach m z s) → ∀ s ∈ x :: l, Okr m s.m ∧ Reach m z s := fun x l hx hl s hs => by
      rcases List.mem_cons.mp hs with rfl | y
      · exact hx
      · exact hl s y
    unfold fwd at hs
    refine fwd_ok o k _ _ ?_ ?_ s hs
    · split
      · split
        · exact td
        · exact cons _ _ (nx true) td
      · split
        · exact cons _ _ (nx false) td
        · exact cons _ _ (nx true) (cons _ _ (nx false) td)
    · split
      · split
        · exact h2
        · exact cons _ _ (nx true) h2
      · split
        · exact cons _ _ (nx false) h2
        · exact cons _ _ (nx true) (cons _ _ (nx false) h2)
theorem bck_ok {m : M4} (o : Okm m) {z : Q4} {B : List Q4} (hB : ∀ q ∈ B, Okr m q.m) : ∀ (k : Nat) (S : List Q4), (∀ s ∈ S, Reach m s z) → ∀ s ∈ bck B k S, Reach m s z
  | 0, S, h, s, hs => h s hs
  | k + 1, S, h, s, hs => by
    unfold bck at hs
    refine bck_ok o hB k _ (fun q hq => ?_) s hs
    rw [List.mem_filter] at hq
    obtain ⟨q1, q2⟩ := hq
    have oq := hB q q1
    have st : ∀ t, qrd q t ∈ S → Reach m q z := fun t ht C hc hq => by
      refine h _ ht C hc ?_
      rw [qrd_ok o oq t]
      exact hc _ t hq
    rcases Bool.or_eq_true_iff.mp q2 with y | y
    · rcases Bool.or_eq_true_iff.mp y with x | x
      · exact h q (List.contains_iff_mem.mp x)
      · exact st false (List.contains_iff_mem.mp x)
    · exact st true (List.contains_iff_mem.mp y)
theorem lstd_mem {D : Nat} {q : Q4} : q ∈ lstd D ↔ q.c < q.a ∧ q.b < q.d ∧ (q.a - q.c) * (q.d - q.b) + q.c * (q.d - q.b) + q.b * (q.a - q.c) = D := by
  unfold lstd
  simp only [List.mem_flatMap, List.mem_range]
  constructor
  · rintro ⟨p, hp, r, hr, c, hc, h⟩
    split at h
    · rename_i e
      have h := List.mem_singleton.mp h
      subst h
      have k1 : (r + 1) * (p + 1) ≤ D := (Nat.le_div_iff_mul_le (by omega)).mp (show r + 1 ≤ D / (p + 1) by omega)
      have k2 : c * (r + 1) ≤ D - (p + 1) * (r + 1) := (Nat.le_div_iff_mul_le (by omega)).mp (show c ≤ (D - (p + 1) * (r + 1)) / (r + 1) by omega)
      have k3 := Nat.div_mul_cancel (Nat.dvd_of_mod_eq_zero e)
      generalize (D - (p + 1) * (r + 1) - c * (r + 1)) / (p + 1) = b at *
      refine ⟨by show c < c + (p + 1); omega, by show b < b + (r + 1); omega, ?_⟩
      show (c + (p + 1) - c) * (b + (r + 1) - b) + c * (b + (r + 1) - b) + b * (c + (p + 1) - c) = D
      rw [show c + (p + 1) - c = p + 1 by omega, show b + (r + 1) - b = r + 1 by omega]
      rw [Nat.mul_comm (r + 1) (p + 1)] at k1
      omega
    · cases h
  · rintro ⟨h1, h2, h3⟩
    obtain ⟨a, b, c, d⟩ := q
    obtain ⟨p, hp⟩ : ∃ p, a = c + (p + 1) := ⟨a - c - 1, by have : c < a := h1; omega⟩
    obtain ⟨r, hr⟩ : ∃ r, d = b + (r + 1) := ⟨d - b - 1, by have : b < d := h2; omega⟩
    subst hp
    subst hr
    have h3 : (c + (p + 1) - c) * (b + (r + 1) - b) + c * (b + (r + 1) - b) + b * (c + (p + 1) - c) = D := h3
    rw [show c + (p + 1) - c = p + 1 by omega, show b + (r + 1) - b = r + 1 by omega] at h3
    have g : D - (p + 1) * (r + 1) - c * (r + 1) = b * (p + 1) := by omega
    have l1 : (p + 1) * 1 ≤ (p + 1) * (r + 1) := Nat.mul_le_mul_left _ (by omega)
    refine ⟨p, by omega, r, ?_, c, ?_, ?_⟩
    · have : (r + 1) * (p + 1) ≤ D := by rw [Nat.mul_comm]; omega
      have := (Nat.le_div_iff_mul_le (show 0 < p + 1 by omega)).mpr this
      omega
    · have : c * (r + 1) ≤ D - (p + 1) * (r + 1) := by omega
      have := (Nat.le_div_iff_mul_le (show 0 < r + 1 by omega)).mpr this
      omega
    · rw [g, Nat.mul_mod_left, if_pos rfl, Nat.mul_div_cancel _ (by omega)]
      exact List.mem_singleton.mpr rfl
def sgnD (s : Bool) (D : Nat) : Int := if s then D else -(D : Int)
theorem q4_gl (q : Q4) : q.g1 = true ↔ gl q.m.l = 1 := by
  have e : gl q.m.l = Nat.gcd (Nat.gcd (Nat.gcd q.a q.b) q.c) q.d := by
    show Nat.gcd (Nat.gcd (Nat.gcd (Nat.gcd 0 (q.a : Int).natAbs) (q.b : Int).natAbs) (q.c : Int).natAbs) (q.d : Int).natAbs = _
    rw [Nat.gcd_zero_left]
    rfl
  unfold Q4.g1
  rw [e]
  exact beq_iff_eq
/-- what the list of a size holds -/
theorem lsts_mem {m : M4} {s : Bool} {D : Nat} (hd : 1 ≤ D) (de : m.det = sgnD s D) {q : Q4} : q ∈ lsts s D ↔ Okr m q.m ∧ gl q.m.l = 1 := by
  have pos : ∀ {q : Q4} {m : M4}, m.det = D → (q ∈ lstd D ↔ Okr m q.m) := fun {q m} de => by
    rw [lstd_mem]
    constructor
    · rintro ⟨h1, h2, h3⟩
      refine ⟨⟨Int.natCast_nonneg _, Int.natCast_nonneg _, Int.natCast_nonneg _, Int.natCast_nonneg _⟩, q4_bal.mp (by unfold Q4.bal; rw [decide_eq_true h1, decide_eq_true h2]; rfl), ?_⟩
      rw [de, ← h3]
      obtain ⟨a, b, c, d⟩ := q
      obtain ⟨p, rfl⟩ : ∃ p, a = c + p := ⟨a - c, by have : c < a := h1; omega⟩
      obtain ⟨r, rfl⟩ : ∃ r, d = b + r := ⟨d - b, by have : b < d := h2; omega⟩
      show ((c + p : Nat) : Int) * ((b + r : Nat) : Int) - (b : Int) * (c : Int) = (((c + p - c) * (b + r - b) + c * (b + r - b) + b * (c + p - c) : Nat) : Int)
      rw [show c + p - c = p by omega, show b + r - b = r by omega]
      simp only [Int.natCast_add, Int.natCast_mul, Int.add_mul, Int.mul_add]
      rw [Int.mul_comm (b : Int) (c : Int), Int.mul_comm (b : Int) (p : Int)]
      omega
    · rintro ⟨n, b, e⟩
      obtain ⟨h1, h2⟩ := bal_pos n (by rw [e, de]; omega) b
      obtain ⟨a, b', c, d⟩ := q
      have h1 : (c : Int) < a := h1
      have h2 : (b' : Int) < d := h2
      refine ⟨by show c < a; omega, by show b' < d; omega, ?_⟩
      obtain ⟨p, rfl⟩ : ∃ p, a = c + p := ⟨a - c, by omega⟩
      obtain ⟨r, rfl⟩ : ∃ r, d = b' + r := ⟨d - b', by omega⟩
      have e : ((c + p : Nat) : Int) * ((b' + r : Nat) : Int) - (b' : Int) * (c : Int) = m.det := e
      show (c + p - c) * (b' + r - b') + c * (b' + r - b') + b' * (c + p - c) = D
      rw [show c + p - c = p by omega, show b' + r - b' = r by omega]
      rw [de] at e
      simp only [Int.natCast_add, Int.natCast_mul, Int.add_mul, Int.mul_add] at e
      rw [Int.mul_comm (b' : Int) (c : Int), Int.mul_comm (p : Int) (b' : Int)] at e
      have e2 : ((p * r + c * r + b' * p : Nat) : Int) = (D : Int) := by
        simp only [Int.natCast_add, Int.natCast_mul]
        omega
      exact Int.ofNat.inj e2
  unfold lsts
  rw [List.mem_filter, q4_gl]
  cases s
  · have dn : m.swp.det = D := by
      rw [swp_det, de]
      show -(-(D : Int)) = D
      omega
    have bs : ∀ r : M4, Lr.bal r → Lr.bal r.swp := fun r b => by
      unfold Lr.bal at *
      show (r.b - r.d) * (r.a - r.c) < 0
      rw [Int.mul_comm]
      exact b
    have sw : ∀ {q : Q4}, Okr m q.m ↔ Okr m.swp q.swp.m := fun {q} => by
      constructor
      · intro h
        exact ⟨h.nn.swp, bs _ h.bl, by show q.m.swp.det = _; rw [swp_det, swp_det, h.de]⟩
      · intro h
        refine ⟨h.nn.swp, bs _ h.bl, ?_⟩
        have z := h.de
        have e : q.swp.m.det = -q.m.det := swp_det q.m
        rw [e, swp_det] at z
        omega
    rw [show (if false = true then lstd D else (lstd D).map Q4.swp) = (lstd D).map Q4.swp from rfl, List.mem_map]
    constructor
    · rintro ⟨⟨x, hx, rfl⟩, g⟩
      exact ⟨sw.mpr ((pos dn).mp hx), g⟩
    · rintro ⟨h, g⟩
      exact ⟨⟨q.swp, (pos dn).mpr (sw.mp h), rfl⟩, g⟩
  · rw [show (if true = true then lstd D else (lstd D).map Q4.swp) = lstd D from rfl, pos de]
/-- from any of them all are come to -/
theorem all_come {m r0 : M4} (o : Okm m) (h0 : Okr m r0) (g0 : gl r0.l = 1) {N : Nat} (fn : Fin r0 N) {r : M4} (h : Okr m r) (g : gl r.l = 1) : r ∈ enm r0 N := by
  have d0 := o.d0
  have dt := o.dt
  obtain ⟨s, D, h1, h12, de⟩ : ∃ (s : Bool) (D : Nat), 1 ≤ D ∧ D ≤ 12 ∧ m.det = sgnD s D := by
    by_cases c : 0 < m.det
    · exact ⟨true, m.det.natAbs, by omega, dt, by show m.det = ((m.det.natAbs : Nat) : Int); omega⟩
    · exact ⟨false, m.det.natAbs, by omega, dt, by show m.det = -((m.det.natAbs : Nat) : Int); omega⟩
  have ck : chk s D = true := by
    have z := List.all_eq_true.mp chk_all (D - 1) (List.mem_range.mpr (by omega))
    rw [show D - 1 + 1 = D by omega] at z
    obtain ⟨z1, z2⟩ := Bool.and_eq_true_iff.mp z
    cases s
    · exact z2
    · exact z1
  have ex : ∀ x : M4, Okr m x → ∃ q : Q4, q.m = x := fun x k => by
    obtain ⟨n1, n2, n3, n4⟩ := k.nn
    exact ⟨⟨x.a.toNat, x.b.toNat, x.c.toNat, x.d.toNat⟩, M4.ext (Int.toNat_of_nonneg n1) (Int.toNat_of_nonneg n2) (Int.toNat_of_nonneg n3) (Int.toNat_of_nonneg n4)⟩
  obtain ⟨q0, e0⟩ := ex r0 h0
  obtain ⟨q1, e1⟩ := ex r h
  have m0 : q0 ∈ lsts s D := (lsts_mem h1 de).mpr ⟨by rw [e0]; exact h0, by rw [e0]; exact g0⟩
  have m1 : q1 ∈ lsts s D := (lsts_mem h1 de).mpr ⟨by rw [e1]; exact h, by rw [e1]; exact g⟩
  unfold chk at ck
  have c0 := List.all_eq_true.mp ck q0 m0
  have c1 := List.all_eq_true.mp ck q1 m1
  obtain ⟨c0, _⟩ := Bool.and_eq_true_iff.mp c0
  obtain ⟨_, c1⟩ := Bool.and_eq_true_iff.mp c1
  have oz : Okr m (if s then (⟨D, 0, 0, 1⟩ : Q4) else ⟨0, D, 1, 0⟩).m := by
    cases s
    · refine ⟨⟨Int.le_refl 0, Int.natCast_nonneg _, by show (0 : Int) ≤ ((1 : Nat) : Int); decide, Int.le_refl 0⟩, ?_, ?_⟩
      · exact (q4_bal (q := (⟨0, D, 1, 0⟩ : Q4))).mp (by unfold Q4.bal; simp; omega)
      · rw [de]
        show ((0 : Nat) : Int) * ((0 : Nat) : Int) - (D : Int) * ((1 : Nat) : Int) = -(D : Int)
        omega
    · refine ⟨⟨Int.natCast_nonneg _, Int.le_refl 0, Int.le_refl 0, by show (0 : Int) ≤ ((1 : Nat) : Int); decide⟩, ?_, ?_⟩
      · exact (q4_bal (q := (⟨D, 0, 0, 1⟩ : Q4))).mp (by unfold Q4.bal; simp; omega)
      · rw [de]
        show (D : Int) * ((1 : Nat) : Int) - ((0 : Nat) : Int) * ((0 : Nat) : Int) = (D : Int)
        omega
  generalize (if s then (⟨D, 0, 0, 1⟩ : Q4) else ⟨0, D, 1, 0⟩) = z at *
  have r1 := bck_ok o (z := z) (B := lsts s D) (fun q hq => ((lsts_mem h1 de).mp hq).1) 12 [z] (fun x hx => by rw [List.mem_singleton.mp hx]; exact fun C _ hz => hz) q0 (List.contains_iff_mem.mp c0)
  have one : ∀ x ∈ [z], Okr m x.m ∧ Reach m z x := fun x hx => by rw [List.mem_singleton.mp hx]; exact ⟨oz, fun C _ hz => hz⟩
  have r2 := (fwd_ok o (z := z) 100 [z] [z] one one q1 (List.contains_iff_mem.mp c1)).2
  have z0 : r0 ∈ enm r0 N := by
    obtain ⟨y, hy⟩ := enm_le r0 0 N
    rw [Nat.zero_add] at hy
    rw [hy]
    exact List.mem_append_left _ (by show r0 ∈ [r0]; exact List.mem_singleton.mpr rfl)
  rw [← e1]
  refine r2 (fun x => x ∈ enm r0 N) (fun x t hx => enm_closed fn hx t) (r1 (fun x => x ∈ enm r0 N) (fun x t hx => enm_closed fn hx t) ?_)
  rw [e0]
  exact z0
end Lr

set_option exponentiation.threshold 5000
namespace Lr
open PySem PySem.Spec PyProof.Rows L2
/-! sorted of tuples of integers, any number of them -/
theorem vals_mem {xs : List V} {us : List Value} (h : Vals xs us) : ∀ v ∈ us, ∃ x ∈ xs, L2.RelV x v := by
  induction h with
  | nil => intro v hv; cases hv
  | cons h t ih =>
    intro v hv
    rcases List.mem_cons.mp hv with rfl | y
    · exact ⟨_, List.mem_cons_self, h⟩
    · obtain ⟨x, hx, r⟩ := ih v y
      exact ⟨x, List.mem_cons_of_mem _ hx, r⟩
theorem vals_perm {us vs : List Value} (p : us.Perm vs) : ∀ {xs : List V}, Vals xs vs → ∃ ys, ys.Perm xs ∧ Vals ys us := by
  induction p with
  | nil => intro xs h; cases h; exact ⟨[], .nil, .nil⟩
  | cons x p ih =>
    intro xs h
    cases h with
    | cons h t =>
      obtain ⟨ys, p', v'⟩ := ih t
      exact ⟨_ :: ys, .cons _ p', .cons h v'⟩
  | swap x y l =>
    intro xs h
    cases h with
    | cons h1 t =>
      cases t with
      | cons h2 t => exact ⟨_ :: _ :: _, .swap _ _ _, .cons h2 (.cons h1 t)⟩
  | trans p1 p2 ih1 ih2 =>
    intro xs h
    obtain ⟨ys, q2, v2⟩ := ih2 h
    obtain ⟨zs, q1, v1⟩ := ih1 v2
    exact ⟨zs, q1.trans q2, v1⟩
theorem tups_of {h : Heap} {its : List Value} (k : ∀ v ∈ its, ∃ ns, TS.TupInts h v ns ∧ 1 ≤ ns.length) : ∃ fs, PyProof.Rows.TupsOf h (fun _ => false) its fs ∧ fs.length = its.length := by
  induction its with
  | nil => exact ⟨[], .nil, rfl⟩
  | cons v its ih =>
    obtain ⟨fs, h1, h2⟩ := ih fun w hw => k w (List.mem_cons_of_mem _ hw)
    obtain ⟨ns, ⟨t, xs, rfl, hx, hi⟩, hl⟩ := k v List.mem_cons_self
    obtain ⟨o, g1, g2, n, g3⟩ := (show Heap.IsTuple h t xs from hx)
    have vv := vals_of_ints hi
    cases ns with
    | nil => simp at hl
    | cons n0 ns =>
      obtain ⟨x0, xr, ex, r0⟩ : ∃ x0 xr, xs.toList = x0 :: xr ∧ L2.RelV (.int n0) x0 := by
        generalize xs.toList = l at *
        cases vv with
        | cons a b => exact ⟨_, _, rfl, a⟩
      obtain ⟨tk, e0⟩ := (show ∃ tk, x0 = Value.int n0 tk from r0)
      refine ⟨x0 :: fs, .cons ⟨t, o, xs, n, rfl, g1, g2, g3, ?_, fun _ => ⟨n0, tk, e0⟩, fun z => by cases z⟩ h1, by rw [List.length_cons, List.length_cons, h2]⟩
      rw [← Array.getElem?_toList, ex]
      rfl
theorem vals_len {xs : List V} {us : List Value} (h : Vals xs us) : xs.length = us.length := by
  induction h with
  | nil => rfl
  | cons h t ih => rw [List.length_cons, List.length_cons, ih]
theorem vals_pw {ys : List V} {us : List Value} {f : Value → Int} {k : V → Int} (h : Vals ys us) : (∀ x v, x ∈ ys → L2.RelV x v → f v = k x) → us.Pairwise (fun u v => decide (f v < f u) = false) → ys.Pairwise (fun x y => k x ≤ k y) := by
  induction h with
  | nil => intro _ _; exact .nil
  | @cons x v xs vs r t ih =>
    intro e p
    rw [List.pairwise_cons] at p ⊢
    refine ⟨fun y hy => ?_, ih (fun x v hx => e x v (List.mem_cons_of_mem _ hx)) p.2⟩
    obtain ⟨w, hw, rw'⟩ : ∃ w ∈ vs, L2.RelV y w := by
      clear ih e p
      induction t with
      | nil => cases hy
      | cons r' t' ih =>
        rcases List.mem_cons.mp hy with rfl | z
        · exact ⟨_, List.mem_cons_self, r'⟩
        · obtain ⟨w, h1, h2⟩ := ih z
          exact ⟨w, List.mem_cons_of_mem _ h1, h2⟩
    have := of_decide_eq_false (p.1 w hw)
    rw [e x v List.mem_cons_self r, e y w (List.mem_cons_of_mem _ hy) rw'] at this
    omega
def rSortL (K : PySem.W.Frag) : List V → Hp → VK → Prop := fun vs H Q => ∃ (d : Nat) (B : Int) (g : V → List Int) (a : Addr) (xs : List V), 1 ≤ d ∧ vs = [.ref a] ∧ SqL K H a xs ∧ (∀ x ∈ xs, ∃ t, x = .ref t ∧ H t = some (.tup ((g x).map V.int)) ∧ (g x).length = d ∧ TS.Bd B (g x)) ∧
  ∀ (ys : List V) (p : Addr), ys.Perm xs → ys.Pairwise (fun x y => TS.code B (g x) ≤ TS.code B (g y)) → H p = none → Q (.ref p) (upd H p (.lst ys))
section
variable {X : Cx}
theorem cr_sortL : CallR X (.builtin "sorted") (rSortL X.K) := by
  intro pins s σ H xs us Q I r h
  obtain ⟨d, B, g, a, xs, hd, rfl, hl, hx, q⟩ := h
  obtain ⟨u, rfl, hu⟩ := vals1 r
  cases (show u = Value.ref a from hu)
  obtain ⟨its, rv, p, len⟩ := I.list hl
  have one : ∀ x v, x ∈ xs → L2.RelV x v → TS.TupInts s.heap v (g x) := fun x v hxs rel => by
    obtain ⟨t, rfl, ht, _, _⟩ := hx x hxs
    obtain ⟨is, r1, r2, _⟩ := I.tuple (SqT.of ht)
    cases (show v = Value.ref t from rel)
    exact ⟨t, is.toArray, rfl, r2, r1.ints⟩
  have tups : ∀ v ∈ its, ∃ ns, TS.TupInts s.heap v ns ∧ ns.length = d ∧ TS.Bd B ns := fun v hv => by
    obtain ⟨x, hxs, rel⟩ := vals_mem rv v hv
    obtain ⟨t, e, ht, l1, l2⟩ := hx x hxs
    exact ⟨g x, one x v hxs rel, l1, l2⟩
  have lv : its.length ≤ sizeLine := by
    have : its.length = xs.length := by
      clear tups q hx hl p len r
      induction rv with
      | nil => rfl
      | cons h t ih => simp only [List.length_cons]; exact congrArg Nat.succ (ih fun x v hx => one x v (List.mem_cons_of_mem _ hx))
    omega
  refine SrtO.sorted_ord (ltv := fun u v => decide (TS.code B (TS.intsOf s.heap u) < TS.code B (TS.intsOf s.heap v))) ⟨fun x y h => ?_, fun x y z h k => ?_⟩ p.isList lv (fun two h₁ b hb keep h' keep' => ?_) (fun out srt stb => ?_)
  · have := of_decide_eq_true h
    exact decide_eq_false (by omega)
  · have h := of_decide_eq_false h
    have k := of_decide_eq_false k
    exact decide_eq_false (by omega)
  · have kp : ∀ (c : Addr) (o : Obj), s.heap.get? c = some o → h'.get? c = some o := fun c o e => keep' c o (keep c o e).1 (keep c o e).2
    have up : ∀ v ∈ its, ∃ ns, TS.TupInts h' v ns ∧ TS.intsOf s.heap v = ns ∧ ns.length = d ∧ TS.Bd B ns := fun v hv => by
      obtain ⟨ns, h1, h2, h3⟩ := tups v hv
      exact ⟨ns, h1.keeps (fun c o e _ => kp c o e), h1.ints, h2, h3⟩
    refine ⟨tuples' true, fun Q E q => ?_, fun x y hx hy => ?_⟩
    · obtain ⟨fs, h1, h2⟩ := tups_of (h := h') (its := its) fun v hv => by
        obtain ⟨ns, h1, _, h2, _⟩ := up v hv
        exact ⟨ns, h1, by omega⟩
      exact PyProof.Rows.tup_kind (by omega) h1 q
    · obtain ⟨ns, ⟨t1, a1, e1, i1, j1⟩, f1, l1, b1⟩ := up _ hx
      obtain ⟨ms, ⟨t2, a2, e2, i2, j2⟩, f2, l2, b2⟩ := up _ hy
      obtain ⟨o1, g1, _, n1, d1⟩ := (show Heap.IsTuple h' t1 a1 from i1)
      obtain ⟨o2, g2, _, n2, d2⟩ := (show Heap.IsTuple h' t2 a2 from i2)
      have s1 := vals_len (vals_of_ints j1)
      have s2 := vals_len (vals_of_ints j2)
      rw [List.length_map] at s1 s2
      have s3 : a1.toList.length = a1.size := Array.length_toList
      have s4 : a2.toList.length = a2.size := Array.length_toList
      rw [e1, e2]
      refine W.kat_lt g1 d1 g2 d2 ?_
      rw [show decide (a1.size < a2.size) = false from decide_eq_false (by omega)]
      refine TS.lex_ints 0 j1 j2 (by omega) b1 b2 ⟨rfl, ?_⟩
      show _ = decide (TS.code B (TS.intsOf s.heap x.fst) < TS.code B (TS.intsOf s.heap y.fst))
      rw [f1, f2]
  · obtain ⟨ys, p', v'⟩ := vals_perm stb.perm rv
    obtain ⟨e, ge⟩ := PyProof.Rows.sortedAll_at s.heap its out.toArray
    refine ⟨.ref (s.heap.objs.size + 1), upd H (s.heap.objs.size + 1) (.lst ys), I.laid (fun c o e => PyProof.Rows.sortedAll_old e) (Nat.le_succ _) ⟨by rw [p'.length_eq]; exact len, out, e, v', ge⟩, rfl, q ys _ p' ?_ (I.hok.fresh (Nat.le_succ _))⟩
    exact vals_pw (f := fun v => TS.code B (TS.intsOf s.heap v)) (k := fun x => TS.code B (g x)) v' (fun x v hx rel => by rw [(one x v (p'.mem_iff.mp hx) rel).ints]) srt
end
end Lr

set_option exponentiation.threshold 5000
namespace Lr
open PySem PySem.Spec PyProof.Rows L2
/-! sorted of lists of maps -/
def intV : V → Int
  | .int i => i
  | _ => 0
def tupAt (H : Hp) (x : V) : List Int := match x with
  | .ref t => match H t with
    | some (.tup vs) => vs.map intV
    | _ => []
  | _ => []
theorem tupAt_of {H : Hp} {t : Addr} {l : List Int} (h : H t = some (.tup (l.map V.int))) : tupAt H (.ref t) = l := by
  show (match H t with | some (.tup vs) => vs.map intV | _ => []) = l
  rw [h]
  show (l.map V.int).map intV = l
  rw [List.map_map]
  exact List.map_id l
def mOf : List Int → M4
  | [a, b, c, d] => ⟨a, b, c, d⟩
  | _ => ⟨0, 0, 0, 0⟩
theorem mOf_l (m : M4) : mOf m.l = m := rfl
def refV : V → Addr
  | .ref a => a
  | _ => 0
theorem maps_list {H : Hp} {ps : List Addr} {l : List M4} (h : MapsL H ps l) : (ps.map V.ref).map (fun x => mOf (tupAt H x)) = l := by
  refine List.ext_getElem? fun k => ?_
  rw [List.map_map, List.getElem?_map]
  cases e : ps[k]? with
  | none =>
    have := List.getElem?_eq_none_iff.mp e
    rw [List.getElem?_eq_none (by rw [← h.1]; exact this)]
    rfl
  | some a =>
    have lt := (List.getElem?_eq_some_iff.mp e).1
    have lt2 : k < l.length := by rw [← h.1]; exact lt
    have e2 : l[k]? = some l[k] := List.getElem?_eq_getElem lt2
    rw [e2]
    show some (mOf (tupAt H (.ref a))) = _
    rw [tupAt_of (h.2 k a _ e e2), mOf_l]
theorem sortL_maps {K : PySem.W.Frag} {H : Hp} {Q : VK} {ps : List Addr} {l : List M4} {B : Int} {a : Addr} (hS : SqL K H a (ps.map V.ref)) (hm : MapsL H ps l) (hb : ∀ m ∈ l, TS.Bd B m.l)
    (q : ∀ (qs : List Addr) (l' : List M4) (p : Addr), l'.Perm l → l'.Pairwise (fun x y => TS.code B x.l ≤ TS.code B y.l) → MapsL H qs l' → H p = none → Q (.ref p) (L2.upd H p (.lst (qs.map V.ref)))) : rSortL K [.ref a] H Q := by
  have at_ : ∀ x ∈ ps.map V.ref, ∃ t m, x = .ref t ∧ m ∈ l ∧ H t = some (.tup (m.l.map V.int)) := fun x hx => by
    obtain ⟨k, hk⟩ := List.getElem?_of_mem hx
    rw [List.getElem?_map] at hk
    cases e : ps[k]? with
    | none =>
      rw [e] at hk
      cases hk
    | some t =>
      rw [e] at hk
      have lt := (List.getElem?_eq_some_iff.mp e).1
      have lt2 : k < l.length := by rw [← hm.1]; exact lt
      have e2 : l[k]? = some l[k] := List.getElem?_eq_getElem lt2
      exact ⟨t, _, (Option.some.inj hk).symm, List.mem_of_getElem? e2, hm.2 k t _ e e2⟩
  refine ⟨4, B, tupAt H, a, ps.map V.ref, by decide, rfl, hS, fun x hx => ?_, fun ys p pm pw np => ?_⟩
  · obtain ⟨t, m, rfl, hml, ht⟩ := at_ x hx
    refine ⟨t, rfl, ?_⟩
    rw [tupAt_of ht]
    exact ⟨ht, rfl, hb m hml⟩
  · have yr : ∀ x ∈ ys, ∃ t m, x = .ref t ∧ m ∈ l ∧ H t = some (.tup (m.l.map V.int)) := fun x hx => at_ x (pm.mem_iff.mp hx)
    have e1 : (ys.map refV).map V.ref = ys := by
      rw [List.map_map]
      refine (List.map_congr_left fun x hx => ?_).trans (List.map_id ys)
      obtain ⟨t, _, rfl, _⟩ := yr x hx
      rfl
    have z := q (ys.map refV) (ys.map fun x => mOf (tupAt H x)) p ?_ ?_ ?_ np
    · rw [e1] at z
      exact z
    · have := pm.map fun x => mOf (tupAt H x)
      rw [maps_list hm] at this
      exact this
    · rw [List.pairwise_map]
      refine pw.imp_of_mem fun {x y} hx hy h => ?_
      obtain ⟨t, m, rfl, _, ht⟩ := yr x hx
      obtain ⟨u, n, rfl, _, hu⟩ := yr y hy
      rw [tupAt_of ht, tupAt_of hu] at *
      exact h
    · refine ⟨by rw [List.length_map, List.length_map], fun k b m hk hm' => ?_⟩
      rw [List.getElem?_map] at hk hm'
      cases e : ys[k]? with
      | none =>
        rw [e] at hk
        cases hk
      | some x =>
        rw [e] at hk hm'
        obtain ⟨t, n, rfl, _, ht⟩ := yr x (List.mem_of_getElem? e)
        cases hk
        cases hm'
        show H t = some (.tup ((mOf (tupAt H (.ref t))).l.map V.int))
        rw [tupAt_of ht, mOf_l]
        exact ht
/-- two sorted lists of the same are the same -/
theorem sorted_one {α : Type} {f : α → Int} : ∀ {l m : List α}, (∀ x ∈ l, ∀ y ∈ l, f x = f y → x = y) → l.Nodup → m.Nodup → l.Pairwise (fun x y => f x ≤ f y) → m.Pairwise (fun x y => f x ≤ f y) → (∀ x, x ∈ l ↔ x ∈ m) → l = m
  | [], [], _, _, _, _, _, _ => rfl
  | [], y :: m, _, _, _, _, _, h => absurd ((h y).mpr List.mem_cons_self) List.not_mem_nil
  | x :: l, [], _, _, _, _, _, h => absurd ((h x).mp List.mem_cons_self) List.not_mem_nil
  | x :: l, y :: m, inj, nl, nm, pl, pm, h => by
    rw [List.pairwise_cons] at pl pm
    have nl' := List.nodup_cons.mp nl
    have nm' := List.nodup_cons.mp nm
    have hx := (h x).mp List.mem_cons_self
    have hy := (h y).mpr List.mem_cons_self
    have exy : x = y := by
      refine inj x List.mem_cons_self y hy ?_
      have h1 : f x ≤ f y := by
        rcases List.mem_cons.mp hy with e | e
        · rw [e]
          exact Int.le_refl _
        · exact pl.1 y e
      have h2 : f y ≤ f x := by
        rcases List.mem_cons.mp hx with e | e
        · rw [e]
          exact Int.le_refl _
        · exact pm.1 x e
      omega
    subst exy
    congr 1
    refine sorted_one (fun a ha b hb => inj a (List.mem_cons_of_mem _ ha) b (List.mem_cons_of_mem _ hb)) nl'.2 nm'.2 pl.2 pm.2 fun z => ⟨fun hz => ?_, fun hz => ?_⟩
    · rcases List.mem_cons.mp ((h z).mp (List.mem_cons_of_mem _ hz)) with e | e
      · exact absurd (e ▸ hz) nl'.1
      · exact e
    · rcases List.mem_cons.mp ((h z).mpr (List.mem_cons_of_mem _ hz)) with e | e
      · exact absurd (e ▸ hz) nm'.1
      · exact e
/-! what repr writes of a list of maps -/
def mapsD (l : List M4) : PyData := .list ((l.map M4.l).map tupD)
theorem maps_shown : ∀ {l : List M4}, (∀ m ∈ l, ∀ i ∈ m.l, Sml i) → PyData.showableAll ((l.map M4.l).map tupD) = true ∧ PyData.hasDictAll ((l.map M4.l).map tupD) = false ∧ PyData.leavesShortAll 2000 ((l.map M4.l).map tupD) = true ∧ PyData.bulkAll ((l.map M4.l).map tupD) = 5 * l.length ∧ PyData.depthAll ((l.map M4.l).map tupD) ≤ 2
  | [], _ => ⟨rfl, rfl, rfl, rfl, Nat.zero_le _⟩
  | m :: l, h => by
    obtain ⟨h1, h2, h3, h4, h5⟩ := maps_shown (l := l) fun n hn => h n (List.mem_cons_of_mem _ hn)
    obtain ⟨g1, g2, g3, g4, g5⟩ := ints_ok (l := m.l) (h m List.mem_cons_self)
    refine ⟨?_, ?_, ?_, ?_, ?_⟩
    · show (PyData.showableAll (intsD m.l) && PyData.showableAll ((l.map M4.l).map tupD)) = true
      rw [g1, h1]
      rfl
    · show (PyData.hasDictAll (intsD m.l) || PyData.hasDictAll ((l.map M4.l).map tupD)) = false
      rw [g2, h2]
      rfl
    · show (PyData.leavesShortAll 2000 (intsD m.l) && PyData.leavesShortAll 2000 ((l.map M4.l).map tupD)) = true
      rw [g3, h3]
      rfl
    · show PyData.bulkAll (intsD m.l) + 1 + PyData.bulkAll ((l.map M4.l).map tupD) = _
      rw [g4, h4]
      simp only [M4.l, List.length_cons, List.length_nil]
      omega
    · show max (PyData.depthAll (intsD m.l) + 1) (PyData.depthAll ((l.map M4.l).map tupD)) ≤ 2
      omega
theorem shw_maps {l : List M4} (h : ∀ m ∈ l, ∀ i ∈ m.l, Sml i) (hl : l.length ≤ 1000) : Shw (mapsD l) := by
  obtain ⟨h1, h2, h3, h4, h5⟩ := maps_shown h
  refine ⟨h1, h2, ?_, h3, ?_⟩
  · show PyData.depthAll ((l.map M4.l).map tupD) + 1 ≤ 60
    omega
  · have e : (mapsD l).bulk = PyData.bulkAll ((l.map M4.l).map tupD) := rfl
    rw [e, h4]
    omega
theorem dp_maps {K : PySem.W.Frag} {H : Hp} {a : Addr} {ps : List Addr} {l : List M4} (h : SqL K H a (ps.map V.ref)) (m : MapsL H ps l) : Dp K H (.ref a) (mapsD l) := .lst h (MapsL.dp m)
end Lr

set_option exponentiation.threshold 5000
namespace Lr
open PySem PySem.Spec PyProof.Rows L2
/-! the keys of a dict, drawn one by one -/
section
variable {prog : Program} {w : World} {A : Around} {E : Value → Shared → Prop} {s : Shared} {it d : Addr} {i n ep : Nat} {od : Obj} {es : Array DictEntry}
theorem key_drawn {en : DictEntry} {Q : Value → Shared → Prop} (k : s.heap.IsKeyIter it d i n ep) (g : s.heap.get? d = some od) (z : od.data = .dict es ep) (ln : es.size = n) (x : es[i]? = some en)
    (q : ∀ h', h'.IsKeyIter it d (i + 1) n ep → Heap.SameBut it s.heap h' → Q en.key { s with heap := h' }) : wpAny (model prog w) A (Builtin.SmallTypes.nextOf (.ref it)) Q E s := by
  obtain ⟨lt, ex⟩ := Array.getElem?_eq_some_iff.mp x
  obtain ⟨ob, k1, k2, k3⟩ := id k
  have own : Builtin.Dict_items.ownsTuple "dict_keyiterator" = false := by decide
  unfold Builtin.SmallTypes.nextOf
  refine wpAny_bind (wpAny_callSpecial?_slot (name := Str.ofString "__next__") k.typeIs F.slot_dict_keyiterator_next (wpAny_call_entry F.slot_dict_keyiterator_next k.typeIs F.entry_dict_keyiterator_next ?body (F.args_dict_keyiterator_next_1 _)))
  refine wpAny_bind (wpAny_pure (wpAny_bind (wpAny_bind ?own)))
  first | refine wpAny_bind (wpAny_typeNameOfWhole_keyiter k.typeIs (wpAny_pure (wpAny_bind (wpAny_fieldsOf k1 k3 ?fld)))) | refine wpAny_bind (wpAny_typeNameOf_keyiter k.typeIs (wpAny_pure (wpAny_bind (wpAny_fieldsOf k1 k3 ?fld))))
  simp only [own, Bool.false_eq_true, if_false]
  show wpAny _ _ (if (Value.ref d == Value.none) = true then _ else _) _ _ s; rw [if_neg (show ¬ ((Value.ref d == Value.none) = true) from Bool.false_ne_true)]
  refine wpAny_bind (wpAny_pure (wpAny_bind (wpAny_dictEntries g z ?ent))); rw [if_neg (by rw [ln]; simp)]
  refine wpAny_bind (wpAny_pure (wpAny_bind (wpAny_dictEpoch g z ?epo))); rw [if_neg (by simp)]; refine wpAny_pure ?nx
  simp only [show ¬ ((i : Int) < 0) from by omega, if_false, Int.toNat_natCast, Array.getElem?_eq_getElem lt]; refine wpAny_bind ?st
  first | refine wpAny_bind (wpAny_typeNameOfWhole_keyiter k.typeIs (wpAny_pure (wpAny_bind (wpAny_isOneOf_keyiter k.typeIs ?one)))) | refine wpAny_bind (wpAny_typeNameOf_keyiter k.typeIs (wpAny_pure (wpAny_bind (wpAny_isOneOf_keyiter k.typeIs ?one))))
  show wpAny _ _ (setField (.ref it) 1 (rawInt ((i : Int) + 1)) >>= _) _ _ s; refine wpAny_bind (wpAny_setField k1 k3 (by simp) ?set)
  have k' : (s.heap.update it (Obj.mapFields (·.setIfInBounds 1 (rawInt ((i : Int) + 1))))).IsKeyIter it d (i + 1) n ep := ⟨_, Heap.get?_update_self _ k1 (Obj.isFreed_of_fields (Obj.data_mapFields k3 _)), (Obj.cls_mapFields ..).trans k2, by rw [Obj.data_mapFields k3]; simp [rawInt]⟩
  refine wpAny_bind (wpAny_holding (wpAny_bind (wpAny_isOneOf_keyiter (s := { s with heap := s.heap.update it (Obj.mapFields (·.setIfInBounds 1 (rawInt ((i : Int) + 1)))) }) k'.typeIs ?pk)))
  show wpAny _ _ (pure es[i].key) _ _ _; rw [ex]; exact wpAny_pure (wpAny_pure ⟨_, rfl, wpAny_pure (q _ k' (Heap.SameBut.update ..))⟩)
theorem keys_out {Q : Value → Shared → Prop} (hh : A.handled = none) (k : s.heap.IsKeyIter it d i n ep) (g : s.heap.get? d = some od) (z : od.data = .dict es ep) (ln : es.size = n) (ge : n ≤ i)
    (q : ∀ h' e, Heap.ExtBut it s.heap h' → (∃ o, h'.get? e = some o ∧ o.cls = .type "StopIteration") → E (.ref e) { s with heap := h' }) : wpAny (model prog w) A (Builtin.SmallTypes.nextOf (.ref it)) Q E s := by
  obtain ⟨ob, k1, k2, k3⟩ := id k
  have own : Builtin.Dict_items.ownsTuple "dict_keyiterator" = false := by decide
  unfold Builtin.SmallTypes.nextOf
  refine wpAny_bind (wpAny_callSpecial?_slot (name := Str.ofString "__next__") k.typeIs F.slot_dict_keyiterator_next (wpAny_call_entry F.slot_dict_keyiterator_next k.typeIs F.entry_dict_keyiterator_next ?body (F.args_dict_keyiterator_next_1 _)))
  refine wpAny_bind (wpAny_pure (wpAny_bind (wpAny_bind ?own)))
  first | refine wpAny_bind (wpAny_typeNameOfWhole_keyiter k.typeIs (wpAny_pure (wpAny_bind (wpAny_fieldsOf k1 k3 ?fld)))) | refine wpAny_bind (wpAny_typeNameOf_keyiter k.typeIs (wpAny_pure (wpAny_bind (wpAny_fieldsOf k1 k3 ?fld))))
  simp only [own, Bool.false_eq_true, if_false]
  show wpAny _ _ (if (Value.ref d == Value.none) = true then _ else _) _ _ s; rw [if_neg (show ¬ ((Value.ref d == Value.none) = true) from Bool.false_ne_true)]
  refine wpAny_bind (wpAny_pure (wpAny_bind (wpAny_dictEntries g z ?ent))); rw [if_neg (by rw [ln]; simp)]
  refine wpAny_bind (wpAny_pure (wpAny_bind (wpAny_dictEpoch g z ?epo))); rw [if_neg (by simp)]; refine wpAny_pure ?nx
  simp only [show ¬ ((i : Int) < 0) from by omega, if_false, Int.toNat_natCast, Array.getElem?_eq_none (show es.size ≤ i by omega)]; refine wpAny_bind ?st
  first | refine wpAny_bind (wpAny_typeNameOfWhole_keyiter k.typeIs (wpAny_pure ?tn)) | refine wpAny_bind (wpAny_typeNameOf_keyiter k.typeIs (wpAny_pure ?tn))
  show wpAny _ _ (setField (.ref it) 0 .none >>= _) _ _ s; refine wpAny_bind (wpAny_setField k1 k3 (by simp) ?set)
  show wpAny _ _ (newExc (.type "StopIteration") [] >>= _) _ _ _; refine wpAny_bind ?ne; simp only [newExc, newTuple]
  refine wpAny_bind (wpAny_newObj_type ?tup (by size_fits)); refine wpAny_bind (m := firstArgMember _ _) (wpAny_of_eq (a := Value.none) (by first | rfl | (simp only [firstArgMember]; rfl)) ?fa)
  refine wpAny_newObj_type ?obj (by size_fits); simp only [raiseNew]; refine wpAny_bind (wpAny_handled ?han); first | rw [show A.in1.handled = none from hh] | rw [hh]
  refine wpAny_bind (wpAny_pure (wpAny_throw ?thr)); exact q _ _ (((Heap.SameBut.update ..).extBut.push _).push _) ⟨_, Heap.get?_push_size _ rfl, rfl⟩
end
/-- the keys of a dict that stays are drawn in their order -/
theorem draws_keys {prog : Program} {w : World} {A : Around} {it d : Addr} {ep : Nat} {od : Obj} {es : Array DictEntry} (hh : A.handled = none) (ne : d ≠ it) (z : od.data = .dict es ep) :
    Draws prog w A it [it, d] es.size (fun i v => ∃ en : DictEntry, es[i]? = some en ∧ v = en.key) (fun i h => h.IsKeyIter it d i es.size ep ∧ h.get? d = some od) where
  live := fun _ _ st => let ⟨o, ho, _⟩ := st.1; ⟨o, ho⟩
  frame := fun _ _ _ st hk => ⟨st.1.at fun ob e => hk it (by simp) ob e, hk d (by simp) od st.2⟩
  item := fun i s Q E hi st hQ => key_drawn st.1 st.2 z rfl (Array.getElem?_eq_getElem hi) fun h' k' sb => hQ _ h' s.toks ⟨_, Array.getElem?_eq_getElem hi, rfl⟩ ⟨k', (sb.2 d ne).trans st.2⟩ sb
  done := fun s Q E st hE => keys_out hh st.1 st.2 z rfl (Nat.le_refl _) hE
theorem begins_keys {d : Addr} {o : Obj} {es : Array DictEntry} {ep : Nat} (hd : (d == sysModules) = false) (hx : o.ExactDict) (z : o.data = .dict es ep) :
    Begins (.ref d) { cls := .type "dict_keyiterator", data := .fields #[.ref d, .int 0 0, .int es.size 0, .int ep 0] } fun h => h.get? d = some o where
  iter := fun prog w A E s Q hg h => iter_keys hd hg hx z h
  keeps := fun h h' x hk => hk d o x
  free := rfl
/-! enumerate(d) -/
theorem enum_new {v : Value} {ob : Obj} {Hq : Heap → Prop} (B : Begins v ob Hq) :
    Meets (Builtin.«enumerate.__new__» ⟨[.type "enumerate", v], []⟩) (fun _ R s => Hq s.heap ∧ R (.ok (.ret (.ref (s.heap.push ob).objs.size))) { s with heap := (s.heap.push ob).push { cls := .type "enumerate", data := .fields #[.none, .bool false, .ref s.heap.objs.size, rawInt 0, .none, .none] } }) :=
  .of_wp fun prog w A R s h => by
    obtain ⟨hp, g, dr, tk, os⟩ := s; obtain ⟨hq, r⟩ := h; have sub := sub_enumerate
    have it : ∀ {A2 : Around} {E : Value → Shared → Prop} {Q : Value → Shared → Prop}, Q (.ref hp.objs.size) ⟨hp.push ob, g, dr, tk, os⟩ → wpAny (model prog w) A2 (pyIter v) Q E ⟨hp, g, dr, tk, os⟩ := fun q => B.iter prog w _ _ ⟨hp, g, dr, tk, os⟩ _ hq q
    wp_walk using it
    refine wpAny_stack_any fun st => wpAny_pure ?_
    split
    · rename_i cl _ _ _ _ _
      cases (cl == Value.type "enumerate") <;> (wp_walk using it; exact ⟨_, rfl, r⟩)
    · wp_walk using it; exact ⟨_, rfl, r⟩
theorem call_enum1 {prog : Program} {w : World} {A : Around} {E : Value → Shared → Prop} {s : Shared} {v : Value} {ob : Obj} {Hq : Heap → Prop} {Q : Value → Shared → Prop} (B : Begins v ob Hq) (hq : Hq s.heap)
    (h : ∀ h', IsEnum h' (s.heap.objs.size + 1) s.heap.objs.size 0 .none → h'.get? s.heap.objs.size = some ob → (∀ b o, s.heap.get? b = some o → h'.get? b = some o) → Q (.ref (s.heap.objs.size + 1)) { s with heap := h' }) :
    wpAny (model prog w) A (call (.type "enumerate") [v]) Q E s := by
  refine callType_new F.called_enumerate (by decide) (F.typeCall_enumerate_1 _) (F.newCall_enumerate_1 _) (fun obj => F.args_object_init_2 obj _) F.entry_enumerate_new (enum_new B) ⟨hq, ?_⟩
  have z : (s.heap.push ob).objs.size = s.heap.objs.size + 1 := Heap.size_push ..
  show _ ∧ _; rw [z]
  have y := Heap.get?_push_size (s.heap.push ob) (o := { cls := .type "enumerate", data := .fields #[.none, .bool false, .ref s.heap.objs.size, rawInt 0, .none, .none] }) rfl
  rw [z] at y
  exact ⟨⟨_, y, rfl⟩, h _ y (Heap.get?_push_of_some _ (Heap.get?_push_size _ B.free)) fun b o x => Heap.get?_push_of_some _ (Heap.get?_push_of_some _ x)⟩
/-- the keys of the locked dict at d, each with its number in a new pair -/
def Itet (d : Addr) (o : Obj) (kvs : List (List Key × V)) : It :=
  ⟨fun i H => H d = some (.frz o (.dT kvs)) ∧ i < kvs.length, fun i H x H' => ∃ (k : List Key) (v : V) (q T : Addr), kvs[i]? = some (k, v) ∧ H q = some (.tup (k.map kV)) ∧ x = .ref T ∧ H T = none ∧ H' = L2.upd H T (.tup [.int (i : Nat), .ref q]), fun i H => H d = some (.frz o (.dT kvs)) ∧ kvs.length ≤ i⟩
theorem turn_enumT {P : Program} {w : World} {K : PySem.W.Frag} {elts : List Expr} {kk : Nat} {tpos : Pos} {d e it : Addr} {o : Obj} {es : Array DictEntry} {ep : Nat} {kvs : List (List Key × V)} (hod : o.data = .dict es ep) (ei : e ≠ it) (ed : e ≠ d) (di : d ≠ it) :
    Turn P w K (.Tuple elts kk tpos) (Itet d o kvs) [e, it] e (fun i h => (∃ old, IsEnum h e it ((i : Nat) : Int) old) ∧ h.IsKeyIter it d i kvs.length ep) where
  mem := List.mem_cons_self
  obj := fun i h st b hb => by
    obtain ⟨⟨old, he⟩, ⟨oi, ho, hc, hd⟩⟩ := st
    rcases List.mem_cons.mp hb with z | z
    · rw [z]; exact ⟨_, he, fun v q => nomatch q⟩
    · rw [List.mem_singleton.mp z]; exact ⟨oi, ho, fun v q => by rw [hd] at q; cases q⟩
  keep := fun i h h' st k => let ⟨⟨old, he⟩, hi⟩ := st; ⟨⟨old, k e List.mem_cons_self _ he⟩, hi.at fun ob q => k it (List.mem_cons_of_mem _ List.mem_cons_self) ob q⟩
  item := by
    intro X hP hw hK hc i pins s σ H E I hf st hg
    subst hP hw hK
    obtain ⟨⟨old, he⟩, hki⟩ := st
    obtain ⟨hd, lt⟩ := hg
    obtain ⟨hs, hgd, hx, es2, ep2, hdt, hsz, ent⟩ := I.frzT hd
    obtain ⟨rfl, rfl⟩ := dict_ep hod hdt
    obtain ⟨⟨k, v⟩, hkv⟩ : ∃ p, kvs[i]? = some p := ⟨kvs[i], List.getElem?_eq_getElem lt⟩
    obtain ⟨en, q, hen, hkey, hq⟩ := ent i k v hkv
    have el : e < s.heap.objs.size := Heap.lt_size he
    have il : it < s.heap.objs.size := by obtain ⟨_, y, _⟩ := hki; exact Heap.lt_size y
    rw [← hsz] at hki
    refine wpAny_pyNext_enum_itemD (draws_keys (I.ok.hd hc) di hod) he ⟨hki, hgd⟩ (by omega) ei (by simp [ei, ed]) fun x h' tk hP ho hs' hT hz hk => ?_
    obtain ⟨en2, h2, rfl⟩ := hP
    rw [hen] at h2; cases h2
    refine ⟨_, rfl, wpAny_letOwnedTupleGo_enum (s := { s with heap := h', toks := tk + 1 }) ho fun h'' he' sb => ?_⟩
    have hT2 := (sb.2 _ (Nat.ne_of_gt el)).trans hT
    have new : ObjOk X.prog X.w (L2.upd H s.heap.objs.size (.tup [.int (i : Nat), .ref q])) h'' s.heap.objs.size (.tup [.int (i : Nat), .ref q]) := ⟨by show 2 ≤ sizeLine; decide, [.int i tk, en.key], .cons ⟨_, rfl⟩ (.cons hkey .nil), ⟨_, hT2, rfl, _, rfl⟩⟩
    have I1 := I.turnedNew (t' := tk + 1) (ch := [e, it]) (fun b ob hb y => (sb.2 b (fun z => hb (by simp [z]))).trans (hk b ob (fun z => hb (by simp [z])) (fun z => hb (by simp [z])) y)) hf (Nat.le_refl _) new
    refine ⟨.ref s.heap.objs.size, _, I1, rfl, ⟨k, v, q, _, hkv, hq, rfl, I.hok.fresh (Nat.le_refl _), rfl⟩, ⟨⟨en.key, ?_⟩, ?_⟩, fun b hb => ?_⟩
    · rw [show ((i + 1 : Nat) : Int) = (i : Int) + 1 by omega]; exact he'
    · rw [← hsz]; exact hs'.1.at fun ob y => (sb.2 it (Ne.symm ei)).trans y
    · have lt2 : b < s.heap.objs.size := by
        rcases List.mem_cons.mp hb with z | z
        · rw [z]; exact el
        · rw [List.mem_singleton.mp z]; exact il
      rw [upd_ne (Nat.ne_of_lt lt2)]; exact (hf b hb).1
  done := by
    intro X hP hw hK hc i pins s σ H E I hf st hg
    subst hP hw hK
    obtain ⟨⟨old, he⟩, hki⟩ := st
    obtain ⟨hd, ge⟩ := hg
    obtain ⟨hs, hgd, hx, es2, ep2, hdt, hsz, ent⟩ := I.frzT hd
    obtain ⟨rfl, rfl⟩ := dict_ep hod hdt
    obtain ⟨f0, f1, f2, f3, f4, f5⟩ := hf it (by simp)
    have D : Draws X.prog X.w X.A.in1 it [it, d] i (fun _ _ => False) (fun j h => j = i ∧ h.IsKeyIter it d i kvs.length ep2 ∧ h.get? d = some o) := {
      live := fun _ _ st => let ⟨_, ⟨o, ho, _⟩, _⟩ := st; ⟨o, ho⟩
      frame := fun _ _ _ st hk => ⟨st.1, st.2.1.at fun ob e => hk it (by simp) ob e, hk d (by simp) o st.2.2⟩
      item := fun j s Q E hj st hQ => absurd st.1 (by omega)
      done := fun s Q E st hE => keys_out (I.ok.hd hc) st.2.1 st.2.2 hod hsz ge hE }
    exact wpAny_pyNext_enum_endD D he ⟨rfl, hki, hgd⟩ fun h' eb => ⟨rfl, I.turned (t' := s.toks) (fun b ob hb q => eb b ob hb q) f0 f1 f3 f4 f5⟩
  self := fun A i s Q E st h => let ⟨⟨_, he⟩, _⟩ := st; wpAny_pyIter_enum he h
def iEnumT (ta : TA) : TI := fun σ H R => ta σ H fun vs H1 => ∃ d o kvs, vs = [.ref d] ∧ H1 d = some (.frz o (.dT kvs)) ∧ R (Itet d o kvs) H1
theorem pi_enumT {X : Cx} {e : Expr} {ta : TA} {p pos tpos : Pos} {elts : List Expr} {kk : Nat} (hg : Gl X "enumerate") (hm : X.mg "enumerate" = none) (ha : PA X [e] ta) (hs : starEach [e] X.env = [(false, eval e X.env)] := by rfl) : PI X (.Tuple elts kk tpos) (.Call (.Name "enumerate" p) [e] [] pos) (iEnumT ta) := by
  refine ⟨fun pins s σ H R I h => Call_ (ld_blt I hg hm boot_enumerate (PyProof.Rows.callWith_type1 (thn (ha.run pos pins s σ H _ I h) fun us s1 z => ?_) hs rfl))⟩
  obtain ⟨vs, H1, I1, r1, d, o, kvs, rfl, hd, q⟩ := z
  obtain ⟨u, rfl, ru⟩ := r1.one; cases ru
  obtain ⟨hsm, hgd, hx, es, ep, hdt, hsz, ent⟩ := I1.frzT hd
  refine call_enum1 (begins_keys hsm hx hdt) hgd fun h' he hit hk => wpAny_pyIter_enum he ?_
  have dl : d < s1.heap.objs.size := Heap.lt_size hgd
  have I2 : Inv X pins σ H1 { s1 with heap := h' } := I1.kept (t' := s1.toks) hk
  refine ⟨s1.heap.objs.size + 1, [s1.heap.objs.size + 1, s1.heap.objs.size], _, _, H1, rfl, I2, turn_enumT (e := s1.heap.objs.size + 1) (it := s1.heap.objs.size) hdt (Nat.succ_ne_self _) (Nat.ne_of_gt (Nat.lt_succ_of_lt dl)) (Nat.ne_of_lt dl), ⟨⟨.none, he⟩, ⟨_, hit, rfl, by rw [← hsz]; rfl⟩⟩, fun b hb => ?_, q⟩
  have le : s1.heap.objs.size ≤ b := by
    rcases List.mem_cons.mp hb with z | z
    · rw [z]; exact Nat.le_succ _
    · rw [List.mem_singleton.mp z]; exact Nat.le_refl _
  exact I1.fpOk le (I1.hok.fresh le)
end Lr

set_option exponentiation.threshold 5000
namespace Lr
open PySem PySem.Spec PyProof.Rows L2
/-! dict comprehensions, keys of any kind -/
theorem stored {X : Cx} {pins : List (Addr × Obj)} {σ : L2.St} {H H' : Hp} {s : Shared} {E : Value → Shared → Prop} {D : Addr} {y z : V} {u r : Value} {Q : Unit → Shared → Prop} (hu : X.A.units + 1 < cLine) (I : L2.Inv X pins σ H s) (g : DPut H D y z H') (ry : RelV y u) (rz : RelV z r)
    (h : ∀ s', L2.Inv X pins σ H' s' → Q () s') : wpAny (model X.prog X.w) X.A (dictSet D u r) Q E s := by
  rcases g with ⟨kvs, k, e, rfl, l, rfl⟩ | ⟨kvs, k, b, e, rfl, eb, l, rfl⟩
  · exact d_dictSet I e l ry rz h
  · cases (show u = Value.ref b from ry)
    obtain ⟨le, hs, xs, rel, dd⟩ := dt_of I.hok e
    have lx : xs.length ≤ sizeLine := by rw [← Paired.length rel]; exact le
    have lp : (putK kvs k z).length ≤ sizeLine := by have := length_putK kvs k z; omega
    refine wpAny_dictSet_heap (knd := tupleKind (mixKind X.prog X.w)) (show X.A.units < cLine by omega) (key_of I.hok eb) dd (fun h' dd' sb => h _ ?_) lx
    obtain ⟨o, es, ep, g1, g2, g3, g4, _, g6⟩ := dd'
    exact d_write I (by rw [e]; trivial) sb ⟨o, g1⟩ ⟨lp, hs, _, (rel.put k eb rz).keeps fun c ys ec => by rw [upd_ne (ne_of ec e (fun q => nomatch q))]; exact ec, o, es, ep, g1, g2, g3, g4, g6⟩
section
variable {X : Cx}
/-- {k: v for target in iter if ..}: the new dict is d0 at first -/
def tDcG (d0 : HO) (wi : TI) (g : TG) (tt : TT) (tk tv : TE) (vs : List Nat) : TE := fun σ H Q => wi σ H fun J H1 => ∀ D, H1 D = none → ∃ W : Nat → Nat → Hp → Prop, (∃ m, W 0 m (L2.upd H1 D d0)) ∧ ∀ i m H, W i m H →
  (J.stop i H ∧ Q (.ref D) H) ∨ (J.go i H ∧ ∃ N : Hp → Prop, (∀ H', N H' → ∃ m', m' < m ∧ W (i + 1) m' H') ∧ ∀ x H', J.yld i H x H' → g x (wipe σ vs) H' fun σ2 H2 => wipe σ2 vs = wipe σ vs ∧ tt σ2 H2 fun b H3 =>
    if b = true then tk σ2 H3 fun y H4 => tv σ2 H4 fun z H5 => ∃ H6, DPut H5 D y z H6 ∧ N H6 else N H3)
theorem dcG_core {pins : List (Addr × Obj)} {s : Shared} {σ : L2.St} {H : Hp} {Q : VK} {use : Option (Value → Sem Unit)} {Qf : Value → Shared → Prop} {pos' : Pos} {d0 : HO} {kx vx tg iter : Expr} {ifs : List Expr} {scope : Scope} {own : List (Str × Nat)} {pos : Pos} {wi : TI} {g : TG} {tt : TT} {tk tv : TE} (hd0 : d0 = .dK [] ∨ d0 = .dT []) (hu : X.A.units + 1 < cLine) (hc : X.calm = true) (hN : X.N.Nodup) (I : L2.Inv X pins σ H s) (hi : PI X tg iter wi) (ok : BlkOk X.N X.env.scope scope own)
    (hg : ∀ (s : Shared) (H : Hp) (C : Addr) (cl : List (Str × Addr)) (fp : List Addr), PG (X.blk s H scope (compEnvC scope cl C X.env) fp) tg g) (ht : ∀ (s : Shared) (H : Hp) (C : Addr) (cl : List (Str × Addr)) (fp : List Addr), PTs (X.blk s H scope (compEnvC scope cl C X.env) fp) ifs tt)
    (hk : ∀ (s : Shared) (H : Hp) (C : Addr) (cl : List (Str × Addr)) (fp : List Addr), PE (X.blk s H scope (compEnvC scope cl C X.env) fp) kx tk) (he : ∀ (s : Shared) (H : Hp) (C : Addr) (cl : List (Str × Addr)) (fp : List Addr), PE (X.blk s H scope (compEnvC scope cl C X.env) fp) vx tv)
    (hs : ∀ x, foldedSetIterable iter X.env x = pure x) (h : tDcG d0 wi g tt tk tv (own.map (·.2)) σ H Q)
    (hRR : ∀ D C s' m H', L2.Inv X pins σ H' s' → Q (.ref D) H' → s'.heap.Ns C m → FpOk X pins H' C → compPost (model X.prog X.w) X.A X.xe use Qf (.ref D) C (.ok .next) s') :
    wpAny (model X.prog X.w) X.A (comprehension (.DictComp kx vx [⟨tg, iter, ifs, 0⟩] scope pos) scope X.env pos' newDict false (eval iter X.env) use) Qf X.xe s := by
  have free : ∀ y ∈ scope.names, y.2 = .free → ∃ c, X.env.cells.lookup y.1 = some c := fun y hy e => (ok.free y hy e).elim (fun k => I.ok.has _ (.inl k)) fun k => I.ok.has _ (.inr k)
  refine wpAny_comprehension_free (use := use) rfl hs (closure_ok free) ok.kind (fun y hy e => by rw [ok.uniq y hy, e]) (thn (hi.run pins s σ H _ I h) fun xv s1 hx => thn hx fun itv s2 z2 => ?_)
  obtain ⟨it, fp, tn, J, H2, rfl, I2, T, st2, f2, q⟩ := z2
  refine wpAny_newObj_type (newEnv_comp ?_)
  obtain ⟨D, hD⟩ : ∃ D, D = s2.heap.objs.size := ⟨_, rfl⟩
  have nD : H2 D = none := I2.hok.fresh (Nat.le_of_eq hD.symm)
  obtain ⟨W, ⟨m0, w0⟩, turn⟩ := q D nD
  obtain ⟨s3, e3⟩ : ∃ s3 : Shared, s3 = { s2 with heap := s2.heap.push { cls := .type "dict", data := .dict #[] } } := ⟨_, rfl⟩
  have hp3 : s3.heap = s2.heap.push { cls := .type "dict", data := .dict #[] } := by rw [e3]
  have I3 : L2.Inv X pins σ (L2.upd H2 D d0) s3 := by
    rw [e3]; refine I2.laid (t' := s2.toks) (fun b o e => Heap.get?_push_of_some _ e) (Nat.le_of_eq hD.symm) ?_
    rw [hD]; rcases hd0 with rfl | rfl
    · exact dk_empty s2.heap I2.big
    · exact dt_empty s2.heap I2.big
  have low : ∀ b ∈ fp, b < s2.heap.objs.size := fun b hb => let ⟨o, e, _⟩ := T.obj _ _ st2 b hb; Heap.lt_size e
  have f3 : ∀ b ∈ fp, FpOk X pins (L2.upd H2 D d0) b ∧ b < s3.heap.objs.size := fun b hb => ⟨⟨by rw [upd_ne (by rw [hD]; exact Nat.ne_of_lt (low b hb))]; exact (f2 b hb).1, (f2 b hb).2⟩, by rw [hp3, Heap.size_push]; exact Nat.lt_succ_of_lt (low b hb)⟩
  have st3 : tn 0 s3.heap := T.keep _ _ _ st2 fun b _ o e => by rw [hp3]; exact Heap.get?_push_of_some _ e
  have I4 := block_start I3 ok hN f3
  have pg := hg s3 (L2.upd H2 D d0) s3.heap.objs.size (cellsFrom (s3.heap.objs.size + 1) scope.names (cloFrom X.env.cells scope.names [])) fp
  have pt := ht s3 (L2.upd H2 D d0) s3.heap.objs.size (cellsFrom (s3.heap.objs.size + 1) scope.names (cloFrom X.env.cells scope.names [])) fp
  have pk := hk s3 (L2.upd H2 D d0) s3.heap.objs.size (cellsFrom (s3.heap.objs.size + 1) scope.names (cloFrom X.env.cells scope.names [])) fp
  have pv := he s3 (L2.upd H2 D d0) s3.heap.objs.size (cellsFrom (s3.heap.objs.size + 1) scope.names (cloFrom X.env.cells scope.names [])) fp
  have clean : ∀ b ∈ fp, (L2.upd H2 D d0) b = none := fun b hb => (f3 b hb).1.1
  rw [← hD, ← e3]
  show codeAny _ _ (.compStart (.DictComp kx vx [⟨tg, iter, ifs, 0⟩] scope pos) 0 (.ref it) (.ref D) (compEnvC scope (cellsFrom (s3.heap.objs.size + 1) scope.names (cloFrom X.env.cells scope.names [])) s3.heap.objs.size X.env)) (compPost (model X.prog X.w) X.A X.xe use Qf (.ref D) s3.heap.objs.size) { s3 with heap := pushCells (s3.heap.push { cls := .type "dict", data := .dict #[] }) scope.names }
  obtain ⟨ce, ece⟩ : ∃ ce, ce = compEnvC scope (cellsFrom (s3.heap.objs.size + 1) scope.names (cloFrom X.env.cells scope.names [])) s3.heap.objs.size X.env := ⟨_, rfl⟩
  rw [← ece] at I4 pg pt pk pv ⊢
  have loc : ce.locals = s3.heap.objs.size := by rw [ece]; rfl
  obtain ⟨H3, eH3⟩ : ∃ H3, H3 = L2.upd H2 D d0 := ⟨_, rfl⟩
  rw [← eH3] at I3 I4 pg pt pk pv w0 clean f3
  obtain ⟨s4, e4⟩ : ∃ s4 : Shared, s4 = { s3 with heap := pushCells (s3.heap.push { cls := .type "dict", data := .dict #[] }) scope.names } := ⟨_, rfl⟩
  rw [← e4] at I4 ⊢
  have st4 : tn 0 s4.heap := T.keep _ _ _ st3 fun b _ o e => by rw [e4]; exact pushCells_keeps _ _ _ _ (Heap.get?_push_of_some _ e)
  have stay : ∀ {τ : L2.St} {H' : Hp} {s' : Shared}, L2.Inv (X.blk s3 H3 scope ce fp) [] τ H' s' → (∀ b ∈ fp, H' b = none) → ∀ b ∈ fp, FpOk (X.blk s3 H3 scope ce fp) [] H' b := fun {τ H' s'} J' hn b hb => ⟨hn b hb, (J'.ok.exf b hb).1, J'.ok.exfs b hb, .inl hb, fun x c e => (J'.ok.exf b hb).2 x c e, fun p hp => by simp at hp⟩
  have loop : codeAny (model X.prog X.w) X.A (.compLoop (.DictComp kx vx [⟨tg, iter, ifs, 0⟩] scope pos) 0 (.ref it) (.ref D) ce) (compPost (model X.prog X.w) X.A X.xe use Qf (.ref D) s3.heap.objs.size) s4 := by
    refine compLoop_anyD (fun n s' => ∃ i H', L2.Inv (X.blk s3 H3 scope ce fp) [] (wipe σ (own.map (·.2))) H' s' ∧ tn i s'.heap ∧ (∀ b ∈ fp, H' b = none) ∧ W i n H') ?turns m0 ⟨0, H3, I4, st4, clean, w0⟩
    rintro n s5 ⟨i, H5, I5, st5, n5, w5⟩
    rcases turn i n H5 w5 with ⟨stop, fin⟩ | ⟨go, N, hN', each⟩
    · refine thnF (T.done (X.blk s3 H3 scope ce fp) rfl rfl rfl hc i [] s5 _ H5 (fun _ _ => False) I5 (stay I5 n5) st5 stop) fun r s6 z => ?_
      obtain ⟨rfl, I6⟩ := z
      have I7 : L2.Inv X pins σ H5 s6 := I3.call' (ch := fp) I6.os I6.base I6.hok I6.bare fun b hb => ⟨(f3 b hb).1.2.2.2.1, (f3 b hb).1.2.1, (f3 b hb).1.2.2.2.2.1, (f3 b hb).1.2.2.2.2.2⟩
      have nC : H5 s3.heap.objs.size = none := by have z : H5 ce.locals = none := I6.free; rw [loc] at z; exact z
      obtain ⟨m, hm, _⟩ := I6.loc
      have hm : s6.heap.Ns ce.locals m := hm
      rw [loc] at hm
      exact hRR D s3.heap.objs.size s6 m H5 I7 fin hm (I3.fpOk (Nat.le_refl _) nC)
    · refine thnF (T.item (X.blk s3 H3 scope ce fp) rfl rfl rfl hc i [] s5 _ H5 (fun _ _ => False) I5 (stay I5 n5) st5 go) fun r s6 z => ?_
      obtain ⟨u, rfl, z6⟩ := z
      refine thnF z6 fun _ s7 z7 => ?_
      obtain ⟨x, H7, I7, r7, y7, st7, n7⟩ := z7
      refine thnF (pg.run _ s7 _ H7 x u _ (I7.pinned (stay I7 n7) (T.obj _ _ st7)) r7 (each x H7 y7)) fun _ s8 z8 => ?_
      obtain ⟨σ8, H8, I8, hw8, q8⟩ := z8
      refine thnF (pt.run _ s8 σ8 H8 _ I8 q8) fun b s9 z9 => ?_
      obtain ⟨H9, I9, q9⟩ := z9
      have over : ∀ {s' : Shared} {H' : Hp}, L2.Inv (X.blk s3 H3 scope ce fp) ([] ++ pinsAt fp s7.heap) σ8 H' s' → N H' → ∃ m, m < n ∧ ∃ i H', L2.Inv (X.blk s3 H3 scope ce fp) [] (wipe σ (own.map (·.2))) H' s' ∧ tn i s'.heap ∧ (∀ b ∈ fp, H' b = none) ∧ W i m H' := fun {s' H'} J' nx => by
        obtain ⟨m', hm, w'⟩ := hN' H' nx
        have pin : ∀ b ∈ fp, ∀ o, s7.heap.get? b = some o → s'.heap.get? b = some o ∧ H' b = none := fun b hb o e => ⟨(J'.pin (b, o) (List.mem_append_right _ (List.mem_append_right _ (mem_pinsAt hb e)))).1, (J'.pin (b, o) (List.mem_append_right _ (List.mem_append_right _ (mem_pinsAt hb e)))).2.1⟩
        refine ⟨m', hm, i + 1, H', (J'.unpinned (pins := [])).weak (by rw [← hw8, wipe_length]) (fun j v e => by rw [← hw8] at e; exact (wipe_some e).1), T.keep _ _ _ st7 fun b hb o e => (pin b hb o e).1, fun b hb => ?_, w'⟩
        obtain ⟨o, e, _⟩ := T.obj _ _ st7 b hb
        exact (pin b hb o e).2
      cases b with
      | false => simp only [Bool.false_eq_true, if_false] at q9 ⊢; exact over I9 q9
      | true =>
        simp only [if_true] at q9 ⊢
        refine thnF (pk.run _ s9 σ8 H9 _ I9 q9) fun kv s10 z10 => ?_
        obtain ⟨y, H10, I10, r10, q10⟩ := z10
        refine thnF (pv.run _ s10 σ8 H10 _ I10 q10) fun vv s11 z11 => ?_
        obtain ⟨z, H11, I11, r11, H12, put, nx⟩ := z11
        exact stored (X := X.blk s3 H3 scope ce fp) hu I11 put r10 r11 fun s12 I12 => over I12 nx
  exact codeAny_compStart_dict loop (T.self X.A 0 _ _ _ st4 loop)
theorem pe_dcG {d0 : HO} {kx vx tg iter : Expr} {ifs : List Expr} {scope : Scope} {own : List (Str × Nat)} {pos : Pos} {wi : TI} {g : TG} {tt : TT} {tk tv : TE} (hd0 : d0 = .dK [] ∨ d0 = .dT []) (hu : X.A.units + 1 < cLine) (hc : X.calm = true) (hN : X.N.Nodup) (hi : PI X tg iter wi) (ok : BlkOk X.N X.env.scope scope own)
    (hg : ∀ (s : Shared) (H : Hp) (C : Addr) (cl : List (Str × Addr)) (fp : List Addr), PG (X.blk s H scope (compEnvC scope cl C X.env) fp) tg g) (ht : ∀ (s : Shared) (H : Hp) (C : Addr) (cl : List (Str × Addr)) (fp : List Addr), PTs (X.blk s H scope (compEnvC scope cl C X.env) fp) ifs tt)
    (hk : ∀ (s : Shared) (H : Hp) (C : Addr) (cl : List (Str × Addr)) (fp : List Addr), PE (X.blk s H scope (compEnvC scope cl C X.env) fp) kx tk) (he : ∀ (s : Shared) (H : Hp) (C : Addr) (cl : List (Str × Addr)) (fp : List Addr), PE (X.blk s H scope (compEnvC scope cl C X.env) fp) vx tv)
    (hs : ∀ x, foldedSetIterable iter X.env x = pure x := by intro _; rfl) : PE X (.DictComp kx vx [⟨tg, iter, ifs, 0⟩] scope pos) (tDcG d0 wi g tt tk tv (own.map (·.2))) := by
  refine ⟨fun pins s σ H Q I h => ?_⟩
  rw [arm_eval_DictComp]
  refine dcG_core hd0 hu hc hN I hi ok hg ht hk he hs h fun D C s' m H' I' q hm f => ⟨m, hm, fun h'' sb => ?_⟩
  obtain ⟨q0, q1, q2, q3, q4, q5⟩ := f
  exact ⟨.ref D, H', I'.turned (t' := s'.toks) (fun b o hb e => (sb.2 b hb).trans e) q0 q1 q3 q4 q5, rfl, q⟩
theorem ps_setDcG {i : Nat} {y : Str} {py spos : Pos} {d0 : HO} {kx vx tg iter : Expr} {ifs : List Expr} {scope : Scope} {own : List (Str × Nat)} {pos : Pos} {wi : TI} {g : TG} {tt : TT} {tk tv : TE} (hd0 : d0 = .dK [] ∨ d0 = .dT []) (hu : X.A.units + 1 < cLine) (hc : X.calm = true) (hN : X.N.Nodup) (hy : X.N[i]? = some y) (hyl : X.env.scope.names.lookup y = some .local)
    (hsw : swapsWith (.DictComp kx vx [⟨tg, iter, ifs, 0⟩] scope pos) (some (.Name y py)) spos.line X.env = pure true) (hi : PI X tg iter wi) (ok : BlkOk X.N X.env.scope scope own)
    (hg : ∀ (s : Shared) (H : Hp) (C : Addr) (cl : List (Str × Addr)) (fp : List Addr), PG (X.blk s H scope (compEnvC scope cl C X.env) fp) tg g) (ht : ∀ (s : Shared) (H : Hp) (C : Addr) (cl : List (Str × Addr)) (fp : List Addr), PTs (X.blk s H scope (compEnvC scope cl C X.env) fp) ifs tt)
    (hk : ∀ (s : Shared) (H : Hp) (C : Addr) (cl : List (Str × Addr)) (fp : List Addr), PE (X.blk s H scope (compEnvC scope cl C X.env) fp) kx tk) (he : ∀ (s : Shared) (H : Hp) (C : Addr) (cl : List (Str × Addr)) (fp : List Addr), PE (X.blk s H scope (compEnvC scope cl C X.env) fp) vx tv)
    (hs : ∀ x, foldedSetIterable iter X.env x = pure x := by intro _; rfl) :
    PS X (.Assign [.Name y py] (.DictComp kx vx [⟨tg, iter, ifs, 0⟩] scope pos) spos) (tAsg (tDcG d0 wi g tt tk tv (own.map (·.2))) (gName i)) := by
  refine ⟨fun pins s σ H D I h => ?_⟩
  rw [exec_Assign_Name_used _ _ _ _ hsw]
  refine wpAny_bind (wpAny_standAt (wpAny_bind ?_))
  show wpAny _ X.A (do let _ ← comprehension (.DictComp kx vx [⟨tg, iter, ifs, 0⟩] scope pos) scope X.env (firstIterPos [⟨tg, iter, ifs, 0⟩] pos) newDict false (eval iter X.env) (some (assign (.Name y py) X.env))) _ _ s
  have h : tDcG d0 wi g tt tk tv (own.map (·.2)) σ H (fun x H1 => gName i x σ H1 D.nx) := h
  refine wpAny_bind (thn (dcG_core (Qf := fun _ s' => SP X pins D .next s') hd0 hu hc hN I hi ok hg ht hk he hs h fun L C s' m H' I' q hm f => ?_) fun _ s' hq => wpAny_pure (wpAny_pure hq))
  show wpAny _ _ (assign (.Name y py) X.env (.ref L)) _ _ _
  refine wpAny_assign_Name (store_ok2 (v := V.ref L) I' hN hy (.inl hyl) rfl (fun s2 I2 zz => ?_) (.inr hyl))
  obtain ⟨a, sb, ha⟩ := zz
  obtain ⟨q0, q1, q2, q3, q4, q5⟩ := f
  have far : C ≠ a := ha.elim (fun z => z ▸ q1) fun z e => q4 y a z e.symm
  exact ⟨m, hm.sameBut sb far, fun h3 sb3 => ⟨_, H', I2.turned (t' := s2.toks) (fun b o hb e => (sb3.2 b hb).trans e) q0 q1 q3 q4 q5, q⟩⟩
theorem sw_trueD {kx vx : Expr} {gs : List Comprehension} {scope : Scope} {pos py : Pos} {y : Str} {l : Nat} {env : Env} (hk : env.scope.kind = .function) (hy : env.scope.names.lookup y = some .local) (hl : (py.line == pos.line) = true)
    (ha : (scope.names.any fun z => z.1 == y && (z.2 == .local || z.2 == .cell)) = false) : swapsWith (.DictComp kx vx gs scope pos) (some (.Name y py)) l env = pure true := by
  have e1 : env.kindOf y = some .local := hy
  have e2 : env.blockKind = .function := by unfold Env.blockKind; rw [hk]; rfl
  unfold swapsWith
  simp only [e2, e1, ha, Expr.pos, hl]
  rfl
end
end Lr

set_option exponentiation.threshold 5000
namespace Lr
open PySem PySem.Spec PyProof.Rows L2
/-! d.items(), keys tuples -/
theorem frzT2 {X : Cx} {pins : List (Addr × Obj)} {σ : L2.St} {H : Hp} {s : Shared} {d : Addr} {o : Obj} {kvs : List (List Key × V)} (I : L2.Inv X pins σ H s) (h : H d = some (.frz o (.dT kvs))) :
    (d == sysModules) = false ∧ s.heap.get? d = some o ∧ o.ExactDict ∧ ∃ (es : Array DictEntry) (ep : Nat), o.data = .dict es ep ∧ es.size = kvs.length ∧
      ∀ (i : Nat) (k : List Key) (v : V), kvs[i]? = some (k, v) → ∃ (en : DictEntry) (q : Addr), es[i]? = some en ∧ en.key = .ref q ∧ H q = some (.tup (k.map kV)) ∧ L2.RelV v en.val := by
  obtain ⟨hd, z, hs, xs, pr, o', es, ep, ho, hx, hdt, he, _⟩ := I.hok d _ h
  rw [hd] at ho; cases ho
  refine ⟨hs, hd, hx, es, ep, hdt, ?_, fun i k v e => ?_⟩
  · have l1 : es.size = xs.length := size_of_entries he
    have l2 : kvs.length = xs.length := Paired.length pr
    omega
  · obtain ⟨b, hb, _, e2, e3⟩ := paired_get pr e
    have q := entry_at he i
    rw [hb] at q
    exact ⟨_, b.2.1, q, rfl, e2, e3⟩
/-- the pairs of the locked dict at d, each in a new tuple -/
def Itit (d : Addr) (o : Obj) (kvs : List (List Key × V)) : It :=
  ⟨fun i H => H d = some (.frz o (.dT kvs)) ∧ i < kvs.length, fun i H x H' => ∃ (k : List Key) (v : V) (q T : Addr), kvs[i]? = some (k, v) ∧ H q = some (.tup (k.map kV)) ∧ x = .ref T ∧ H T = none ∧ H' = L2.upd H T (.tup [.ref q, v]), fun i H => H d = some (.frz o (.dT kvs)) ∧ kvs.length ≤ i⟩
theorem turn_itemsT {P : Program} {w : World} {K : PySem.W.Frag} {elts : List Expr} {kk : Nat} {tpos : Pos} {d it : Addr} {o : Obj} {es : Array DictEntry} {ep : Nat} {kvs : List (List Key × V)} (hod : o.data = .dict es ep) (hx0 : o.ExactDict) (sz0 : es.size = kvs.length) :
    Turn P w K (.Tuple elts kk tpos) (Itit d o kvs) [it] it (fun i h => ∃ ok ov, IsItemIter h it d i es.size ep ok ov) where
  mem := List.mem_cons_self
  obj := fun i h st b hb => by
    obtain ⟨ok, ov, e⟩ := st
    rw [List.mem_singleton.mp hb]; exact ⟨_, e, fun v z => nomatch z⟩
  keep := fun i h h' st k => let ⟨ok, ov, e⟩ := st; ⟨ok, ov, k it List.mem_cons_self _ e⟩
  item := by
    intro X hP hw hK hc i pins s σ H E I hf st hg
    subst hP hw hK
    obtain ⟨hd, lt⟩ := hg
    obtain ⟨hs, hgd, hx, es2, ep2, hdt, hsz, ent⟩ := frzT2 I hd
    obtain ⟨rfl, rfl⟩ := dict_ep hod hdt
    obtain ⟨⟨k, v⟩, hkv⟩ : ∃ p, kvs[i]? = some p := ⟨kvs[i], List.getElem?_eq_getElem lt⟩
    obtain ⟨en, q, hen, hkey, hq, hv⟩ := ent i k v hkv
    obtain ⟨lt2, een⟩ := Array.getElem?_eq_some_iff.mp hen
    obtain ⟨ok, ov, he⟩ := st
    have il : it < s.heap.objs.size := Heap.lt_size he
    refine DT.nextI he ⟨o, hgd, hx, hdt⟩ lt2 fun h' ho hT hz hk => ?_
    rw [een] at ho hT
    refine ⟨_, rfl, wpAny_letOwnedTupleGo_items (s := { s with heap := h' }) ho fun h'' he' sb => ?_⟩
    have hT2 := (sb.2 _ (Nat.ne_of_gt il)).trans hT
    have new : ObjOk X.prog X.w (L2.upd H s.heap.objs.size (.tup [.ref q, v])) h'' s.heap.objs.size (.tup [.ref q, v]) := ⟨by show 2 ≤ sizeLine; decide, [en.key, en.val], .cons hkey (.cons hv .nil), ⟨_, hT2, rfl, _, rfl⟩⟩
    have I1 := I.turnedNew (t' := s.toks) (ch := [it]) (fun b ob hb y => (sb.2 b (by simpa using hb)).trans (hk b ob (by simpa using hb) y)) hf (Nat.le_refl _) new
    refine ⟨.ref s.heap.objs.size, _, I1, rfl, ⟨k, v, q, _, hkv, hq, rfl, I.hok.fresh (Nat.le_refl _), rfl⟩, ⟨_, _, he'⟩, fun b hb => ?_⟩
    rw [List.mem_singleton.mp hb, upd_ne (Nat.ne_of_lt il)]
    exact (hf it List.mem_cons_self).1
  done := by
    intro X hP hw hK hc i pins s σ H E I hf st hg
    subst hP hw hK
    obtain ⟨hd, ge⟩ := hg
    obtain ⟨f0, f1, f2, f3, f4, f5⟩ := hf it List.mem_cons_self
    obtain ⟨hs, hgd, hx, es2, ep2, hdt, hsz, ent⟩ := frzT2 I hd
    obtain ⟨rfl, rfl⟩ := dict_ep hod hdt
    obtain ⟨ok, ov, he⟩ := st
    exact DT.endI (I.ok.hd hc) he ⟨o, hgd, hx, hdt⟩ (by omega) fun h' eb => ⟨rfl, I.turned (t' := s.toks) (fun b ob hb e => eb b ob hb e) f0 f1 f3 f4 f5⟩
  self := fun A i s Q E st h => let ⟨_, _, e⟩ := st; PySem.W.kcp_self e h
def iItemsT (td : TE) : TI := fun σ H R => td σ H fun x H1 => ∃ d o kvs, x = .ref d ∧ H1 d = some (.frz o (.dT kvs)) ∧ R (Itit d o kvs) H1
theorem pi_itemsT {X : Cx} {e : Expr} {td : TE} {apos cpos : Pos} {elts : List Expr} {kk : Nat} {tpos : Pos} (he : PE X e td) (hbase : attributeBase e "items" X.env (eval e X.env) = eval e X.env := by rfl) (hline : (apos.endLine == cpos.line) = true := by rfl) :
    PI X (.Tuple elts kk tpos) (.Call (.Attribute e "items" apos) [] [] cpos) (iItemsT td) := by
  refine ⟨fun pins s σ H R I h => ?_⟩
  refine wpAny_Call_method (T := "dict") (id := "dict.items") hbase rfl hline F.plainAttrs_dict F.slot_dict_items F.type_dict_items (thn (he.run pins s σ H _ I h) fun u s1 z => ?_)
  obtain ⟨x, H1, I1, rx, d, o, kvs, rfl, hd, q⟩ := z
  obtain rfl : u = Value.ref d := rx
  obtain ⟨hs, hgd, hx, es, ep, hdt, hsz, ent⟩ := frzT2 I1 hd
  have raw : DT.Raw s1.heap d es ep := ⟨o, hgd, hx, hdt⟩
  refine ⟨raw.typeIs, ?nd, ?_⟩
  case nd => exact fun a z => by cases z; exact ⟨o, hgd, hx.2.1⟩
  have I2 : L2.Inv X pins σ H1 { s1 with heap := s1.heap.push { cls := .type "dict_items", data := .fields #[.ref d] } } := I1.kept (t' := s1.toks) fun b ob y => Heap.get?_push_of_some _ y
  have fin : wpAny (model X.prog X.w) X.A (pyIter (.ref s1.heap.objs.size)) (PIE X pins σ (.Tuple elts kk tpos) R) X.xe { s1 with heap := s1.heap.push { cls := .type "dict_items", data := .fields #[.ref d] } } :=
    DT.iterI (d := d) ⟨_, Heap.get?_push_size _ rfl, rfl, rfl⟩ (raw.push _) (pi_one (tk := s1.toks) I2 _ (turn_itemsT hdt hx hsz) ⟨.none, .none, Heap.get?_push_size _ rfl⟩ q)
  show wpAny _ _ (callWith cpos (.builtin "dict.items") [.ref d] [] []) _ X.xe s1
  exact method_meetsIn F.slot_dict_items F.entry_dict_items rfl (PySem.evalArgs_none ⟨rfl, raw.typeIs, F.args_dict_items_1 _, _, DT.meetsItems hs, ⟨raw, fin⟩⟩)
end Lr

set_option exponentiation.threshold 5000
namespace Lr
open PySem PySem.Spec PyProof.Rows L2
/-! the dict of the standings and their steps -/
def StAt (H : Hp) (a : Addr) (r : M4) (pre : List Bool) : Prop := ∃ bs : List Addr, H a = some (.lst (bs.map V.ref)) ∧ bs.length = pre.length ∧ ∀ (j : Nat) (t : Bool) (b : Addr), pre[j]? = some t → bs[j]? = some b → ∃ q : Addr, H b = some (.tup [.str (rd (wd1 r t)), .ref q]) ∧ H q = some (.tup ((rd1 r t).l.map V.int))
theorem StAt.up {H H' : Hp} {a : Addr} {r : M4} {pre : List Bool} (h : StAt H a r pre) (e : H' a = H a) (t : TupS H H') : StAt H' a r pre := by
  obtain ⟨bs, h1, h2, h3⟩ := h
  refine ⟨bs, by rw [e]; exact h1, h2, fun j u b x y => ?_⟩
  obtain ⟨q, g1, g2⟩ := h3 j u b x y
  exact ⟨q, t _ _ g1, t _ _ g2⟩
def kvz (l : List M4) (as : List Addr) : List (List Key × V) := List.zipWith (fun r a => (r.key, V.ref a)) l as
structure Stp (H : Hp) (l : List M4) (as : List Addr) (pr : Nat → List Bool) : Prop where
  len : as.length = l.length
  nd : as.Nodup
  st : ∀ (k : Nat) (r : M4) (a : Addr), l[k]? = some r → as[k]? = some a → StAt H a r (pr k)
theorem kvz_len {l : List M4} {as : List Addr} (h : as.length = l.length) : (kvz l as).length = l.length := by
  unfold kvz
  rw [List.length_zipWith]
  omega
theorem kvz_get {l : List M4} {as : List Addr} (hn : l.Nodup) {k : Nat} {r : M4} {a : Addr} (hr : l[k]? = some r) (ha : as[k]? = some a) : valV (kvz l as) r.key = some (.ref a) := by
  unfold kvz valV
  induction l generalizing as k with
  | nil => cases hr
  | cons x l ih =>
    cases as with
    | nil => cases ha
    | cons y as =>
      rw [List.zipWith_cons_cons, List.find?_cons]
      cases k with
      | zero =>
        cases hr
        cases ha
        simp
      | succ k =>
        have hr : l[k]? = some r := hr
        have ha : as[k]? = some a := ha
        have ne : ¬ x.key = r.key := fun z => (List.nodup_cons.mp hn).1 (by rw [M4.key_inj z]; exact List.mem_of_getElem? hr)
        simp only [ne, decide_false]
        exact ih (List.nodup_cons.mp hn).2 hr ha
theorem kvz_no {l : List M4} {as : List Addr} {r : M4} (h : ¬ r ∈ l) : valV (kvz l as) r.key = none := by
  unfold kvz valV
  induction l generalizing as with
  | nil => rfl
  | cons x l ih =>
    cases as with
    | nil => rfl
    | cons y as =>
      rw [List.zipWith_cons_cons, List.find?_cons]
      have ne : ¬ x.key = r.key := fun z => h (by rw [M4.key_inj z]; exact List.mem_cons_self)
      simp only [ne, decide_false]
      exact ih fun z => h (List.mem_cons_of_mem _ z)
theorem kvz_snoc {l : List M4} {as : List Addr} {r : M4} {a : Addr} (len : as.length = l.length) (h : ¬ r ∈ l) : putK (kvz l as) r.key (.ref a) = kvz (l ++ [r]) (as ++ [a]) := by
  rw [putK_new _ (kvz_no h)]
  unfold kvz
  rw [List.zipWith_append len.symm]
  rfl
theorem kvz_some {l : List M4} {as : List Addr} (len : as.length = l.length) (hn : l.Nodup) {r : M4} : (valV (kvz l as) r.key).isSome = true ↔ r ∈ l := by
  constructor
  · intro h
    refine Classical.byContradiction fun z => ?_
    rw [kvz_no z] at h
    cases h
  · intro h
    obtain ⟨k, hk⟩ := List.getElem?_of_mem h
    have lt : k < as.length := by rw [len]; exact (List.getElem?_eq_some_iff.mp hk).1
    rw [kvz_get hn hk (List.getElem?_eq_getElem lt)]
    rfl
theorem kvz_at {l : List M4} {as : List Addr} {i : Nat} {k : List Key} {v : V} (h : (kvz l as)[i]? = some (k, v)) : ∃ r a, l[i]? = some r ∧ as[i]? = some a ∧ k = r.key ∧ v = .ref a := by
  unfold kvz at h
  rw [List.getElem?_zipWith] at h
  cases e1 : l[i]? with
  | none => rw [e1] at h; cases h
  | some r =>
    cases e2 : as[i]? with
    | none => rw [e1, e2] at h; cases h
    | some a =>
      rw [e1, e2] at h
      cases h
      exact ⟨r, a, rfl, rfl, rfl, rfl⟩
theorem Stp.up {H H' : Hp} {l : List M4} {as : List Addr} {pr : Nat → List Bool} (h : Stp H l as pr) (e : ∀ a ∈ as, H' a = H a) (t : TupS H H') : Stp H' l as pr :=
  ⟨h.len, h.nd, fun k r a x y => (h.st k r a x y).up (e a (List.mem_of_getElem? y)) t⟩
theorem Stp.same {H H' : Hp} {l : List M4} {as : List Addr} {pr : Nat → List Bool} (h : Stp H l as pr) (s : Same H H') : Stp H' l as pr :=
  h.up (fun a ha => by
    obtain ⟨k, hk⟩ := List.getElem?_of_mem ha
    have lt : k < l.length := by rw [← h.len]; exact (List.getElem?_eq_some_iff.mp hk).1
    obtain ⟨bs, e, _⟩ := h.st k _ a (List.getElem?_eq_getElem lt) hk
    rw [e, s _ _ e]) (.of s)
/-- a new key, with no steps yet -/
theorem Stp.key {H H' : Hp} {l : List M4} {as : List Addr} {pr : Nat → List Bool} {r : M4} {a : Addr} (h : Stp H l as pr) (na : ∀ b ∈ as, b ≠ a) (e : ∀ b ∈ as, H' b = H b) (t : TupS H H') (ea : H' a = some (.lst [])) (p0 : pr l.length = []) : Stp H' (l ++ [r]) (as ++ [a]) pr := by
  have h' := h.up e t
  refine ⟨by rw [List.length_append, List.length_append, h.len]; rfl, ?_, fun k s b x y => ?_⟩
  · rw [List.nodup_append]
    exact ⟨h.nd, by simp, fun b hb c hc z => na b hb (by rw [z, List.mem_singleton.mp hc])⟩
  · by_cases c : k < l.length
    · rw [List.getElem?_append_left c] at x
      rw [List.getElem?_append_left (by rw [h.len]; exact c)] at y
      exact h'.st k s b x y
    · rw [List.getElem?_append_right (by omega)] at x
      rw [List.getElem?_append_right (by rw [h.len]; omega), h.len] at y
      cases d : k - l.length with
      | zero =>
        rw [d] at x y
        cases x
        cases y
        have : k = l.length := by omega
        rw [this, p0]
        exact ⟨[], ea, rfl, fun j t b z => by cases z⟩
      | succ n =>
        rw [d] at x
        cases x
theorem addr_at {l : List Addr} (h : l.Nodup) {i j : Nat} {r : Addr} (hi : l[i]? = some r) (hj : l[j]? = some r) : i = j := by
  obtain ⟨h1, e1⟩ := List.getElem?_eq_some_iff.mp hi
  obtain ⟨h2, e2⟩ := List.getElem?_eq_some_iff.mp hj
  have z := List.pairwise_iff_getElem.mp h
  rcases Nat.lt_trichotomy i j with c | c | c
  · exact absurd (e1.trans e2.symm) (z i j h1 h2 c)
  · exact c
  · exact absurd (e2.trans e1.symm) (z j i h2 h1 c)
/-- one step more at a key -/
theorem Stp.push {H H' : Hp} {l : List M4} {as : List Addr} {pr pr' : Nat → List Bool} {i : Nat} {r : M4} {a b q : Addr} {bs : List Addr} {t : Bool} (h : Stp H l as pr) (hr : l[i]? = some r) (ha : as[i]? = some a) (hb : H a = some (.lst (bs.map V.ref)))
    (e : ∀ c ∈ as, c ≠ a → H' c = H c) (ts : TupS H H') (ea : H' a = some (.lst ((bs ++ [b]).map V.ref))) (eb : H' b = some (.tup [.str (rd (wd1 r t)), .ref q])) (eq : H' q = some (.tup ((rd1 r t).l.map V.int))) (p1 : pr' i = pr i ++ [t]) (p2 : ∀ k, k ≠ i → pr' k = pr k) : Stp H' l as pr' := by
  refine ⟨h.len, h.nd, fun k s c x y => ?_⟩
  by_cases ki : k = i
  · subst ki
    rw [hr] at x
    rw [ha] at y
    cases x
    cases y
    obtain ⟨bs', h1, h2, h3⟩ := h.st k r a hr ha
    rw [hb] at h1
    have eqb : bs = bs' := by
      have h1 : List.map V.ref bs = List.map V.ref bs' := by
        injection h1 with h1
        injection h1
      exact List.map_inj_right (fun u v z => by cases z; rfl) |>.mp h1
    subst eqb
    rw [p1]
    refine ⟨bs ++ [b], ea, by rw [List.length_append, List.length_append, h2]; rfl, fun j u c x y => ?_⟩
    by_cases lt : j < (pr k).length
    · rw [List.getElem?_append_left lt] at x
      rw [List.getElem?_append_left (by rw [h2]; exact lt)] at y
      obtain ⟨z, g1, g2⟩ := h3 j u c x y
      exact ⟨z, ts _ _ g1, ts _ _ g2⟩
    · rw [List.getElem?_append_right (by omega)] at x
      rw [List.getElem?_append_right (by rw [h2]; omega), h2] at y
      cases d : j - (pr k).length with
      | zero =>
        rw [d] at x y
        cases x
        cases y
        exact ⟨q, eb, eq⟩
      | succ n =>
        rw [d] at x
        cases x
  · rw [p2 k ki]
    have ne : c ≠ a := fun z => ki (addr_at h.nd (z ▸ y) ha)
    exact (h.st k s c x y).up (e c (List.mem_of_getElem? y) ne) ts
theorem isKeys_maps {H : Hp} {l : List M4} {as bs : List Addr} (len : as.length = l.length) (h : IsKeys H (kvz l as) bs) : MapsL H bs l := by
  refine ⟨?_, fun k b r hb hr => ?_⟩
  · have := Paired.length h
    rw [kvz_len len] at this
    omega
  · have lt : k < as.length := by rw [len]; exact (List.getElem?_eq_some_iff.mp hr).1
    have e : (kvz l as)[k]? = some (r.key, .ref as[k]) := by
      unfold kvz
      rw [List.getElem?_zipWith, hr, List.getElem?_eq_getElem lt]
    obtain ⟨c, hc, g⟩ := paired_get h e
    rw [hb] at hc
    cases hc
    exact g
end Lr

set_option exponentiation.threshold 5000
namespace Lr
open PySem PySem.Spec PyProof.Rows L2
/-- a dict comprehension of n turns -/
theorem dcG_turns {J : It} {n : Nat} {d0 : HO} {g : TG} {tt : TT} {tk tv : TE} {vs : List Nat} {σ : L2.St} {H1 : Hp} {D : Addr} {Qd : Hp → Prop} (Pv : Nat → Hp → Prop) (h0 : Pv 0 (L2.upd H1 D d0)) (hgo : ∀ i H, i < n → Pv i H → J.go i H) (hst : ∀ H, Pv n H → J.stop n H)
    (hs : ∀ i x H H', i < n → Pv i H → J.yld i H x H' → g x (wipe σ vs) H' fun σ2 H2 => wipe σ2 vs = wipe σ vs ∧ tt σ2 H2 fun b H3 => if b = true then tk σ2 H3 fun y H4 => tv σ2 H4 fun z H5 => ∃ H6, DPut H5 D y z H6 ∧ Pv (i + 1) H6 else Pv (i + 1) H3) (hd : ∀ H, Pv n H → Qd H) :
    ∃ W : Nat → Nat → Hp → Prop, (∃ m, W 0 m (L2.upd H1 D d0)) ∧ ∀ i m H, W i m H →
  (J.stop i H ∧ Qd H) ∨ (J.go i H ∧ ∃ N : Hp → Prop, (∀ H', N H' → ∃ m', m' < m ∧ W (i + 1) m' H') ∧ ∀ x H', J.yld i H x H' → g x (wipe σ vs) H' fun σ2 H2 => wipe σ2 vs = wipe σ vs ∧ tt σ2 H2 fun b H3 =>
    if b = true then tk σ2 H3 fun y H4 => tv σ2 H4 fun z H5 => ∃ H6, DPut H5 D y z H6 ∧ N H6 else N H3) := by
  refine ⟨fun i m H => m = n - i ∧ i ≤ n ∧ Pv i H, ⟨n, rfl, Nat.zero_le _, h0⟩, ?_⟩
  rintro i m H ⟨rfl, le, p⟩
  by_cases c : i < n
  · exact .inr ⟨hgo i H c p, Pv (i + 1), fun H' p' => ⟨n - (i + 1), by omega, rfl, c, p'⟩, fun x H' y => hs i x H H' c p y⟩
  · obtain rfl : i = n := by omega
    exact .inl ⟨hst H p, hd H p⟩
/-- how many steps are there: both up to i, pre at i, none behind it -/
def pro (i : Nat) (pre : List Bool) : Nat → List Bool := fun k => if k < i then [false, true] else if k = i then pre else []
theorem pro_full (i : Nat) : pro i [false, true] = pro (i + 1) [] := by
  funext k
  unfold pro
  by_cases c : k < i
  · rw [if_pos c, if_pos (by omega)]
  · by_cases e : k = i
    · rw [if_neg c, if_pos e, if_pos (by omega)]
    · rw [if_neg c, if_neg e, if_neg (by omega)]
      split <;> rfl
theorem pro_far {i k : Nat} {pre : List Bool} (h : i < k) : pro i pre k = [] := by
  unfold pro
  rw [if_neg (by omega), if_neg (by omega)]
theorem pro_at {i : Nat} {pre : List Bool} : pro i pre i = pre := by
  unfold pro
  rw [if_neg (by omega), if_pos rfl]
theorem pro_off {i k : Nat} {pre pre' : List Bool} (h : k ≠ i) : pro i pre k = pro i pre' k := by
  unfold pro
  rw [if_neg h, if_neg h]
theorem Stp.ext {H : Hp} {l : List M4} {as : List Addr} {pr pr' : Nat → List Bool} (h : Stp H l as pr) (e : ∀ k, k < l.length → pr k = pr' k) : Stp H l as pr' :=
  ⟨h.len, h.nd, fun k r a x y => by rw [← e k (List.getElem?_eq_some_iff.mp x).1]; exact h.st k r a x y⟩
theorem Stp.nil {H : Hp} {pr : Nat → List Bool} : Stp H [] [] pr := ⟨rfl, List.nodup_nil, fun k r a x => by cases x⟩
theorem Stp.at_ {H : Hp} {l : List M4} {as : List Addr} {pr : Nat → List Bool} (h : Stp H l as pr) {k : Nat} {r : M4} (x : l[k]? = some r) : ∃ a, as[k]? = some a ∧ StAt H a r (pr k) := by
  have lt : k < as.length := by rw [h.len]; exact (List.getElem?_eq_some_iff.mp x).1
  exact ⟨as[k], List.getElem?_eq_getElem lt, h.st k r _ x (List.getElem?_eq_getElem lt)⟩
theorem Stp.lst {H : Hp} {l : List M4} {as : List Addr} {pr : Nat → List Bool} (h : Stp H l as pr) {a : Addr} (ha : a ∈ as) : ∃ xs, H a = some (.lst xs) := by
  obtain ⟨k, hk⟩ := List.getElem?_of_mem ha
  have lt : k < l.length := by rw [← h.len]; exact (List.getElem?_eq_some_iff.mp hk).1
  obtain ⟨bs, e, _⟩ := h.st k _ a (List.getElem?_eq_getElem lt) hk
  exact ⟨_, e⟩
/-- a for of n turns -/
theorem for_turns {J : It} {n : Nat} {g : TG} {tb : TS} {D : Ends} {σ : L2.St} {H : Hp} (Pv : Nat → L2.St → Hp → Prop) (h0 : Pv 0 σ H) (hgo : ∀ i σ H, i < n → Pv i σ H → J.go i H) (hst : ∀ σ H, Pv n σ H → J.stop n H)
    (hs : ∀ i x σ H H', i < n → Pv i σ H → J.yld i H x H' → g x σ H' fun σ2 H2 => tb { D with nx := Pv (i + 1), ct := Pv (i + 1), bk := D.nx } σ2 H2) (hd : ∀ σ H, Pv n σ H → D.nx σ H) :
    ∃ W : Nat → Nat → L2.St → Hp → Prop, (∃ m, W 0 m σ H) ∧ ∀ i m σ H, W i m σ H →
      (J.stop i H ∧ D.nx σ H) ∨ (J.go i H ∧ ∃ N : L2.St → Hp → Prop, (∀ σ' H', N σ' H' → ∃ m', m' < m ∧ W (i + 1) m' σ' H') ∧ ∀ x H', J.yld i H x H' → g x σ H' fun σ2 H2 => tb { D with nx := N, ct := N, bk := D.nx } σ2 H2) := by
  refine ⟨fun i m σ H => m = n - i ∧ i ≤ n ∧ Pv i σ H, ⟨n, rfl, Nat.zero_le _, h0⟩, ?_⟩
  rintro i m σ H ⟨rfl, le, p⟩
  by_cases c : i < n
  · exact .inr ⟨hgo i σ H c p, Pv (i + 1), fun σ' H' p' => ⟨n - (i + 1), by omega, rfl, c, p'⟩, fun x H' y => hs i x σ H H' c p y⟩
  · obtain rfl : i = n := by omega
    exact .inl ⟨hst σ H p, hd σ H p⟩
theorem Same.freeze {H H' : Hp} {d : Addr} {f : HO} (s : Same H H') : Same (upd H d f) (upd H' d f) := fun b o e => by
  by_cases c : b = d
  · subst c
    rw [upd_same] at e ⊢
    exact e
  · rw [upd_ne c] at e ⊢
    exact s _ _ e
theorem Same.thaw {H H' : Hp} {d : Addr} {f u : HO} (s : Same (upd H d f) H') (e : H d = some u) : Same H (upd H' d u) := fun b o z => by
  by_cases c : b = d
  · subst c
    rw [upd_same]
    exact e.symm.trans z
  · rw [upd_ne c]
    exact s _ _ (by rw [upd_ne c]; exact z)
theorem Stp.freeze {H : Hp} {l : List M4} {as : List Addr} {pr : Nat → List Bool} {d : Addr} {f : HO} {xs : List (List Key × V)} (h : Stp H l as pr) (e : H d = some (.dT xs)) : Stp (upd H d f) l as pr :=
  h.up (fun a ha => by
    obtain ⟨ys, z⟩ := h.lst ha
    rw [upd_ne (fun c => by rw [c, e] at z; cases z)]) (TupS.dT e)
/-- there are rows for maps read on among themselves -/
theorem rws_ex {m : M4} {l : List M4} (o : Okm m) (lt : Lst m l) (cl : ∀ r ∈ l, ∀ t, rd1 r t ∈ l) : ∃ rs, Rws l rs ∧ rs.length = l.length := by
  suffices h : ∀ n, n ≤ l.length → ∃ rs, Rws l rs ∧ rs.length = n from h _ (Nat.le_refl _)
  intro n
  induction n with
  | zero => exact fun _ => ⟨[], ⟨fun i x z => by cases z⟩, rfl⟩
  | succ n ih =>
    intro le
    obtain ⟨rs, h1, h2⟩ := ih (by omega)
    have hr : l[n]? = some l[n] := List.getElem?_eq_getElem (by omega)
    have mr := List.mem_of_getElem? hr
    have Or := lt.ok _ mr
    obtain ⟨e, he, _⟩ := end_ex Or.nn (by rw [Or.de]; exact o.d0) (Or.le o)
    obtain ⟨j, hj⟩ := List.getElem?_of_mem (cl _ mr false)
    obtain ⟨k, hk⟩ := List.getElem?_of_mem (cl _ mr true)
    exact ⟨rs ++ [⟨wd1 l[n] false, j, wd1 l[n] true, k, e⟩], h1.snoc (by rw [h2]; exact hr) ⟨rfl, hj, rfl, hk, he⟩, by rw [List.length_append, h2]; rfl⟩
end Lr

namespace Lr
open PySem PySem.Spec PyProof.Rows L2
def top (i : Nat) : Stmt := PySem.Challenge.pw_leftroads_k46_no_maps.main.body.getD i (.Pass ⟨0, 0, 0, 0⟩)
abbrev s__law_purse : Stmt := top 50
abbrev n__law_purse : List Str := ["script", "place", "cell"]
theorem sc__law_purse : FnScope n__law_purse ["script", "place"] (defScope s__law_purse) := ⟨rfl, rfl, rfl, by decide +kernel, rfl, by decide +kernel, by decide +kernel⟩
abbrev s__law_rt_first_odd : Stmt := top 65
abbrev n__law_rt_first_odd : List Str := ["parts", "wording", "style", "sign", "odd"]
theorem sc__law_rt_first_odd : FnScope n__law_rt_first_odd ["parts"] (defScope s__law_rt_first_odd) := ⟨rfl, rfl, rfl, by decide +kernel, rfl, by decide +kernel, by decide +kernel⟩
abbrev s__law_rt_size : Stmt := top 59
abbrev n__law_rt_size : List Str := ["plan"]
theorem sc__law_rt_size : FnScope n__law_rt_size ["plan"] (defScope s__law_rt_size) := ⟨rfl, rfl, rfl, by decide +kernel, rfl, by decide +kernel, by decide +kernel⟩
abbrev s__law_rt_shared : Stmt := top 52
abbrev n__law_rt_shared : List Str := ["numbers", "found", "count", "left"]
theorem sc__law_rt_shared : FnScope n__law_rt_shared ["numbers"] (defScope s__law_rt_shared) := ⟨rfl, rfl, rfl, by decide +kernel, rfl, by decide +kernel, by decide +kernel⟩
abbrev s__law_rt_is_map : Stmt := top 69
abbrev n__law_rt_is_map : List Str := ["plan"]
theorem sc__law_rt_is_map : FnScope n__law_rt_is_map ["plan"] (defScope s__law_rt_is_map) := ⟨rfl, rfl, rfl, by decide +kernel, rfl, by decide +kernel, by decide +kernel⟩
abbrev s__law_rt_is_pair : Stmt := top 67
abbrev n__law_rt_is_pair : List Str := ["pair"]
theorem sc__law_rt_is_pair : FnScope n__law_rt_is_pair ["pair"] (defScope s__law_rt_is_pair) := ⟨rfl, rfl, rfl, by decide +kernel, rfl, by decide +kernel, by decide +kernel⟩
abbrev s__law_due : Stmt := top 72
abbrev n__law_due : List Str := ["way", "plan", "rival", "pair", "words", "odd"]
theorem sc__law_due : FnScope n__law_due ["way", "plan", "rival", "pair", "words"] (defScope s__law_due) := ⟨rfl, rfl, rfl, by decide +kernel, rfl, by decide +kernel, by decide +kernel⟩
abbrev s__law_coin : Stmt := top 51
abbrev n__law_coin : List Str := ["purse", "many", "drawn", "stirred"]
theorem sc__law_coin : FnScope n__law_coin ["purse", "many"] (defScope s__law_coin) := ⟨rfl, rfl, rfl, by decide +kernel, rfl, by decide +kernel, by decide +kernel⟩
abbrev s__law_rt_low : Stmt := top 53
abbrev n__law_rt_low : List Str := ["numbers", "many", "count"]
theorem sc__law_rt_low : FnScope n__law_rt_low ["numbers"] (defScope s__law_rt_low) := ⟨rfl, rfl, rfl, by decide +kernel, rfl, by decide +kernel, by decide +kernel⟩
abbrev s__law_rt_ends : Stmt := top 55
abbrev n__law_rt_ends : List Str := ["wording", "low", "high", "sign", "middle"]
theorem sc__law_rt_ends : FnScope n__law_rt_ends ["wording"] (defScope s__law_rt_ends) := ⟨rfl, rfl, rfl, by decide +kernel, rfl, by decide +kernel, by decide +kernel⟩
abbrev s__law_rt_turns : Stmt := top 58
abbrev n__law_rt_turns : List Str := ["wording", "low", "high"]
theorem sc__law_rt_turns : FnScope n__law_rt_turns ["wording"] (defScope s__law_rt_turns) := ⟨rfl, rfl, rfl, by decide +kernel, rfl, by decide +kernel, by decide +kernel⟩
abbrev s__law_rt_way : Stmt := top 54
abbrev n__law_rt_way : List Str := ["purse", "top", "found", "step"]
theorem sc__law_rt_way : FnScope n__law_rt_way ["purse", "top"] (defScope s__law_rt_way) := ⟨rfl, rfl, rfl, by decide +kernel, rfl, by decide +kernel, by decide +kernel⟩
abbrev s__law_rt_times : Stmt := top 57
abbrev n__law_rt_times : List Str := ["left", "right", "p", "q", "r", "s", "t", "u", "v", "w"]
theorem sc__law_rt_times : FnScope n__law_rt_times ["left", "right"] (defScope s__law_rt_times) := ⟨rfl, rfl, rfl, by decide +kernel, rfl, by decide +kernel, by decide +kernel⟩
abbrev s__law_rt_map : Stmt := top 60
abbrev n__law_rt_map : List Str := ["purse", "top", "style", "step", "spot", "numbers", "up", "down", "plain", "plan", "wording", "longer"]
theorem sc__law_rt_map : FnScope n__law_rt_map ["purse", "top"] (defScope s__law_rt_map) := ⟨rfl, rfl, rfl, by decide +kernel, rfl, by decide +kernel, by decide +kernel⟩
abbrev s__law_rt_odd_map : Stmt := top 68
abbrev n__law_rt_odd_map : List Str := ["purse", "plan", "style", "spot", "many", "k", "count"]
theorem sc__law_rt_odd_map : FnScope n__law_rt_odd_map ["purse"] (defScope s__law_rt_odd_map) := ⟨rfl, rfl, rfl, by decide +kernel, rfl, by decide +kernel, by decide +kernel⟩
abbrev s__law_rt_worth : Stmt := top 56
abbrev n__law_rt_worth : List Str := ["wording", "low", "high"]
theorem sc__law_rt_worth : FnScope n__law_rt_worth ["wording"] (defScope s__law_rt_worth) := ⟨rfl, rfl, rfl, by decide +kernel, rfl, by decide +kernel, by decide +kernel⟩
abbrev s__law_rt_fraction : Stmt := top 61
abbrev n__law_rt_fraction : List Str := ["purse", "top", "found", "step", "sign", "longer"]
theorem sc__law_rt_fraction : FnScope n__law_rt_fraction ["purse", "top"] (defScope s__law_rt_fraction) := ⟨rfl, rfl, rfl, by decide +kernel, rfl, by decide +kernel, by decide +kernel⟩
abbrev s__law_rt_odd_pair : Stmt := top 66
abbrev n__law_rt_odd_pair : List Str := ["purse", "menu", "pair", "many", "style"]
theorem sc__law_rt_odd_pair : FnScope n__law_rt_odd_pair ["purse"] (defScope s__law_rt_odd_pair) := ⟨rfl, rfl, rfl, by decide +kernel, rfl, by decide +kernel, by decide +kernel⟩
abbrev s__law_rt_odd_way : Stmt := top 64
abbrev n__law_rt_odd_way : List Str := ["purse", "wording", "wide", "spot", "sign"]
theorem sc__law_rt_odd_way : FnScope n__law_rt_odd_way ["purse", "wording"] (defScope s__law_rt_odd_way) := ⟨rfl, rfl, rfl, by decide +kernel, rfl, by decide +kernel, by decide +kernel⟩
abbrev s__law_rt_kind : Stmt := top 63
abbrev n__law_rt_kind : List Str := ["caught", "rank", "worth", "kinds", "spot"]
theorem sc__law_rt_kind : FnScope n__law_rt_kind ["caught", "rank", "worth"] (defScope s__law_rt_kind) := ⟨rfl, rfl, rfl, by decide +kernel, rfl, by decide +kernel, by decide +kernel⟩
abbrev s__law_rt_ring : Stmt := top 62
abbrev n__law_rt_ring : List Str := ["purse", "found", "spot"]
theorem sc__law_rt_ring : FnScope n__law_rt_ring ["purse"] (defScope s__law_rt_ring) := ⟨rfl, rfl, rfl, by decide +kernel, rfl, by decide +kernel, by decide +kernel⟩
abbrev s_is_undivided_map : Stmt := top 21
abbrev n_is_undivided_map : List Str := ["one", "a", "b", "c", "d"]
theorem sc_is_undivided_map : FnScope n_is_undivided_map ["one"] (defScope s_is_undivided_map) := ⟨rfl, rfl, rfl, by decide +kernel, rfl, by decide +kernel, by decide +kernel⟩
abbrev s_is_map : Stmt := top 23
abbrev n_is_map : List Str := ["one", "a", "b", "c", "d"]
theorem sc_is_map : FnScope n_is_map ["one"] (defScope s_is_map) := ⟨rfl, rfl, rfl, by decide +kernel, rfl, by decide +kernel, by decide +kernel⟩
abbrev s_check_map : Stmt := top 24
abbrev n_check_map : List Str := ["one"]
theorem sc_check_map : FnScope n_check_map ["one"] (defScope s_check_map) := ⟨rfl, rfl, rfl, by decide +kernel, rfl, by decide +kernel, by decide +kernel⟩
abbrev s_list_of : Stmt := top 48
abbrev n_list_of : List Str := ["fraction"]
theorem sc_list_of : FnScope n_list_of ["fraction"] (defScope s_list_of) := ⟨rfl, rfl, rfl, by decide +kernel, rfl, by decide +kernel, by decide +kernel⟩
abbrev s_fraction_above_zero : Stmt := top 37
abbrev n_fraction_above_zero : List Str := ["above", "below", "divisor"]
theorem sc_fraction_above_zero : FnScope n_fraction_above_zero ["above", "below"] (defScope s_fraction_above_zero) := ⟨rfl, rfl, rfl, by decide +kernel, rfl, by decide +kernel, by decide +kernel⟩
abbrev s_ring_of_root : Stmt := top 32
abbrev n_ring_of_root : List Str := ["a", "b", "c", "start", "turns", "at_one"]
theorem sc_ring_of_root : FnScope n_ring_of_root ["a", "b", "c"] (defScope s_ring_of_root) := ⟨rfl, rfl, rfl, by decide +kernel, rfl, by decide +kernel, by decide +kernel⟩
abbrev s_fixed : Stmt := top 47
abbrev n_fixed : List Str := ["one", "a", "b", "c", "d", "spread", "root"]
theorem sc_fixed : FnScope n_fixed ["one"] (defScope s_fixed) := ⟨rfl, rfl, rfl, by decide +kernel, rfl, by decide +kernel, by decide +kernel⟩
abbrev s_size : Stmt := top 35
abbrev n_size : List Str := ["one", "a", "b", "c", "d"]
theorem sc_size : FnScope n_size ["one"] (defScope s_size) := ⟨rfl, rfl, rfl, by decide +kernel, rfl, by decide +kernel, by decide +kernel⟩
abbrev s_is_fraction : Stmt := top 19
abbrev n_is_fraction : List Str := ["fraction", "above", "below"]
theorem sc_is_fraction : FnScope n_is_fraction ["fraction"] (defScope s_is_fraction) := ⟨rfl, rfl, rfl, by decide +kernel, rfl, by decide +kernel, by decide +kernel⟩
abbrev s_check_fraction : Stmt := top 20
abbrev n_check_fraction : List Str := ["fraction"]
theorem sc_check_fraction : FnScope n_check_fraction ["fraction"] (defScope s_check_fraction) := ⟨rfl, rfl, rfl, by decide +kernel, rfl, by decide +kernel, by decide +kernel⟩
abbrev s_sent : Stmt := top 36
abbrev n_sent : List Str := ["one", "fraction", "a", "b", "c", "d", "above", "below"]
theorem sc_sent : FnScope n_sent ["one", "fraction"] (defScope s_sent) := ⟨rfl, rfl, rfl, by decide +kernel, rfl, by decide +kernel, by decide +kernel⟩
abbrev s_times : Stmt := top 26
abbrev n_times : List Str := ["one", "other", "a", "b", "c", "d", "e", "f", "g", "h"]
theorem sc_times : FnScope n_times ["one", "other"] (defScope s_times) := ⟨rfl, rfl, rfl, by decide +kernel, rfl, by decide +kernel, by decide +kernel⟩
abbrev s_check_undivided_map : Stmt := top 22
abbrev n_check_undivided_map : List Str := ["one"]
theorem sc_check_undivided_map : FnScope n_check_undivided_map ["one"] (defScope s_check_undivided_map) := ⟨rfl, rfl, rfl, by decide +kernel, rfl, by decide +kernel, by decide +kernel⟩
abbrev s_least_map : Stmt := top 34
abbrev n_least_map : List Str := ["a", "b", "c", "d", "divisor"]
theorem sc_least_map : FnScope n_least_map ["a", "b", "c", "d"] (defScope s_least_map) := ⟨rfl, rfl, rfl, by decide +kernel, rfl, by decide +kernel, by decide +kernel⟩
abbrev s_behind : Stmt := top 38
abbrev n_behind : List Str := ["one", "other", "a", "b", "c", "d"]
theorem sc_behind : FnScope n_behind ["one", "other"] (defScope s_behind) := ⟨rfl, rfl, rfl, by decide +kernel, rfl, by decide +kernel, by decide +kernel⟩
abbrev s_turned : Stmt := top 39
abbrev n_turned : List Str := ["one", "a", "b", "c", "d"]
theorem sc_turned : FnScope n_turned ["one"] (defScope s_turned) := ⟨rfl, rfl, rfl, by decide +kernel, rfl, by decide +kernel, by decide +kernel⟩
abbrev s_before : Stmt := top 40
abbrev n_before : List Str := ["one", "fraction", "a", "b", "c", "d", "above", "below"]
theorem sc_before : FnScope n_before ["one", "fraction"] (defScope s_before) := ⟨rfl, rfl, rfl, by decide +kernel, rfl, by decide +kernel, by decide +kernel⟩
abbrev s_settled : Stmt := top 43
abbrev n_settled : List Str := ["one", "a", "b", "c", "d", "turns"]
theorem sc_settled : FnScope n_settled ["one"] (defScope s_settled) := ⟨rfl, rfl, rfl, by decide +kernel, rfl, by decide +kernel, by decide +kernel⟩
abbrev s_road_of : Stmt := top 29
abbrev n_road_of : List Str := ["fraction", "above", "below", "runs", "many"]
theorem sc_road_of : FnScope n_road_of ["fraction"] (defScope s_road_of) := ⟨rfl, rfl, rfl, by decide +kernel, rfl, by decide +kernel, by decide +kernel⟩
abbrev s_rows_of_standings : Stmt := top 45
abbrev n_rows_of_standings : List Str := ["steps", "number", "standing", "numbers", "rows", "own", "word", "follower", "left", "right"]
theorem sc_rows_of_standings : FnScope n_rows_of_standings ["steps"] (defScope s_rows_of_standings) := ⟨rfl, rfl, rfl, by decide +kernel, rfl, by decide +kernel, by decide +kernel⟩
abbrev s_matrix_of : Stmt := top 27
abbrev n_matrix_of : List Str := ["road", "a", "b", "c", "d", "turn"]
theorem sc_matrix_of : FnScope n_matrix_of ["road"] (defScope s_matrix_of) := ⟨rfl, rfl, rfl, by decide +kernel, rfl, by decide +kernel, by decide +kernel⟩
abbrev s_standings_from : Stmt := top 44
abbrev n_standings_from : List Str := ["starts", "start", "steps", "found", "at", "one", "turn", "word", "standing"]
theorem sc_standings_from : FnScope n_standings_from ["starts"] (defScope s_standings_from) := ⟨rfl, rfl, rfl, by decide +kernel, rfl, by decide +kernel, by decide +kernel⟩
abbrev s_machine_of : Stmt := top 41
abbrev n_machine_of : List Str := ["one", "first", "start"]
theorem sc_machine_of : FnScope n_machine_of ["one"] (defScope s_machine_of) := ⟨rfl, rfl, rfl, by decide +kernel, rfl, by decide +kernel, by decide +kernel⟩
abbrev s_standings : Stmt := top 42
abbrev n_standings : List Str := ["one"]
theorem sc_standings : FnScope n_standings ["one"] (defScope s_standings) := ⟨rfl, rfl, rfl, by decide +kernel, rfl, by decide +kernel, by decide +kernel⟩
abbrev s_is_road : Stmt := top 15
abbrev n_is_road : List Str := ["text"]
theorem sc_is_road : FnScope n_is_road ["text"] (defScope s_is_road) := ⟨rfl, rfl, rfl, by decide +kernel, rfl, by decide +kernel, by decide +kernel⟩
abbrev s_check_road : Stmt := top 16
abbrev n_check_road : List Str := ["road"]
theorem sc_check_road : FnScope n_check_road ["road"] (defScope s_check_road) := ⟨rfl, rfl, rfl, by decide +kernel, rfl, by decide +kernel, by decide +kernel⟩
abbrev s_check_course : Stmt := top 17
abbrev n_check_course : List Str := ["told", "ahead", "ring"]
theorem sc_check_course : FnScope n_check_course ["told"] (defScope s_check_course) := ⟨rfl, rfl, rfl, by decide +kernel, rfl, by decide +kernel, by decide +kernel⟩
abbrev s_check_turning_course : Stmt := top 18
abbrev n_check_turning_course : List Str := ["told", "ring"]
theorem sc_check_turning_course : FnScope n_check_turning_course ["told"] (defScope s_check_turning_course) := ⟨rfl, rfl, rfl, by decide +kernel, rfl, by decide +kernel, by decide +kernel⟩
abbrev s_course : Stmt := top 30
abbrev n_course : List Str := ["ahead", "ring"]
theorem sc_course : FnScope n_course ["ahead", "ring"] (defScope s_course) := ⟨rfl, rfl, rfl, by decide +kernel, rfl, by decide +kernel, by decide +kernel⟩
abbrev s_course_sent : Stmt := top 46
abbrev n_course_sent : List Str := ["one", "told", "ahead", "ring", "written", "standing", "lengths", "word", "length"]
theorem sc_course_sent : FnScope n_course_sent ["one", "told"] (defScope s_course_sent) := ⟨rfl, rfl, rfl, by decide +kernel, rfl, by decide +kernel, by decide +kernel⟩
abbrev s__law_ask_named : Stmt := top 71
abbrev n__law_ask_named : List Str := ["way", "plan", "rival", "pair", "words"]
theorem sc__law_ask_named : FnScope n__law_ask_named ["way", "plan", "rival", "pair", "words"] (defScope s__law_ask_named) := ⟨rfl, rfl, rfl, by decide +kernel, rfl, by decide +kernel, by decide +kernel⟩
abbrev s__law_ask : Stmt := top 70
abbrev n__law_ask : List Str := ["way", "plan", "rival", "pair", "words"]
theorem sc__law_ask : FnScope n__law_ask ["way", "plan", "rival", "pair", "words"] (defScope s__law_ask) := ⟨rfl, rfl, rfl, by decide +kernel, rfl, by decide +kernel, by decide +kernel⟩
abbrev s__law_right : Stmt := top 73
abbrev n__law_right : List Str := ["purse", "way", "named", "plan", "rival", "pair", "words", "word", "due", "caught", "e"]
theorem sc__law_right : FnScope n__law_right ["purse"] (defScope s__law_right) := ⟨rfl, rfl, rfl, by decide +kernel, rfl, by decide +kernel, by decide +kernel⟩
abbrev s_law : Stmt := top 74
abbrev n_law : List Str := ["script", "spot", "purse", "step"]
theorem sc_law : FnScope n_law ["script"] (defScope s_law) := ⟨rfl, rfl, rfl, by decide +kernel, rfl, by decide +kernel, by decide +kernel⟩
abbrev s_reinit : Stmt := inClass (top 2) 0
abbrev n_reinit : List Str := ["self", "value"]
theorem sc_reinit : FnScope n_reinit ["self", "value"] (defScope s_reinit) := ⟨rfl, rfl, rfl, by decide +kernel, rfl, by decide +kernel, by decide +kernel⟩
/-- what the top leaves: where each def stands, which names are still the built-in ones -/
structure Tx (K : PySem.W.Frag) (mg : Str → Option Value) where
  a__law_purse : Addr
  fd__law_purse : FuncData
  F__law_purse : Fun K "_law_purse" "_law_purse" s__law_purse a__law_purse fd__law_purse
  g__law_purse : mg "_law_purse" = some (.ref a__law_purse)
  a__law_rt_first_odd : Addr
  fd__law_rt_first_odd : FuncData
  F__law_rt_first_odd : Fun K "_law_rt_first_odd" "_law_rt_first_odd" s__law_rt_first_odd a__law_rt_first_odd fd__law_rt_first_odd
  g__law_rt_first_odd : mg "_law_rt_first_odd" = some (.ref a__law_rt_first_odd)
  a__law_rt_size : Addr
  fd__law_rt_size : FuncData
  F__law_rt_size : Fun K "_law_rt_size" "_law_rt_size" s__law_rt_size a__law_rt_size fd__law_rt_size
  g__law_rt_size : mg "_law_rt_size" = some (.ref a__law_rt_size)
  a__law_rt_shared : Addr
  fd__law_rt_shared : FuncData
  F__law_rt_shared : Fun K "_law_rt_shared" "_law_rt_shared" s__law_rt_shared a__law_rt_shared fd__law_rt_shared
  g__law_rt_shared : mg "_law_rt_shared" = some (.ref a__law_rt_shared)
  a__law_rt_is_map : Addr
  fd__law_rt_is_map : FuncData
  F__law_rt_is_map : Fun K "_law_rt_is_map" "_law_rt_is_map" s__law_rt_is_map a__law_rt_is_map fd__law_rt_is_map
  g__law_rt_is_map : mg "_law_rt_is_map" = some (.ref a__law_rt_is_map)
  a__law_rt_is_pair : Addr
  fd__law_rt_is_pair : FuncData
  F__law_rt_is_pair : Fun K "_law_rt_is_pair" "_law_rt_is_pair" s__law_rt_is_pair a__law_rt_is_pair fd__law_rt_is_pair
  g__law_rt_is_pair : mg "_law_rt_is_pair" = some (.ref a__law_rt_is_pair)
  a__law_due : Addr
  fd__law_due : FuncData
  F__law_due : Fun K "_law_due" "_law_due" s__law_due a__law_due fd__law_due
  g__law_due : mg "_law_due" = some (.ref a__law_due)
  a__law_coin : Addr
  fd__law_coin : FuncData
  F__law_coin : Fun K "_law_coin" "_law_coin" s__law_coin a__law_coin fd__law_coin
  g__law_coin : mg "_law_coin" = some (.ref a__law_coin)
  a__law_rt_low : Addr
  fd__law_rt_low : FuncData
  F__law_rt_low : Fun K "_law_rt_low" "_law_rt_low" s__law_rt_low a__law_rt_low fd__law_rt_low
  g__law_rt_low : mg "_law_rt_low" = some (.ref a__law_rt_low)
  a__law_rt_ends : Addr
  fd__law_rt_ends : FuncData
  F__law_rt_ends : Fun K "_law_rt_ends" "_law_rt_ends" s__law_rt_ends a__law_rt_ends fd__law_rt_ends
  g__law_rt_ends : mg "_law_rt_ends" = some (.ref a__law_rt_ends)
  a__law_rt_turns : Addr
  fd__law_rt_turns : FuncData
  F__law_rt_turns : Fun K "_law_rt_turns" "_law_rt_turns" s__law_rt_turns a__law_rt_turns fd__law_rt_turns
  g__law_rt_turns : mg "_law_rt_turns" = some (.ref a__law_rt_turns)
  a__law_rt_way : Addr
  fd__law_rt_way : FuncData
  F__law_rt_way : Fun K "_law_rt_way" "_law_rt_way" s__law_rt_way a__law_rt_way fd__law_rt_way
  g__law_rt_way : mg "_law_rt_way" = some (.ref a__law_rt_way)
  a__law_rt_times : Addr
  fd__law_rt_times : FuncData
  F__law_rt_times : Fun K "_law_rt_times" "_law_rt_times" s__law_rt_times a__law_rt_times fd__law_rt_times
  g__law_rt_times : mg "_law_rt_times" = some (.ref a__law_rt_times)
  a__law_rt_map : Addr
  fd__law_rt_map : FuncData
  F__law_rt_map : Fun K "_law_rt_map" "_law_rt_map" s__law_rt_map a__law_rt_map fd__law_rt_map
  g__law_rt_map : mg "_law_rt_map" = some (.ref a__law_rt_map)
  a__law_rt_odd_map : Addr
  fd__law_rt_odd_map : FuncData
  F__law_rt_odd_map : Fun K "_law_rt_odd_map" "_law_rt_odd_map" s__law_rt_odd_map a__law_rt_odd_map fd__law_rt_odd_map
  g__law_rt_odd_map : mg "_law_rt_odd_map" = some (.ref a__law_rt_odd_map)
  a__law_rt_worth : Addr
  fd__law_rt_worth : FuncData
  F__law_rt_worth : Fun K "_law_rt_worth" "_law_rt_worth" s__law_rt_worth a__law_rt_worth fd__law_rt_worth
  g__law_rt_worth : mg "_law_rt_worth" = some (.ref a__law_rt_worth)
  a__law_rt_fraction : Addr
  fd__law_rt_fraction : FuncData
  F__law_rt_fraction : Fun K "_law_rt_fraction" "_law_rt_fraction" s__law_rt_fraction a__law_rt_fraction fd__law_rt_fraction
  g__law_rt_fraction : mg "_law_rt_fraction" = some (.ref a__law_rt_fraction)
  a__law_rt_odd_pair : Addr
  fd__law_rt_odd_pair : FuncData
  F__law_rt_odd_pair : Fun K "_law_rt_odd_pair" "_law_rt_odd_pair" s__law_rt_odd_pair a__law_rt_odd_pair fd__law_rt_odd_pair
  g__law_rt_odd_pair : mg "_law_rt_odd_pair" = some (.ref a__law_rt_odd_pair)
  a__law_rt_odd_way : Addr
  fd__law_rt_odd_way : FuncData
  F__law_rt_odd_way : Fun K "_law_rt_odd_way" "_law_rt_odd_way" s__law_rt_odd_way a__law_rt_odd_way fd__law_rt_odd_way
  g__law_rt_odd_way : mg "_law_rt_odd_way" = some (.ref a__law_rt_odd_way)
  a__law_rt_kind : Addr
  fd__law_rt_kind : FuncData
  F__law_rt_kind : Fun K "_law_rt_kind" "_law_rt_kind" s__law_rt_kind a__law_rt_kind fd__law_rt_kind
  g__law_rt_kind : mg "_law_rt_kind" = some (.ref a__law_rt_kind)
  a__law_rt_ring : Addr
  fd__law_rt_ring : FuncData
  F__law_rt_ring : Fun K "_law_rt_ring" "_law_rt_ring" s__law_rt_ring a__law_rt_ring fd__law_rt_ring
  g__law_rt_ring : mg "_law_rt_ring" = some (.ref a__law_rt_ring)
  a_is_undivided_map : Addr
  fd_is_undivided_map : FuncData
  F_is_undivided_map : Fun K "is_undivided_map" "is_undivided_map" s_is_undivided_map a_is_undivided_map fd_is_undivided_map
  g_is_undivided_map : mg "is_undivided_map" = some (.ref a_is_undivided_map)
  a_is_map : Addr
  fd_is_map : FuncData
  F_is_map : Fun K "is_map" "is_map" s_is_map a_is_map fd_is_map
  g_is_map : mg "is_map" = some (.ref a_is_map)
  a_check_map : Addr
  fd_check_map : FuncData
  F_check_map : Fun K "check_map" "check_map" s_check_map a_check_map fd_check_map
  g_check_map : mg "check_map" = some (.ref a_check_map)
  a_list_of : Addr
  fd_list_of : FuncData
  F_list_of : Fun K "list_of" "list_of" s_list_of a_list_of fd_list_of
  g_list_of : mg "list_of" = some (.ref a_list_of)
  a_fraction_above_zero : Addr
  fd_fraction_above_zero : FuncData
  F_fraction_above_zero : Fun K "fraction_above_zero" "fraction_above_zero" s_fraction_above_zero a_fraction_above_zero fd_fraction_above_zero
  g_fraction_above_zero : mg "fraction_above_zero" = some (.ref a_fraction_above_zero)
  a_ring_of_root : Addr
  fd_ring_of_root : FuncData
  F_ring_of_root : Fun K "ring_of_root" "ring_of_root" s_ring_of_root a_ring_of_root fd_ring_of_root
  g_ring_of_root : mg "ring_of_root" = some (.ref a_ring_of_root)
  a_fixed : Addr
  fd_fixed : FuncData
  F_fixed : Fun K "fixed" "fixed" s_fixed a_fixed fd_fixed
  g_fixed : mg "fixed" = some (.ref a_fixed)
  a_size : Addr
  fd_size : FuncData
  F_size : Fun K "size" "size" s_size a_size fd_size
  g_size : mg "size" = some (.ref a_size)
  a_is_fraction : Addr
  fd_is_fraction : FuncData
  F_is_fraction : Fun K "is_fraction" "is_fraction" s_is_fraction a_is_fraction fd_is_fraction
  g_is_fraction : mg "is_fraction" = some (.ref a_is_fraction)
  a_check_fraction : Addr
  fd_check_fraction : FuncData
  F_check_fraction : Fun K "check_fraction" "check_fraction" s_check_fraction a_check_fraction fd_check_fraction
  g_check_fraction : mg "check_fraction" = some (.ref a_check_fraction)
  a_sent : Addr
  fd_sent : FuncData
  F_sent : Fun K "sent" "sent" s_sent a_sent fd_sent
  g_sent : mg "sent" = some (.ref a_sent)
  a_times : Addr
  fd_times : FuncData
  F_times : Fun K "times" "times" s_times a_times fd_times
  g_times : mg "times" = some (.ref a_times)
  a_check_undivided_map : Addr
  fd_check_undivided_map : FuncData
  F_check_undivided_map : Fun K "check_undivided_map" "check_undivided_map" s_check_undivided_map a_check_undivided_map fd_check_undivided_map
  g_check_undivided_map : mg "check_undivided_map" = some (.ref a_check_undivided_map)
  a_least_map : Addr
  fd_least_map : FuncData
  F_least_map : Fun K "least_map" "least_map" s_least_map a_least_map fd_least_map
  g_least_map : mg "least_map" = some (.ref a_least_map)
  a_behind : Addr
  fd_behind : FuncData
  F_behind : Fun K "behind" "behind" s_behind a_behind fd_behind
  g_behind : mg "behind" = some (.ref a_behind)
  a_turned : Addr
  fd_turned : FuncData
  F_turned : Fun K "turned" "turned" s_turned a_turned fd_turned
  g_turned : mg "turned" = some (.ref a_turned)
  a_before : Addr
  fd_before : FuncData
  F_before : Fun K "before" "before" s_before a_before fd_before
  g_before : mg "before" = some (.ref a_before)
  a_settled : Addr
  fd_settled : FuncData
  F_settled : Fun K "settled" "settled" s_settled a_settled fd_settled
  g_settled : mg "settled" = some (.ref a_settled)
  a_road_of : Addr
  fd_road_of : FuncData
  F_road_of : Fun K "road_of" "road_of" s_road_of a_road_of fd_road_of
  g_road_of : mg "road_of" = some (.ref a_road_of)
  a_rows_of_standings : Addr
  fd_rows_of_standings : FuncData
  F_rows_of_standings : Fun K "rows_of_standings" "rows_of_standings" s_rows_of_standings a_rows_of_standings fd_rows_of_standings
  g_rows_of_standings : mg "rows_of_standings" = some (.ref a_rows_of_standings)
  a_matrix_of : Addr
  fd_matrix_of : FuncData
  F_matrix_of : Fun K "matrix_of" "matrix_of" s_matrix_of a_matrix_of fd_matrix_of
  g_matrix_of : mg "matrix_of" = some (.ref a_matrix_of)
  a_standings_from : Addr
  fd_standings_from : FuncData
  F_standings_from : Fun K "standings_from" "standings_from" s_standings_from a_standings_from fd_standings_from
  g_standings_from : mg "standings_from" = some (.ref a_standings_from)
  a_machine_of : Addr
  fd_machine_of : FuncData
  F_machine_of : Fun K "machine_of" "machine_of" s_machine_of a_machine_of fd_machine_of
  g_machine_of : mg "machine_of" = some (.ref a_machine_of)
  a_standings : Addr
  fd_standings : FuncData
  F_standings : Fun K "standings" "standings" s_standings a_standings fd_standings
  g_standings : mg "standings" = some (.ref a_standings)
  a_is_road : Addr
  fd_is_road : FuncData
  F_is_road : Fun K "is_road" "is_road" s_is_road a_is_road fd_is_road
  g_is_road : mg "is_road" = some (.ref a_is_road)
  a_check_road : Addr
  fd_check_road : FuncData
  F_check_road : Fun K "check_road" "check_road" s_check_road a_check_road fd_check_road
  g_check_road : mg "check_road" = some (.ref a_check_road)
  a_check_course : Addr
  fd_check_course : FuncData
  F_check_course : Fun K "check_course" "check_course" s_check_course a_check_course fd_check_course
  g_check_course : mg "check_course" = some (.ref a_check_course)
  a_check_turning_course : Addr
  fd_check_turning_course : FuncData
  F_check_turning_course : Fun K "check_turning_course" "check_turning_course" s_check_turning_course a_check_turning_course fd_check_turning_course
  g_check_turning_course : mg "check_turning_course" = some (.ref a_check_turning_course)
  a_course : Addr
  fd_course : FuncData
  F_course : Fun K "course" "course" s_course a_course fd_course
  g_course : mg "course" = some (.ref a_course)
  a_course_sent : Addr
  fd_course_sent : FuncData
  F_course_sent : Fun K "course_sent" "course_sent" s_course_sent a_course_sent fd_course_sent
  g_course_sent : mg "course_sent" = some (.ref a_course_sent)
  a__law_ask_named : Addr
  fd__law_ask_named : FuncData
  F__law_ask_named : Fun K "_law_ask_named" "_law_ask_named" s__law_ask_named a__law_ask_named fd__law_ask_named
  g__law_ask_named : mg "_law_ask_named" = some (.ref a__law_ask_named)
  a__law_ask : Addr
  fd__law_ask : FuncData
  F__law_ask : Fun K "_law_ask" "_law_ask" s__law_ask a__law_ask fd__law_ask
  g__law_ask : mg "_law_ask" = some (.ref a__law_ask)
  a__law_right : Addr
  fd__law_right : FuncData
  F__law_right : Fun K "_law_right" "_law_right" s__law_right a__law_right fd__law_right
  g__law_right : mg "_law_right" = some (.ref a__law_right)
  a_law : Addr
  fd_law : FuncData
  F_law : Fun K "law" "law" s_law a_law fd_law
  g_law : mg "law" = some (.ref a_law)
  a_reinit : Addr
  fd_reinit : FuncData
  F_reinit : Fun K "__init__" "RoadError.__init__" s_reinit a_reinit fd_reinit
  c_InvalidMap : Addr
  g_InvalidMap : mg "InvalidMap" = some (.ref c_InvalidMap)
  n_InvalidMap : PySem.W.nsIn K mainGlobals "InvalidMap" = some (some (.ref c_InvalidMap))
  c_InvalidFraction : Addr
  g_InvalidFraction : mg "InvalidFraction" = some (.ref c_InvalidFraction)
  n_InvalidFraction : PySem.W.nsIn K mainGlobals "InvalidFraction" = some (some (.ref c_InvalidFraction))
  c_InvalidRoad : Addr
  g_InvalidRoad : mg "InvalidRoad" = some (.ref c_InvalidRoad)
  n_InvalidRoad : PySem.W.nsIn K mainGlobals "InvalidRoad" = some (some (.ref c_InvalidRoad))
  c_RoadError : Addr
  g_RoadError : mg "RoadError" = some (.ref c_RoadError)
  n_RoadError : PySem.W.nsIn K mainGlobals "RoadError" = some (some (.ref c_RoadError))
  c_InvalidBook : Addr
  g_InvalidBook : mg "InvalidBook" = some (.ref c_InvalidBook)
  n_InvalidBook : PySem.W.nsIn K mainGlobals "InvalidBook" = some (some (.ref c_InvalidBook))
  c_InvalidMachine : Addr
  g_InvalidMachine : mg "InvalidMachine" = some (.ref c_InvalidMachine)
  n_InvalidMachine : PySem.W.nsIn K mainGlobals "InvalidMachine" = some (some (.ref c_InvalidMachine))
  c_InvalidSquare : Addr
  g_InvalidSquare : mg "InvalidSquare" = some (.ref c_InvalidSquare)
  n_InvalidSquare : PySem.W.nsIn K mainGlobals "InvalidSquare" = some (some (.ref c_InvalidSquare))
  c_InvalidNumber : Addr
  g_InvalidNumber : mg "InvalidNumber" = some (.ref c_InvalidNumber)
  n_InvalidNumber : PySem.W.nsIn K mainGlobals "InvalidNumber" = some (some (.ref c_InvalidNumber))
  c_InvalidTurn : Addr
  g_InvalidTurn : mg "InvalidTurn" = some (.ref c_InvalidTurn)
  n_InvalidTurn : PySem.W.nsIn K mainGlobals "InvalidTurn" = some (some (.ref c_InvalidTurn))
  c_HasEnded : Addr
  g_HasEnded : mg "HasEnded" = some (.ref c_HasEnded)
  n_HasEnded : PySem.W.nsIn K mainGlobals "HasEnded" = some (some (.ref c_HasEnded))
  c_NothingToUndo : Addr
  g_NothingToUndo : mg "NothingToUndo" = some (.ref c_NothingToUndo)
  n_NothingToUndo : PySem.W.nsIn K mainGlobals "NothingToUndo" = some (some (.ref c_NothingToUndo))
  c_Unreadable : Addr
  g_Unreadable : mg "Unreadable" = some (.ref c_Unreadable)
  n_Unreadable : PySem.W.nsIn K mainGlobals "Unreadable" = some (some (.ref c_Unreadable))
  E_InvalidMap : ErrC K mg "InvalidMap" c_InvalidMap a_reinit
  E_InvalidFraction : ErrC K mg "InvalidFraction" c_InvalidFraction a_reinit
  E_InvalidRoad : ErrC K mg "InvalidRoad" c_InvalidRoad a_reinit
  k_InvalidMap_InvalidRoad : PySem.W.kitOne K (.ref c_InvalidMap) (.ref c_InvalidRoad) = some false
  k_InvalidMap_InvalidFraction : PySem.W.kitOne K (.ref c_InvalidMap) (.ref c_InvalidFraction) = some false
  k_InvalidMap_InvalidMap : PySem.W.kitOne K (.ref c_InvalidMap) (.ref c_InvalidMap) = some true
  k_InvalidMap_InvalidBook : PySem.W.kitOne K (.ref c_InvalidMap) (.ref c_InvalidBook) = some false
  k_InvalidMap_RoadError : PySem.W.kitOne K (.ref c_InvalidMap) (.ref c_RoadError) = some true
  k_InvalidMap_ValueError : PySem.W.kitOne K (.ref c_InvalidMap) (.type "ValueError") = some true
  k_InvalidMap_InvalidMachine : PySem.W.kitOne K (.ref c_InvalidMap) (.ref c_InvalidMachine) = some false
  k_InvalidMap_InvalidSquare : PySem.W.kitOne K (.ref c_InvalidMap) (.ref c_InvalidSquare) = some false
  k_InvalidMap_InvalidNumber : PySem.W.kitOne K (.ref c_InvalidMap) (.ref c_InvalidNumber) = some false
  k_InvalidMap_InvalidTurn : PySem.W.kitOne K (.ref c_InvalidMap) (.ref c_InvalidTurn) = some false
  k_InvalidMap_HasEnded : PySem.W.kitOne K (.ref c_InvalidMap) (.ref c_HasEnded) = some false
  k_InvalidMap_NothingToUndo : PySem.W.kitOne K (.ref c_InvalidMap) (.ref c_NothingToUndo) = some false
  k_InvalidMap_Unreadable : PySem.W.kitOne K (.ref c_InvalidMap) (.ref c_Unreadable) = some false
  x_InvalidMap_RoadError : PySem.W.exmOne K (.ref c_InvalidMap) (.ref c_RoadError) = some true
  k_InvalidFraction_InvalidRoad : PySem.W.kitOne K (.ref c_InvalidFraction) (.ref c_InvalidRoad) = some false
  k_InvalidFraction_InvalidFraction : PySem.W.kitOne K (.ref c_InvalidFraction) (.ref c_InvalidFraction) = some true
  k_InvalidFraction_InvalidMap : PySem.W.kitOne K (.ref c_InvalidFraction) (.ref c_InvalidMap) = some false
  k_InvalidFraction_InvalidBook : PySem.W.kitOne K (.ref c_InvalidFraction) (.ref c_InvalidBook) = some false
  k_InvalidFraction_RoadError : PySem.W.kitOne K (.ref c_InvalidFraction) (.ref c_RoadError) = some true
  k_InvalidFraction_ValueError : PySem.W.kitOne K (.ref c_InvalidFraction) (.type "ValueError") = some true
  k_InvalidFraction_InvalidMachine : PySem.W.kitOne K (.ref c_InvalidFraction) (.ref c_InvalidMachine) = some false
  k_InvalidFraction_InvalidSquare : PySem.W.kitOne K (.ref c_InvalidFraction) (.ref c_InvalidSquare) = some false
  k_InvalidFraction_InvalidNumber : PySem.W.kitOne K (.ref c_InvalidFraction) (.ref c_InvalidNumber) = some false
  k_InvalidFraction_InvalidTurn : PySem.W.kitOne K (.ref c_InvalidFraction) (.ref c_InvalidTurn) = some false
  k_InvalidFraction_HasEnded : PySem.W.kitOne K (.ref c_InvalidFraction) (.ref c_HasEnded) = some false
  k_InvalidFraction_NothingToUndo : PySem.W.kitOne K (.ref c_InvalidFraction) (.ref c_NothingToUndo) = some false
  k_InvalidFraction_Unreadable : PySem.W.kitOne K (.ref c_InvalidFraction) (.ref c_Unreadable) = some false
  x_InvalidFraction_RoadError : PySem.W.exmOne K (.ref c_InvalidFraction) (.ref c_RoadError) = some true
  k_InvalidRoad_InvalidRoad : PySem.W.kitOne K (.ref c_InvalidRoad) (.ref c_InvalidRoad) = some true
  k_InvalidRoad_InvalidFraction : PySem.W.kitOne K (.ref c_InvalidRoad) (.ref c_InvalidFraction) = some false
  k_InvalidRoad_InvalidMap : PySem.W.kitOne K (.ref c_InvalidRoad) (.ref c_InvalidMap) = some false
  k_InvalidRoad_InvalidBook : PySem.W.kitOne K (.ref c_InvalidRoad) (.ref c_InvalidBook) = some false
  k_InvalidRoad_RoadError : PySem.W.kitOne K (.ref c_InvalidRoad) (.ref c_RoadError) = some true
  k_InvalidRoad_ValueError : PySem.W.kitOne K (.ref c_InvalidRoad) (.type "ValueError") = some true
  k_InvalidRoad_InvalidMachine : PySem.W.kitOne K (.ref c_InvalidRoad) (.ref c_InvalidMachine) = some false
  k_InvalidRoad_InvalidSquare : PySem.W.kitOne K (.ref c_InvalidRoad) (.ref c_InvalidSquare) = some false
  k_InvalidRoad_InvalidNumber : PySem.W.kitOne K (.ref c_InvalidRoad) (.ref c_InvalidNumber) = some false
  k_InvalidRoad_InvalidTurn : PySem.W.kitOne K (.ref c_InvalidRoad) (.ref c_InvalidTurn) = some false
  k_InvalidRoad_HasEnded : PySem.W.kitOne K (.ref c_InvalidRoad) (.ref c_HasEnded) = some false
  k_InvalidRoad_NothingToUndo : PySem.W.kitOne K (.ref c_InvalidRoad) (.ref c_NothingToUndo) = some false
  k_InvalidRoad_Unreadable : PySem.W.kitOne K (.ref c_InvalidRoad) (.ref c_Unreadable) = some false
  x_InvalidRoad_RoadError : PySem.W.exmOne K (.ref c_InvalidRoad) (.ref c_RoadError) = some true
  z_max : mg "max" = none
  z_len : mg "len" = none
  z_int : mg "int" = none
  z_abs : mg "abs" = none
  z_min : mg "min" = none
  z_tuple : mg "tuple" = none
  z_range : mg "range" = none
  z_isinstance : mg "isinstance" = none
  z_ValueError : mg "ValueError" = none
  z_repr : mg "repr" = none
  z_enumerate : mg "enumerate" = none
  z_list : mg "list" = none
  m_gcd : mg "gcd" = some (.builtin "math.gcd")
  m_isqrt : mg "isqrt" = some (.builtin "math.isqrt")
section
variable {P : Program} {w : World} {K : PySem.W.Frag} {mg : Str → Option Value} {base : Heap}
theorem b__law_purse {f : Addr} {fd : FuncData} (F : Fun K "_law_purse" "_law_purse" s__law_purse f fd) : Binds K fd ["script", "place"] [] :=
  F.binds fun _ _ _ _ _ _ us hl => match us, hl with | [_, _], _ => rfl
theorem b__law_rt_first_odd {f : Addr} {fd : FuncData} (F : Fun K "_law_rt_first_odd" "_law_rt_first_odd" s__law_rt_first_odd f fd) : Binds K fd ["parts"] [] :=
  F.binds fun _ _ _ _ _ _ us hl => match us, hl with | [_], _ => rfl
theorem b__law_rt_size {f : Addr} {fd : FuncData} (F : Fun K "_law_rt_size" "_law_rt_size" s__law_rt_size f fd) : Binds K fd ["plan"] [] :=
  F.binds fun _ _ _ _ _ _ us hl => match us, hl with | [_], _ => rfl
theorem b__law_rt_shared {f : Addr} {fd : FuncData} (F : Fun K "_law_rt_shared" "_law_rt_shared" s__law_rt_shared f fd) : Binds K fd ["numbers"] [] :=
  F.binds fun _ _ _ _ _ _ us hl => match us, hl with | [_], _ => rfl
theorem b__law_rt_is_map {f : Addr} {fd : FuncData} (F : Fun K "_law_rt_is_map" "_law_rt_is_map" s__law_rt_is_map f fd) : Binds K fd ["plan"] [] :=
  F.binds fun _ _ _ _ _ _ us hl => match us, hl with | [_], _ => rfl
theorem b__law_rt_is_pair {f : Addr} {fd : FuncData} (F : Fun K "_law_rt_is_pair" "_law_rt_is_pair" s__law_rt_is_pair f fd) : Binds K fd ["pair"] [] :=
  F.binds fun _ _ _ _ _ _ us hl => match us, hl with | [_], _ => rfl
theorem b__law_due {f : Addr} {fd : FuncData} (F : Fun K "_law_due" "_law_due" s__law_due f fd) : Binds K fd ["way", "plan", "rival", "pair", "words"] [] :=
  F.binds fun _ _ _ _ _ _ us hl => match us, hl with | [_, _, _, _, _], _ => rfl
theorem b__law_coin {f : Addr} {fd : FuncData} (F : Fun K "_law_coin" "_law_coin" s__law_coin f fd) : Binds K fd ["purse", "many"] [] :=
  F.binds fun _ _ _ _ _ _ us hl => match us, hl with | [_, _], _ => rfl
theorem b__law_rt_low {f : Addr} {fd : FuncData} (F : Fun K "_law_rt_low" "_law_rt_low" s__law_rt_low f fd) : Binds K fd ["numbers"] [] :=
  F.binds fun _ _ _ _ _ _ us hl => match us, hl with | [_], _ => rfl
theorem b__law_rt_ends {f : Addr} {fd : FuncData} (F : Fun K "_law_rt_ends" "_law_rt_ends" s__law_rt_ends f fd) : Binds K fd ["wording"] [] :=
  F.binds fun _ _ _ _ _ _ us hl => match us, hl with | [_], _ => rfl
theorem b__law_rt_turns {f : Addr} {fd : FuncData} (F : Fun K "_law_rt_turns" "_law_rt_turns" s__law_rt_turns f fd) : Binds K fd ["wording"] [] :=
  F.binds fun _ _ _ _ _ _ us hl => match us, hl with | [_], _ => rfl
theorem b__law_rt_way {f : Addr} {fd : FuncData} (F : Fun K "_law_rt_way" "_law_rt_way" s__law_rt_way f fd) : Binds K fd ["purse", "top"] [] :=
  F.binds fun _ _ _ _ _ _ us hl => match us, hl with | [_, _], _ => rfl
theorem b__law_rt_times {f : Addr} {fd : FuncData} (F : Fun K "_law_rt_times" "_law_rt_times" s__law_rt_times f fd) : Binds K fd ["left", "right"] [] :=
  F.binds fun _ _ _ _ _ _ us hl => match us, hl with | [_, _], _ => rfl
theorem b__law_rt_map {f : Addr} {fd : FuncData} (F : Fun K "_law_rt_map" "_law_rt_map" s__law_rt_map f fd) : Binds K fd ["purse", "top"] [] :=
  F.binds fun _ _ _ _ _ _ us hl => match us, hl with | [_, _], _ => rfl
theorem b__law_rt_odd_map {f : Addr} {fd : FuncData} (F : Fun K "_law_rt_odd_map" "_law_rt_odd_map" s__law_rt_odd_map f fd) : Binds K fd ["purse"] [] :=
  F.binds fun _ _ _ _ _ _ us hl => match us, hl with | [_], _ => rfl
theorem b__law_rt_worth {f : Addr} {fd : FuncData} (F : Fun K "_law_rt_worth" "_law_rt_worth" s__law_rt_worth f fd) : Binds K fd ["wording"] [] :=
  F.binds fun _ _ _ _ _ _ us hl => match us, hl with | [_], _ => rfl
theorem b__law_rt_fraction {f : Addr} {fd : FuncData} (F : Fun K "_law_rt_fraction" "_law_rt_fraction" s__law_rt_fraction f fd) : Binds K fd ["purse", "top"] [] :=
  F.binds fun _ _ _ _ _ _ us hl => match us, hl with | [_, _], _ => rfl
theorem b__law_rt_odd_pair {f : Addr} {fd : FuncData} (F : Fun K "_law_rt_odd_pair" "_law_rt_odd_pair" s__law_rt_odd_pair f fd) : Binds K fd ["purse"] [] :=
  F.binds fun _ _ _ _ _ _ us hl => match us, hl with | [_], _ => rfl
theorem b__law_rt_odd_way {f : Addr} {fd : FuncData} (F : Fun K "_law_rt_odd_way" "_law_rt_odd_way" s__law_rt_odd_way f fd) : Binds K fd ["purse", "wording"] [] :=
  F.binds fun _ _ _ _ _ _ us hl => match us, hl with | [_, _], _ => rfl
theorem b__law_rt_kind {f : Addr} {fd : FuncData} (F : Fun K "_law_rt_kind" "_law_rt_kind" s__law_rt_kind f fd) : Binds K fd ["caught", "rank", "worth"] [] :=
  F.binds fun _ _ _ _ _ _ us hl => match us, hl with | [_, _, _], _ => rfl
theorem b__law_rt_ring {f : Addr} {fd : FuncData} (F : Fun K "_law_rt_ring" "_law_rt_ring" s__law_rt_ring f fd) : Binds K fd ["purse"] [] :=
  F.binds fun _ _ _ _ _ _ us hl => match us, hl with | [_], _ => rfl
theorem b_is_undivided_map {f : Addr} {fd : FuncData} (F : Fun K "is_undivided_map" "is_undivided_map" s_is_undivided_map f fd) : Binds K fd ["one"] [] :=
  F.binds fun _ _ _ _ _ _ us hl => match us, hl with | [_], _ => rfl
theorem b_is_map {f : Addr} {fd : FuncData} (F : Fun K "is_map" "is_map" s_is_map f fd) : Binds K fd ["one"] [] :=
  F.binds fun _ _ _ _ _ _ us hl => match us, hl with | [_], _ => rfl
theorem b_check_map {f : Addr} {fd : FuncData} (F : Fun K "check_map" "check_map" s_check_map f fd) : Binds K fd ["one"] [] :=
  F.binds fun _ _ _ _ _ _ us hl => match us, hl with | [_], _ => rfl
theorem b_list_of {f : Addr} {fd : FuncData} (F : Fun K "list_of" "list_of" s_list_of f fd) : Binds K fd ["fraction"] [] :=
  F.binds fun _ _ _ _ _ _ us hl => match us, hl with | [_], _ => rfl
theorem b_fraction_above_zero {f : Addr} {fd : FuncData} (F : Fun K "fraction_above_zero" "fraction_above_zero" s_fraction_above_zero f fd) : Binds K fd ["above", "below"] [] :=
  F.binds fun _ _ _ _ _ _ us hl => match us, hl with | [_, _], _ => rfl
theorem b_ring_of_root {f : Addr} {fd : FuncData} (F : Fun K "ring_of_root" "ring_of_root" s_ring_of_root f fd) : Binds K fd ["a", "b", "c"] [] :=
  F.binds fun _ _ _ _ _ _ us hl => match us, hl with | [_, _, _], _ => rfl
theorem b_fixed {f : Addr} {fd : FuncData} (F : Fun K "fixed" "fixed" s_fixed f fd) : Binds K fd ["one"] [] :=
  F.binds fun _ _ _ _ _ _ us hl => match us, hl with | [_], _ => rfl
theorem b_size {f : Addr} {fd : FuncData} (F : Fun K "size" "size" s_size f fd) : Binds K fd ["one"] [] :=
  F.binds fun _ _ _ _ _ _ us hl => match us, hl with | [_], _ => rfl
theorem b_is_fraction {f : Addr} {fd : FuncData} (F : Fun K "is_fraction" "is_fraction" s_is_fraction f fd) : Binds K fd ["fraction"] [] :=
  F.binds fun _ _ _ _ _ _ us hl => match us, hl with | [_], _ => rfl
theorem b_check_fraction {f : Addr} {fd : FuncData} (F : Fun K "check_fraction" "check_fraction" s_check_fraction f fd) : Binds K fd ["fraction"] [] :=
  F.binds fun _ _ _ _ _ _ us hl => match us, hl with | [_], _ => rfl
theorem b_sent {f : Addr} {fd : FuncData} (F : Fun K "sent" "sent" s_sent f fd) : Binds K fd ["one", "fraction"] [] :=
  F.binds fun _ _ _ _ _ _ us hl => match us, hl with | [_, _], _ => rfl
theorem b_times {f : Addr} {fd : FuncData} (F : Fun K "times" "times" s_times f fd) : Binds K fd ["one", "other"] [] :=
  F.binds fun _ _ _ _ _ _ us hl => match us, hl with | [_, _], _ => rfl
theorem b_check_undivided_map {f : Addr} {fd : FuncData} (F : Fun K "check_undivided_map" "check_undivided_map" s_check_undivided_map f fd) : Binds K fd ["one"] [] :=
  F.binds fun _ _ _ _ _ _ us hl => match us, hl with | [_], _ => rfl
theorem b_least_map {f : Addr} {fd : FuncData} (F : Fun K "least_map" "least_map" s_least_map f fd) : Binds K fd ["a", "b", "c", "d"] [] :=
  F.binds fun _ _ _ _ _ _ us hl => match us, hl with | [_, _, _, _], _ => rfl
theorem b_behind {f : Addr} {fd : FuncData} (F : Fun K "behind" "behind" s_behind f fd) : Binds K fd ["one", "other"] [] :=
  F.binds fun _ _ _ _ _ _ us hl => match us, hl with | [_, _], _ => rfl
theorem b_turned {f : Addr} {fd : FuncData} (F : Fun K "turned" "turned" s_turned f fd) : Binds K fd ["one"] [] :=
  F.binds fun _ _ _ _ _ _ us hl => match us, hl with | [_], _ => rfl
theorem b_before {f : Addr} {fd : FuncData} (F : Fun K "before" "before" s_before f fd) : Binds K fd ["one", "fraction"] [] :=
  F.binds fun _ _ _ _ _ _ us hl => match us, hl with | [_, _], _ => rfl
theorem b_settled {f : Addr} {fd : FuncData} (F : Fun K "settled" "settled" s_settled f fd) : Binds K fd ["one"] [] :=
  F.binds fun _ _ _ _ _ _ us hl => match us, hl with | [_], _ => rfl
theorem b_road_of {f : Addr} {fd : FuncData} (F : Fun K "road_of" "road_of" s_road_of f fd) : Binds K fd ["fraction"] [] :=
  F.binds fun _ _ _ _ _ _ us hl => match us, hl with | [_], _ => rfl
theorem b_rows_of_standings {f : Addr} {fd : FuncData} (F : Fun K "rows_of_standings" "rows_of_standings" s_rows_of_standings f fd) : Binds K fd ["steps"] [] :=
  F.binds fun _ _ _ _ _ _ us hl => match us, hl with | [_], _ => rfl
theorem b_matrix_of {f : Addr} {fd : FuncData} (F : Fun K "matrix_of" "matrix_of" s_matrix_of f fd) : Binds K fd ["road"] [] :=
  F.binds fun _ _ _ _ _ _ us hl => match us, hl with | [_], _ => rfl
theorem b_standings_from {f : Addr} {fd : FuncData} (F : Fun K "standings_from" "standings_from" s_standings_from f fd) : Binds K fd ["starts"] [] :=
  F.binds fun _ _ _ _ _ _ us hl => match us, hl with | [_], _ => rfl
theorem b_machine_of {f : Addr} {fd : FuncData} (F : Fun K "machine_of" "machine_of" s_machine_of f fd) : Binds K fd ["one"] [] :=
  F.binds fun _ _ _ _ _ _ us hl => match us, hl with | [_], _ => rfl
theorem b_standings {f : Addr} {fd : FuncData} (F : Fun K "standings" "standings" s_standings f fd) : Binds K fd ["one"] [] :=
  F.binds fun _ _ _ _ _ _ us hl => match us, hl with | [_], _ => rfl
theorem b_is_road {f : Addr} {fd : FuncData} (F : Fun K "is_road" "is_road" s_is_road f fd) : Binds K fd ["text"] [] :=
  F.binds fun _ _ _ _ _ _ us hl => match us, hl with | [_], _ => rfl
theorem b_check_road {f : Addr} {fd : FuncData} (F : Fun K "check_road" "check_road" s_check_road f fd) : Binds K fd ["road"] [] :=
  F.binds fun _ _ _ _ _ _ us hl => match us, hl with | [_], _ => rfl
theorem b_check_course {f : Addr} {fd : FuncData} (F : Fun K "check_course" "check_course" s_check_course f fd) : Binds K fd ["told"] [] :=
  F.binds fun _ _ _ _ _ _ us hl => match us, hl with | [_], _ => rfl
theorem b_check_turning_course {f : Addr} {fd : FuncData} (F : Fun K "check_turning_course" "check_turning_course" s_check_turning_course f fd) : Binds K fd ["told"] [] :=
  F.binds fun _ _ _ _ _ _ us hl => match us, hl with | [_], _ => rfl
theorem b_course {f : Addr} {fd : FuncData} (F : Fun K "course" "course" s_course f fd) : Binds K fd ["ahead", "ring"] [] :=
  F.binds fun _ _ _ _ _ _ us hl => match us, hl with | [_, _], _ => rfl
theorem b_course_sent {f : Addr} {fd : FuncData} (F : Fun K "course_sent" "course_sent" s_course_sent f fd) : Binds K fd ["one", "told"] [] :=
  F.binds fun _ _ _ _ _ _ us hl => match us, hl with | [_, _], _ => rfl
theorem b__law_ask_named {f : Addr} {fd : FuncData} (F : Fun K "_law_ask_named" "_law_ask_named" s__law_ask_named f fd) : Binds K fd ["way", "plan", "rival", "pair", "words"] [] :=
  F.binds fun _ _ _ _ _ _ us hl => match us, hl with | [_, _, _, _, _], _ => rfl
theorem b__law_ask {f : Addr} {fd : FuncData} (F : Fun K "_law_ask" "_law_ask" s__law_ask f fd) : Binds K fd ["way", "plan", "rival", "pair", "words"] [] :=
  F.binds fun _ _ _ _ _ _ us hl => match us, hl with | [_, _, _, _, _], _ => rfl
theorem b__law_right {f : Addr} {fd : FuncData} (F : Fun K "_law_right" "_law_right" s__law_right f fd) : Binds K fd ["purse"] [] :=
  F.binds fun _ _ _ _ _ _ us hl => match us, hl with | [_], _ => rfl
theorem b_law {f : Addr} {fd : FuncData} (F : Fun K "law" "law" s_law f fd) : Binds K fd ["script"] [] :=
  F.binds fun _ _ _ _ _ _ us hl => match us, hl with | [_], _ => rfl
theorem fx_InvalidMap (T : Tx K mg) : Fx K T.c_InvalidMap 2 := ⟨T.E_InvalidMap.toErrK, T.k_InvalidMap_ValueError, fun c h => by cases ns_one T.n_RoadError h; exact T.k_InvalidMap_RoadError, fun c h => by cases ns_one T.n_InvalidRoad h; exact T.k_InvalidMap_InvalidRoad, fun c h => by cases ns_one T.n_InvalidFraction h; exact T.k_InvalidMap_InvalidFraction, fun c h => by cases ns_one T.n_InvalidMap h; exact T.k_InvalidMap_InvalidMap, fun c h => by cases ns_one T.n_InvalidMachine h; exact T.k_InvalidMap_InvalidMachine, fun c h => by cases ns_one T.n_InvalidSquare h; exact T.k_InvalidMap_InvalidSquare, fun c h => by cases ns_one T.n_InvalidNumber h; exact T.k_InvalidMap_InvalidNumber, fun c h => by cases ns_one T.n_InvalidTurn h; exact T.k_InvalidMap_InvalidTurn, fun c h => by cases ns_one T.n_HasEnded h; exact T.k_InvalidMap_HasEnded, fun c h => by cases ns_one T.n_NothingToUndo h; exact T.k_InvalidMap_NothingToUndo, fun c h => by cases ns_one T.n_Unreadable h; exact T.k_InvalidMap_Unreadable, fun c h => by cases ns_one T.n_InvalidBook h; exact T.k_InvalidMap_InvalidBook⟩
theorem fx_InvalidFraction (T : Tx K mg) : Fx K T.c_InvalidFraction 1 := ⟨T.E_InvalidFraction.toErrK, T.k_InvalidFraction_ValueError, fun c h => by cases ns_one T.n_RoadError h; exact T.k_InvalidFraction_RoadError, fun c h => by cases ns_one T.n_InvalidRoad h; exact T.k_InvalidFraction_InvalidRoad, fun c h => by cases ns_one T.n_InvalidFraction h; exact T.k_InvalidFraction_InvalidFraction, fun c h => by cases ns_one T.n_InvalidMap h; exact T.k_InvalidFraction_InvalidMap, fun c h => by cases ns_one T.n_InvalidMachine h; exact T.k_InvalidFraction_InvalidMachine, fun c h => by cases ns_one T.n_InvalidSquare h; exact T.k_InvalidFraction_InvalidSquare, fun c h => by cases ns_one T.n_InvalidNumber h; exact T.k_InvalidFraction_InvalidNumber, fun c h => by cases ns_one T.n_InvalidTurn h; exact T.k_InvalidFraction_InvalidTurn, fun c h => by cases ns_one T.n_HasEnded h; exact T.k_InvalidFraction_HasEnded, fun c h => by cases ns_one T.n_NothingToUndo h; exact T.k_InvalidFraction_NothingToUndo, fun c h => by cases ns_one T.n_Unreadable h; exact T.k_InvalidFraction_Unreadable, fun c h => by cases ns_one T.n_InvalidBook h; exact T.k_InvalidFraction_InvalidBook⟩
theorem fx_InvalidRoad (T : Tx K mg) : Fx K T.c_InvalidRoad 0 := ⟨T.E_InvalidRoad.toErrK, T.k_InvalidRoad_ValueError, fun c h => by cases ns_one T.n_RoadError h; exact T.k_InvalidRoad_RoadError, fun c h => by cases ns_one T.n_InvalidRoad h; exact T.k_InvalidRoad_InvalidRoad, fun c h => by cases ns_one T.n_InvalidFraction h; exact T.k_InvalidRoad_InvalidFraction, fun c h => by cases ns_one T.n_InvalidMap h; exact T.k_InvalidRoad_InvalidMap, fun c h => by cases ns_one T.n_InvalidMachine h; exact T.k_InvalidRoad_InvalidMachine, fun c h => by cases ns_one T.n_InvalidSquare h; exact T.k_InvalidRoad_InvalidSquare, fun c h => by cases ns_one T.n_InvalidNumber h; exact T.k_InvalidRoad_InvalidNumber, fun c h => by cases ns_one T.n_InvalidTurn h; exact T.k_InvalidRoad_InvalidTurn, fun c h => by cases ns_one T.n_HasEnded h; exact T.k_InvalidRoad_HasEnded, fun c h => by cases ns_one T.n_NothingToUndo h; exact T.k_InvalidRoad_NothingToUndo, fun c h => by cases ns_one T.n_Unreadable h; exact T.k_InvalidRoad_Unreadable, fun c h => by cases ns_one T.n_InvalidBook h; exact T.k_InvalidRoad_InvalidBook⟩
theorem b_reinit {f : Addr} {fd : FuncData} (F : Fun K "__init__" "RoadError.__init__" s_reinit f fd) : Binds K fd ["self", "value"] [] :=
  F.binds fun _ _ _ _ _ _ us hl => match us, hl with | [_, _], _ => rfl
theorem ok_reinit (T : Tx K mg) : FnOk P w K mg base CX0 1 T.a_reinit T.fd_reinit ["self", "value"] (spInit K) := by
  refine T.F_reinit.ok sc_reinit (fun vs H Q E h => ?_) (fun cdv A outer s H vs Q E hr h => ?_)
  · obtain ⟨a, C, v, rfl, _⟩ := h
    rfl
  · obtain ⟨a, C, v, rfl, oc, no, e, q⟩ := h
    refine ⟨_, (pss_one (ps_ost (pv 0) (pv 1))), ?_⟩
    exact ⟨_, rfl, _, rfl, a, C, rfl, oc, no, .inl ⟨e, q⟩⟩
def kg_fixed_0 {α : Type} : List α → List α → List α
  | [], [x0] => [x0]
  | _, _ => []
theorem kb_fixed_0 {f : Addr} {fd : FuncData} (F : Fun K "fixed" "fixed" s_fixed f fd) : KBinds K fd ["one"] ["one"] kg_fixed_0 kg_fixed_0 := by
  obtain ⟨oc, od, kV, doc, pm, an, cdv, ct, osl, rfl, _, _⟩ := F.ex
  refine ⟨fun s us ws _ hl => ?_, fun r z => ?_⟩
  · unfold kg_fixed_0 at hl ⊢
    split at hl
    · exact .of_eq rfl
    · exact absurd hl (by decide)
  · unfold kg_fixed_0
    cases r with
    | nil => (cases z with | nil => exact .nil | cons r0 z => (cases z with | nil => exact (.cons r0 .nil) | cons _ _ => exact .nil))
    | cons _ _ => (cases z with | nil => exact .nil | cons r0 z => (cases z with | nil => exact .nil | cons _ _ => exact .nil))
def kg_size_0 {α : Type} : List α → List α → List α
  | [], [x0] => [x0]
  | _, _ => []
theorem kb_size_0 {f : Addr} {fd : FuncData} (F : Fun K "size" "size" s_size f fd) : KBinds K fd ["one"] ["one"] kg_size_0 kg_size_0 := by
  obtain ⟨oc, od, kV, doc, pm, an, cdv, ct, osl, rfl, _, _⟩ := F.ex
  refine ⟨fun s us ws _ hl => ?_, fun r z => ?_⟩
  · unfold kg_size_0 at hl ⊢
    split at hl
    · exact .of_eq rfl
    · exact absurd hl (by decide)
  · unfold kg_size_0
    cases r with
    | nil => (cases z with | nil => exact .nil | cons r0 z => (cases z with | nil => exact (.cons r0 .nil) | cons _ _ => exact .nil))
    | cons _ _ => (cases z with | nil => exact .nil | cons r0 z => (cases z with | nil => exact .nil | cons _ _ => exact .nil))
def kg_sent_10 {α : Type} : List α → List α → List α
  | [], [x0, x1] => [x1, x0]
  | _, _ => []
theorem kb_sent_10 {f : Addr} {fd : FuncData} (F : Fun K "sent" "sent" s_sent f fd) : KBinds K fd ["one", "fraction"] ["fraction", "one"] kg_sent_10 kg_sent_10 := by
  obtain ⟨oc, od, kV, doc, pm, an, cdv, ct, osl, rfl, _, _⟩ := F.ex
  refine ⟨fun s us ws _ hl => ?_, fun r z => ?_⟩
  · unfold kg_sent_10 at hl ⊢
    split at hl
    · exact .of_eq rfl
    · exact absurd hl (by decide)
  · unfold kg_sent_10
    cases r with
    | nil => (cases z with | nil => exact .nil | cons r0 z => (cases z with | nil => exact .nil | cons r1 z => (cases z with | nil => exact (.cons r1 (.cons r0 .nil)) | cons _ _ => exact .nil)))
    | cons _ _ => (cases z with | nil => exact .nil | cons r0 z => (cases z with | nil => exact .nil | cons r1 z => (cases z with | nil => exact .nil | cons _ _ => exact .nil)))
def kg_behind_10 {α : Type} : List α → List α → List α
  | [], [x0, x1] => [x1, x0]
  | _, _ => []
theorem kb_behind_10 {f : Addr} {fd : FuncData} (F : Fun K "behind" "behind" s_behind f fd) : KBinds K fd ["one", "other"] ["other", "one"] kg_behind_10 kg_behind_10 := by
  obtain ⟨oc, od, kV, doc, pm, an, cdv, ct, osl, rfl, _, _⟩ := F.ex
  refine ⟨fun s us ws _ hl => ?_, fun r z => ?_⟩
  · unfold kg_behind_10 at hl ⊢
    split at hl
    · exact .of_eq rfl
    · exact absurd hl (by decide)
  · unfold kg_behind_10
    cases r with
    | nil => (cases z with | nil => exact .nil | cons r0 z => (cases z with | nil => exact .nil | cons r1 z => (cases z with | nil => exact (.cons r1 (.cons r0 .nil)) | cons _ _ => exact .nil)))
    | cons _ _ => (cases z with | nil => exact .nil | cons r0 z => (cases z with | nil => exact .nil | cons r1 z => (cases z with | nil => exact .nil | cons _ _ => exact .nil)))
def kg_turned_0 {α : Type} : List α → List α → List α
  | [], [x0] => [x0]
  | _, _ => []
theorem kb_turned_0 {f : Addr} {fd : FuncData} (F : Fun K "turned" "turned" s_turned f fd) : KBinds K fd ["one"] ["one"] kg_turned_0 kg_turned_0 := by
  obtain ⟨oc, od, kV, doc, pm, an, cdv, ct, osl, rfl, _, _⟩ := F.ex
  refine ⟨fun s us ws _ hl => ?_, fun r z => ?_⟩
  · unfold kg_turned_0 at hl ⊢
    split at hl
    · exact .of_eq rfl
    · exact absurd hl (by decide)
  · unfold kg_turned_0
    cases r with
    | nil => (cases z with | nil => exact .nil | cons r0 z => (cases z with | nil => exact (.cons r0 .nil) | cons _ _ => exact .nil))
    | cons _ _ => (cases z with | nil => exact .nil | cons r0 z => (cases z with | nil => exact .nil | cons _ _ => exact .nil))
def kg_before_10 {α : Type} : List α → List α → List α
  | [], [x0, x1] => [x1, x0]
  | _, _ => []
theorem kb_before_10 {f : Addr} {fd : FuncData} (F : Fun K "before" "before" s_before f fd) : KBinds K fd ["one", "fraction"] ["fraction", "one"] kg_before_10 kg_before_10 := by
  obtain ⟨oc, od, kV, doc, pm, an, cdv, ct, osl, rfl, _, _⟩ := F.ex
  refine ⟨fun s us ws _ hl => ?_, fun r z => ?_⟩
  · unfold kg_before_10 at hl ⊢
    split at hl
    · exact .of_eq rfl
    · exact absurd hl (by decide)
  · unfold kg_before_10
    cases r with
    | nil => (cases z with | nil => exact .nil | cons r0 z => (cases z with | nil => exact .nil | cons r1 z => (cases z with | nil => exact (.cons r1 (.cons r0 .nil)) | cons _ _ => exact .nil)))
    | cons _ _ => (cases z with | nil => exact .nil | cons r0 z => (cases z with | nil => exact .nil | cons r1 z => (cases z with | nil => exact .nil | cons _ _ => exact .nil)))
def kg_machine_of_0 {α : Type} : List α → List α → List α
  | [], [x0] => [x0]
  | _, _ => []
theorem kb_machine_of_0 {f : Addr} {fd : FuncData} (F : Fun K "machine_of" "machine_of" s_machine_of f fd) : KBinds K fd ["one"] ["one"] kg_machine_of_0 kg_machine_of_0 := by
  obtain ⟨oc, od, kV, doc, pm, an, cdv, ct, osl, rfl, _, _⟩ := F.ex
  refine ⟨fun s us ws _ hl => ?_, fun r z => ?_⟩
  · unfold kg_machine_of_0 at hl ⊢
    split at hl
    · exact .of_eq rfl
    · exact absurd hl (by decide)
  · unfold kg_machine_of_0
    cases r with
    | nil => (cases z with | nil => exact .nil | cons r0 z => (cases z with | nil => exact (.cons r0 .nil) | cons _ _ => exact .nil))
    | cons _ _ => (cases z with | nil => exact .nil | cons r0 z => (cases z with | nil => exact .nil | cons _ _ => exact .nil))
def kg_standings_0 {α : Type} : List α → List α → List α
  | [], [x0] => [x0]
  | _, _ => []
theorem kb_standings_0 {f : Addr} {fd : FuncData} (F : Fun K "standings" "standings" s_standings f fd) : KBinds K fd ["one"] ["one"] kg_standings_0 kg_standings_0 := by
  obtain ⟨oc, od, kV, doc, pm, an, cdv, ct, osl, rfl, _, _⟩ := F.ex
  refine ⟨fun s us ws _ hl => ?_, fun r z => ?_⟩
  · unfold kg_standings_0 at hl ⊢
    split at hl
    · exact .of_eq rfl
    · exact absurd hl (by decide)
  · unfold kg_standings_0
    cases r with
    | nil => (cases z with | nil => exact .nil | cons r0 z => (cases z with | nil => exact (.cons r0 .nil) | cons _ _ => exact .nil))
    | cons _ _ => (cases z with | nil => exact .nil | cons r0 z => (cases z with | nil => exact .nil | cons _ _ => exact .nil))
def kg_course_sent_10 {α : Type} : List α → List α → List α
  | [], [x0, x1] => [x1, x0]
  | _, _ => []
theorem kb_course_sent_10 {f : Addr} {fd : FuncData} (F : Fun K "course_sent" "course_sent" s_course_sent f fd) : KBinds K fd ["one", "told"] ["told", "one"] kg_course_sent_10 kg_course_sent_10 := by
  obtain ⟨oc, od, kV, doc, pm, an, cdv, ct, osl, rfl, _, _⟩ := F.ex
  refine ⟨fun s us ws _ hl => ?_, fun r z => ?_⟩
  · unfold kg_course_sent_10 at hl ⊢
    split at hl
    · exact .of_eq rfl
    · exact absurd hl (by decide)
  · unfold kg_course_sent_10
    cases r with
    | nil => (cases z with | nil => exact .nil | cons r0 z => (cases z with | nil => exact .nil | cons r1 z => (cases z with | nil => exact (.cons r1 (.cons r0 .nil)) | cons _ _ => exact .nil)))
    | cons _ _ => (cases z with | nil => exact .nil | cons r0 z => (cases z with | nil => exact .nil | cons r1 z => (cases z with | nil => exact .nil | cons _ _ => exact .nil)))
end
section
variable {P : Program} {w : World} {K : PySem.W.Frag} {mg : Str → Option Value} {base : Heap}
/-! _law_purse -/
def sp__law_purse (K : PySem.W.Frag) : Sp := fun vs H Q _ => ∃ (a : Addr) (ns : List Int) (place : Int), vs = [.ref a, .int place] ∧ SqL K H a (ns.map V.int) ∧ ns.length ≤ 63 ∧ 0 ≤ place ∧ place ≤ 63 ∧
  ∀ H' p, Same H H' → H p = none → Pu H' p 0 → Q (.ref p) H'
theorem ok__law_purse (T : Tx K mg) : FnOk P w K mg base CX0 1 T.a__law_purse T.fd__law_purse ["script", "place"] (sp__law_purse K) := by
  refine T.F__law_purse.ok sc__law_purse (fun vs H Q E h => ?_) (fun cdv A outer s H vs Q E hr h => ?_)
  · obtain ⟨a, ns, place, rfl, _⟩ := h
    rfl
  · obtain ⟨a, ns, place, rfl, hS, hl, h0, h1, q⟩ := h
    refine ⟨_, (pss_cons (ps_set (i := 2) sc__law_purse.nd rfl (Or.inl rfl) (pe_ifExp (pt_cmpR op_lt (pv 1) (pe_callB call_len_seq (by rfl) T.z_len (by decide +kernel) (pa_cons (pv 0) pa_nil)) (nomark _)) (pe_ix ix_list (pv 0) (pv 1) (fun _ _ => rfl)) pe_int))
  (pss_one (ps_ret (pe_lst (pa_cons (pe_callB (call_max2 rfl) (by rfl) T.z_max (by decide +kernel) (pa_cons pe_int (pa_cons (pe_op op_sub (pe_callB call_abs (by rfl) T.z_abs (by decide +kernel) (pa_cons (pv 2) pa_nil)) (pe_op op_powL pe_int pe_int)) pa_nil))) (pa_cons (pe_op op_modN (pe_callTy call_int1 (by rfl) T.z_int (by decide +kernel) (pa_cons (pe_op op_add (pe_op op_add (pe_op op_mulL (pv 2) pe_int) (pe_op op_mulL (pv 1) pe_int)) pe_int) pa_nil)) (pe_op op_add (pe_op op_powL pe_int pe_int) pe_int)) (pa_cons pe_int pa_nil))))))), ?_⟩
    obtain ⟨j, ej⟩ := nat_of h0
    -- the cell
    have hc : ∃ c : Int, decide (place < ((ns.map V.int).length : Int)) = true → (ns.map V.int)[j]? = some (.int c) := by
      by_cases hj : j < ns.length
      · exact ⟨ns[j], fun _ => by rw [List.getElem?_map, List.getElem?_eq_getElem hj]; rfl⟩
      · refine ⟨0, fun e => ?_⟩
        have e := of_decide_eq_true e
        rw [List.length_map] at e
        omega
    obtain ⟨c, hc⟩ : ∃ c : Int, (decide (place < ((ns.map V.int).length : Int)) = true → (ns.map V.int)[j]? = some (.int c)) ∧ (decide (place < ((ns.map V.int).length : Int)) = false → c = 0) := by
      cases e : decide (place < ((ns.map V.int).length : Int)) with
      | true =>
        obtain ⟨c, hc⟩ := hc
        exact ⟨c, fun _ => hc e, fun z => nomatch z⟩
      | false => exact ⟨0, (fun z => nomatch z), fun _ => rfl⟩
    refine if_val (decide (place < ((ns.map V.int).length : Int))) (.int c) (fun R r => ⟨_, rfl, _, rfl, a, _, rfl, .inl hS, _, _, rfl, rfl, _, rfl, r⟩) (fun e R r => ⟨_, rfl, _, rfl, a, _, _, _, rfl, rfl, hS, at_of ej (hc.1 e), r⟩) (fun e R r => ?_) ?_
    · rw [hc.2 e] at r
      exact r
    · refine ⟨_, rfl, _, rfl, _, _, rfl, rfl, cpw 4 (by decide) (by decide) (by decide), _, _, rfl, rfl, _, _, rfl, _, rfl, _, _, rfl, rfl, cml_r (by decide), _, rfl, _, _, rfl, rfl, cml_r (by decide), _, _, rfl, rfl, _, _, rfl, rfl, .inl ⟨_, rfl, ?_⟩⟩
      refine ⟨_, _, rfl, rfl, cpw 4 (by decide) (by decide) (by decide), _, _, rfl, rfl, _, _, rfl, rfl, (by show ((10 : Int) ^ (24 : Int).toNat + 7) ≠ 0; decide), ?_⟩
      refine ⟨sz (by show 3 ≤ 1000000; decide), fun p hp => ?_⟩
      have e24 : (10 : Int) ^ (24 : Int).toNat + 7 = 1000000000000000000000007 := by decide
      refine q _ p ((L2.Same.refl H).new hp) hp ⟨_, _, _, upd_same, ?_, ?_, ?_, by decide, by decide⟩
      · split <;> omega
      · rw [e24, Int.fmod_eq_emod_of_nonneg _ (by decide)]
        exact Int.emod_nonneg _ (by decide)
      · rw [e24, Int.fmod_eq_emod_of_nonneg _ (by decide)]
        exact Int.lt_trans (Int.emod_lt_of_pos _ (by decide)) (by decide)

/-! _law_rt_first_odd -/
def sp__law_rt_first_odd (K : PySem.W.Frag) : Sp := fun vs H Q _ => ∃ (L : Addr) (ps : List (Addr × Str × Nat)), vs = [.ref L] ∧ Parts H L ps ∧ ps.length ≤ 10 ∧ (∀ p ∈ ps, p.2.1.length ≤ 10000 ∧ Sok p.2.1) ∧
  ∀ H' r, Same H H' → H r = none → OddL H' r (Fo (ps.map (·.2))) → Q (.ref r) H'
theorem odd_flt (t : Str) : (t.cps.toList.filter fun c => !decide (c ∈ ("LR" : Str).cps.toList)) = [] ↔ IsRd t := by
  have e : ("LR" : Str).cps.toList = [76, 82] := by decide +kernel
  rw [e, List.filter_eq_nil_iff]
  constructor
  · intro h
    refine isrd_of fun x hx => ?_
    have := h x hx
    by_cases e : x = 76
    · exact .inl e
    · refine .inr ?_
      simpa [e] using this
  · rintro ⟨w, rfl⟩ c hc
    rw [rd_cps] at hc
    obtain ⟨b, _, rfl⟩ := List.mem_map.mp hc
    cases b <;> decide
theorem ok__law_rt_first_odd (T : Tx K mg) : FnOk P w K mg base CX0 1 T.a__law_rt_first_odd T.fd__law_rt_first_odd ["parts"] (sp__law_rt_first_odd K) := by
  refine T.F__law_rt_first_odd.ok sc__law_rt_first_odd (fun vs H Q E h => ?_) (fun cdv A outer s H vs Q E hr h => ?_)
  · obtain ⟨L, ps, rfl, _⟩ := h
    rfl
  · obtain ⟨L, ps, rfl, hP, hl, hb, q⟩ := h
    refine ⟨_, (pss_cons (ps_for PassesOwn.never rfl (pi_list (pv 0)) (pg_tup (by rfl) (pgs_cons (pg_name (i := 1) sc__law_rt_first_odd.nd rfl (Or.inl rfl)) (pgs_cons (pg_name (i := 2) sc__law_rt_first_odd.nd rfl (Or.inl rfl)) pgs_nil)))
    (pss_cons (ps_setLc (i := 4) (own := [("sign", 3)]) (g := (gName 3)) (by rfl) sc__law_rt_first_odd.nd rfl rfl (sw_true rfl rfl rfl (by decide +kernel)) (pi_str (pv 1)) (blkOk_by (own := [("sign", 3)]) (N := n__law_rt_first_odd) (sc := defScope s__law_rt_first_odd) (by decide +kernel)) (fun _ _ _ _ _ => (pg_name (i := 3) sc__law_rt_first_odd.nd rfl (Or.inl rfl))) (fun _ _ _ _ _ => (pts_one (pt_cmpR op_notIn_sign (pv 3) pe_str rfl))) (fun _ _ _ _ _ => (pv 3)))
  (pss_cons (ps_if (PW.pt (pw_or (pt_cmpR (op_neD hr.units) (pv 4) (pe_lst pa_nil) (nomark _)) (pw_or1 (PW.pt (pw_and (pt_cmpR op_gt (pv 2) pe_int (nomark _)) (pw_and1 (pt_cmpR op_eq (pv 1) pe_str (nomark _)))))))) (pss_one (ps_ret (pe_lst (pa_cons (pv 1) pa_nil)))) pss_nil)
  (pss_one (ps_if (PW.pt (pw_and (pt_cmpR op_gt (pv 2) pe_int (nomark _)) (pw_and1 (PW.pt (pw_or (pt_cmpR op_notIn_sign pe_str (pv 1) rfl) (pw_or1 (pt_cmpR op_notIn_sign pe_str (pv 1) rfl))))))) (pss_one (ps_ret (pe_lst (pa_cons (pv 1) pa_nil)))) pss_nil)))))
  (pss_one (ps_ret (pe_lst pa_nil)))), ?_⟩
    refine ⟨_, rfl, L, rfl, ⟨_, SqL.of hP.1⟩, for_list (xs := ps.map fun p => .ref p.1) (fun i σ H' => ∃ (x1 x2 x4 : Option V), σ = [some (.ref L), x1, x2, none, x4] ∧ Same H H' ∧ Fo (ps.map (·.2)) = Fo ((ps.drop i).map (·.2))) ⟨none, none, none, rfl, L2.Same.refl H, rfl⟩ (fun i σ H' _ z => ?_) ?_ ?_⟩
    · obtain ⟨_, _, _, _, sm, _⟩ := z
      exact SqL.of (sm _ _ hP.1)
    · rintro i z σ H1 hz ⟨x1, x2, x4, rfl, s1, ef⟩
      rw [List.getElem?_map] at hz
      obtain ⟨⟨p, t, k⟩, hpi, rfl⟩ : ∃ p, ps[i]? = some p ∧ z = .ref p.1 := by
        cases e : ps[i]? with
        | none => rw [e] at hz; cases hz
        | some p => rw [e] at hz; exact ⟨p, rfl, (Option.some.inj hz).symm⟩
      have hmem := List.mem_of_getElem? hpi
      have ht := s1 _ _ (hP.2 _ hmem)
      obtain ⟨tl, tk⟩ := hb _ hmem
      have tl : t.length ≤ 10000 := tl
      have tk : Sok t := tk
      have edr : ps.drop i = (p, t, k) :: ps.drop (i + 1) := by
        obtain ⟨hi, e⟩ := List.getElem?_eq_some_iff.mp hpi
        rw [List.drop_eq_getElem_cons hi, e]
      rw [edr] at ef
      refine ⟨p, _, rfl, .inl (.inl ht), rfl, _, _, rfl, _, _, rfl, rfl, ?_⟩
      refine ⟨_, rfl, _, rfl, fun D hD => lc_it walk_str (fun j H' => Same H1 H' ∧ H' D = some (.lst (((t.cps.toList.take j).filter fun c => !decide (c ∈ ("LR" : Str).cps.toList)).map fun c => V.str (sgT c)))) ⟨(L2.Same.refl H1).new hD, upd_same⟩ (fun _ _ _ _ => trivial) ?_ ?_⟩
      · rintro j x H2 H3 hj ⟨sm, eD⟩ ⟨rfl, c, hc, rfl⟩
        have hc : t.cps.toList[j]? = some c := by rw [Array.getElem?_toList]; exact hc
        have et : t.cps.toList.take (j + 1) = t.cps.toList.take j ++ [c] := by rw [List.take_add_one, hc]; rfl
        have hj' : j < 10000 := Nat.lt_of_lt_of_le hj tl
        refine ⟨rfl, ?_⟩
        refine ⟨_, rfl, c, ("LR" : Str), rfl, rfl, _, rfl, ?_⟩
        rw [et, List.filter_append]
        refine bl2 (fun b => ?_) (fun b => ?_)
        · refine ⟨_, rfl, _, eD, ?_, fun b o z => by rw [upd_ne (ne_of_none z hD)]; exact sm b o z, ?_⟩
          · rw [List.length_map]
            refine Nat.lt_of_le_of_lt (List.length_filter_le _ _) ?_
            rw [List.length_take]
            exact Nat.lt_of_le_of_lt (Nat.min_le_left _ _) (Nat.lt_trans hj' (by decide))
          · have e1 : List.filter (fun c => !decide (c ∈ ("LR" : Str).cps.toList)) [c] = [c] := by
              simp only [List.filter_cons, List.filter_nil]
              exact if_pos b
            rw [upd_same, e1, List.map_append]
            rfl
        · refine ⟨sm, ?_⟩
          have e1 : List.filter (fun c => !decide (c ∈ ("LR" : Str).cps.toList)) [c] = [] := by
            simp only [List.filter_cons, List.filter_nil]
            exact if_neg (by rw [b]; exact Bool.false_ne_true)
          rw [e1, List.append_nil]
          exact eD
      · rintro H2 ⟨s2, eD⟩
        rw [show t.cps.toList.take t.cps.size = t.cps.toList from List.take_of_length_le (by simp)] at eD
        generalize hF : (t.cps.toList.filter fun c => !decide (c ∈ ("LR" : Str).cps.toList)) = F at eD
        have hF0 : F = [] ↔ IsRd t := by rw [← hF]; exact odd_flt t
        have hFk : ∀ c ∈ F, c < 1114112 := fun c hc => by
          rw [← hF] at hc
          exact tk c (List.mem_filter.mp hc).1
        have s02 := s1.trans s2
        -- the odd text is told
        have tell : OddT (t, k) → ∀ H' r, Same H H' → H r = none → H' r = some (.lst [.str t]) → Q (.ref r) H' := fun o H' r sm nr er => by
          refine q H' r sm nr ?_
          rw [ef]
          show OddL H' r (Fo ((t, k) :: _))
          rw [fo_yes o]
          exact er
        have goOn : ¬ OddT (t, k) → Fo (ps.map (·.2)) = Fo ((ps.drop (i + 1)).map (·.2)) := fun o => by
          rw [ef]
          show Fo ((t, k) :: _) = _
          rw [fo_no o]
        refine ⟨_, rfl, sz (by show 0 ≤ 1000000; decide), fun E0 nE0 => ?_⟩
        have s3 := s02.new (o := .lst []) nE0
        have eF := (show Same H2 (L2.upd H2 E0 (.lst [])) from (L2.Same.refl H2).new nE0) _ _ eD
        have eE : L2.upd H2 E0 (.lst []) E0 = some (.lst []) := upd_same
        revert s3 eF eE
        generalize L2.upd H2 E0 (.lst []) = H3
        intro s3 eF eE
        refine ⟨.list (sgD F), .list [], .lst (SqL.of eF) (dp_sg F), .lst (SqL.of eE) .nil, sg_shaped hFk, rfl, _, rfl, ?_⟩
        rw [sg_eqv]
        have s3r : ∀ {r : Addr}, H3 r = none → H r = none := fun nr => s3.free nr
        refine bl2 (fun c1 => ?_) (fun c1 => ?_)
        · have o : OddT (t, k) := .inl fun z => by
            rw [decide_eq_true (hF0.mpr z)] at c1
            cases c1
          exact ⟨_, rfl, sz (by show 1 ≤ 1000000; decide), fun r nr => tell o _ r (s3.new nr) (s3.free nr) upd_same⟩
        have rdT : IsRd t := hF0.mp (by simpa using c1)
        refine ⟨_, rfl, _, _, rfl, rfl, _, rfl, ?_⟩
        by_cases k0 : k = 0
        · subst k0
          refine iteF (iteF ⟨_, rfl, _, _, rfl, rfl, _, rfl, iteF (iteF ?_)⟩)
          exact ⟨_, _, _, rfl, s3, goOn fun z => odd_0.mp z rdT⟩
        · have d0 : decide ((0 : Int) < (k : Int)) = true := decide_eq_true (by omega)
          refine bl2 (fun _ => ?_) (fun z => absurd (z.symm.trans d0) Bool.false_ne_true)
          refine ⟨_, rfl, rfl, _, rfl, bl2 (fun c2 => ?_) (fun c2 => ?_)⟩
          · have c2 : V.str t = V.str ("" : Str) := of_decide_eq_true c2
            injection c2 with c2
            have o : OddT (t, k) := .inr (.inl ⟨by show 0 < k; omega, c2⟩)
            exact ⟨_, rfl, sz (by show 1 ≤ 1000000; decide), fun r nr => tell o _ r (s3.new nr) (s3.free nr) upd_same⟩
          have tne : t ≠ ("" : Str) := fun z => by
            have c2 := of_decide_eq_false c2
            exact c2 (by rw [z])
          refine ⟨_, rfl, _, _, rfl, rfl, _, rfl, ?_⟩
          by_cases k1 : k ≤ 1
          · have d1 : decide ((1 : Int) < (k : Int)) = false := decide_eq_false (by omega)
            refine bl2 (fun z => absurd (z.symm.trans d1) (by decide)) (fun _ => iteF ⟨_, _, _, rfl, s3, goOn fun z => ?_⟩)
            rcases z with z | z | z
            · exact z rdT
            · exact tne z.2
            · have := z.1
              omega
          · have d1 : decide ((1 : Int) < (k : Int)) = true := decide_eq_true (by omega)
            refine bl2 (fun _ => ?_) (fun z => absurd (z.symm.trans d1) Bool.false_ne_true)
            have od : ¬ (76 ∈ t.cps.toList ∧ 82 ∈ t.cps.toList) → OddT (t, k) := fun z => .inr (.inr ⟨by show 1 < k; omega, z⟩)
            refine ⟨_, rfl, 76, t, congrArg V.str (by decide +kernel), rfl, _, rfl, bl2 (fun c3 => ?_) (fun c3 => ?_)⟩
            · have c3 : ¬ 76 ∈ t.cps.toList := by simpa using c3
              exact ⟨_, rfl, sz (by show 1 ≤ 1000000; decide), fun r nr => tell (od fun z => c3 z.1) _ r (s3.new nr) (s3.free nr) upd_same⟩
            · have c3 : 76 ∈ t.cps.toList := by simpa using c3
              refine ⟨_, rfl, 82, t, congrArg V.str (by decide +kernel), rfl, _, rfl, bl2 (fun c4 => ?_) (fun c4 => ?_)⟩
              · have c4 : ¬ 82 ∈ t.cps.toList := by simpa using c4
                exact ⟨_, rfl, sz (by show 1 ≤ 1000000; decide), fun r nr => tell (od fun z => c4 z.2) _ r (s3.new nr) (s3.free nr) upd_same⟩
              · have c4 : 82 ∈ t.cps.toList := by simpa using c4
                refine ⟨_, _, _, rfl, s3, goOn fun z => ?_⟩
                rcases z with z | z | z
                · exact z rdT
                · exact tne z.2
                · exact z.2 ⟨c3, c4⟩
    · rintro σ H1 ⟨x1, x2, x4, rfl, s1, ef⟩
      rw [List.length_map, List.drop_length] at ef
      refine ⟨sz (by show 0 ≤ 1000000; decide), fun r nr => ?_⟩
      refine q _ r (s1.new nr) (s1.free nr) ?_
      rw [ef]
      exact upd_same

/-! _law_rt_size -/
def sp__law_rt_size (K : PySem.W.Frag) : Sp := fun vs H Q _ => ∃ (a : Addr) (m : M4), vs = [.ref a] ∧ Sq K H a (m.l.map V.int) ∧ (Sml m.a ∧ Sml m.b) ∧ (Sml m.c ∧ Sml m.d) ∧ Q (.int m.det) H
theorem ok__law_rt_size (T : Tx K mg) : FnOk P w K mg base CX0 1 T.a__law_rt_size T.fd__law_rt_size ["plan"] (sp__law_rt_size K) := by
  refine T.F__law_rt_size.ok sc__law_rt_size (fun vs H Q E h => ?_) (fun cdv A outer s H vs Q E hr h => ?_)
  · obtain ⟨a, m, rfl, _⟩ := h
    rfl
  · obtain ⟨a, m, rfl, hs, ⟨sa, sb⟩, ⟨sc, sd⟩, q⟩ := h
    refine ⟨_, (pss_one (ps_ret (pe_op op_sub (pe_op op_mulL (pe_ix ix_seq (pv 0) pe_int (fun _ _ => rfl)) (pe_ix ix_seq (pv 0) pe_int (fun _ _ => rfl))) (pe_op op_mulL (pe_ix ix_seq (pv 0) pe_int (fun _ _ => rfl)) (pe_ix ix_seq (pv 0) pe_int (fun _ _ => rfl)))))), ?_⟩
    refine ⟨_, rfl, seq_ix hs rfl ⟨_, rfl, seq_ix hs rfl ⟨_, _, rfl, rfl, cml_s sa sd, _, rfl, seq_ix hs rfl ⟨_, rfl, seq_ix hs rfl ⟨_, _, rfl, rfl, cml_s sb sc, _, _, rfl, rfl, q⟩⟩⟩⟩⟩

/-! _law_rt_shared -/
def sp__law_rt_shared (K : PySem.W.Frag) : Sp := fun vs H Q _ => ∃ (a : Addr) (l : List Int), vs = [.ref a] ∧ Sq K H a (l.map V.int) ∧ Q (.int (gl l : Nat)) H
theorem ok__law_rt_shared (T : Tx K mg) : FnOk P w K mg base CX0 1 T.a__law_rt_shared T.fd__law_rt_shared ["numbers"] (sp__law_rt_shared K) := by
  refine T.F__law_rt_shared.ok sc__law_rt_shared (fun vs H Q E h => ?_) (fun cdv A outer s H vs Q E hr h => ?_)
  · obtain ⟨a, l, rfl, _⟩ := h
    rfl
  · obtain ⟨a, l, rfl, hs, q⟩ := h
    refine ⟨_, (pss_cons (ps_set (i := 1) sc__law_rt_shared.nd rfl (Or.inl rfl) pe_int)
  (pss_cons (ps_for PassesOwn.never rfl (pi_seq (pv 0)) (pg_name (i := 2) sc__law_rt_shared.nd rfl (Or.inl rfl))
    (pss_cons (ps_set (i := 3) sc__law_rt_shared.nd rfl (Or.inl rfl) (pe_callB call_abs (by rfl) T.z_abs (by decide +kernel) (pa_cons (pv 2) pa_nil)))
  (pss_one (ps_while PassesOwn.never (pt_cmpR op_ne (pv 3) pe_int (nomark _))
    (pss_one (ps_par (i := 1) (j := 3) (by rfl) sc__law_rt_shared.nd rfl rfl (by decide) rfl rfl (pa_cons (pv 3) (pa_cons (pe_op op_modN (pe_callTy call_int1 (by rfl) T.z_int (by decide +kernel) (pa_cons (pv 1) pa_nil)) (pe_callTy call_int1 (by rfl) T.z_int (by decide +kernel) (pa_cons (pv 3) pa_nil))) pa_nil)) (by rfl)))))))
  (pss_one (ps_ret (pv 1))))), ?_⟩
    refine ⟨_, rfl, a, _, rfl, hs, fun J hJ => for_it hJ.walk (fun i σ H' => ∃ x y : Option V, σ = [some (.ref a), some (.int (gl (l.take i) : Nat)), x, y] ∧ H' = H) ⟨none, none, rfl, rfl⟩ (fun i σ H' _ hp => ?_) ?_ ?_⟩
    · obtain ⟨_, _, _, rfl⟩ := hp
      exact L2.Same.refl _
    · rintro i x σ H' H2 hi ⟨x', y', rfl, rfl⟩ ⟨rfl, hx⟩
      rw [List.length_map] at hi
      rw [List.getElem?_map, List.getElem?_eq_getElem hi] at hx
      have ex := (Option.some.inj hx).symm
      subst ex
      generalize hc : l[i] = c
      have step : gl (l.take (i + 1)) = Nat.gcd (gl (l.take i)) c.natAbs := by
        rw [← hc, ← gl_snoc, List.take_append_getElem]
      have ea : (if c < 0 then -c else c) = (c.natAbs : Int) := by split <;> omega
      refine ⟨_, rfl, _, rfl, ?_⟩
      show tWhile _ _ _ [some (V.ref a), some (V.int (gl (l.take i) : Nat)), some (V.int c), some (V.int (if c < 0 then -c else c))] _
      rw [ea]
      refine ⟨fun m σ H' => ∃ f k : Nat, σ = [some (.ref a), some (.int (f : Nat)), some (.int c), some (.int (k : Nat))] ∧ m = k ∧ Nat.gcd f k = gl (l.take (i + 1)) ∧ H' = H2, ⟨c.natAbs, gl (l.take i), c.natAbs, rfl, rfl, step.symm, rfl⟩, ?_⟩
      rintro m σ H' ⟨f, k, rfl, rfl, hg, rfl⟩
      refine ⟨_, rfl, rfl, _, rfl, ?_⟩
      by_cases h0 : m = 0
      · subst h0
        refine iteNS rfl ?_
        rw [Nat.gcd_zero_right] at hg
        rw [← hg]
        exact ⟨_, _, rfl, rfl⟩
      · have e0 : (!decide (V.int ((m : Nat) : Int) = V.int 0)) = true := by
          rw [decide_eq_false (fun z => h0 (by have := V.int.inj z; omega))]
          rfl
        rw [e0]
        refine iteT ⟨_, fun σ' H' hn => hn, _, rfl, _, rfl, .inl ⟨_, rfl, _, rfl, .inl ⟨_, rfl, _, _, rfl, rfl, (by show ((m : Nat) : Int) ≠ 0; omega), _, _, rfl, ?_⟩⟩⟩
        have em : ((f : Nat) : Int).fmod ((m : Nat) : Int) = ((f % m : Nat) : Int) := by
          rw [Int.fmod_eq_emod_of_nonneg _ (by omega)]
          rfl
        refine ⟨f % m, Nat.mod_lt _ (by omega), m, f % m, ?_, rfl, ?_, rfl⟩
        · show [some (V.ref a), some (V.int (m : Nat)), some (V.int c), some (V.int (((f : Nat) : Int).fmod ((m : Nat) : Int)))] = _
          rw [em]
        · rw [← hg, Nat.gcd_comm f m, Nat.gcd_rec m f, Nat.gcd_comm]
    · rintro σ H' ⟨x, y, rfl, rfl⟩
      refine ⟨_, rfl, ?_⟩
      rw [List.length_map, List.take_length]
      exact q

/-! _law_rt_is_map -/
def sp__law_rt_is_map (K : PySem.W.Frag) : Sp := fun vs H Q _ => ∃ (p : Addr) (m : M4), vs = [.ref p] ∧ SqT K H p (m.l.map V.int) ∧ (∀ i ∈ m.l, Bd 900 i) ∧ ∀ b : Bool, (b = true ↔ Mp m) → Q (.bl b) H
theorem ok__law_rt_is_map (T : Tx K mg) : FnOk P w K mg base CX0 2 T.a__law_rt_is_map T.fd__law_rt_is_map ["plan"] (sp__law_rt_is_map K) := by
  have G__law_rt_size := ok__law_rt_size (P := P) (w := w) (base := base) T
  have G__law_rt_shared := ok__law_rt_shared (P := P) (w := w) (base := base) T
  refine T.F__law_rt_is_map.ok sc__law_rt_is_map (fun vs H Q E h => ?_) (fun cdv A outer s H vs Q E hr h => ?_)
  · obtain ⟨p, m, rfl, _⟩ := h
    rfl
  · obtain ⟨p, m, rfl, hp, hb, q⟩ := h
    refine ⟨_, (pss_one (ps_ret (pe_and (pe_cmpR op_ge (pe_callB (cr_minT hr) (by rfl) T.z_min (by decide +kernel) (pa_cons (pv 0) pa_nil)) pe_int (nomark _)) (pe_and (pe_cmpR op_ne (pe_call G__law_rt_size (hr.mono (by decide)) (by rfl) T.g__law_rt_size T.F__law_rt_size.kp (b__law_rt_size T.F__law_rt_size) .nil pass0 (pa_cons (pv 0) pa_nil)) pe_int (nomark _)) (pe_one (pe_cmpR op_eq (pe_call G__law_rt_shared (hr.mono (by decide)) (by rfl) T.g__law_rt_shared T.F__law_rt_shared.kp (b__law_rt_shared T.F__law_rt_shared) .nil pass0 (pa_cons (pv 0) pa_nil)) pe_int (nomark _))))))), ?_⟩
    have sm : ∀ i ∈ m.l, Sml i := fun i hi => (hb i hi).sml
    refine ⟨_, rfl, p, m.a, [m.b, m.c, m.d], rfl, hp, (by show 3 ≤ 100; decide), fun x hx hl => ⟨_, _, rfl, rfl, _, rfl, bl2 (fun h => ?_) (fun h => ?_)⟩⟩
    · have h := of_decide_eq_true h
      have nn : Nn m := ⟨by have := hl m.a (by simp); omega, by have := hl m.b (by simp); omega, by have := hl m.c (by simp); omega, by have := hl m.d (by simp); omega⟩
      refine ⟨_, rfl, p, m, rfl, .inr hp, ⟨sm _ (by simp [M4.l]), sm _ (by simp [M4.l])⟩, ⟨sm _ (by simp [M4.l]), sm _ (by simp [M4.l])⟩, rfl, _, rfl, bl2 (fun h => ?_) (fun h => ?_)⟩
      · have h : ¬ V.int m.det = V.int 0 := by simpa using h
        have hd : m.det ≠ 0 := fun z => h (by rw [z])
        refine ⟨_, rfl, p, m.l, rfl, .inr hp, rfl, q _ ?_⟩
        refine ⟨fun z => ?_, fun z => ?_⟩
        · have z : V.int (gl m.l : Nat) = V.int 1 := by simpa using z
          injection z with z
          exact ⟨nn, hd, by omega⟩
        · rw [z.gd]
          rfl
      · have h : V.int m.det = V.int 0 := by simpa using h
        injection h with h
        exact q _ ⟨(fun z => nomatch z), fun z => absurd h z.dt⟩
    · have h := of_decide_eq_false h
      refine q _ ⟨(fun z => nomatch z), fun z => absurd ?_ h⟩
      have := z.nn.a
      have := z.nn.b
      have := z.nn.c
      have := z.nn.d
      simp only [List.mem_cons, List.not_mem_nil, or_false] at hx
      rcases hx with rfl | rfl | rfl | rfl <;> omega

/-! _law_rt_is_pair -/
def sp__law_rt_is_pair (K : PySem.W.Frag) : Sp := fun vs H Q _ => ∃ (p : Addr) (x y : Int), vs = [.ref p] ∧ SqT K H p [.int x, .int y] ∧ ∀ b : Bool, (b = true ↔ FracP x y) → Q (.bl b) H
theorem ok__law_rt_is_pair (T : Tx K mg) : FnOk P w K mg base CX0 2 T.a__law_rt_is_pair T.fd__law_rt_is_pair ["pair"] (sp__law_rt_is_pair K) := by
  have G__law_rt_shared := ok__law_rt_shared (P := P) (w := w) (base := base) T
  refine T.F__law_rt_is_pair.ok sc__law_rt_is_pair (fun vs H Q E h => ?_) (fun cdv A outer s H vs Q E hr h => ?_)
  · obtain ⟨p, x, y, rfl, _⟩ := h
    rfl
  · obtain ⟨p, x, y, rfl, hp, q⟩ := h
    refine ⟨_, (pss_one (ps_ret (pe_and (pe_cmpR op_gt (pe_callB (cr_minT hr) (by rfl) T.z_min (by decide +kernel) (pa_cons (pv 0) pa_nil)) pe_int (nomark _)) (pe_one (pe_cmpR op_eq (pe_call G__law_rt_shared (hr.mono (by decide)) (by rfl) T.g__law_rt_shared T.F__law_rt_shared.kp (b__law_rt_shared T.F__law_rt_shared) .nil pass0 (pa_cons (pv 0) pa_nil)) pe_int (nomark _)))))), ?_⟩
    refine ⟨_, rfl, p, x, [y], rfl, hp, by show 1 ≤ 100; decide, fun m hm hl => ⟨_, _, rfl, rfl, _, rfl, bl2 (fun c => ?_) (fun h => ?_)⟩⟩
    · have c := of_decide_eq_true c
      have h1 := hl x (by simp)
      have h2 := hl y (by simp)
      refine ⟨_, rfl, p, [x, y], rfl, .inr hp, rfl, q _ ?_⟩
      have e : gl [x, y] = Nat.gcd x.natAbs y.natAbs := by
        show Nat.gcd (Nat.gcd 0 x.natAbs) y.natAbs = _
        rw [Nat.gcd_zero_left]
      rw [e]
      refine ⟨fun z => ⟨by omega, by omega, ?_⟩, fun z => ?_⟩
      · have z : V.int _ = V.int 1 := of_decide_eq_true z
        injection z with z
        omega
      · rw [z.2.2]
        rfl
    · have h := of_decide_eq_false h
      refine q _ ⟨(fun z => nomatch z), fun z => absurd ?_ h⟩
      have := z.1
      have := z.2.1
      simp only [List.mem_cons, List.not_mem_nil, or_false] at hm
      rcases hm with rfl | rfl <;> omega

/-! _law_due -/
def sp__law_due (K : PySem.W.Frag) : Sp := fun vs H Q _ => ∃ (way : Nat) (pm pn pp W : Addr) (m n : M4) (x y : Int) (t0 t1 : Str), vs = [.int (way : Nat), .ref pm, .ref pn, .ref pp, .ref W] ∧ way < 9 ∧ H pm = some (.tup (m.l.map V.int)) ∧ H pn = some (.tup (n.l.map V.int)) ∧ H pp = some (.tup [.int x, .int y]) ∧ H W = some (.lst [.str t0, .str t1]) ∧
  (∀ i ∈ m.l, Bd 900 i) ∧ (∀ i ∈ n.l, Bd 900 i) ∧ (∀ t ∈ [t0, t1], t.length ≤ 10000 ∧ Sok t) ∧ ∀ H' r, Same H H' → H r = none → DueL H' r (dueM way pm pn pp m n x y t0 t1) → Q (.ref r) H'
theorem in_14 : ∀ w : Nat, w < 9 → inV (.int (w : Nat)) [.int 1, .int 4] = decide (w = 1 ∨ w = 4) := by decide
theorem int_is {a b : Nat} (h : decide (V.int (a : Nat) = V.int (b : Nat)) = true) : a = b := by
  have h : V.int (a : Nat) = V.int (b : Nat) := of_decide_eq_true h
  injection h with h
  omega
theorem int_not {a b : Nat} (h : decide (V.int (a : Nat) = V.int (b : Nat)) = false) : a ≠ b := fun z => by
  rw [z] at h
  simp at h
theorem ok__law_due (T : Tx K mg) : FnOk P w K mg base CX0 3 T.a__law_due T.fd__law_due ["way", "plan", "rival", "pair", "words"] (sp__law_due K) := by
  have G__law_rt_first_odd := ok__law_rt_first_odd (P := P) (w := w) (base := base) T
  have G__law_rt_is_map := ok__law_rt_is_map (P := P) (w := w) (base := base) T
  have G__law_rt_is_pair := ok__law_rt_is_pair (P := P) (w := w) (base := base) T
  refine T.F__law_due.ok sc__law_due (fun vs H Q E h => ?_) (fun cdv A outer s H vs Q E hr h => ?_)
  · obtain ⟨way, pm, pn, pp, W, m, n, x, y, t0, t1, rfl, _⟩ := h
    rfl
  · obtain ⟨way, pm, pn, pp, W, m, n, x, y, t0, t1, rfl, hway, em, en, ep, eW, bm, bn, ht, q⟩ := h
    refine ⟨_, (pss_cons (ps_if (pt_not (pt_val (pe_call G__law_rt_is_map (hr.mono (by decide)) (by rfl) T.g__law_rt_is_map T.F__law_rt_is_map.kp (b__law_rt_is_map T.F__law_rt_is_map) .nil pass0 (pa_cons (pv 1) pa_nil)))) (pss_one (ps_ret (pe_lst (pa_cons pe_int (pa_cons (pv 1) pa_nil))))) pss_nil)
  (pss_cons (ps_if (PW.pt (pw_and (pt_cmpR op_eq (pv 0) pe_int (nomark _)) (pw_and1 (pt_not (pt_val (pe_call G__law_rt_is_map (hr.mono (by decide)) (by rfl) T.g__law_rt_is_map T.F__law_rt_is_map.kp (b__law_rt_is_map T.F__law_rt_is_map) .nil pass0 (pa_cons (pv 2) pa_nil))))))) (pss_one (ps_ret (pe_lst (pa_cons pe_int (pa_cons (pv 2) pa_nil))))) pss_nil)
  (pss_cons (ps_if (PW.pt (pw_and (pt_cmpR op_in_seq (pv 0) (pe_tup (pa_cons pe_int (pa_cons pe_int pa_nil))) rfl) (pw_and1 (pt_not (pt_val (pe_call G__law_rt_is_pair (hr.mono (by decide)) (by rfl) T.g__law_rt_is_pair T.F__law_rt_is_pair.kp (b__law_rt_is_pair T.F__law_rt_is_pair) .nil pass0 (pa_cons (pv 3) pa_nil))))))) (pss_one (ps_ret (pe_lst (pa_cons pe_int (pa_cons (pv 3) pa_nil))))) pss_nil)
  (pss_cons (ps_set (i := 5) sc__law_due.nd rfl (Or.inl rfl) (pe_call G__law_rt_first_odd (hr.mono (by decide)) (by rfl) T.g__law_rt_first_odd T.F__law_rt_first_odd.kp (b__law_rt_first_odd T.F__law_rt_first_odd) .nil pass0 (pa_cons (pe_lst (pa_cons (pe_tup (pa_cons (pe_ix ix_list (pv 4) pe_int (fun _ _ => rfl)) (pa_cons pe_int pa_nil))) (pa_cons (pe_tup (pa_cons (pe_ix ix_list (pv 4) pe_int (fun _ _ => rfl)) (pa_cons pe_int pa_nil))) pa_nil))) pa_nil)))
  (pss_one (ps_ret (pe_ifExp (PW.pt (pw_and (pt_cmpR op_eq (pv 0) pe_int (nomark _)) (pw_and1 (pt_cmpR (op_neD hr.units) (pv 5) (pe_lst pa_nil) (nomark _))))) (pe_lst (pa_cons pe_int (pa_cons (pe_ix ix_list (pv 5) pe_int (fun _ _ => rfl)) pa_nil))) (pe_lst pa_nil)))))))), ?_⟩
    have z2 : ([.int 0, .int 1] : List V).length ≤ sizeLine := sz (by show 2 ≤ 1000000; decide)
    refine ⟨_, rfl, pm, m, rfl, SqT.of em, bm, fun b hb => ⟨_, rfl, bl2 (fun c => ?_) (fun c => ?_)⟩⟩
    · have c : ¬ (b = true) := by simpa using c
      exact ⟨_, rfl, z2, fun r nr => q _ r ((L2.Same.refl H).new nr) nr (by rw [dueM_m (fun z => c (hb.mpr z))]; exact upd_same)⟩
    have mp := hb.mp (by simpa using c)
    dsimp only [tNext, tSeq]
    refine meetS (fun σ H' => σ = L2.start n__law_due [V.int (way : Nat), V.ref pm, V.ref pn, V.ref pp, V.ref W] ∧ H' = H ∧ (way = 2 → Mp n)) (fun N hN => ?_) ?_
    · refine ⟨_, rfl, rfl, _, rfl, bl2 (fun c => ⟨_, rfl, pn, n, rfl, SqT.of en, bn, fun b hb => ⟨_, rfl, bl2 (fun c' => ?_) (fun c' => ?_)⟩⟩) (fun c => bl2 (fun z => nomatch z) (fun _ => ?_))⟩
      · have c' : ¬ (b = true) := by simpa using c'
        have e2 := int_is (b := 2) c
        subst e2
        exact ⟨_, rfl, z2, fun r nr => q _ r ((L2.Same.refl H).new nr) nr (by rw [dueM_n mp (fun z => c' (hb.mpr z))]; exact upd_same)⟩
      · exact hN _ _ ⟨rfl, rfl, fun _ => hb.mp (by simpa using c')⟩
      · exact hN _ _ ⟨rfl, rfl, fun z => absurd z (int_not (b := 2) c)⟩
    rintro σ H' ⟨rfl, rfl, k2⟩
    dsimp only [tSeq]
    refine meetS (fun σ H1 => σ = L2.start n__law_due [V.int (way : Nat), V.ref pm, V.ref pn, V.ref pp, V.ref W] ∧ Same H' H1 ∧ (way = 1 ∨ way = 4 → FracP x y)) (fun N hN => ?_) ?_
    · refine ⟨_, rfl, z2, fun u nu => ?_⟩
      have s1 := (L2.Same.refl H').new (o := .tup [.int 1, .int 4]) nu
      refine ⟨u, _, rfl, .inr (SqT.of upd_same), rfl, rfl, _, rfl, ?_⟩
      dsimp only
      rw [if_neg Bool.false_ne_true, in_14 way hway]
      refine bl2 (fun c => ⟨_, rfl, pp, x, y, rfl, SqT.of (s1 _ _ ep), fun b hb => ⟨_, rfl, bl2 (fun c' => ?_) (fun c' => ?_)⟩⟩) (fun c => bl2 (fun z => nomatch z) (fun _ => ?_))
      · have c' : ¬ (b = true) := by simpa using c'
        refine ⟨_, rfl, z2, fun r nr => q _ r (s1.new nr) (s1.free nr) (by rw [dueM_f mp (of_decide_eq_true c) (fun z => c' (hb.mpr z))]; exact upd_same)⟩
      · exact hN _ _ ⟨rfl, s1, fun _ => hb.mp (by simpa using c')⟩
      · exact hN _ _ ⟨rfl, s1, fun z => absurd z (of_decide_eq_false c)⟩
    rintro σ H1 ⟨rfl, s1, k3⟩
    have eW1 := s1 _ _ eW
    dsimp only [tSeq, tAsg]
    refine ⟨_, rfl, W, _, _, _, rfl, rfl, SqL.of eW1, rfl, z2, fun a1 na1 => ?_⟩
    have s2 := (L2.Same.refl H1).new (o := .tup [.str t0, .int 0]) na1
    refine ⟨_, rfl, W, _, _, _, rfl, rfl, SqL.of (s2 _ _ eW1), rfl, z2, fun a2 na2 => ?_⟩
    have s3 := s2.new (o := .tup [.str t1, .int 2]) na2
    have ea1 : (L2.upd (L2.upd H1 a1 (.tup [.str t0, .int 0])) a2 (.tup [.str t1, .int 2])) a1 = some (.tup [.str t0, .int 0]) := ((L2.Same.refl _).new na2) _ _ upd_same
    refine ⟨z2, fun B0 nB0 => ?_⟩
    have s4 := s3.new (o := .lst [.ref a1, .ref a2]) nB0
    have s34 := (L2.Same.refl (L2.upd (L2.upd H1 a1 (.tup [.str t0, .int 0])) a2 (.tup [.str t1, .int 2]))).new (o := .lst [.ref a1, .ref a2]) nB0
    have P0 : Parts (L2.upd (L2.upd (L2.upd H1 a1 (.tup [.str t0, .int 0])) a2 (.tup [.str t1, .int 2])) B0 (.lst [.ref a1, .ref a2])) B0 [(a1, t0, 0), (a2, t1, 2)] := ⟨upd_same, by
      intro z hz
      simp only [List.mem_cons, List.not_mem_nil, or_false] at hz
      rcases hz with rfl | rfl
      · exact s34 _ _ ea1
      · exact s34 _ _ upd_same⟩
    refine ⟨B0, _, rfl, P0, by show 2 ≤ 10; decide, fun p hp => ?_, fun H5 r5 s5 nr5 od => ?_⟩
    · simp only [List.mem_cons, List.not_mem_nil, or_false] at hp
      rcases hp with rfl | rfl
      · exact ht t0 (by simp)
      · exact ht t1 (by simp)
    have s15 := s4.trans s5
    have sA := s1.trans s15
    have od : OddL H5 r5 (Fo [(t0, 0), (t1, 2)]) := od
    dsimp only [gName, tRet, tIf]
    refine ⟨_, rfl, rfl, _, rfl, bl2 (fun c => ?_) (fun c => bl2 (fun z => nomatch z) (fun _ => ?_))⟩
    · have e7 := int_is (b := 7) c
      subst e7
      refine ⟨_, rfl, sz (by show 0 ≤ 1000000; decide), fun u nu => ?_⟩
      have s6 := (L2.Same.refl H5).new (o := .lst []) nu
      have dq := dueM_7 (pm := pm) (pn := pn) (pp := pp) (n := n) (x := x) (y := y) (t0 := t0) (t1 := t1) mp
      cases e : Fo [(t0, 0), (t1, 2)] with
      | none =>
        rw [e] at od dq
        have od : H5 r5 = some (.lst []) := od
        refine ⟨.list [], .list [], .lst (SqL.of (s6 _ _ od)) .nil, .lst (SqL.of upd_same) .nil, rfl, rfl, _, rfl, bl2 (fun z => nomatch z) (fun _ => ?_)⟩
        refine ⟨sz (by show 0 ≤ 1000000; decide), fun r nr => ?_⟩
        exact q _ r ((sA.trans s6).new nr) ((sA.trans s6).free nr) (by rw [dq]; exact upd_same)
      | some t =>
        rw [e] at od dq
        have od : H5 r5 = some (.lst [.str t]) := od
        have lay : SeqAt.shaped (.list [.str t]) = true := by
          obtain ⟨z, hz, ez⟩ := fo_mem e
          simp only [List.mem_cons, List.not_mem_nil, or_false] at hz
          refine str_shaped ?_
          rw [← ez]
          rcases hz with rfl | rfl
          · exact (ht t0 (by simp)).2
          · exact (ht t1 (by simp)).2
        refine ⟨.list [.str t], .list [], .lst (SqL.of (s6 _ _ od)) (.cons (.str _) .nil), .lst (SqL.of upd_same) .nil, lay, rfl, _, rfl, bl2 (fun _ => ?_) (fun z => nomatch z)⟩
        refine ⟨_, rfl, r5, _, _, _, rfl, rfl, SqL.of (s6 _ _ od), rfl, z2, fun r nr => ?_⟩
        exact q _ r ((sA.trans s6).new nr) ((sA.trans s6).free nr) (by rw [dq]; exact upd_same)
    · refine ⟨sz (by show 0 ≤ 1000000; decide), fun r nr => ?_⟩
      have dq := dueM_no (pm := pm) (pn := pn) (pp := pp) (t0 := t0) (t1 := t1) mp (int_not (b := 7) c) k2 k3
      exact q _ r (sA.new nr) (sA.free nr) (by rw [dq]; exact upd_same)

/-! _law_coin -/
def sp__law_coin (K : PySem.W.Frag) : Sp := fun vs H Q _ => ∃ (a : Addr) (many : Int) (n : Nat), vs = [.ref a, .int many] ∧ 1 ≤ many ∧ many < 1073741824 ∧ n < 1000000000 ∧ Pu H a n ∧
  ∀ (r : Int) H', 0 ≤ r → r < many → Pu H' a (n + 1) → Kp a H H' → Q (.int r) H'
theorem ok__law_coin (T : Tx K mg) : FnOk P w K mg base CX0 1 T.a__law_coin T.fd__law_coin ["purse", "many"] (sp__law_coin K) := by
  refine T.F__law_coin.ok sc__law_coin (fun vs H Q E h => ?_) (fun cdv A outer s H vs Q E hr h => ?_)
  · obtain ⟨a, many, n, rfl, _⟩ := h
    rfl
  · obtain ⟨a, many, n, rfl, m1, m2, hn, ⟨p0, p1, p2, hp, g0, g1, g2, g3, g4⟩, q⟩ := h
    refine ⟨_, (pss_cons (ps_if (pt_cmpR op_gt (pe_ix ix_list (pv 0) pe_int (fun _ _ => rfl)) pe_int (nomark _)) (pss_cons (ps_set (i := 2) sc__law_coin.nd rfl (Or.inl rfl) (pe_op op_modN (pe_callTy call_int1 (by rfl) T.z_int (by decide +kernel) (pa_cons (pe_ix ix_list (pv 0) pe_int (fun _ _ => rfl)) pa_nil)) (pv 1)))
  (pss_cons (ps_asg (pe_op op_fdivL (pe_ix ix_list (pv 0) pe_int (fun _ _ => rfl)) (pv 1)) (pg_sub (pv 0) pe_int set_list))
  (pss_one (ps_ret (pv 2))))) pss_nil)
  (pss_cons (ps_asg (pe_op op_add (pe_ix ix_list (pv 0) pe_int (fun _ _ => rfl)) pe_int) (pg_sub (pv 0) pe_int set_list))
  (pss_cons (ps_set (i := 3) sc__law_coin.nd rfl (Or.inl rfl) (pe_op op_modN (pe_op op_powL (pe_callTy call_int1 (by rfl) T.z_int (by decide +kernel) (pa_cons (pe_op op_add (pe_ix ix_list (pv 0) pe_int (fun _ _ => rfl)) (pe_op op_mulL pe_int (pe_ix ix_list (pv 0) pe_int (fun _ _ => rfl)))) pa_nil)) pe_int) (pe_op op_add (pe_op op_powL pe_int pe_int) pe_int)))
  (pss_cons (ps_set (i := 3) sc__law_coin.nd rfl (Or.inl rfl) (pe_op op_modN (pe_op op_powL (pe_callTy call_int1 (by rfl) T.z_int (by decide +kernel) (pa_cons (pe_op op_add (pv 3) (pe_op op_mulL pe_int (pe_ix ix_list (pv 0) pe_int (fun _ _ => rfl)))) pa_nil)) pe_int) (pe_op op_add (pe_op op_powL pe_int pe_int) pe_int)))
  (pss_one (ps_ret (pe_op op_modN (pe_callTy call_int1 (by rfl) T.z_int (by decide +kernel) (pa_cons (pe_op op_fdivL (pv 3) pe_int) pa_nil)) (pv 1)))))))), ?_⟩
    have at0 {x y z : V} : atI [x, y, z] 0 = some x := rfl
    have at1 {x y z : V} : atI [x, y, z] 1 = some y := rfl
    have at2 {x y z : V} : atI [x, y, z] 2 = some z := rfl
    have mod_lo (x : Int) : 0 ≤ x.fmod many := by
      rw [Int.fmod_eq_emod_of_nonneg _ (by omega)]
      exact Int.emod_nonneg _ (by omega)
    have mod_hi (x : Int) : x.fmod many < many := by
      rw [Int.fmod_eq_emod_of_nonneg _ (by omega)]
      exact Int.emod_lt_of_pos _ (by omega)
    refine ⟨_, rfl, a, _, _, _, rfl, rfl, SqL.of hp, at0, _, _, rfl, rfl, _, rfl, ite2 (fun e => ?_) (fun e => ?_)⟩
    · refine ⟨_, rfl, a, _, _, _, rfl, rfl, SqL.of hp, at0, .inl ⟨_, rfl, _, rfl, _, _, rfl, rfl, (by show many ≠ 0; omega), ?_⟩⟩
      refine ⟨_, rfl, a, _, _, _, rfl, rfl, SqL.of hp, at0, _, rfl, _, _, rfl, rfl, .inl ⟨by omega, by omega⟩, _, rfl, a, _, _, 0, rfl, rfl, hp, rfl, ?_⟩
      refine ⟨_, rfl, q _ _ (mod_lo _) (mod_hi _) ⟨_, _, _, upd_same, ?_, g1, g2, g3, by omega⟩ (Kp.upd a H _)⟩
      rw [Int.fdiv_eq_ediv_of_nonneg _ (by omega)]
      exact Int.ediv_nonneg g0 (by omega)
    · -- purse[2] grows by one; what is stirred of it lies below 10 ** 24 + 7
      refine ⟨_, rfl, a, _, _, _, rfl, rfl, SqL.of hp, at2, _, _, rfl, rfl, _, rfl, a, _, _, 2, rfl, rfl, hp, rfl, ?_⟩
      have hp' : (upd H a (.lst [.int p0, .int p1, .int (p2 + 1)])) a = some (.lst [.int p0, .int p1, .int (p2 + 1)]) := upd_same
      have e25 : (10 : Int) ^ (25 : Int).toNat + 13 = 10000000000000000000000013 := by decide
      have e24 : (10 : Int) ^ (24 : Int).toNat + 7 = 1000000000000000000000007 := by decide
      have b1 : (p1 + 2038074743 * (p2 + 1)).natAbs < 2 ^ 100 := by
        have : (2 : Nat) ^ 100 = 1267650600228229401496703205376 := by decide
        have : (2 : Int) ^ 80 = 1208925819614629174706176 := by decide
        omega
      refine ⟨_, rfl, a, _, _, _, rfl, rfl, SqL.of hp', at1, _, rfl, a, _, _, _, rfl, rfl, SqL.of hp', at2, _, _, rfl, rfl, cml_l (by decide), _, _, rfl, rfl, .inl ⟨_, rfl, ?_⟩⟩
      refine ⟨_, _, rfl, rfl, cpw 100 b1 (by decide) (by decide), _, _, rfl, rfl, cpw 4 (by decide) (by decide) (by decide), _, _, rfl, rfl, _, _, rfl, rfl, (by show ((10 : Int) ^ (25 : Int).toNat + 13) ≠ 0; decide), ?_⟩
      have bs (x : Int) : (x.fmod (10 ^ (25 : Int).toNat + 13) + 982451653 * (p2 + 1)).natAbs < 2 ^ 100 := by
        rw [e25, Int.fmod_eq_emod_of_nonneg _ (by decide)]
        have h1 := Int.emod_nonneg x (show (10000000000000000000000013 : Int) ≠ 0 by decide)
        have h2 := Int.emod_lt_of_pos x (show (0 : Int) < 10000000000000000000000013 by decide)
        have : (2 : Nat) ^ 100 = 1267650600228229401496703205376 := by decide
        omega
      refine ⟨_, rfl, _, rfl, a, _, _, _, rfl, rfl, SqL.of hp', at2, _, _, rfl, rfl, cml_l (by decide), _, _, rfl, rfl, .inl ⟨_, rfl, ?_⟩⟩
      refine ⟨_, _, rfl, rfl, cpw 100 (bs _) (by decide) (by decide), _, _, rfl, rfl, cpw 4 (by decide) (by decide) (by decide), _, _, rfl, rfl, _, _, rfl, rfl, (by show ((10 : Int) ^ (24 : Int).toNat + 7) ≠ 0; decide), ?_⟩
      refine ⟨_, rfl, _, _, rfl, rfl, .inl ⟨by decide, by decide⟩, .inl ⟨_, rfl, _, rfl, _, _, rfl, rfl, (by show many ≠ 0; omega), ?_⟩⟩
      exact q _ _ (mod_lo _) (mod_hi _) ⟨_, _, _, hp', g0, g1, g2, by omega, by omega⟩ (Kp.upd a H _)

/-! _law_rt_low -/
def sp__law_rt_low (K : PySem.W.Frag) : Sp := fun vs H Q _ => ∃ (a : Addr) (l : List Int), vs = [.ref a] ∧ Sq K H a (l.map V.int) ∧ 0 < gl l ∧ Sml (gl l : Nat) ∧ l.length ≤ 100 ∧
  ∀ H' p, Same H H' → H p = none → H' p = some (.tup ((lowl l).map V.int)) → Q (.ref p) H'
theorem ok__law_rt_low (T : Tx K mg) : FnOk P w K mg base CX0 2 T.a__law_rt_low T.fd__law_rt_low ["numbers"] (sp__law_rt_low K) := by
  have G__law_rt_shared := ok__law_rt_shared (P := P) (w := w) (base := base) T
  refine T.F__law_rt_low.ok sc__law_rt_low (fun vs H Q E h => ?_) (fun cdv A outer s H vs Q E hr h => ?_)
  · obtain ⟨a, l, rfl, _⟩ := h
    rfl
  · obtain ⟨a, l, rfl, hs, g0, gs, hl, q⟩ := h
    refine ⟨_, (pss_cons (ps_set (i := 1) sc__law_rt_low.nd rfl (Or.inr rfl) (pe_call G__law_rt_shared (hr.mono (by decide)) (by rfl) T.g__law_rt_shared T.F__law_rt_shared.kp (b__law_rt_shared T.F__law_rt_shared) .nil pass0 (pa_cons (pv 0) pa_nil)))
  (pss_one (ps_ret (pe_callTy call_tuple_of (by rfl) T.z_tuple (by decide +kernel) (pa_cons (pe_lc (own := [("count", 2)]) (g := (gName 2)) (by rfl) sc__law_rt_low.nd (pi_seq (pv 0)) (blkOk_by (own := [("count", 2)]) (N := n__law_rt_low) (sc := defScope s__law_rt_low) (by decide +kernel)) (fun _ _ _ _ _ => (pg_name (i := 2) sc__law_rt_low.nd rfl (Or.inl rfl))) (fun _ _ _ _ _ => pts_nil) (fun _ _ _ _ _ => (pe_op op_fdivL (pv 2) (pv 1)))) pa_nil))))), ?_⟩
    refine ⟨_, rfl, a, l, rfl, hs, ?_⟩
    have key : ∀ i, i < l.length → (lowl l)[i]? = some (l[i]! / (gl l : Int)) := fun i hi => by
      unfold lowl
      rw [List.getElem?_map, List.getElem?_eq_getElem hi, getElem!_pos l i hi]
      rfl
    refine ⟨_, rfl, a, _, rfl, hs, fun J hJ D hD => lc_it hJ.walk (fun i H' => Same H H' ∧ H' D = some (.lst (((lowl l).take i).map V.int))) ⟨(L2.Same.refl H).new hD, upd_same⟩ (fun i H' _ hp => hp.1) ?_ ?_⟩
    · rintro i x H1 H2 hi ⟨sm, eD⟩ ⟨rfl, hx⟩
      rw [List.length_map] at hi
      rw [List.getElem?_map, List.getElem?_eq_getElem hi] at hx
      have ex := (Option.some.inj hx).symm
      subst ex
      refine ⟨rfl, ?_⟩
      refine iteT (B := Same H H2 ∧ H2 D = some (HO.lst (List.map V.int (List.take (i + 1) (lowl l))))) ?_
      refine ⟨_, rfl, _, rfl, _, _, rfl, rfl, .inr ⟨by omega, Nat.lt_trans gs.lg (by decide)⟩, _, eD, ?_, ?_, ?_⟩
      · rw [List.length_map, List.length_take]
        exact Nat.lt_of_le_of_lt (show min i (lowl l).length ≤ 100 by omega) (by decide)
      · exact fun b o z => by rw [upd_ne (ne_of_none z hD)]; exact sm b o z
      · rw [upd_same, List.take_add_one, key i hi, List.map_append, getElem!_pos l i hi]
        show some (HO.lst (_ ++ [V.int (l[i].fdiv (gl l : Int))])) = _
        rw [Int.fdiv_eq_ediv_of_nonneg _ (by omega)]
        rfl
    · rintro H2 ⟨sm, eD⟩
      have e : (lowl l).take (List.length (List.map V.int l)) = lowl l := List.take_of_length_le (by unfold lowl; simp)
      rw [e] at eD
      refine ⟨D, _, rfl, .inl ⟨SqL.of eD, fun t nt => ?_⟩⟩
      exact q _ t (sm.new nt) (sm.free nt) upd_same

/-! _law_rt_ends -/
def sp__law_rt_ends (K : PySem.W.Frag) : Sp := fun vs H Q _ => ∃ (w : List Bool), vs = [.str (rd w)] ∧
  ∀ H' p l h, Same H H' → H p = none → H' p = some (.tup [.ref l, .ref h]) → H' l = some (.tup [.int (mat w).b, .int (mat w).d]) → H' h = some (.tup [.int (mat w).a, .int (mat w).c]) → Q (.ref p) H'
theorem ok__law_rt_ends (T : Tx K mg) : FnOk P w K mg base CX0 1 T.a__law_rt_ends T.fd__law_rt_ends ["wording"] (sp__law_rt_ends K) := by
  refine T.F__law_rt_ends.ok sc__law_rt_ends (fun vs H Q E h => ?_) (fun cdv A outer s H vs Q E hr h => ?_)
  · obtain ⟨w, rfl, _⟩ := h
    rfl
  · obtain ⟨w, rfl, q⟩ := h
    refine ⟨_, (pss_cons (ps_asg (pe_tup (pa_cons (pe_tup (pa_cons pe_int (pa_cons pe_int pa_nil))) (pa_cons (pe_tup (pa_cons pe_int (pa_cons pe_int pa_nil))) pa_nil))) (pg_tup (by rfl) (pgs_cons (pg_name (i := 1) sc__law_rt_ends.nd rfl (Or.inl rfl)) (pgs_cons (pg_name (i := 2) sc__law_rt_ends.nd rfl (Or.inl rfl)) pgs_nil))))
  (pss_cons (ps_for PassesOwn.never rfl (pi_str (pv 0)) (pg_name (i := 3) sc__law_rt_ends.nd rfl (Or.inl rfl))
    (pss_cons (ps_set (i := 4) sc__law_rt_ends.nd rfl (Or.inl rfl) (pe_tup (pa_cons (pe_op op_add (pe_ix ix_tup (pv 1) pe_int (fun _ _ => rfl)) (pe_ix ix_tup (pv 2) pe_int (fun _ _ => rfl))) (pa_cons (pe_op op_add (pe_ix ix_tup (pv 1) pe_int (fun _ _ => rfl)) (pe_ix ix_tup (pv 2) pe_int (fun _ _ => rfl))) pa_nil))))
  (pss_one (ps_if (pt_cmpR op_eq (pv 3) pe_str (nomark _)) (pss_one (ps_set (i := 1) sc__law_rt_ends.nd rfl (Or.inl rfl) (pv 4))) (pss_one (ps_set (i := 2) sc__law_rt_ends.nd rfl (Or.inl rfl) (pv 4)))))))
  (pss_one (ps_ret (pe_tup (pa_cons (pv 1) (pa_cons (pv 2) pa_nil))))))), ?_⟩
    have z2 : ([.int 0, .int 1] : List V).length ≤ sizeLine := sz (by show 2 ≤ 1000000; decide)
    refine ⟨z2, fun l nl => ⟨z2, fun g ng => ⟨sz (by show 2 ≤ 1000000; decide), fun e ne => ⟨e, _, rfl, .inl (.inl upd_same), rfl, _, _, rfl, _, _, rfl, rfl, ?_⟩⟩⟩⟩
    have nlg : l ≠ g := ne_of_none upd_same ng
    have nge : g ≠ e := ne_of_none upd_same ne
    have nle : l ≠ e := ne_of_none (by rw [upd_ne nlg]; exact upd_same) ne
    refine ⟨_, rfl, rd w, rfl, for_rd (fun pre σ H2 => ∃ (l g : Addr) (x y : Option V), σ = [some (.str (rd w)), some (.ref l), some (.ref g), x, y] ∧ Same H H2 ∧ H2 l = some (.tup [.int (mat pre).b, .int (mat pre).d]) ∧ H2 g = some (.tup [.int (mat pre).a, .int (mat pre).c]))
      ⟨l, g, none, none, rfl, (((L2.Same.refl H).new nl).new ng).new ne, by rw [upd_ne nle, upd_ne nlg, upd_same]; rfl, by rw [upd_ne nge, upd_same]; rfl⟩ ?_ ?_⟩
    · rintro pre t post σ H2 ew ⟨l, g, x, y, rfl, sm, hl, hg⟩
      refine ⟨_, rfl, l, _, _, _, rfl, rfl, SqT.of hl, rfl, _, rfl, g, _, _, _, rfl, rfl, SqT.of hg, rfl, _, _, rfl, rfl, ?_⟩
      refine ⟨_, rfl, l, _, _, _, rfl, rfl, SqT.of hl, rfl, _, rfl, g, _, _, _, rfl, rfl, SqT.of hg, rfl, _, _, rfl, rfl, sz (by show 2 ≤ 1000000; decide), fun m nm => ?_⟩
      have lm : l ≠ m := ne_of_none hl nm
      have gm : g ≠ m := ne_of_none hg nm
      refine ⟨_, rfl, rfl, _, rfl, ?_⟩
      rw [eq_R]
      cases t
      · refine iteF ⟨_, rfl, l, m, _, _, rfl, sm.new nm, by rw [upd_ne lm, hl, mat_snoc]; rfl, ?_⟩
        rw [upd_same, mat_snoc]
        show some (HO.tup [V.int ((mat pre).b + (mat pre).a), V.int ((mat pre).d + (mat pre).c)]) = some (HO.tup [V.int ((mat pre).a + (mat pre).b), V.int ((mat pre).c + (mat pre).d)])
        rw [Int.add_comm (mat pre).b, Int.add_comm (mat pre).d]
      · refine iteT ⟨_, rfl, m, g, _, _, rfl, sm.new nm, ?_, by rw [upd_ne gm, hg, mat_snoc]; rfl⟩
        rw [upd_same, mat_snoc]
        show some (HO.tup [V.int ((mat pre).b + (mat pre).a), V.int ((mat pre).d + (mat pre).c)]) = some (HO.tup [V.int ((mat pre).a + (mat pre).b), V.int ((mat pre).c + (mat pre).d)])
        rw [Int.add_comm (mat pre).b, Int.add_comm (mat pre).d]
    · rintro σ H2 ⟨l, g, x, y, rfl, sm, hl, hg⟩
      refine ⟨_, rfl, _, rfl, sz (by show 2 ≤ 1000000; decide), fun p np => ?_⟩
      exact q _ p l g (sm.new np) (sm.free np) upd_same (by rw [upd_ne (ne_of_none hl np)]; exact hl) (by rw [upd_ne (ne_of_none hg np)]; exact hg)

/-! _law_rt_turns -/
def sp__law_rt_turns (K : PySem.W.Frag) : Sp := fun vs H Q _ => ∃ (w : List Bool), vs = [.str (rd w)] ∧
  ∀ H' p, Same H H' → H p = none → H' p = some (.tup ((mat w).l.map V.int)) → Q (.ref p) H'
theorem ok__law_rt_turns (T : Tx K mg) : FnOk P w K mg base CX0 2 T.a__law_rt_turns T.fd__law_rt_turns ["wording"] (sp__law_rt_turns K) := by
  have G__law_rt_ends := ok__law_rt_ends (P := P) (w := w) (base := base) T
  refine T.F__law_rt_turns.ok sc__law_rt_turns (fun vs H Q E h => ?_) (fun cdv A outer s H vs Q E hr h => ?_)
  · obtain ⟨w, rfl, _⟩ := h
    rfl
  · obtain ⟨w, rfl, q⟩ := h
    refine ⟨_, (pss_cons (ps_asg (pe_call G__law_rt_ends (hr.mono (by decide)) (by rfl) T.g__law_rt_ends T.F__law_rt_ends.kp (b__law_rt_ends T.F__law_rt_ends) .nil pass0 (pa_cons (pv 0) pa_nil)) (pg_tup (by rfl) (pgs_cons (pg_name (i := 1) sc__law_rt_turns.nd rfl (Or.inl rfl)) (pgs_cons (pg_name (i := 2) sc__law_rt_turns.nd rfl (Or.inl rfl)) pgs_nil))))
  (pss_one (ps_ret (pe_tup (pa_cons (pe_ix ix_tup (pv 2) pe_int (fun _ _ => rfl)) (pa_cons (pe_ix ix_tup (pv 1) pe_int (fun _ _ => rfl)) (pa_cons (pe_ix ix_tup (pv 2) pe_int (fun _ _ => rfl)) (pa_cons (pe_ix ix_tup (pv 1) pe_int (fun _ _ => rfl)) pa_nil)))))))), ?_⟩
    refine ⟨_, rfl, w, rfl, fun H1 e l g sm ne he hl hg => ?_⟩
    refine ⟨e, _, rfl, .inl (.inl he), rfl, _, _, rfl, _, _, rfl, rfl, ?_⟩
    refine ⟨_, rfl, g, _, _, _, rfl, rfl, SqT.of hg, rfl, _, rfl, l, _, _, _, rfl, rfl, SqT.of hl, rfl, _, rfl, g, _, _, _, rfl, rfl, SqT.of hg, rfl, _, rfl, l, _, _, _, rfl, rfl, SqT.of hl, rfl, sz (by show 4 ≤ 1000000; decide), fun p np => ?_⟩
    exact q _ p (sm.new np) (sm.free np) upd_same

/-! _law_rt_way -/
def sp__law_rt_way (K : PySem.W.Frag) : Sp := fun vs H Q _ => ∃ (a : Addr) (top : Int) (n : Nat), vs = [.ref a, .int top] ∧ 0 ≤ top ∧ top ≤ 1000 ∧ n < 900000000 ∧ Pu H a n ∧
  ∀ (w : List Bool) H', (w.length : Int) ≤ top → Pu H' a (n + 1002) → Kp a H H' → Q (.str (rd w)) H'
theorem ok__law_rt_way (T : Tx K mg) : FnOk P w K mg base CX0 2 T.a__law_rt_way T.fd__law_rt_way ["purse", "top"] (sp__law_rt_way K) := by
  have G__law_coin := ok__law_coin (P := P) (w := w) (base := base) T
  refine T.F__law_rt_way.ok sc__law_rt_way (fun vs H Q E h => ?_) (fun cdv A outer s H vs Q E hr h => ?_)
  · obtain ⟨a, top, n, rfl, _⟩ := h
    rfl
  · obtain ⟨a, top, n, rfl, t0, t1, hn, hp, q⟩ := h
    obtain ⟨t, rfl⟩ := nat_of t0
    refine ⟨_, (pss_cons (ps_set (i := 2) sc__law_rt_way.nd rfl (Or.inl rfl) pe_str)
  (pss_cons (ps_for PassesOwn.never rfl (pi_range1 (by rfl) T.z_range (pa_cons (pe_call G__law_coin (hr.mono (by decide)) (by rfl) T.g__law_coin T.F__law_coin.kp (b__law_coin T.F__law_coin) .nil pass0 (pa_cons (pv 0) (pa_cons (pe_op op_add (pv 1) pe_int) pa_nil))) pa_nil)) (pg_name (i := 3) sc__law_rt_way.nd rfl (Or.inl rfl))
    (pss_one (ps_set (i := 2) sc__law_rt_way.nd rfl (Or.inl rfl) (pe_op op_add_str (pv 2) (pe_ix ix_list (pe_lst (pa_cons pe_str (pa_cons pe_str (pa_cons pe_str (pa_cons pe_str (pa_cons pe_str (pa_cons pe_str (pa_cons pe_str pa_nil)))))))) (pe_call G__law_coin (hr.mono (by decide)) (by rfl) T.g__law_coin T.F__law_coin.kp (b__law_coin T.F__law_coin) .nil pass0 (pa_cons (pv 0) (pa_cons pe_int pa_nil))) (fun _ _ => rfl))))))
  (pss_one (ps_ret (pe_slice sl_str (pv 2) po_none (po_some (pv 1))))))), ?_⟩
    refine ⟨_, rfl, _, rfl, _, _, rfl, rfl, a, _, n, rfl, by omega, by omega, by omega, hp, fun r H1 r0 r1 hp1 k1 => ?_⟩
    refine ⟨r, rfl, by omega, by omega, for_range (lo := 0) (n := r.toNat)
      (fun i σ H2 => ∃ (w : List Bool) (x : Option V), σ = [some (.ref a), some (.int t), some (.str (rd w)), x] ∧ w.length ≤ 7 * i ∧ Pu H2 a (n + 1 + i) ∧ Kp a H H2) ⟨[], none, rfl, Nat.zero_le _, hp1, k1⟩ ?_ ?_⟩
    · rintro i σ H2 hi ⟨w, x, rfl, hw, hp2, k2⟩
      refine ⟨_, rfl, sz (by show 7 ≤ 1000000; decide), fun p np => ?_⟩
      refine ⟨_, rfl, a, _, n + 1 + i, rfl, by decide, by decide, by omega, hp2.new np, fun r' H3 r0' r1' hp3 k3 => ?_⟩
      obtain ⟨u, hu, eu⟩ := wayMenu_at r0' r1'
      have e3 : H3 p = some (.lst wayMenu) := k3 p _ (hp2.ne np).symm upd_same
      refine ⟨p, wayMenu, r', _, rfl, rfl, SqL.of e3, eu, _, _, rfl, rfl, rd_app_len (by omega), ?_⟩
      rw [rd_app]
      refine ⟨w ++ u, _, rfl, ?_, hp3, (k2.new np).trans k3⟩
      rw [List.length_append]
      omega
    · rintro σ H2 ⟨w, x, rfl, hw, hp2, k2⟩
      refine ⟨_, rfl, _, rfl, _, rfl, rd w, rfl, (by rw [rd_len]; exact sz (by omega)), ?_⟩
      show Q (.str (cutS (rd w) none (some (t : Int)))) H2
      rw [cut_take]
      exact q _ _ (by rw [List.length_take]; omega) (hp2.le (by omega)) k2

/-! _law_rt_times -/
def sp__law_rt_times (K : PySem.W.Frag) : Sp := fun vs H Q _ => ∃ (x y : Addr) (m n : M4) (k : Nat), vs = [.ref x, .ref y] ∧ SqT K H x (m.l.map V.int) ∧ SqT K H y (n.l.map V.int) ∧ k ≤ 1900 ∧ (∀ i ∈ m.l, Bd k i) ∧ (∀ i ∈ n.l, Bd k i) ∧
  ∀ H' p, Same H H' → H p = none → H' p = some (.tup ((m.mul n).l.map V.int)) → Q (.ref p) H'
theorem ok__law_rt_times (T : Tx K mg) : FnOk P w K mg base CX0 1 T.a__law_rt_times T.fd__law_rt_times ["left", "right"] (sp__law_rt_times K) := by
  refine T.F__law_rt_times.ok sc__law_rt_times (fun vs H Q E h => ?_) (fun cdv A outer s H vs Q E hr h => ?_)
  · obtain ⟨x, y, m, n, k, rfl, _⟩ := h
    rfl
  · obtain ⟨x, y, m, n, k, rfl, hx, hy, hk, bm, bn, q⟩ := h
    refine ⟨_, (pss_cons (ps_asg (pv 0) (pg_tup (by rfl) (pgs_cons (pg_name (i := 2) sc__law_rt_times.nd rfl (Or.inl rfl)) (pgs_cons (pg_name (i := 3) sc__law_rt_times.nd rfl (Or.inl rfl)) (pgs_cons (pg_name (i := 4) sc__law_rt_times.nd rfl (Or.inl rfl)) (pgs_cons (pg_name (i := 5) sc__law_rt_times.nd rfl (Or.inl rfl)) pgs_nil))))))
  (pss_cons (ps_asg (pv 1) (pg_tup (by rfl) (pgs_cons (pg_name (i := 6) sc__law_rt_times.nd rfl (Or.inl rfl)) (pgs_cons (pg_name (i := 7) sc__law_rt_times.nd rfl (Or.inl rfl)) (pgs_cons (pg_name (i := 8) sc__law_rt_times.nd rfl (Or.inl rfl)) (pgs_cons (pg_name (i := 9) sc__law_rt_times.nd rfl (Or.inl rfl)) pgs_nil))))))
  (pss_one (ps_ret (pe_tup (pa_cons (pe_op op_add (pe_op op_mulL (pv 2) (pv 6)) (pe_op op_mulL (pv 3) (pv 8))) (pa_cons (pe_op op_add (pe_op op_mulL (pv 2) (pv 7)) (pe_op op_mulL (pv 3) (pv 9))) (pa_cons (pe_op op_add (pe_op op_mulL (pv 4) (pv 6)) (pe_op op_mulL (pv 5) (pv 8))) (pa_cons (pe_op op_add (pe_op op_mulL (pv 4) (pv 7)) (pe_op op_mulL (pv 5) (pv 9))) pa_nil))))))))), ?_⟩
    have ba := bm m.a (by simp [M4.l])
    have bb := bm m.b (by simp [M4.l])
    have bc := bm m.c (by simp [M4.l])
    have bd := bm m.d (by simp [M4.l])
    have ca := bn n.a (by simp [M4.l])
    have cb := bn n.b (by simp [M4.l])
    have cc := bn n.c (by simp [M4.l])
    have cd := bn n.d (by simp [M4.l])
    refine ⟨_, rfl, x, _, rfl, hx, rfl, _, _, rfl, _, _, rfl, _, _, rfl, _, _, rfl, rfl, ?_⟩
    refine ⟨_, rfl, y, _, rfl, hy, rfl, _, _, rfl, _, _, rfl, _, _, rfl, _, _, rfl, rfl, ?_⟩
    refine ⟨_, rfl, _, rfl, _, _, rfl, rfl, ba.ml ca hk hk, _, rfl, _, rfl, _, _, rfl, rfl, bb.ml cc hk hk, _, _, rfl, rfl, ?_⟩
    refine ⟨_, rfl, _, rfl, _, _, rfl, rfl, ba.ml cb hk hk, _, rfl, _, rfl, _, _, rfl, rfl, bb.ml cd hk hk, _, _, rfl, rfl, ?_⟩
    refine ⟨_, rfl, _, rfl, _, _, rfl, rfl, bc.ml ca hk hk, _, rfl, _, rfl, _, _, rfl, rfl, bd.ml cc hk hk, _, _, rfl, rfl, ?_⟩
    refine ⟨_, rfl, _, rfl, _, _, rfl, rfl, bc.ml cb hk hk, _, rfl, _, rfl, _, _, rfl, rfl, bd.ml cd hk hk, _, _, rfl, rfl, sz (by show 4 ≤ 1000000; decide), fun p np => ?_⟩
    exact q _ p ((L2.Same.refl H).new np) np upd_same

/-! _law_rt_map -/
def sp__law_rt_map (K : PySem.W.Frag) : Sp := fun vs H Q _ => ∃ (a : Addr) (top : Int) (n : Nat), vs = [.ref a, .int top] ∧ 1 ≤ top ∧ top ≤ 12 ∧ n < 800000000 ∧ Pu H a n ∧
  ∀ (m : M4) H' p, Mp m → Le 60 m → m.det.natAbs ≤ top.toNat → Pu H' a (n + 3000) → Kp a H H' → H p = none → H' p = some (.tup (m.l.map V.int)) → Q (.ref p) H'
structure Pm (top : Int) (m : M4) : Prop where
  nn : Nn m
  le : Le 60 m
  d0 : m.det ≠ 0
  dt : m.det.natAbs ≤ top.toNat
theorem pm_diag {top up down x : Int} (t : top ≤ 12) (u : 1 ≤ up) (d : 1 ≤ down) (h : up * down ≤ top) (x0 : 0 ≤ x) (x1 : x ≤ 60) : Pm top ⟨up, x, 0, down⟩ := by
  have h1 : up * 1 ≤ up * down := Int.mul_le_mul_of_nonneg_left d (by omega)
  have h2 : 1 * down ≤ up * down := Int.mul_le_mul_of_nonneg_right u (by omega)
  have e : (M4.mk up x 0 down).det = up * down := by
    show up * down - x * 0 = _
    omega
  refine ⟨⟨by show 0 ≤ up; omega, x0, Int.le_refl 0, by show 0 ≤ down; omega⟩, ⟨by show up ≤ 60; omega, x1, by show (0 : Int) ≤ 60; decide, by show down ≤ 60; omega⟩, ?_, ?_⟩
  · rw [e]
    omega
  · rw [e]
    omega
theorem pm_mul {top : Int} {m : M4} (h : Pm top m) (w : List Bool) (l : Bool) (le : Le 60 (if l then (mat w).mul m else m.mul (mat w))) : Pm top (if l then (mat w).mul m else m.mul (mat w)) := by
  have e : (if l then (mat w).mul m else m.mul (mat w)).det = m.det := by
    cases l
    · show (m.mul (mat w)).det = _
      rw [M4.det_mul, mat_det]
      omega
    · show ((mat w).mul m).det = _
      rw [M4.det_mul, mat_det]
      omega
  refine ⟨?_, le, by rw [e]; exact h.d0, by rw [e]; exact h.dt⟩
  cases l
  · exact mul_nn h.nn (mat_nn w)
  · exact mul_nn (mat_nn w) h.nn
theorem pm_col {top : Int} {m : M4} (h : Pm top m) : Pm top ⟨m.b, m.a, m.d, m.c⟩ := by
  have e : (M4.mk m.b m.a m.d m.c).det = - m.det := by
    show m.b * m.c - m.a * m.d = -(m.a * m.d - m.b * m.c)
    omega
  exact ⟨⟨h.nn.b, h.nn.a, h.nn.d, h.nn.c⟩, ⟨h.le.b, h.le.a, h.le.d, h.le.c⟩, by rw [e]; have := h.d0; omega, by rw [e, Int.natAbs_neg]; exact h.dt⟩
theorem pm_row {top : Int} {m : M4} (h : Pm top m) : Pm top ⟨m.c, m.d, m.a, m.b⟩ := by
  have e : (M4.mk m.c m.d m.a m.b).det = - m.det := by
    show m.c * m.b - m.d * m.a = -(m.a * m.d - m.b * m.c)
    rw [Int.mul_comm m.c m.b, Int.mul_comm m.d m.a]
    omega
  exact ⟨⟨h.nn.c, h.nn.d, h.nn.a, h.nn.b⟩, ⟨h.le.c, h.le.d, h.le.a, h.le.b⟩, by rw [e]; have := h.d0; omega, by rw [e, Int.natAbs_neg]; exact h.dt⟩
/-- what holds between the steps of the drawing -/
def Pq (H : Hp) (a : Addr) (top : Int) (n : Nat) (v : Option V) (H2 : Hp) : Prop := ∃ (p : Addr) (m : M4), v = some (.ref p) ∧ H2 p = some (.tup (m.l.map V.int)) ∧ Pm top m ∧ Pu H2 a n ∧ Kp a H H2
theorem Pq.le {H H2 : Hp} {a : Addr} {top : Int} {n k : Nat} {v : Option V} (h : Pq H a top n v H2) (l : n ≤ k) : Pq H a top k v H2 := by
  obtain ⟨p, m, e, hp, pm, pu, kp⟩ := h
  exact ⟨p, m, e, hp, pm, pu.le l, kp⟩
theorem tup_ne {H : Hp} {a p : Addr} {n : Nat} {xs : List V} (h : Pu H a n) (hp : H p = some (.tup xs)) : p ≠ a := by
  rintro rfl
  obtain ⟨_, _, _, h1, _⟩ := h
  rw [hp] at h1
  cases h1
theorem ok__law_rt_map (T : Tx K mg) : FnOk P w K mg base CX0 3 T.a__law_rt_map T.fd__law_rt_map ["purse", "top"] (sp__law_rt_map K) := by
  have G__law_coin := ok__law_coin (P := P) (w := w) (base := base) T
  have G__law_rt_low := ok__law_rt_low (P := P) (w := w) (base := base) T
  have G__law_rt_turns := ok__law_rt_turns (P := P) (w := w) (base := base) T
  have G__law_rt_way := ok__law_rt_way (P := P) (w := w) (base := base) T
  have G__law_rt_times := ok__law_rt_times (P := P) (w := w) (base := base) T
  have G__law_rt_size := ok__law_rt_size (P := P) (w := w) (base := base) T
  refine T.F__law_rt_map.ok sc__law_rt_map (fun vs H Q E h => ?_) (fun cdv A outer s H vs Q E hr h => ?_)
  · obtain ⟨a, top, n, rfl, _⟩ := h
    rfl
  · obtain ⟨a, top, n, rfl, t0, t1, hn, hp, q⟩ := h
    refine ⟨_, (pss_cons (ps_set (i := 2) sc__law_rt_map.nd rfl (Or.inl rfl) (pe_call G__law_coin (hr.mono (by decide)) (by rfl) T.g__law_coin T.F__law_coin.kp (b__law_coin T.F__law_coin) .nil pass0 (pa_cons (pv 0) (pa_cons pe_int pa_nil))))
  (pss_cons (ps_for PassesOwn.never rfl (pi_range1 (by rfl) T.z_range (pa_cons (pe_op op_mulL pe_int (pe_callTy call_int1 (by rfl) T.z_int (by decide +kernel) (pa_cons (pe_cmpR op_eq (pv 2) pe_int (nomark _)) pa_nil))) pa_nil)) (pg_name (i := 3) sc__law_rt_map.nd rfl (Or.inl rfl))
    (pss_cons (ps_setLc (i := 5) (own := [("spot", 4)]) (g := (gName 4)) (by rfl) sc__law_rt_map.nd rfl rfl (sw_true rfl rfl rfl (by decide +kernel)) (pi_range1 (by rfl) T.z_range (pa_cons pe_int pa_nil)) (blkOk_by (own := [("spot", 4)]) (N := n__law_rt_map) (sc := defScope s__law_rt_map) (by decide +kernel)) (fun _ _ _ _ _ => (pg_name (i := 4) sc__law_rt_map.nd rfl (Or.inl rfl))) (fun _ _ _ _ _ => pts_nil) (fun _ _ _ _ _ => (pe_call G__law_coin (hr.mono (by decide)) (by rfl) T.g__law_coin T.F__law_coin.kp (b__law_coin T.F__law_coin) .nil pass0 (pa_cons (pv 0) (pa_cons pe_int pa_nil)))))
  (pss_one (ps_if (pt_chain op_lt op_le pe_int (pe_callB call_abs (by rfl) T.z_abs (by decide +kernel) (pa_cons (pe_call G__law_rt_size (hr.mono (by decide)) (by rfl) T.g__law_rt_size T.F__law_rt_size.kp (b__law_rt_size T.F__law_rt_size) .nil pass0 (pa_cons (pv 5) pa_nil)) pa_nil)) (pv 1)) (pss_one (ps_ret (pe_call G__law_rt_low (hr.mono (by decide)) (by rfl) T.g__law_rt_low T.F__law_rt_low.kp (b__law_rt_low T.F__law_rt_low) .nil pass0 (pa_cons (pv 5) pa_nil)))) pss_nil))))
  (pss_cons (ps_set (i := 6) sc__law_rt_map.nd rfl (Or.inl rfl) (pe_op op_add pe_int (pe_call G__law_coin (hr.mono (by decide)) (by rfl) T.g__law_coin T.F__law_coin.kp (b__law_coin T.F__law_coin) .nil pass0 (pa_cons (pv 0) (pa_cons (pv 1) pa_nil)))))
  (pss_cons (ps_set (i := 7) sc__law_rt_map.nd rfl (Or.inl rfl) (pe_op op_add pe_int (pe_call G__law_coin (hr.mono (by decide)) (by rfl) T.g__law_coin T.F__law_coin.kp (b__law_coin T.F__law_coin) .nil pass0 (pa_cons (pv 0) (pa_cons (pe_op op_fdivL (pv 1) (pv 6)) pa_nil)))))
  (pss_cons (ps_set (i := 8) sc__law_rt_map.nd rfl (Or.inl rfl) (pe_tup (pa_cons (pv 6) (pa_cons pe_int (pa_cons pe_int (pa_cons (pv 7) pa_nil))))))
  (pss_cons (ps_set (i := 9) sc__law_rt_map.nd rfl (Or.inl rfl) (pe_ifExp (pt_cmpR op_eq (pv 2) pe_int (nomark _)) (pe_tup (pa_cons (pv 6) (pa_cons (pe_call G__law_coin (hr.mono (by decide)) (by rfl) T.g__law_coin T.F__law_coin.kp (b__law_coin T.F__law_coin) .nil pass0 (pa_cons (pv 0) (pa_cons pe_int pa_nil))) (pa_cons pe_int (pa_cons (pv 7) pa_nil))))) (pv 8)))
  (pss_cons (ps_for PassesOwn.never rfl (pi_range1 (by rfl) T.z_range (pa_cons (pe_op op_mulL pe_int (pe_callTy call_int1 (by rfl) T.z_int (by decide +kernel) (pa_cons (pe_cmpR op_gt (pv 2) pe_int (nomark _)) pa_nil))) pa_nil)) (pg_name (i := 3) sc__law_rt_map.nd rfl (Or.inl rfl))
    (pss_cons (ps_set (i := 10) sc__law_rt_map.nd rfl (Or.inl rfl) (pe_call G__law_rt_turns (hr.mono (by decide)) (by rfl) T.g__law_rt_turns T.F__law_rt_turns.kp (b__law_rt_turns T.F__law_rt_turns) .nil pass0 (pa_cons (pe_call G__law_rt_way (hr.mono (by decide)) (by rfl) T.g__law_rt_way T.F__law_rt_way.kp (b__law_rt_way T.F__law_rt_way) .nil pass0 (pa_cons (pv 0) (pa_cons (pe_ix ix_list (pe_lst (pa_cons pe_int (pa_cons pe_int pa_nil))) (pe_call G__law_coin (hr.mono (by decide)) (by rfl) T.g__law_coin T.F__law_coin.kp (b__law_coin T.F__law_coin) .nil pass0 (pa_cons (pv 0) (pa_cons pe_int pa_nil))) (fun _ _ => rfl)) pa_nil))) pa_nil)))
  (pss_cons (ps_set (i := 11) sc__law_rt_map.nd rfl (Or.inl rfl) (pe_ifExp (pt_cmpR op_eq (pv 3) pe_int (nomark _)) (pe_call G__law_rt_times (hr.mono (by decide)) (by rfl) T.g__law_rt_times T.F__law_rt_times.kp (b__law_rt_times T.F__law_rt_times) .nil pass0 (pa_cons (pv 10) (pa_cons (pv 9) pa_nil))) (pe_call G__law_rt_times (hr.mono (by decide)) (by rfl) T.g__law_rt_times T.F__law_rt_times.kp (b__law_rt_times T.F__law_rt_times) .nil pass0 (pa_cons (pv 9) (pa_cons (pv 10) pa_nil)))))
  (pss_one (ps_if (pt_cmpR op_le (pe_callB (cr_maxT hr) (by rfl) T.z_max (by decide +kernel) (pa_cons (pv 11) pa_nil)) pe_int (nomark _)) (pss_one (ps_set (i := 9) sc__law_rt_map.nd rfl (Or.inl rfl) (pv 11))) pss_nil)))))
  (pss_cons (ps_if (pt_cmpR op_eq (pe_call G__law_coin (hr.mono (by decide)) (by rfl) T.g__law_coin T.F__law_coin.kp (b__law_coin T.F__law_coin) .nil pass0 (pa_cons (pv 0) (pa_cons pe_int pa_nil))) pe_int (nomark _)) (pss_one (ps_set (i := 9) sc__law_rt_map.nd rfl (Or.inl rfl) (pe_tup (pa_cons (pe_ix ix_tup (pv 9) pe_int (fun _ _ => rfl)) (pa_cons (pe_ix ix_tup (pv 9) pe_int (fun _ _ => rfl)) (pa_cons (pe_ix ix_tup (pv 9) pe_int (fun _ _ => rfl)) (pa_cons (pe_ix ix_tup (pv 9) pe_int (fun _ _ => rfl)) pa_nil))))))) pss_nil)
  (pss_cons (ps_if (pt_cmpR op_eq (pe_call G__law_coin (hr.mono (by decide)) (by rfl) T.g__law_coin T.F__law_coin.kp (b__law_coin T.F__law_coin) .nil pass0 (pa_cons (pv 0) (pa_cons pe_int pa_nil))) pe_int (nomark _)) (pss_one (ps_set (i := 9) sc__law_rt_map.nd rfl (Or.inl rfl) (pe_tup (pa_cons (pe_ix ix_tup (pv 9) pe_int (fun _ _ => rfl)) (pa_cons (pe_ix ix_tup (pv 9) pe_int (fun _ _ => rfl)) (pa_cons (pe_ix ix_tup (pv 9) pe_int (fun _ _ => rfl)) (pa_cons (pe_ix ix_tup (pv 9) pe_int (fun _ _ => rfl)) pa_nil))))))) pss_nil)
  (pss_one (ps_ret (pe_call G__law_rt_low (hr.mono (by decide)) (by rfl) T.g__law_rt_low T.F__law_rt_low.kp (b__law_rt_low T.F__law_rt_low) .nil pass0 (pa_cons (pv 9) pa_nil))))))))))))), ?_⟩
    refine ⟨_, rfl, a, 4, n, rfl, by decide, by decide, by omega, hp, fun st H1 s0 s1 hp1 k1 => ?_⟩
    refine ⟨_, rfl, rfl, .inr ⟨_, rfl, _, _, rfl, rfl, cml_l (by decide), _, rfl, ?_, ?_, for_range (lo := 0)
      (fun i σ H2 => ∃ (x y z : Option V), σ = [some (.ref a), some (.int top), some (.int st), x, y, z, none, none, none, none, none, none] ∧ Pu H2 a (n + 1 + 4 * i) ∧ Kp a H H2) ⟨none, none, none, rfl, hp1, k1⟩ ?_ ?_⟩⟩
    · split <;> decide
    · split <;> decide
    · rintro i σ H2 hi ⟨x, y, z, rfl, hp2, k2⟩
      have i5 : i < 5 := by
        revert hi
        split <;> intro hi <;> omega
      refine ⟨4, rfl, by decide, by decide, fun D hD => lc_range (lo := 0) (n := 4) (Cs H2 a D (n + 1 + 4 * i) 9) (cs_start hD hp2) ?_ ?_⟩
      · intro j H3 hj c
        refine ⟨rfl, ?_⟩
        refine iteT (B := Cs H2 a D (n + 1 + 4 * i) 9 (j + 1) H3) ?_
        refine ⟨_, rfl, a, 9, n + 1 + 4 * i + j, rfl, by decide, by decide, by omega, c.pu, fun r' H4 r0' r1' hp4 k4 => ?_⟩
        exact cs_step c (by omega) hD hp2 hp4 k4 r0' r1'
      · intro H3 c
        obtain ⟨m, mn, ml, e3, hp3, k3⟩ := cs_four c
        have bm := bd4 (k := 30) mn ml (by decide)
        have ba := bm m.a (by simp [M4.l])
        have bb := bm m.b (by simp [M4.l])
        have bc := bm m.c (by simp [M4.l])
        have bd := bm m.d (by simp [M4.l])
        refine ⟨_, rfl, D, m, rfl, .inl (SqL.of e3), ⟨ba.sml, bb.sml⟩, ⟨bc.sml, bd.sml⟩, _, rfl, _, _, rfl, rfl, _, rfl, bl2 (fun h => ?_) (fun h => ?_)⟩
        · have h0 : m.det ≠ 0 := by
            have h1 := of_decide_eq_true h
            split at h1 <;> omega
          refine ⟨_, rfl, _, _, rfl, rfl, _, rfl, bl2 (fun h => ?_) (fun h => ?_)⟩
          · have h2 : m.det.natAbs ≤ top.toNat := by
              have h1 := of_decide_eq_true h
              split at h1 <;> omega
            refine ⟨_, rfl, D, m.l, rfl, .inl (SqL.of e3), det_pos_gl h0, (det_gl h0 bm).sml, by show 4 ≤ 100; decide, fun H4 p sm np e4 => ?_⟩
            rw [← low_l] at e4
            refine q m.low H4 p (low_mp mn h0) ?_ (Nat.le_trans (low_det_le h0) h2) ((hp3.le (by omega)).same sm) ((k2.trans k3).trans (Kp.of sm)) ((k2.trans k3).free hp3 np) e4
            have := low_le mn ml
            exact ⟨by have := this.a; omega, by have := this.b; omega, by have := this.c; omega, by have := this.d; omega⟩
          · exact ⟨_, _, _, rfl, hp3.le (by omega), k2.trans k3⟩
        · exact ⟨_, rfl, iteF ⟨_, _, _, rfl, hp3.le (by omega), k2.trans k3⟩⟩
    · rintro σ H2 ⟨x, y, z, rfl, hp2, k2⟩
      have hp2 := hp2.le (show _ ≤ n + 21 by split <;> omega)
      refine ⟨_, rfl, _, rfl, a, top, n + 21, rfl, t0, by omega, by omega, hp2, fun u H3 u0 u1 hp3 k3 => ?_⟩
      refine ⟨_, _, rfl, rfl, ?_⟩
      have f1 : (1 + u) * (top.fdiv (1 + u)) ≤ top ∧ 1 ≤ top.fdiv (1 + u) ∧ top.fdiv (1 + u) ≤ 12 := by
        rw [Int.fdiv_eq_ediv_of_nonneg _ (by omega)]
        refine ⟨Int.mul_ediv_self_le (by omega), (Int.le_ediv_iff_mul_le (by omega)).mpr (by omega), ?_⟩
        have := Int.ediv_le_self (1 + u) (show 0 ≤ top by omega)
        omega
      obtain ⟨f1, f2, f3⟩ := f1
      refine ⟨_, rfl, _, rfl, _, rfl, _, _, rfl, rfl, .inl ⟨by omega, by omega⟩, a, _, n + 22, rfl, f2, by omega, by omega, hp3, fun d H4 d0 d1 hp4 k4 => ?_⟩
      refine ⟨_, _, rfl, rfl, ?_⟩
      have ud : (1 + u) * (1 + d) ≤ top := Int.le_trans (Int.mul_le_mul_of_nonneg_left (by omega) (by omega)) f1
      have k4' : Kp a H H4 := (k2.trans k3).trans k4
      refine ⟨_, rfl, _, rfl, sz (by show 4 ≤ 1000000; decide), fun p8 np8 => ?_⟩
      refine ⟨_, rfl, rfl, _, rfl, meetE (fun v H' => Pq H a top (n + 24) (some v) H') (fun _ R h => ?_) (fun _ R h => ?_) (fun v H5 pq => ?_)⟩
      · refine ⟨_, rfl, _, rfl, a, 61, n + 23, rfl, by decide, by decide, by omega, hp4.new np8, fun x' H5 x0 x1 hp5 k5 => ?_⟩
        refine ⟨_, rfl, sz (by show 4 ≤ 1000000; decide), fun p np => ?_⟩
        exact h _ _ ⟨p, ⟨1 + u, x', 0, 1 + d⟩, rfl, upd_same, pm_diag t1 (by omega) (by omega) ud x0 (by omega), hp5.new np, ((k4'.new np8).trans k5).new np⟩
      · exact ⟨_, rfl, h _ _ ⟨p8, ⟨1 + u, 0, 0, 1 + d⟩, rfl, upd_same, pm_diag t1 (by omega) (by omega) ud (by decide) (by decide), (hp4.new np8).le (by omega), k4'.new np8⟩⟩
      · refine ⟨_, rfl, _, _, rfl, rfl, .inr ⟨_, rfl, _, _, rfl, rfl, cml_l (by decide), _, rfl, ?_, ?_, for_range (lo := 0)
          (fun i σ H2 => ∃ (v x y z x10 x11 : Option V), σ = [some (.ref a), some (.int top), some (.int st), x, y, z, some (.int (1 + u)), some (.int (1 + d)), some (.ref p8), v, x10, x11] ∧ Pq H a top (n + 24 + 1003 * i) v H2) ⟨_, _, _, _, _, _, rfl, pq⟩ ?_ ?_⟩⟩
        · split <;> decide
        · split <;> decide
        · rintro i σ H2 hi ⟨v, x, y, z, x10, x11, rfl, pq⟩
          have i2 : i < 2 := by
            revert hi
            split <;> intro hi <;> omega
          obtain ⟨p9, m, rfl, e9, pm, hp6, k6⟩ := pq
          refine ⟨_, rfl, sz (by show 2 ≤ 1000000; decide), fun p0 np0 => ?_⟩
          refine ⟨_, rfl, a, 2, n + 24 + 1003 * i, rfl, by decide, by decide, by omega, hp6.new np0, fun r H7 r0 r1 hp7 k7 => ?_⟩
          have e1 : H7 p0 = some (.lst [.int 4, .int 8]) := k7 p0 _ (hp6.ne np0).symm upd_same
          obtain ⟨t, ht, et⟩ := menu_at (l := [4, 8]) r0 r1
          have t1 : 4 ≤ t ∧ t ≤ 8 := by
            simp only [List.mem_cons, List.not_mem_nil, or_false] at ht
            rcases ht with rfl | rfl <;> decide
          refine ⟨p0, _, r, _, rfl, rfl, SqL.of e1, et, ?_⟩
          refine ⟨a, t, n + 24 + 1003 * i + 1, rfl, by omega, by omega, by omega, hp7, fun w H8 hw hp8 k8 => ?_⟩
          have hw8 : w.length ≤ 8 := by omega
          refine ⟨w, rfl, fun H9 p10 sm9 np10 e10 => ?_⟩
          have k9 : Kp a (L2.upd _ p0 (.lst [.int 4, .int 8])) H9 := (k7.trans k8).trans (Kp.of sm9)
          have k9' := ((Kp.refl a _).new np0).trans k9
          have e9' := k9' _ _ (tup_ne hp6 e9) e9
          have k69 := k6.trans k9'
          have bw := bd_mat hw8
          have bm := bd4 (k := 9) pm.nn pm.le (by decide)
          refine ⟨_, rfl, rfl, _, rfl, meetE (fun v H' => ∃ (p : Addr) (l : Bool) (m' : M4), v = .ref p ∧ m' = (if l then (mat w).mul m else m.mul (mat w)) ∧ H' p = some (.tup (m'.l.map V.int)) ∧ Same H9 H') (fun _ R h => ?_) (fun _ R h => ?_) (fun v HA pq => ?_)⟩
          · refine ⟨_, rfl, _, rfl, p10, p9, mat w, m, 9, rfl, SqT.of e10, SqT.of e9', by decide, bw, bm, fun HA pA smA npA eA => ?_⟩
            exact h _ _ ⟨pA, true, _, rfl, rfl, eA, smA⟩
          · refine ⟨_, rfl, _, rfl, p9, p10, m, mat w, 9, rfl, SqT.of e9', SqT.of e10, by decide, bm, bw, fun HA pA smA npA eA => ?_⟩
            exact h _ _ ⟨pA, false, _, rfl, rfl, eA, smA⟩
          · obtain ⟨pA, l, m', rfl, em, eA, smA⟩ := pq
            have hpA : Pu HA a (n + 24 + 1003 * (i + 1)) := ((hp8.same sm9).same smA).le (by omega)
            have kA := k69.trans (Kp.of smA)
            refine ⟨_, rfl, pA, m'.a, [m'.b, m'.c, m'.d], rfl, SqT.of eA, by show 3 ≤ 100; decide, fun mx h1 h2 => ?_⟩
            refine ⟨_, _, rfl, rfl, _, rfl, bl2 (fun hx => ?_) (fun hx => ?_)⟩
            · have hx := of_decide_eq_true hx
              have g := fun y hy => Int.le_trans (h2 y hy) hx
              have le : Le 60 m' := ⟨g _ (by simp), g _ (by simp), g _ (by simp), g _ (by simp)⟩
              have pm' : Pm top m' := by
                rw [em] at le ⊢
                exact pm_mul pm w l le
              exact ⟨_, rfl, _, _, _, _, _, _, rfl, pA, m', rfl, eA, pm', hpA, kA⟩
            · exact ⟨_, _, _, _, _, _, rfl, p9, m, rfl, smA _ _ e9', pm, hpA, kA⟩
        · rintro σ H6 ⟨v, x, y, z, x10, x11, rfl, pq⟩
          have pq := pq.le (show _ ≤ n + 24 + 1003 * 2 by split <;> omega)
          obtain ⟨p9, m, rfl, e9, pm, hp6, k6⟩ := pq
          refine ⟨_, rfl, a, 2, n + 24 + 1003 * 2, rfl, by decide, by decide, by omega, hp6, fun r H7 r0 r1 hp7 k7 => ?_⟩
          have e9' := k7 _ _ (tup_ne hp6 e9) e9
          have k67 := k6.trans k7
          refine ⟨rfl, _, rfl, meet (fun σ' H' => ∃ (v : Option V), σ' = [some (.ref a), some (.int top), some (.int st), x, y, z, some (.int (1 + u)), some (.int (1 + d)), some (.ref p8), v, x10, x11] ∧ Pq H a top (n + 24 + 1003 * 2 + 1) v H') (fun _ N h => ?_) (fun _ N h => ?_) (fun σ8 H8 z8 => ?_)⟩
          · refine ⟨_, rfl, p9, _, _, _, rfl, rfl, SqT.of e9', rfl, _, rfl, p9, _, _, _, rfl, rfl, SqT.of e9', rfl, _, rfl, p9, _, _, _, rfl, rfl, SqT.of e9', rfl, _, rfl, p9, _, _, _, rfl, rfl, SqT.of e9', rfl, sz (by show 4 ≤ 1000000; decide), fun p np => ?_⟩
            exact h _ _ ⟨_, rfl, p, ⟨m.b, m.a, m.d, m.c⟩, rfl, upd_same, pm_col pm, hp7.new np, k67.new np⟩
          · exact h _ _ ⟨_, rfl, p9, m, rfl, e9', pm, hp7, k67⟩
          · obtain ⟨v, rfl, p9, m, rfl, e9, pm, hp8, k8⟩ := z8
            refine ⟨_, rfl, a, 2, n + 24 + 1003 * 2 + 1, rfl, by decide, by decide, by omega, hp8, fun r H7 r0 r1 hp7 k7 => ?_⟩
            have e9' := k7 _ _ (tup_ne hp8 e9) e9
            have k67 := k8.trans k7
            refine ⟨rfl, _, rfl, meet (fun σ' H' => ∃ (v : Option V), σ' = [some (.ref a), some (.int top), some (.int st), x, y, z, some (.int (1 + u)), some (.int (1 + d)), some (.ref p8), v, x10, x11] ∧ Pq H a top (n + 24 + 1003 * 2 + 2) v H') (fun _ N h => ?_) (fun _ N h => ?_) (fun σ8 H8 z8 => ?_)⟩
            · refine ⟨_, rfl, p9, _, _, _, rfl, rfl, SqT.of e9', rfl, _, rfl, p9, _, _, _, rfl, rfl, SqT.of e9', rfl, _, rfl, p9, _, _, _, rfl, rfl, SqT.of e9', rfl, _, rfl, p9, _, _, _, rfl, rfl, SqT.of e9', rfl, sz (by show 4 ≤ 1000000; decide), fun p np => ?_⟩
              exact h _ _ ⟨_, rfl, p, ⟨m.c, m.d, m.a, m.b⟩, rfl, upd_same, pm_row pm, hp7.new np, k67.new np⟩
            · exact h _ _ ⟨_, rfl, p9, m, rfl, e9', pm, hp7, k67⟩
            · obtain ⟨v, rfl, p9, m, rfl, e9, pm, hp8, k8⟩ := z8
              refine ⟨_, rfl, p9, m.l, rfl, .inr (SqT.of e9), det_pos_gl pm.d0, (det_gl pm.d0 (bd4 (k := 30) pm.nn pm.le (by decide))).sml, by show 4 ≤ 100; decide, fun H9 p sm np e => ?_⟩
              rw [← low_l] at e
              refine q m.low H9 p (low_mp pm.nn pm.d0) (low_le pm.nn pm.le) (Nat.le_trans (low_det_le pm.d0) pm.dt) ((hp8.le (by omega)).same sm) (k8.trans (Kp.of sm)) (k8.free hp8 np) e

/-! _law_rt_odd_map -/
def sp__law_rt_odd_map (K : PySem.W.Frag) : Sp := fun vs H Q _ => ∃ (a : Addr) (n : Nat), vs = [.ref a] ∧ n < 700000000 ∧ Pu H a n ∧
  ∀ (m : M4) H' p, (∀ i ∈ m.l, i.natAbs ≤ 1000) → (Mp m → Okm m) → Pu H' a (n + 3003) → Kp a H H' → H p = none → H' p = some (.tup (m.l.map V.int)) → Q (.ref p) H'
theorem ok__law_rt_odd_map (T : Tx K mg) : FnOk P w K mg base CX0 4 T.a__law_rt_odd_map T.fd__law_rt_odd_map ["purse"] (sp__law_rt_odd_map K) := by
  have G__law_rt_map := ok__law_rt_map (P := P) (w := w) (base := base) T
  have G__law_coin := ok__law_coin (P := P) (w := w) (base := base) T
  refine T.F__law_rt_odd_map.ok sc__law_rt_odd_map (fun vs H Q E h => ?_) (fun cdv A outer s H vs Q E hr h => ?_)
  · obtain ⟨a, n, rfl, _⟩ := h
    rfl
  · obtain ⟨a, n, rfl, hn, hp, q⟩ := h
    refine ⟨_, (pss_cons (ps_set (i := 1) sc__law_rt_odd_map.nd rfl (Or.inr rfl) (pe_call G__law_rt_map (hr.mono (by decide)) (by rfl) T.g__law_rt_map T.F__law_rt_map.kp (b__law_rt_map T.F__law_rt_map) .nil pass0 (pa_cons (pv 0) (pa_cons pe_int pa_nil))))
  (pss_cons (ps_asg (pe_tup (pa_cons (pe_call G__law_coin (hr.mono (by decide)) (by rfl) T.g__law_coin T.F__law_coin.kp (b__law_coin T.F__law_coin) .nil pass0 (pa_cons (pv 0) (pa_cons pe_int pa_nil))) (pa_cons (pe_call G__law_coin (hr.mono (by decide)) (by rfl) T.g__law_coin T.F__law_coin.kp (b__law_coin T.F__law_coin) .nil pass0 (pa_cons (pv 0) (pa_cons pe_int pa_nil))) (pa_cons (pe_op op_add pe_int (pe_call G__law_coin (hr.mono (by decide)) (by rfl) T.g__law_coin T.F__law_coin.kp (b__law_coin T.F__law_coin) .nil pass0 (pa_cons (pv 0) (pa_cons pe_int pa_nil)))) pa_nil)))) (pg_tup (by rfl) (pgs_cons (pg_name (i := 2) sc__law_rt_odd_map.nd rfl (Or.inl rfl)) (pgs_cons (pg_name (i := 3) sc__law_rt_odd_map.nd rfl (Or.inr rfl)) (pgs_cons (pg_name (i := 4) sc__law_rt_odd_map.nd rfl (Or.inr rfl)) pgs_nil)))))
  (pss_cons (ps_if (pt_cmpR op_eq (pv 2) pe_int (nomark _)) (pss_one (ps_ret (pe_callTy call_tuple_of (by rfl) T.z_tuple (by decide +kernel) (pa_cons (pe_lc (own := [("k", 5)]) (g := (gName 5)) (by rfl) sc__law_rt_odd_map.nd (pi_range1 (by rfl) T.z_range (pa_cons pe_int pa_nil)) (blkOk_by (own := [("k", 5)]) (N := n__law_rt_odd_map) (sc := defScope s__law_rt_odd_map) (by decide +kernel)) (fun _ _ _ _ _ => (pg_name (i := 5) sc__law_rt_odd_map.nd rfl (Or.inl rfl))) (fun _ _ _ _ _ => pts_nil) (fun _ _ _ _ _ => (pe_ifExp (pt_cmpR op_eq (pv 5) (pv 3) (nomark _)) (pe_op op_sub (pe_un un_neg pe_int) (pe_ix (show IxR _ (rIxT K) from ix_tup) (pv 1) (pv 5) (fun _ _ => rfl))) (pe_ix (show IxR _ (rIxT K) from ix_tup) (pv 1) (pv 5) (fun _ _ => rfl))))) pa_nil)))) pss_nil)
  (pss_cons (ps_if (pt_cmpR op_eq (pv 2) pe_int (nomark _)) (pss_one (ps_ret (pe_callTy call_tuple_of (by rfl) T.z_tuple (by decide +kernel) (pa_cons (pe_lc (own := [("count", 6)]) (g := (gName 6)) (by rfl) sc__law_rt_odd_map.nd (pi_tup (pv 1)) (blkOk_by (own := [("count", 6)]) (N := n__law_rt_odd_map) (sc := defScope s__law_rt_odd_map) (by decide +kernel)) (fun _ _ _ _ _ => (pg_name (i := 6) sc__law_rt_odd_map.nd rfl (Or.inl rfl))) (fun _ _ _ _ _ => pts_nil) (fun _ _ _ _ _ => (pe_op op_mulL (pv 4) (pv 6)))) pa_nil)))) pss_nil)
  (pss_cons (ps_if (pt_cmpR op_eq (pv 2) pe_int (nomark _)) (pss_one (ps_ret (pe_tup (pa_cons (pe_op op_mulL (pv 4) (pe_ix ix_tup (pv 1) pe_int (fun _ _ => rfl))) (pa_cons (pe_op op_mulL (pv 4) (pe_ix ix_tup (pv 1) pe_int (fun _ _ => rfl))) (pa_cons (pe_ix ix_tup (pv 1) pe_int (fun _ _ => rfl)) (pa_cons (pe_ix ix_tup (pv 1) pe_int (fun _ _ => rfl)) pa_nil))))))) pss_nil)
  (pss_cons (ps_if (pt_cmpR op_eq (pv 2) pe_int (nomark _)) (pss_one (ps_ret (pe_ix ix_list (pe_lst (pa_cons (pe_tup (pa_cons pe_int (pa_cons pe_int (pa_cons pe_int (pa_cons pe_int pa_nil))))) (pa_cons (pe_tup (pa_cons pe_int (pa_cons (pe_ix ix_tup (pv 1) pe_int (fun _ _ => rfl)) (pa_cons pe_int (pa_cons (pe_ix ix_tup (pv 1) pe_int (fun _ _ => rfl)) pa_nil))))) (pa_cons (pe_tup (pa_cons (pe_ix ix_tup (pv 1) pe_int (fun _ _ => rfl)) (pa_cons pe_int (pa_cons (pe_ix ix_tup (pv 1) pe_int (fun _ _ => rfl)) (pa_cons pe_int pa_nil))))) (pa_cons (pe_tup (pa_cons pe_int (pa_cons pe_int (pa_cons pe_int (pa_cons (pv 4) pa_nil))))) pa_nil))))) (pv 3) (fun _ _ => rfl)))) pss_nil)
  (pss_one (ps_ret (pv 1))))))))), ?_⟩
    refine ⟨_, rfl, a, 12, n, rfl, by decide, by decide, by omega, hp, fun m H1 p mp ml dt12 hp1 k1 np ep => ?_⟩
    refine ⟨_, rfl, a, 7, n + 3000, rfl, by decide, by decide, by omega, hp1, fun s1 H2 s10 s11 hp2 k2 => ?_⟩
    refine ⟨_, rfl, a, 4, n + 3001, rfl, by decide, by decide, by omega, hp2, fun s2 H3 s20 s21 hp3 k3 => ?_⟩
    refine ⟨_, rfl, a, 4, n + 3002, rfl, by decide, by decide, by omega, hp3, fun s3 H4 s30 s31 hp4 k4 => ?_⟩
    refine ⟨_, _, rfl, rfl, sz (by show 3 ≤ 1000000; decide), fun t nt => ?_⟩
    have pa : p ≠ a := by
      rintro rfl
      obtain ⟨_, _, _, h1, _⟩ := hp1
      rw [ep] at h1
      cases h1
    have k04 := ((k1.trans k2).trans k3).trans k4
    have ep4 := k4 _ _ pa (k3 _ _ pa (k2 _ _ pa ep))
    have nt4 : H t = none := k04.free hp4 nt
    have hp5 := hp4.new (o := .tup [.int s1, .int s2, .int (2 + s3)]) nt
    have k05 := k04.new (o := .tup [.int s1, .int s2, .int (2 + s3)]) nt
    have ep5 : (L2.upd H4 t (.tup [.int s1, .int s2, .int (2 + s3)])) p = some (.tup (m.l.map V.int)) := by
      rw [upd_ne (ne_of_none ep4 nt)]
      exact ep4
    refine ⟨t, _, rfl, SqT.of upd_same, rfl, _, _, rfl, _, _, rfl, _, _, rfl, rfl, ?_⟩
    have bm : ∀ i ∈ m.l, 0 ≤ i ∧ i ≤ 60 := fun i hi => by
      simp only [M4.l, List.mem_cons, List.not_mem_nil, or_false] at hi
      rcases hi with rfl | rfl | rfl | rfl
      · exact ⟨mp.nn.a, ml.a⟩
      · exact ⟨mp.nn.b, ml.b⟩
      · exact ⟨mp.nn.c, ml.c⟩
      · exact ⟨mp.nn.d, ml.d⟩
    obtain ⟨a0, a1⟩ := bm m.a (by simp [M4.l])
    obtain ⟨b0, b1⟩ := bm m.b (by simp [M4.l])
    obtain ⟨c0, c1⟩ := bm m.c (by simp [M4.l])
    obtain ⟨d0, d1⟩ := bm m.d (by simp [M4.l])
    -- the end
    have fin : ∀ (H6 : Hp) (r : Addr) (m' : M4), Same (L2.upd H4 t (.tup [.int s1, .int s2, .int (2 + s3)])) H6 → H6 r = some (.tup (m'.l.map V.int)) → (L2.upd H4 t (.tup [.int s1, .int s2, .int (2 + s3)])) r = none → (∀ i ∈ m'.l, i.natAbs ≤ 1000) → ¬ Mp m' → Q (.ref r) H6 := fun H6 r m' s6 er nr b nm => by
      refine q m' H6 r b (fun z => absurd z nm) ((hp5.same s6).le (by omega)) (k05.trans (Kp.of s6)) ?_ er
      exact k05.free hp5 nr
    generalize (L2.upd H4 t (.tup [.int s1, .int s2, .int (2 + s3)])) = H5 at *
    refine ⟨_, rfl, rfl, _, rfl, bl2 (fun h => ?_) (fun _ => ?_)⟩
    · refine ⟨4, rfl, by decide, by decide, fun D hD => lc_range (lo := 0) (n := 4) (Fs H5 D (fun i => if (i : Int) = s2 then -1 - (m.l[i]!) else m.l[i]!)) ⟨(L2.Same.refl H5).new hD, upd_same⟩ ?_ ?_⟩
      · intro j H6 hj c
        have eq : ∃ x, (m.l.map V.int)[j]? = some (.int x) ∧ m.l[j]! = x := by
          match j, hj with
          | 0, _ => exact ⟨_, rfl, rfl⟩
          | 1, _ => exact ⟨_, rfl, rfl⟩
          | 2, _ => exact ⟨_, rfl, rfl⟩
          | 3, _ => exact ⟨_, rfl, rfl⟩
        obtain ⟨x, ex, ex2⟩ := eq
        have e6 := c.1 _ _ ep5
        have at6 : atI (m.l.map V.int) (0 + (j : Int)) = some (.int x) := at_of (j := j) (by omega) ex
        refine ⟨rfl, ?_⟩
        refine iteT (B := Fs H5 D (fun i => if (i : Int) = s2 then -1 - (m.l[i]!) else m.l[i]!) (j + 1) H6) ?_
        refine ⟨_, rfl, _, rfl, rfl, _, rfl, bl2 (fun h => ?_) (fun h => ?_)⟩
        · have h : V.int (0 + (j : Int)) = V.int s2 := of_decide_eq_true h
          injection h with h
          refine ⟨_, rfl, _, rfl, _, rfl, p, _, _, _, rfl, rfl, SqT.of e6, at6, _, _, rfl, rfl, ?_⟩
          refine fs_step c hD ?_ (by omega)
          rw [if_pos (by omega), ex2]
        · have h : ¬ V.int (0 + (j : Int)) = V.int s2 := of_decide_eq_false h
          refine ⟨_, rfl, _, rfl, p, _, _, _, rfl, rfl, SqT.of e6, at6, ?_⟩
          refine fs_step c hD ?_ (by omega)
          rw [if_neg (fun z => h (by rw [← z]; congr 1; omega)), ex2]
      · intro H6 c
        refine ⟨D, _, rfl, .inl ⟨SqL.of c.2, fun r nr => ?_⟩⟩
        refine fin _ r ⟨if (0 : Int) = s2 then -1 - m.a else m.a, if (1 : Int) = s2 then -1 - m.b else m.b, if (2 : Int) = s2 then -1 - m.c else m.c, if (3 : Int) = s2 then -1 - m.d else m.d⟩ (c.1.new nr) ?_ (c.1.free nr) ?_ (fun z => ?_)
        · rw [upd_same]
          rfl
        · intro i hi
          simp only [M4.l, List.mem_cons, List.not_mem_nil, or_false] at hi
          rcases hi with rfl | rfl | rfl | rfl <;> (split <;> omega)
        · have cs : s2 = 0 ∨ s2 = 1 ∨ s2 = 2 ∨ s2 = 3 := by omega
          rcases cs with rfl | rfl | rfl | rfl
          · have := z.nn.a
            simp at this
            omega
          · have := z.nn.b
            simp at this
            omega
          · have := z.nn.c
            simp at this
            omega
          · have := z.nn.d
            simp at this
            omega
    · refine ⟨_, rfl, rfl, _, rfl, bl2 (fun h => ?_) (fun _ => ?_)⟩
      · refine ⟨_, rfl, p, rfl, ⟨_, SqT.of ep5⟩, fun D hD => lc_tup (xs := m.l.map V.int) (Fs H5 D (fun i => (2 + s3) * m.l[i]!)) ⟨(L2.Same.refl H5).new hD, upd_same⟩ (fun i H' _ c => SqT.of (c.1 _ _ ep5)) ?_ ?_⟩
        · intro j x H6 hx c
          obtain ⟨y, rfl, ex2⟩ : ∃ y, x = V.int y ∧ m.l[j]! = y := by
            match j, hx with
            | 0, hx => exact ⟨_, (Option.some.inj hx).symm, rfl⟩
            | 1, hx => exact ⟨_, (Option.some.inj hx).symm, rfl⟩
            | 2, hx => exact ⟨_, (Option.some.inj hx).symm, rfl⟩
            | 3, hx => exact ⟨_, (Option.some.inj hx).symm, rfl⟩
            | (j + 4), hx => exact nomatch hx
          refine ⟨rfl, ?_⟩
          refine iteT (B := Fs H5 D (fun i => (2 + s3) * m.l[i]!) (j + 1) H6) ?_
          refine ⟨_, rfl, _, rfl, _, _, rfl, rfl, cml_l (by omega), ?_⟩
          refine fs_step c hD (by rw [ex2]) ?_
          have := (List.getElem?_eq_some_iff.mp hx).1
          rw [List.length_map] at this
          exact Nat.lt_trans this (by show 4 < 1000; decide)
        · intro H6 c
          refine ⟨D, _, rfl, .inl ⟨SqL.of c.2, fun r nr => ?_⟩⟩
          refine fin _ r ⟨(2 + s3) * m.a, (2 + s3) * m.b, (2 + s3) * m.c, (2 + s3) * m.d⟩ (c.1.new nr) ?_ (c.1.free nr) ?_ (fun z => ?_)
          rotate_left 2
          · have dv := gl_of_dvd (⟨(2 + s3) * m.a, (2 + s3) * m.b, (2 + s3) * m.c, (2 + s3) * m.d⟩ : M4).l (2 + s3).toNat (fun x hx => by
              rw [Int.toNat_of_nonneg (by omega)]
              simp only [M4.l, List.mem_cons, List.not_mem_nil, or_false] at hx
              rcases hx with rfl | rfl | rfl | rfl <;> exact Int.dvd_mul_right _ _)
            rw [z.gd] at dv
            have := Nat.le_of_dvd (by decide) dv
            omega
          · rw [upd_same]
            rfl
          · have lim : ∀ x : Int, 0 ≤ x → x ≤ 60 → ((2 + s3) * x).natAbs ≤ 1000 := fun x h0 h1 => by
              have e1 : (2 + s3) * x ≤ 5 * x := Int.mul_le_mul_of_nonneg_right (by omega) h0
              have e2 : 0 ≤ (2 + s3) * x := Int.mul_nonneg (by omega) h0
              omega
            intro i hi
            simp only [M4.l, List.mem_cons, List.not_mem_nil, or_false] at hi
            rcases hi with rfl | rfl | rfl | rfl <;> exact lim _ (by assumption) (by assumption)
      · refine ⟨_, rfl, rfl, _, rfl, bl2 (fun h => ?_) (fun _ => ?_)⟩
        · refine ⟨_, rfl, _, rfl, p, _, _, _, rfl, rfl, SqT.of ep5, rfl, _, _, rfl, rfl, cml_l (by omega), ?_⟩
          refine ⟨_, rfl, _, rfl, p, _, _, _, rfl, rfl, SqT.of ep5, rfl, _, _, rfl, rfl, cml_l (by omega), ?_⟩
          refine ⟨_, rfl, p, _, _, _, rfl, rfl, SqT.of ep5, rfl, _, rfl, p, _, _, _, rfl, rfl, SqT.of ep5, rfl, sz (by show 4 ≤ 1000000; decide), fun r nr => ?_⟩
          refine fin _ r ⟨(2 + s3) * m.c, (2 + s3) * m.d, m.c, m.d⟩ ((L2.Same.refl H5).new nr) upd_same nr ?_ (fun z => z.dt (by show (2 + s3) * m.c * m.d - (2 + s3) * m.d * m.c = 0; grind))
          have lim : ∀ x : Int, 0 ≤ x → x ≤ 60 → ((2 + s3) * x).natAbs ≤ 1000 := fun x h0 h1 => by
            have e1 : (2 + s3) * x ≤ 5 * x := Int.mul_le_mul_of_nonneg_right (by omega) h0
            have e2 : 0 ≤ (2 + s3) * x := Int.mul_nonneg (by omega) h0
            omega
          intro i hi
          simp only [M4.l, List.mem_cons, List.not_mem_nil, or_false] at hi
          rcases hi with rfl | rfl | rfl | rfl
          · exact lim _ c0 c1
          · exact lim _ d0 d1
          · omega
          · omega
        · refine ⟨_, rfl, rfl, _, rfl, bl2 (fun h => ?_) (fun _ => ?_)⟩
          · refine ⟨sz (by show 4 ≤ 1000000; decide), fun t1 nt1 => ?_⟩
            have q1 := (L2.Same.refl H5).new (o := .tup [.int 0, .int 0, .int 0, .int 0]) nt1
            have x1 := q1 _ _ ep5
            refine ⟨_, rfl, p, _, _, _, rfl, rfl, SqT.of x1, rfl, _, rfl, p, _, _, _, rfl, rfl, SqT.of x1, rfl, sz (by show 4 ≤ 1000000; decide), fun t2 nt2 => ?_⟩
            have q2 := q1.new (o := .tup [.int 0, .int m.b, .int 0, .int m.d]) nt2
            have x2 := q2 _ _ ep5
            refine ⟨_, rfl, p, _, _, _, rfl, rfl, SqT.of x2, rfl, _, rfl, p, _, _, _, rfl, rfl, SqT.of x2, rfl, sz (by show 4 ≤ 1000000; decide), fun t3 nt3 => ?_⟩
            have q3 := q2.new (o := .tup [.int m.a, .int 0, .int m.c, .int 0]) nt3
            refine ⟨_, rfl, sz (by show 4 ≤ 1000000; decide), fun t4 nt4 => ?_⟩
            have q4 := q3.new (o := .tup [.int 0, .int 0, .int 1, .int (2 + s3)]) nt4
            refine ⟨sz (by show 4 ≤ 1000000; decide), fun LL nLL => ?_⟩
            obtain ⟨sN, hLL, hq1, hq2, hq3, hq4⟩ := four_new (o5 := .lst [.ref t1, .ref t2, .ref t3, .ref t4]) nt1 nt2 nt3 nt4 nLL
            obtain ⟨j, rfl⟩ := nat_of s20
            have hj : j < 4 := by omega
            match j, hj with
            | 0, _ => exact ⟨_, rfl, LL, _, _, _, rfl, rfl, SqL.of hLL, rfl, fin _ t1 ⟨0, 0, 0, 0⟩ sN hq1 nt1 (by simp [M4.l]) (fun z => z.dt (by show (0 : Int) * 0 - 0 * 0 = 0; grind))⟩
            | 1, _ => exact ⟨_, rfl, LL, _, _, _, rfl, rfl, SqL.of hLL, rfl, fin _ t2 ⟨0, m.b, 0, m.d⟩ sN hq2 (q1.free nt2) (by simp [M4.l]; omega) (fun z => z.dt (by show (0 : Int) * m.d - m.b * 0 = 0; grind))⟩
            | 2, _ => exact ⟨_, rfl, LL, _, _, _, rfl, rfl, SqL.of hLL, rfl, fin _ t3 ⟨m.a, 0, m.c, 0⟩ sN hq3 (q2.free nt3) (by simp [M4.l]; omega) (fun z => z.dt (by show m.a * 0 - 0 * m.c = 0; grind))⟩
            | 3, _ => exact ⟨_, rfl, LL, _, _, _, rfl, rfl, SqL.of hLL, rfl, fin _ t4 ⟨0, 0, 1, 2 + s3⟩ sN hq4 (q3.free nt4) (by simp [M4.l]; omega) (fun z => z.dt (by show (0 : Int) * (2 + s3) - 0 * 1 = 0; grind))⟩
          · refine ⟨_, rfl, ?_⟩
            refine q m _ p (fun i hi => by have := bm i hi; omega) (fun _ => ⟨mp.nn, mp.dt, dt12, ml⟩) (hp5.le (by omega)) k05 ?_ ep5
            exact np

/-! _law_rt_worth -/
def sp__law_rt_worth (K : PySem.W.Frag) : Sp := fun vs H Q _ => ∃ (w : List Bool), vs = [.str (rd w)] ∧
  ∀ H' p, Same H H' → H p = none → H' p = some (.tup [.int (wa w), .int (wb w)]) → Q (.ref p) H'
theorem ok__law_rt_worth (T : Tx K mg) : FnOk P w K mg base CX0 2 T.a__law_rt_worth T.fd__law_rt_worth ["wording"] (sp__law_rt_worth K) := by
  have G__law_rt_ends := ok__law_rt_ends (P := P) (w := w) (base := base) T
  refine T.F__law_rt_worth.ok sc__law_rt_worth (fun vs H Q E h => ?_) (fun cdv A outer s H vs Q E hr h => ?_)
  · obtain ⟨w, rfl, _⟩ := h
    rfl
  · obtain ⟨w, rfl, q⟩ := h
    refine ⟨_, (pss_cons (ps_asg (pe_call G__law_rt_ends (hr.mono (by decide)) (by rfl) T.g__law_rt_ends T.F__law_rt_ends.kp (b__law_rt_ends T.F__law_rt_ends) .nil pass0 (pa_cons (pv 0) pa_nil)) (pg_tup (by rfl) (pgs_cons (pg_name (i := 1) sc__law_rt_worth.nd rfl (Or.inl rfl)) (pgs_cons (pg_name (i := 2) sc__law_rt_worth.nd rfl (Or.inl rfl)) pgs_nil))))
  (pss_one (ps_ret (pe_tup (pa_cons (pe_op op_add (pe_ix ix_tup (pv 1) pe_int (fun _ _ => rfl)) (pe_ix ix_tup (pv 2) pe_int (fun _ _ => rfl))) (pa_cons (pe_op op_add (pe_ix ix_tup (pv 1) pe_int (fun _ _ => rfl)) (pe_ix ix_tup (pv 2) pe_int (fun _ _ => rfl))) pa_nil)))))), ?_⟩
    refine ⟨_, rfl, w, rfl, fun H1 e l g sm ne he hl hg => ?_⟩
    refine ⟨e, _, rfl, .inl (.inl he), rfl, _, _, rfl, _, _, rfl, rfl, ?_⟩
    refine ⟨_, rfl, l, _, _, _, rfl, rfl, SqT.of hl, rfl, _, rfl, g, _, _, _, rfl, rfl, SqT.of hg, rfl, _, _, rfl, rfl, ?_⟩
    refine ⟨_, rfl, l, _, _, _, rfl, rfl, SqT.of hl, rfl, _, rfl, g, _, _, _, rfl, rfl, SqT.of hg, rfl, _, _, rfl, rfl, sz (by show 2 ≤ 1000000; decide), fun p np => ?_⟩
    refine q _ p (sm.new np) (sm.free np) ?_
    rw [upd_same]
    show some (HO.tup [V.int ((mat w).b + (mat w).a), V.int ((mat w).d + (mat w).c)]) = some (HO.tup [V.int ((mat w).a + (mat w).b), V.int ((mat w).c + (mat w).d)])
    rw [Int.add_comm (mat w).b, Int.add_comm (mat w).d]

/-! _law_rt_fraction -/
def sp__law_rt_fraction (K : PySem.W.Frag) : Sp := fun vs H Q _ => ∃ (a : Addr) (top : Int) (n : Nat), vs = [.ref a, .int top] ∧ 1 ≤ top ∧ top ≤ 400 ∧ n < 900000000 ∧ Pu H a n ∧
  ∀ (w : List Bool) H' p, (w.length : Int) ≤ top → wa w ≤ 1000000000 → wb w ≤ 1000000000 → Pu H' a (n + 100) → Kp a H H' → H p = none → H' p = some (.tup [.int (wa w), .int (wb w)]) → Q (.ref p) H'
theorem ok__law_rt_fraction (T : Tx K mg) : FnOk P w K mg base CX0 3 T.a__law_rt_fraction T.fd__law_rt_fraction ["purse", "top"] (sp__law_rt_fraction K) := by
  have G__law_rt_worth := ok__law_rt_worth (P := P) (w := w) (base := base) T
  have G__law_coin := ok__law_coin (P := P) (w := w) (base := base) T
  refine T.F__law_rt_fraction.ok sc__law_rt_fraction (fun vs H Q E h => ?_) (fun cdv A outer s H vs Q E hr h => ?_)
  · obtain ⟨a, top, n, rfl, _⟩ := h
    rfl
  · obtain ⟨a, top, n, rfl, t0, t1, hn, hp, q⟩ := h
    refine ⟨_, (pss_cons (ps_set (i := 2) sc__law_rt_fraction.nd rfl (Or.inl rfl) pe_str)
  (pss_cons (ps_for PassesOwn.never rfl (pi_range1 (by rfl) T.z_range (pa_cons (pe_call G__law_coin (hr.mono (by decide)) (by rfl) T.g__law_coin T.F__law_coin.kp (b__law_coin T.F__law_coin) .nil pass0 (pa_cons (pv 0) (pa_cons pe_int pa_nil))) pa_nil)) (pg_name (i := 3) sc__law_rt_fraction.nd rfl (Or.inl rfl))
    (pss_cons (ps_set (i := 4) sc__law_rt_fraction.nd rfl (Or.inl rfl) (pe_ix ix_list (pe_lst (pa_cons pe_str (pa_cons pe_str pa_nil))) (pe_call G__law_coin (hr.mono (by decide)) (by rfl) T.g__law_coin T.F__law_coin.kp (b__law_coin T.F__law_coin) .nil pass0 (pa_cons (pv 0) (pa_cons pe_int pa_nil))) (fun _ _ => rfl)))
  (pss_cons (ps_set (i := 5) sc__law_rt_fraction.nd rfl (Or.inl rfl) (pe_op op_add_str (pv 2) (pe_op op_mulS (pv 4) (pe_op op_add pe_int (pe_call G__law_coin (hr.mono (by decide)) (by rfl) T.g__law_coin T.F__law_coin.kp (b__law_coin T.F__law_coin) .nil pass0 (pa_cons (pv 0) (pa_cons (pe_ix ix_list (pe_lst (pa_cons pe_int (pa_cons pe_int (pa_cons (pv 1) pa_nil)))) (pe_call G__law_coin (hr.mono (by decide)) (by rfl) T.g__law_coin T.F__law_coin.kp (b__law_coin T.F__law_coin) .nil pass0 (pa_cons (pv 0) (pa_cons pe_int pa_nil))) (fun _ _ => rfl)) pa_nil)))))))
  (pss_one (ps_if (PW.pt (pw_and (pt_cmpR op_le (pe_callB call_len_str (by rfl) T.z_len (by decide +kernel) (pa_cons (pv 5) pa_nil)) (pv 1) (nomark _)) (pw_and1 (pt_cmpR op_le (pe_callB (cr_maxT hr) (by rfl) T.z_max (by decide +kernel) (pa_cons (pe_call G__law_rt_worth (hr.mono (by decide)) (by rfl) T.g__law_rt_worth T.F__law_rt_worth.kp (b__law_rt_worth T.F__law_rt_worth) .nil pass0 (pa_cons (pv 5) pa_nil)) pa_nil)) (pe_op op_powL pe_int pe_int) (nomark _))))) (pss_one (ps_set (i := 2) sc__law_rt_fraction.nd rfl (Or.inl rfl) (pv 5))) pss_nil)))))
  (pss_one (ps_ret (pe_call G__law_rt_worth (hr.mono (by decide)) (by rfl) T.g__law_rt_worth T.F__law_rt_worth.kp (b__law_rt_worth T.F__law_rt_worth) .nil pass0 (pa_cons (pv 2) pa_nil)))))), ?_⟩
    refine ⟨_, rfl, a, _, n, rfl, by decide, by decide, by omega, hp, fun r H1 r0 r1 hp1 k1 => ?_⟩
    refine ⟨r, rfl, by omega, by omega, for_range (lo := 0) (n := r.toNat)
      (fun i σ H2 => ∃ (w : List Bool) (x y z : Option V), σ = [some (.ref a), some (.int top), some (.str (rd w)), x, y, z] ∧ (w.length : Int) ≤ top ∧ wa w ≤ 1000000000 ∧ wb w ≤ 1000000000 ∧ Pu H2 a (n + 1 + 3 * i) ∧ Kp a H H2)
      ⟨[], none, none, none, rfl, by show (0 : Int) ≤ top; omega, by decide, by decide, hp1, k1⟩ ?_ ?_⟩
    · rintro i σ H2 hi ⟨w, x, y, z, rfl, hw, ha, hb, hp2, k2⟩
      -- sign
      refine ⟨sz (by show 2 ≤ 1000000; decide), fun p np => ⟨_, rfl, a, _, n + 1 + 3 * i, rfl, by decide, by decide, by omega, hp2.new np, fun s H3 s0 s1 hp3 k3 => ?_⟩⟩
      have e3 : H3 p = some (.lst [.str "L", .str "R"]) := k3 p _ (hp2.ne np).symm upd_same
      obtain ⟨t, et⟩ : ∃ t : Bool, atI [V.str "L", .str "R"] s = some (.str (rd [t])) := by
        have c : s = 0 ∨ s = 1 := by omega
        rcases c with rfl | rfl
        · exact ⟨false, by decide +kernel⟩
        · exact ⟨true, by decide +kernel⟩
      refine ⟨p, _, s, _, rfl, rfl, SqL.of e3, et, ?_⟩
      -- longer
      refine ⟨_, rfl, _, rfl, _, rfl, _, rfl, sz (by show 3 ≤ 1000000; decide), fun p2 np2 => ⟨_, rfl, a, _, n + 2 + 3 * i, rfl, by decide, by decide, by omega, (hp3.le (by omega)).new np2, fun m H4 m0 m1 hp4 k4 => ?_⟩⟩
      have e4 : H4 p2 = some (.lst ([2, 9, top].map V.int)) := k4 p2 _ (hp3.ne np2).symm upd_same
      obtain ⟨c, hc, ec⟩ := menu_at (l := [2, 9, top]) m0 m1
      have hc : 1 ≤ c ∧ c ≤ 400 := by
        simp at hc
        omega
      refine ⟨p2, _, m, _, rfl, rfl, SqL.of e4, ec, a, c, n + 3 + 3 * i, rfl, by omega, by omega, by omega, hp4.le (by omega), fun d H5 d0 d1 hp5 k5 => ?_⟩
      refine ⟨_, _, rfl, rfl, _, _, rfl, rfl, by rw [rd_len]; show 1 ≤ 10000; decide, by omega, by omega, ?_⟩
      have er : repT (rd [t]) (1 + d) = rd (repR [t] (1 + d).toNat) := rep_rd _ _
      refine ⟨_, _, rfl, rfl, ?_, ?_⟩
      · rw [er]
        exact rd_app_len (by rw [repR_len]; show w.length + (1 + d).toNat * 1 ≤ 1000000; omega)
      · rw [er, rd_app]
        have k5' : Kp a H H5 := ((((k2.new np).trans k3).new np2).trans k4).trans k5
        generalize hv : w ++ repR [t] (1 + d).toNat = v
        have lv : v.length ≤ 1000 := by
          rw [← hv, List.length_append, repR_len]
          show w.length + (1 + d).toNat * 1 ≤ 1000
          omega
        -- the test
        refine ⟨_, rfl, _, rfl, (by rw [rd_len]; exact sz (by omega)), _, rfl, _, _, rfl, rfl, _, rfl, ?_⟩
        refine bl2 (fun e1 => ?_) (fun e1 => ?_)
        · have e1 := of_decide_eq_true e1
          rw [rd_len] at e1
          refine ⟨_, rfl, v, rfl, fun H6 q6 sm6 nq6 hq6 => ⟨q6, _, [wb v], rfl, SqT.of hq6, by show 1 ≤ 100; decide, fun m _ hm => ?_⟩⟩
          have m1 := hm (wa v) List.mem_cons_self
          have m2 := hm (wb v) (List.mem_cons_of_mem _ List.mem_cons_self)
          refine ⟨_, _, rfl, rfl, cpw 4 (by decide) (by decide) (by decide), _, _, rfl, rfl, _, rfl, ite2 (fun e2 => ?_) (fun e2 => ?_)⟩
          · have e2 : m ≤ 10 ^ (9 : Int).toNat := of_decide_eq_true e2
            have e9 : (10 : Int) ^ (9 : Int).toNat = 1000000000 := by decide
            rw [e9] at e2
            exact ⟨_, rfl, v, _, _, _, rfl, e1, by omega, by omega, (hp5.le (by omega)).same sm6, k5'.trans (Kp.of sm6)⟩
          · exact ⟨w, _, _, _, rfl, hw, ha, hb, (hp5.le (by omega)).same sm6, k5'.trans (Kp.of sm6)⟩
        · exact iteF ⟨w, _, _, _, rfl, hw, ha, hb, hp5.le (by omega), k5'⟩
    · rintro σ H2 ⟨w, x, y, z, rfl, hw, ha, hb, hp2, k2⟩
      refine ⟨_, rfl, w, rfl, fun H3 p sm np hq => ?_⟩
      exact q w H3 p hw ha hb ((hp2.le (by omega)).same sm) (k2.trans (Kp.of sm)) (k2.free hp2 np) hq

/-! _law_rt_odd_pair -/
theorem not_frac_mul {x y m : Int} (hm : 2 ≤ m) : ¬ FracP (x * m) (y * m) := fun h => by
  have e := h.2.2
  rw [Int.natAbs_mul, Int.natAbs_mul, Nat.gcd_mul_right] at e
  have := Nat.eq_one_of_mul_eq_one_left e
  omega
def sp__law_rt_odd_pair (K : PySem.W.Frag) : Sp := fun vs H Q _ => ∃ (a : Addr) (n : Nat), vs = [.ref a] ∧ n < 800000000 ∧ Pu H a n ∧
  ∀ (x y : Int) H' p, Bd 100 x → Bd 100 y → (FracP x y → ∃ w, x = wa w ∧ y = wb w ∧ w.length ≤ 400) → Pu H' a (n + 110) → Kp a H H' → H' p = some (.tup [.int x, .int y]) → Q (.ref p) H'
theorem ok__law_rt_odd_pair (T : Tx K mg) : FnOk P w K mg base CX0 4 T.a__law_rt_odd_pair T.fd__law_rt_odd_pair ["purse"] (sp__law_rt_odd_pair K) := by
  have G__law_rt_fraction := ok__law_rt_fraction (P := P) (w := w) (base := base) T
  have G__law_coin := ok__law_coin (P := P) (w := w) (base := base) T
  refine T.F__law_rt_odd_pair.ok sc__law_rt_odd_pair (fun vs H Q E h => ?_) (fun cdv A outer s H vs Q E hr h => ?_)
  · obtain ⟨a, n, rfl, _⟩ := h
    rfl
  · obtain ⟨a, n, rfl, hn, hp, q⟩ := h
    refine ⟨_, (pss_cons (ps_set (i := 1) sc__law_rt_odd_pair.nd rfl (Or.inl rfl) (pe_lst (pa_cons (pe_tup (pa_cons pe_int (pa_cons pe_int pa_nil))) (pa_cons (pe_tup (pa_cons pe_int (pa_cons pe_int pa_nil))) (pa_cons (pe_tup (pa_cons pe_int (pa_cons pe_int pa_nil))) (pa_cons (pe_tup (pa_cons (pe_un un_neg pe_int) (pa_cons pe_int pa_nil))) (pa_cons (pe_tup (pa_cons pe_int (pa_cons (pe_un un_neg pe_int) pa_nil))) (pa_cons (pe_tup (pa_cons (pe_un un_neg pe_int) (pa_cons (pe_un un_neg pe_int) pa_nil))) (pa_cons (pe_tup (pa_cons pe_int (pa_cons pe_int pa_nil))) (pa_cons (pe_tup (pa_cons pe_int (pa_cons pe_int pa_nil))) (pa_cons (pe_tup (pa_cons pe_int (pa_cons pe_int pa_nil))) (pa_cons (pe_tup (pa_cons pe_int (pa_cons pe_int pa_nil))) (pa_cons (pe_tup (pa_cons (pe_op op_powL pe_int pe_int) (pa_cons (pe_op op_powL pe_int pe_int) pa_nil))) pa_nil)))))))))))))
  (pss_cons (ps_set (i := 2) sc__law_rt_odd_pair.nd rfl (Or.inl rfl) (pe_call G__law_rt_fraction (hr.mono (by decide)) (by rfl) T.g__law_rt_fraction T.F__law_rt_fraction.kp (b__law_rt_fraction T.F__law_rt_fraction) .nil pass0 (pa_cons (pv 0) (pa_cons pe_int pa_nil))))
  (pss_cons (ps_par (i := 3) (j := 4) (by rfl) sc__law_rt_odd_pair.nd rfl rfl (by decide) rfl rfl (pa_cons (pe_op op_add pe_int (pe_call G__law_coin (hr.mono (by decide)) (by rfl) T.g__law_coin T.F__law_coin.kp (b__law_coin T.F__law_coin) .nil pass0 (pa_cons (pv 0) (pa_cons pe_int pa_nil)))) (pa_cons (pe_call G__law_coin (hr.mono (by decide)) (by rfl) T.g__law_coin T.F__law_coin.kp (b__law_coin T.F__law_coin) .nil pass0 (pa_cons (pv 0) (pa_cons pe_int pa_nil))) pa_nil)) (by rfl))
  (pss_cons (ps_if (pt_cmpR op_eq (pv 4) pe_int (nomark _)) (pss_one (ps_ret (pe_ix ix_list (pv 1) (pe_call G__law_coin (hr.mono (by decide)) (by rfl) T.g__law_coin T.F__law_coin.kp (b__law_coin T.F__law_coin) .nil pass0 (pa_cons (pv 0) (pa_cons (pe_callB call_len_seq (by rfl) T.z_len (by decide +kernel) (pa_cons (pv 1) pa_nil)) pa_nil))) (fun _ _ => rfl)))) pss_nil)
  (pss_cons (ps_if (PW.pt (pw_and (pt_cmpR op_eq (pv 4) pe_int (nomark _)) (pw_and1 (pt_cmpR op_lt (pe_callB (cr_maxT hr) (by rfl) T.z_max (by decide +kernel) (pa_cons (pv 2) pa_nil)) (pe_op op_powL pe_int pe_int) (nomark _))))) (pss_one (ps_ret (pe_tup (pa_cons (pe_op op_mulL (pe_ix ix_tup (pv 2) pe_int (fun _ _ => rfl)) (pv 3)) (pa_cons (pe_op op_mulL (pe_ix ix_tup (pv 2) pe_int (fun _ _ => rfl)) (pv 3)) pa_nil))))) pss_nil)
  (pss_cons (ps_if (pt_cmpR op_eq (pv 4) pe_int (nomark _)) (pss_one (ps_ret (pe_ix ix_list (pe_lst (pa_cons (pe_tup (pa_cons (pe_un un_neg (pe_ix ix_tup (pv 2) pe_int (fun _ _ => rfl))) (pa_cons (pe_ix ix_tup (pv 2) pe_int (fun _ _ => rfl)) pa_nil))) (pa_cons (pe_tup (pa_cons (pe_ix ix_tup (pv 2) pe_int (fun _ _ => rfl)) (pa_cons (pe_un un_neg (pe_ix ix_tup (pv 2) pe_int (fun _ _ => rfl))) pa_nil))) (pa_cons (pe_tup (pa_cons pe_int (pa_cons (pe_ix ix_tup (pv 2) pe_int (fun _ _ => rfl)) pa_nil))) (pa_cons (pe_tup (pa_cons (pe_ix ix_tup (pv 2) pe_int (fun _ _ => rfl)) (pa_cons pe_int pa_nil))) pa_nil))))) (pe_call G__law_coin (hr.mono (by decide)) (by rfl) T.g__law_coin T.F__law_coin.kp (b__law_coin T.F__law_coin) .nil pass0 (pa_cons (pv 0) (pa_cons pe_int pa_nil))) (fun _ _ => rfl)))) pss_nil)
  (pss_one (ps_ret (pv 2))))))))), ?_⟩
    have k0 := Kp.refl a H
    have hp0 := hp
    refine ⟨sz (by show 2 ≤ 1000000; decide), fun p0 np0 => ?_⟩
    have s0 := (L2.Same.refl H).new (o := .tup [.int (0), .int (1)]) np0
    have e0 : L2.upd H p0 (.tup [.int (0), .int (1)]) p0 = some (.tup [.int (0), .int (1)]) := upd_same
    have hp1 := hp0.same s0
    have k1 := k0.trans (Kp.of s0)
    revert e0 hp1 k1
    generalize L2.upd H p0 (.tup [.int (0), .int (1)]) = H1
    intro e0 hp1 k1
    clear s0 hp0 k0 np0
    refine ⟨sz (by show 2 ≤ 1000000; decide), fun p1 np1 => ?_⟩
    have s1 := (L2.Same.refl H1).new (o := .tup [.int (1), .int (0)]) np1
    have e1 : L2.upd H1 p1 (.tup [.int (1), .int (0)]) p1 = some (.tup [.int (1), .int (0)]) := upd_same
    replace e0 := s1 _ _ e0
    have hp2 := hp1.same s1
    have k2 := k1.trans (Kp.of s1)
    revert e0 e1 hp2 k2
    generalize L2.upd H1 p1 (.tup [.int (1), .int (0)]) = H2
    intro e0 e1 hp2 k2
    clear s1 hp1 k1 np1
    refine ⟨sz (by show 2 ≤ 1000000; decide), fun p2 np2 => ?_⟩
    have s2 := (L2.Same.refl H2).new (o := .tup [.int (0), .int (0)]) np2
    have e2 : L2.upd H2 p2 (.tup [.int (0), .int (0)]) p2 = some (.tup [.int (0), .int (0)]) := upd_same
    replace e0 := s2 _ _ e0
    replace e1 := s2 _ _ e1
    have hp3 := hp2.same s2
    have k3 := k2.trans (Kp.of s2)
    revert e0 e1 e2 hp3 k3
    generalize L2.upd H2 p2 (.tup [.int (0), .int (0)]) = H3
    intro e0 e1 e2 hp3 k3
    clear s2 hp2 k2 np2
    refine ⟨_, rfl, sz (by show 2 ≤ 1000000; decide), fun p3 np3 => ?_⟩
    have s3 := (L2.Same.refl H3).new (o := .tup [.int (-3), .int (2)]) np3
    have e3 : L2.upd H3 p3 (.tup [.int (-3), .int (2)]) p3 = some (.tup [.int (-3), .int (2)]) := upd_same
    replace e0 := s3 _ _ e0
    replace e1 := s3 _ _ e1
    replace e2 := s3 _ _ e2
    have hp4 := hp3.same s3
    have k4 := k3.trans (Kp.of s3)
    revert e0 e1 e2 e3 hp4 k4
    generalize L2.upd H3 p3 (.tup [.int (-3), .int (2)]) = H4
    intro e0 e1 e2 e3 hp4 k4
    clear s3 hp3 k3 np3
    refine ⟨_, rfl, sz (by show 2 ≤ 1000000; decide), fun p4 np4 => ?_⟩
    have s4 := (L2.Same.refl H4).new (o := .tup [.int (3), .int (-2)]) np4
    have e4 : L2.upd H4 p4 (.tup [.int (3), .int (-2)]) p4 = some (.tup [.int (3), .int (-2)]) := upd_same
    replace e0 := s4 _ _ e0
    replace e1 := s4 _ _ e1
    replace e2 := s4 _ _ e2
    replace e3 := s4 _ _ e3
    have hp5 := hp4.same s4
    have k5 := k4.trans (Kp.of s4)
    revert e0 e1 e2 e3 e4 hp5 k5
    generalize L2.upd H4 p4 (.tup [.int (3), .int (-2)]) = H5
    intro e0 e1 e2 e3 e4 hp5 k5
    clear s4 hp4 k4 np4
    refine ⟨_, rfl, _, rfl, sz (by show 2 ≤ 1000000; decide), fun p5 np5 => ?_⟩
    have s5 := (L2.Same.refl H5).new (o := .tup [.int (-1), .int (-1)]) np5
    have e5 : L2.upd H5 p5 (.tup [.int (-1), .int (-1)]) p5 = some (.tup [.int (-1), .int (-1)]) := upd_same
    replace e0 := s5 _ _ e0
    replace e1 := s5 _ _ e1
    replace e2 := s5 _ _ e2
    replace e3 := s5 _ _ e3
    replace e4 := s5 _ _ e4
    have hp6 := hp5.same s5
    have k6 := k5.trans (Kp.of s5)
    revert e0 e1 e2 e3 e4 e5 hp6 k6
    generalize L2.upd H5 p5 (.tup [.int (-1), .int (-1)]) = H6
    intro e0 e1 e2 e3 e4 e5 hp6 k6
    clear s5 hp5 k5 np5
    refine ⟨sz (by show 2 ≤ 1000000; decide), fun p6 np6 => ?_⟩
    have s6 := (L2.Same.refl H6).new (o := .tup [.int (2), .int (4)]) np6
    have e6 : L2.upd H6 p6 (.tup [.int (2), .int (4)]) p6 = some (.tup [.int (2), .int (4)]) := upd_same
    replace e0 := s6 _ _ e0
    replace e1 := s6 _ _ e1
    replace e2 := s6 _ _ e2
    replace e3 := s6 _ _ e3
    replace e4 := s6 _ _ e4
    replace e5 := s6 _ _ e5
    have hp7 := hp6.same s6
    have k7 := k6.trans (Kp.of s6)
    revert e0 e1 e2 e3 e4 e5 e6 hp7 k7
    generalize L2.upd H6 p6 (.tup [.int (2), .int (4)]) = H7
    intro e0 e1 e2 e3 e4 e5 e6 hp7 k7
    clear s6 hp6 k6 np6
    refine ⟨sz (by show 2 ≤ 1000000; decide), fun p7 np7 => ?_⟩
    have s7 := (L2.Same.refl H7).new (o := .tup [.int (6), .int (9)]) np7
    have e7 : L2.upd H7 p7 (.tup [.int (6), .int (9)]) p7 = some (.tup [.int (6), .int (9)]) := upd_same
    replace e0 := s7 _ _ e0
    replace e1 := s7 _ _ e1
    replace e2 := s7 _ _ e2
    replace e3 := s7 _ _ e3
    replace e4 := s7 _ _ e4
    replace e5 := s7 _ _ e5
    replace e6 := s7 _ _ e6
    have hp8 := hp7.same s7
    have k8 := k7.trans (Kp.of s7)
    revert e0 e1 e2 e3 e4 e5 e6 e7 hp8 k8
    generalize L2.upd H7 p7 (.tup [.int (6), .int (9)]) = H8
    intro e0 e1 e2 e3 e4 e5 e6 e7 hp8 k8
    clear s7 hp7 k7 np7
    refine ⟨sz (by show 2 ≤ 1000000; decide), fun p8 np8 => ?_⟩
    have s8 := (L2.Same.refl H8).new (o := .tup [.int (5), .int (5)]) np8
    have e8 : L2.upd H8 p8 (.tup [.int (5), .int (5)]) p8 = some (.tup [.int (5), .int (5)]) := upd_same
    replace e0 := s8 _ _ e0
    replace e1 := s8 _ _ e1
    replace e2 := s8 _ _ e2
    replace e3 := s8 _ _ e3
    replace e4 := s8 _ _ e4
    replace e5 := s8 _ _ e5
    replace e6 := s8 _ _ e6
    replace e7 := s8 _ _ e7
    have hp9 := hp8.same s8
    have k9 := k8.trans (Kp.of s8)
    revert e0 e1 e2 e3 e4 e5 e6 e7 e8 hp9 k9
    generalize L2.upd H8 p8 (.tup [.int (5), .int (5)]) = H9
    intro e0 e1 e2 e3 e4 e5 e6 e7 e8 hp9 k9
    clear s8 hp8 k8 np8
    refine ⟨sz (by show 2 ≤ 1000000; decide), fun p9 np9 => ?_⟩
    have s9 := (L2.Same.refl H9).new (o := .tup [.int (0), .int (7)]) np9
    have e9 : L2.upd H9 p9 (.tup [.int (0), .int (7)]) p9 = some (.tup [.int (0), .int (7)]) := upd_same
    replace e0 := s9 _ _ e0
    replace e1 := s9 _ _ e1
    replace e2 := s9 _ _ e2
    replace e3 := s9 _ _ e3
    replace e4 := s9 _ _ e4
    replace e5 := s9 _ _ e5
    replace e6 := s9 _ _ e6
    replace e7 := s9 _ _ e7
    replace e8 := s9 _ _ e8
    have hp10 := hp9.same s9
    have k10 := k9.trans (Kp.of s9)
    revert e0 e1 e2 e3 e4 e5 e6 e7 e8 e9 hp10 k10
    generalize L2.upd H9 p9 (.tup [.int (0), .int (7)]) = H10
    intro e0 e1 e2 e3 e4 e5 e6 e7 e8 e9 hp10 k10
    clear s9 hp9 k9 np9
    refine ⟨_, _, rfl, rfl, cpw 4 (by decide) (by decide) (by decide), _, _, rfl, rfl, cpw 4 (by decide) (by decide) (by decide), sz (by show 2 ≤ 1000000; decide), fun p10 np10 => ?_⟩
    have s10 := (L2.Same.refl H10).new (o := .tup [.int (10 ^ (9 : Int).toNat), .int (10 ^ (9 : Int).toNat)]) np10
    have e10 : L2.upd H10 p10 (.tup [.int (10 ^ (9 : Int).toNat), .int (10 ^ (9 : Int).toNat)]) p10 = some (.tup [.int (10 ^ (9 : Int).toNat), .int (10 ^ (9 : Int).toNat)]) := upd_same
    refine ⟨sz (by show 11 ≤ 1000000; decide), fun M nM => ?_⟩
    have s11 := s10.new (o := .lst [.ref p0, .ref p1, .ref p2, .ref p3, .ref p4, .ref p5, .ref p6, .ref p7, .ref p8, .ref p9, .ref p10]) nM
    have tb : ∀ (b : Addr) (x y : Int), H10 b = some (.tup [.int x, .int y]) → (L2.upd (L2.upd H10 p10 (.tup [.int (10 ^ (9 : Int).toNat), .int (10 ^ (9 : Int).toNat)])) M (.lst [.ref p0, .ref p1, .ref p2, .ref p3, .ref p4, .ref p5, .ref p6, .ref p7, .ref p8, .ref p9, .ref p10])) b = some (.tup [.int x, .int y]) := fun b x y z => s11 _ _ z
    have t10 := ((L2.Same.refl _).new (o := .lst [.ref p0, .ref p1, .ref p2, .ref p3, .ref p4, .ref p5, .ref p6, .ref p7, .ref p8, .ref p9, .ref p10]) nM) _ _ e10
    have eM : (L2.upd (L2.upd H10 p10 (.tup [.int (10 ^ (9 : Int).toNat), .int (10 ^ (9 : Int).toNat)])) M (.lst [.ref p0, .ref p1, .ref p2, .ref p3, .ref p4, .ref p5, .ref p6, .ref p7, .ref p8, .ref p9, .ref p10])) M = some (.lst [.ref p0, .ref p1, .ref p2, .ref p3, .ref p4, .ref p5, .ref p6, .ref p7, .ref p8, .ref p9, .ref p10]) := upd_same
    have hp12 := hp10.same s11
    have k12 := k10.trans (Kp.of s11)
    have t0 := tb p0 (0) (1) (by assumption)
    have t1 := tb p1 (1) (0) (by assumption)
    have t2 := tb p2 (0) (0) (by assumption)
    have t3 := tb p3 (-3) (2) (by assumption)
    have t4 := tb p4 (3) (-2) (by assumption)
    have t5 := tb p5 (-1) (-1) (by assumption)
    have t6 := tb p6 (2) (4) (by assumption)
    have t7 := tb p7 (6) (9) (by assumption)
    have t8 := tb p8 (5) (5) (by assumption)
    have t9 := tb p9 (0) (7) (by assumption)
    clear tb s11 s10 e10 np10 nM
    revert eM hp12 k12 t0 t1 t2 t3 t4 t5 t6 t7 t8 t9 t10
    generalize (L2.upd (L2.upd H10 p10 (.tup [.int (10 ^ (9 : Int).toNat), .int (10 ^ (9 : Int).toNat)])) M (.lst [.ref p0, .ref p1, .ref p2, .ref p3, .ref p4, .ref p5, .ref p6, .ref p7, .ref p8, .ref p9, .ref p10])) = H12
    intro t10' eM hp12 k12 t0 t1 t2 t3 t4 t5 t6 t7 t8 t9
    refine ⟨_, rfl, a, 40, n, rfl, by decide, by decide, by omega, hp12, fun w H13 p hw wa9 wb9 hp13 k13 np ep => ?_⟩
    have Ma : M ≠ a := by
      rintro rfl
      obtain ⟨_, _, _, h1, _⟩ := hp12
      rw [eM] at h1
      cases h1
    refine ⟨_, rfl, a, 5, n + 100, rfl, by decide, by decide, by omega, hp13, fun r1 H14 r10 r11 hp14 k14 => ?_⟩
    refine ⟨_, _, rfl, rfl, _, rfl, a, 8, n + 101, rfl, by decide, by decide, by omega, hp14, fun r2 H15 r20 r21 hp15 k15 => ⟨_, _, rfl, ?_⟩⟩
    have k35 := k14.trans k15
    have k15' := (k12.trans k13).trans k35
    have ep15 := k35 _ _ (tup_nea hp13 ep) ep
    obtain ⟨q1, q2⟩ := up_pos w
    have gw := road_gcd w
    have fw : ∃ v, wa w = wa v ∧ wb w = wb v ∧ v.length ≤ 400 := ⟨w, rfl, rfl, by omega⟩
    have b1 : Bd 30 (wa w) := bd_le (by omega) (by omega)
    have b2 : Bd 30 (wb w) := bd_le (by omega) (by omega)
    have eM15 := k35 _ _ Ma (k13 _ _ Ma eM)
    have keep : ∀ {b : Addr} {xs : List V} {H16 : Hp}, H12 b = some (.tup xs) → Kp a H15 H16 → H16 b = some (.tup xs) := fun z k => k _ _ (tup_nea hp12 z) (k35 _ _ (tup_nea hp12 z) (k13 _ _ (tup_nea hp12 z) z))
    refine ⟨_, rfl, rfl, _, rfl, bl2 (fun _ => ?_) (fun _ => ?_)⟩
    · refine ⟨_, rfl, _, rfl, _, rfl, M, _, rfl, .inl (SqL.of eM15), a, 11, n + 102, rfl, by decide, by decide, by omega, hp15, fun r3 H16 r30 r31 hp16 k16 => ?_⟩
      have eM16 := k16 _ _ Ma eM15
      have k16' := k15'.trans k16
      obtain ⟨j, rfl⟩ := nat_of r30
      have hj : j < 11 := by omega
      match j, hj with
      | 0, _ => exact ⟨M, _, _, _, rfl, rfl, SqL.of eM16, rfl, q (0) (1) _ p0 (by unfold Bd; decide +kernel) (by unfold Bd; decide +kernel) (fun z => absurd z (by unfold FracP; decide +kernel)) (hp16.le (by omega)) k16' (keep t0 k16)⟩
      | 1, _ => exact ⟨M, _, _, _, rfl, rfl, SqL.of eM16, rfl, q (1) (0) _ p1 (by unfold Bd; decide +kernel) (by unfold Bd; decide +kernel) (fun z => absurd z (by unfold FracP; decide +kernel)) (hp16.le (by omega)) k16' (keep t1 k16)⟩
      | 2, _ => exact ⟨M, _, _, _, rfl, rfl, SqL.of eM16, rfl, q (0) (0) _ p2 (by unfold Bd; decide +kernel) (by unfold Bd; decide +kernel) (fun z => absurd z (by unfold FracP; decide +kernel)) (hp16.le (by omega)) k16' (keep t2 k16)⟩
      | 3, _ => exact ⟨M, _, _, _, rfl, rfl, SqL.of eM16, rfl, q (-3) (2) _ p3 (by unfold Bd; decide +kernel) (by unfold Bd; decide +kernel) (fun z => absurd z (by unfold FracP; decide +kernel)) (hp16.le (by omega)) k16' (keep t3 k16)⟩
      | 4, _ => exact ⟨M, _, _, _, rfl, rfl, SqL.of eM16, rfl, q (3) (-2) _ p4 (by unfold Bd; decide +kernel) (by unfold Bd; decide +kernel) (fun z => absurd z (by unfold FracP; decide +kernel)) (hp16.le (by omega)) k16' (keep t4 k16)⟩
      | 5, _ => exact ⟨M, _, _, _, rfl, rfl, SqL.of eM16, rfl, q (-1) (-1) _ p5 (by unfold Bd; decide +kernel) (by unfold Bd; decide +kernel) (fun z => absurd z (by unfold FracP; decide +kernel)) (hp16.le (by omega)) k16' (keep t5 k16)⟩
      | 6, _ => exact ⟨M, _, _, _, rfl, rfl, SqL.of eM16, rfl, q (2) (4) _ p6 (by unfold Bd; decide +kernel) (by unfold Bd; decide +kernel) (fun z => absurd z (by unfold FracP; decide +kernel)) (hp16.le (by omega)) k16' (keep t6 k16)⟩
      | 7, _ => exact ⟨M, _, _, _, rfl, rfl, SqL.of eM16, rfl, q (6) (9) _ p7 (by unfold Bd; decide +kernel) (by unfold Bd; decide +kernel) (fun z => absurd z (by unfold FracP; decide +kernel)) (hp16.le (by omega)) k16' (keep t7 k16)⟩
      | 8, _ => exact ⟨M, _, _, _, rfl, rfl, SqL.of eM16, rfl, q (5) (5) _ p8 (by unfold Bd; decide +kernel) (by unfold Bd; decide +kernel) (fun z => absurd z (by unfold FracP; decide +kernel)) (hp16.le (by omega)) k16' (keep t8 k16)⟩
      | 9, _ => exact ⟨M, _, _, _, rfl, rfl, SqL.of eM16, rfl, q (0) (7) _ p9 (by unfold Bd; decide +kernel) (by unfold Bd; decide +kernel) (fun z => absurd z (by unfold FracP; decide +kernel)) (hp16.le (by omega)) k16' (keep t9 k16)⟩
      | 10, _ => exact ⟨M, _, _, _, rfl, rfl, SqL.of eM16, rfl, q (10 ^ (9 : Int).toNat) (10 ^ (9 : Int).toNat) _ p10 (by unfold Bd; decide +kernel) (by unfold Bd; decide +kernel) (fun z => absurd z (by unfold FracP; decide +kernel)) (hp16.le (by omega)) k16' (keep t10' k16)⟩
    · have bm1 : 2 ≤ 2 + r1 := by omega
      have c1 : ∀ i : Int, Cml i (2 + r1) := fun i => cml_r (by omega)
      have bmul : ∀ {i : Int}, Bd 30 i → Bd 100 (i * (2 + r1)) := fun {i} h => ((h.mul (show Bd 4 (2 + r1) from Nat.lt_of_le_of_lt (show (2 + r1).natAbs ≤ 6 by omega) (by decide))).up (by decide))
      dsimp only [tNext, tSeq]
      refine meetS (fun σ' H' => σ' = [some (.ref a), some (.ref M), some (.ref p), some (.int (2 + r1)), some (.int r2)] ∧ H' = H15) (fun N hN => ?_) (fun σ' H' z => ?_)
      · refine ⟨_, rfl, rfl, _, rfl, bl2 (fun _ => ?_) (fun _ => iteF (hN _ _ ⟨rfl, rfl⟩))⟩
        refine ⟨_, rfl, p, wa w, [wb w], rfl, SqT.of ep15, by show 1 ≤ 100; decide, fun mx _ _ => ?_⟩
        refine ⟨_, _, rfl, rfl, cpw 4 (by decide) (by decide) (by decide), _, _, rfl, rfl, _, rfl, bl2 (fun _ => ?_) (fun _ => hN _ _ ⟨rfl, rfl⟩)⟩
        refine ⟨_, rfl, p, _, _, _, rfl, rfl, SqT.of ep15, rfl, _, rfl, _, _, rfl, rfl, c1 _, ?_⟩
        refine ⟨_, rfl, p, _, _, _, rfl, rfl, SqT.of ep15, rfl, _, rfl, _, _, rfl, rfl, c1 _, sz (by show 2 ≤ 1000000; decide), fun u nu => ?_⟩
        exact q _ _ _ u (bmul b1) (bmul b2) (fun z => absurd z (not_frac_mul bm1)) ((hp15.le (by omega)).new nu) (k15'.new nu) upd_same
      · obtain ⟨rfl, rfl⟩ := z
        refine ⟨_, rfl, rfl, _, rfl, bl2 (fun _ => ?_) (fun _ => ?_)⟩
        · have bn1 : Bd 100 (-(wa w)) := by unfold Bd; rw [Int.natAbs_neg]; exact b1.up (by decide)
          have bn2 : Bd 100 (-(wb w)) := by unfold Bd; rw [Int.natAbs_neg]; exact b2.up (by decide)
          refine ⟨_, rfl, p, _, _, _, rfl, rfl, SqT.of ep15, rfl, _, rfl, _, rfl, p, _, _, _, rfl, rfl, SqT.of ep15, rfl, sz (by show 2 ≤ 1000000; decide), fun u1 nu1 => ?_⟩
          have y1 := (L2.Same.refl H').new (o := .tup [.int (-(wa w)), .int (wb w)]) nu1
          have ey1 := y1 _ _ ep15
          refine ⟨_, rfl, p, _, _, _, rfl, rfl, SqT.of ey1, rfl, _, rfl, p, _, _, _, rfl, rfl, SqT.of ey1, rfl, _, rfl, sz (by show 2 ≤ 1000000; decide), fun u2 nu2 => ?_⟩
          have y2 := y1.new (o := .tup [.int (wa w), .int (-(wb w))]) nu2
          have ey2 := y2 _ _ ep15
          refine ⟨_, rfl, p, _, _, _, rfl, rfl, SqT.of ey2, rfl, sz (by show 2 ≤ 1000000; decide), fun u3 nu3 => ?_⟩
          have y3 := y2.new (o := .tup [.int 0, .int (wb w)]) nu3
          have ey3 := y3 _ _ ep15
          refine ⟨_, rfl, p, _, _, _, rfl, rfl, SqT.of ey3, rfl, sz (by show 2 ≤ 1000000; decide), fun u4 nu4 => ?_⟩
          refine ⟨sz (by show 4 ≤ 1000000; decide), fun LL nLL => ?_⟩
          obtain ⟨sN, hLL, hq1, hq2, hq3, hq4⟩ := four_new (o5 := .lst [.ref u1, .ref u2, .ref u3, .ref u4]) nu1 nu2 nu3 nu4 nLL
          have hpN := hp15.same sN
          have kN := k15'.trans (Kp.of sN)
          have LLa : LL ≠ a := by
            rintro rfl
            obtain ⟨_, _, _, h1, _⟩ := hpN
            rw [hLL] at h1
            cases h1
          revert hLL hq1 hq2 hq3 hq4 hpN kN
          generalize (L2.upd (L2.upd (L2.upd (L2.upd (L2.upd H' u1 _) u2 _) u3 _) u4 _) LL _) = HN
          intro hLL hq1 hq2 hq3 hq4 hpN kN
          refine ⟨_, rfl, a, 4, n + 102, rfl, by decide, by decide, by omega, hpN, fun r3 H16 r30 r31 hp16 k16 => ?_⟩
          have eL16 := k16 _ _ LLa hLL
          have kk := kN.trans k16
          have tk : ∀ {b : Addr} {xs : List V}, HN b = some (.tup xs) → H16 b = some (.tup xs) := fun z => k16 _ _ (tup_nea hpN z) z
          obtain ⟨j, rfl⟩ := nat_of r30
          have hj : j < 4 := by omega
          have z0 : Bd 100 0 := by unfold Bd; decide +kernel
          match j, hj with
          | 0, _ => exact ⟨LL, _, _, _, rfl, rfl, SqL.of eL16, rfl, q _ _ _ u1 bn1 (b2.up (by decide)) (fun z => by have := z.1; omega) (hp16.le (by omega)) kk (tk hq1)⟩
          | 1, _ => exact ⟨LL, _, _, _, rfl, rfl, SqL.of eL16, rfl, q _ _ _ u2 (b1.up (by decide)) bn2 (fun z => by have := z.2.1; omega) (hp16.le (by omega)) kk (tk hq2)⟩
          | 2, _ => exact ⟨LL, _, _, _, rfl, rfl, SqL.of eL16, rfl, q _ _ _ u3 z0 (b2.up (by decide)) (fun z => by have := z.1; omega) (hp16.le (by omega)) kk (tk hq3)⟩
          | 3, _ => exact ⟨LL, _, _, _, rfl, rfl, SqL.of eL16, rfl, q _ _ _ u4 (b1.up (by decide)) z0 (fun z => by have := z.2.1; omega) (hp16.le (by omega)) kk (tk hq4)⟩
        · exact ⟨_, rfl, q _ _ _ p (b1.up (by decide)) (b2.up (by decide)) (fun _ => fw) (hp15.le (by omega)) k15' ep15⟩

/-! _law_rt_odd_way -/
def sp__law_rt_odd_way (K : PySem.W.Frag) : Sp := fun vs H Q _ => ∃ (a : Addr) (w : List Bool) (n : Nat), vs = [.ref a, .str (rd w)] ∧ w.length ≤ 1000 ∧ n < 800000000 ∧ Pu H a n ∧
  ∀ (t : Str) H', t.length ≤ w.length + 1 → Sok t → Pu H' a (n + 3) → Kp a H H' → Q (.str t) H'
theorem at_str {W : Str} {r : Int} (hk : (W.cps.toList.all fun x => decide (x < 1114112)) = true) (h0 : 0 ≤ r) (h1 : r < (W.length : Int)) : ∃ c, atI W.cps.toList r = some c ∧ c < 1114112 := by
  obtain ⟨j, rfl⟩ := nat_of h0
  have h1 : j < W.cps.size := by
    have : j < W.length := by omega
    exact this
  have h2 : j < W.cps.toList.length := by simpa using h1
  exact ⟨W.cps.toList[j], atI_nat (List.getElem?_eq_getElem _), of_decide_eq_true (List.all_eq_true.mp hk _ (List.getElem_mem h2))⟩
theorem app_len (x y : Str) : (x ++ y).length = x.length + y.length := by
  show (x.cps ++ y.cps).size = x.cps.size + y.cps.size
  simp
theorem ok__law_rt_odd_way (T : Tx K mg) : FnOk P w K mg base CX0 2 T.a__law_rt_odd_way T.fd__law_rt_odd_way ["purse", "wording"] (sp__law_rt_odd_way K) := by
  have G__law_coin := ok__law_coin (P := P) (w := w) (base := base) T
  refine T.F__law_rt_odd_way.ok sc__law_rt_odd_way (fun vs H Q E h => ?_) (fun cdv A outer s H vs Q E hr h => ?_)
  · obtain ⟨a, w, n, rfl, _⟩ := h
    rfl
  · obtain ⟨a, w, n, rfl, hw, hn, hp, q⟩ := h
    refine ⟨_, (pss_cons (ps_set (i := 2) sc__law_rt_odd_way.nd rfl (Or.inl rfl) pe_str)
  (pss_cons (ps_par (i := 3) (j := 4) (by rfl) sc__law_rt_odd_way.nd rfl rfl (by decide) rfl rfl (pa_cons (pe_call G__law_coin (hr.mono (by decide)) (by rfl) T.g__law_coin T.F__law_coin.kp (b__law_coin T.F__law_coin) .nil pass0 (pa_cons (pv 0) (pa_cons (pe_op op_add (pe_callB call_len_str (by rfl) T.z_len (by decide +kernel) (pa_cons (pv 1) pa_nil)) pe_int) pa_nil))) (pa_cons (pe_ix ix_str (pv 2) (pe_call G__law_coin (hr.mono (by decide)) (by rfl) T.g__law_coin T.F__law_coin.kp (b__law_coin T.F__law_coin) .nil pass0 (pa_cons (pv 0) (pa_cons (pe_callB call_len_str (by rfl) T.z_len (by decide +kernel) (pa_cons (pv 2) pa_nil)) pa_nil))) (fun _ _ => rfl)) pa_nil)) (by rfl))
  (pss_cons (ps_if (pt_cmpR op_gt (pe_call G__law_coin (hr.mono (by decide)) (by rfl) T.g__law_coin T.F__law_coin.kp (b__law_coin T.F__law_coin) .nil pass0 (pa_cons (pv 0) (pa_cons pe_int pa_nil))) pe_int (nomark _)) (pss_one (ps_ret (pv 1))) pss_nil)
  (pss_one (ps_ret (pe_op op_add_str (pe_op op_add_str (pe_slice sl_str (pv 1) po_none (po_some (pv 3))) (pv 4)) (pe_slice sl_str (pv 1) (po_some (pv 3)) po_none))))))), ?_⟩
    refine ⟨_, rfl, _, rfl, rd w, rfl, by rw [rd_len]; exact sz (by omega), _, _, rfl, rfl, a, _, n, rfl, by omega, by rw [rd_len]; omega, by omega, hp, fun r H1 r0 r1 hp1 k1 => ?_⟩
    refine ⟨_, rfl, _, rfl, _, rfl, _, rfl, sz (by decide +kernel), a, _, n + 1, rfl, by decide +kernel, by decide +kernel, by omega, hp1, fun r' H2 r0' r1' hp2 k2 => ?_⟩
    obtain ⟨c, ec, ck⟩ := at_str (by decide +kernel) r0' r1'
    refine ⟨_, _, _, rfl, rfl, sz (by decide +kernel), ec, _, _, rfl, ?_⟩
    refine ⟨_, rfl, a, 3, n + 2, rfl, by decide, by decide, by omega, hp2, fun r2 H3 _ _ hp3 k3 => ?_⟩
    have k03 := (k1.trans k2).trans k3
    refine ⟨_, _, rfl, rfl, _, rfl, bl2 (fun _ => ?_) (fun _ => ?_)⟩
    · exact ⟨_, rfl, q (rd w) H3 (by rw [rd_len]; omega) (rd_sok w) hp3 k03⟩
    · obtain ⟨j, rfl⟩ := nat_of r0
      refine ⟨_, rfl, _, rfl, _, rfl, rd w, rfl, by rw [rd_len]; exact sz (by omega), ?_⟩
      rw [cut_take]
      have l1 : (rd (w.take j)).length ≤ 1000 := by rw [rd_len, List.length_take]; omega
      have l2 : (⟨#[c]⟩ : Str).length = 1 := rfl
      have l3 : (rd (w.drop j)).length ≤ 1000 := by rw [rd_len, List.length_drop]; omega
      refine ⟨_, rfl, _, _, rfl, rfl, by rw [l2]; exact Nat.le_trans (Nat.add_le_add_right l1 1) (by decide), ?_⟩
      refine ⟨_, rfl, _, rfl, _, rfl, rd w, rfl, by rw [rd_len]; exact sz (by omega), ?_⟩
      rw [cut_drop]
      refine ⟨_, _, rfl, rfl, ?_, ?_⟩
      · rw [app_len, l2]
        exact Nat.le_trans (Nat.add_le_add (Nat.add_le_add_right l1 1) l3) (by decide)
      · refine q _ H3 ?_ (app_sok (app_sok (rd_sok _) (fun x hx => ?_)) (rd_sok _)) hp3 k03
        · rw [app_len, app_len, l2, rd_len, rd_len, List.length_take, List.length_drop]
          omega
        · have e : x = c := by simpa using hx
          rw [e]
          exact ck

/-! _law_rt_kind -/
def sp__law_rt_kind (K : PySem.W.Frag) : Sp := fun vs H Q _ => ∃ (e C d : Addr) (r : Nat) (v v' : V) (dat : PyData), vs = [.ref e, .int (r : Nat), v] ∧ r < 11 ∧ Fx K C r ∧ H e = some (ExV C d e) ∧ H d = some (.xd [("value", v')]) ∧
  (∀ H', Same H H' → Dp K H' v dat ∧ Dp K H' v' dat) ∧ Shw dat ∧ ∀ H', Same H H' → Q (.bl true) H'
/-- the ranks of a class -/
def rks (r : Nat) : List Bool := (List.range 11).map fun i => decide (i = r)
theorem ok__law_rt_kind (T : Tx K mg) : FnG P w K mg base CX0 1 T.a__law_rt_kind T.fd__law_rt_kind ["caught", "rank", "worth"] (sp__law_rt_kind K) := by
  refine okG T.F__law_rt_kind sc__law_rt_kind (fun vs H Q E h => ?_) (fun cdv A outer s H vs Q E hG hr h => ?_)
  · obtain ⟨e, C, d, r, v, v', dat, rfl, _⟩ := h
    rfl
  · obtain ⟨e, C, d, r, v, v', dat, rfl, hr11, F, he, hd, hdp, hsh, q⟩ := h
    refine ⟨_, (pss_cons (ps_if (PW.pt (pw_or (pt_not (pt_val (pe_callB call_isK (by rfl) T.z_isinstance (by decide +kernel) (pa_cons (pv 0) (pa_cons (pe_glob (v := .ref T.c_RoadError) (by rfl) T.g_RoadError rfl) pa_nil))))) (pw_or1 (pt_not (pt_val (pe_callB call_isK (by rfl) T.z_isinstance (by decide +kernel) (pa_cons (pv 0) (pa_cons (pe_bltn (v := .ty "ValueError") (u := .type "ValueError") (by rfl) T.z_ValueError (by decide +kernel) rfl) pa_nil)))))))) (pss_one (ps_ret pe_bl)) pss_nil)
  (pss_cons (ps_set (i := 3) sc__law_rt_kind.nd rfl (Or.inl rfl) (pe_lst (pa_cons (pe_callB call_isK (by rfl) T.z_isinstance (by decide +kernel) (pa_cons (pv 0) (pa_cons (pe_glob (v := .ref T.c_InvalidRoad) (by rfl) T.g_InvalidRoad rfl) pa_nil))) (pa_cons (pe_callB call_isK (by rfl) T.z_isinstance (by decide +kernel) (pa_cons (pv 0) (pa_cons (pe_glob (v := .ref T.c_InvalidFraction) (by rfl) T.g_InvalidFraction rfl) pa_nil))) (pa_cons (pe_callB call_isK (by rfl) T.z_isinstance (by decide +kernel) (pa_cons (pv 0) (pa_cons (pe_glob (v := .ref T.c_InvalidMap) (by rfl) T.g_InvalidMap rfl) pa_nil))) pa_nil)))))
  (pss_cons (ps_set (i := 3) sc__law_rt_kind.nd rfl (Or.inl rfl) (pe_op op_cat (pv 3) (pe_lst (pa_cons (pe_callB call_isK (by rfl) T.z_isinstance (by decide +kernel) (pa_cons (pv 0) (pa_cons (pe_glob (v := .ref T.c_InvalidMachine) (by rfl) T.g_InvalidMachine rfl) pa_nil))) (pa_cons (pe_callB call_isK (by rfl) T.z_isinstance (by decide +kernel) (pa_cons (pv 0) (pa_cons (pe_glob (v := .ref T.c_InvalidSquare) (by rfl) T.g_InvalidSquare rfl) pa_nil))) pa_nil)))))
  (pss_cons (ps_set (i := 3) sc__law_rt_kind.nd rfl (Or.inl rfl) (pe_op op_cat (pv 3) (pe_lst (pa_cons (pe_callB call_isK (by rfl) T.z_isinstance (by decide +kernel) (pa_cons (pv 0) (pa_cons (pe_glob (v := .ref T.c_InvalidNumber) (by rfl) T.g_InvalidNumber rfl) pa_nil))) (pa_cons (pe_callB call_isK (by rfl) T.z_isinstance (by decide +kernel) (pa_cons (pv 0) (pa_cons (pe_glob (v := .ref T.c_InvalidTurn) (by rfl) T.g_InvalidTurn rfl) pa_nil))) pa_nil)))))
  (pss_cons (ps_set (i := 3) sc__law_rt_kind.nd rfl (Or.inl rfl) (pe_op op_cat (pv 3) (pe_lst (pa_cons (pe_callB call_isK (by rfl) T.z_isinstance (by decide +kernel) (pa_cons (pv 0) (pa_cons (pe_glob (v := .ref T.c_HasEnded) (by rfl) T.g_HasEnded rfl) pa_nil))) (pa_cons (pe_callB call_isK (by rfl) T.z_isinstance (by decide +kernel) (pa_cons (pv 0) (pa_cons (pe_glob (v := .ref T.c_NothingToUndo) (by rfl) T.g_NothingToUndo rfl) pa_nil))) (pa_cons (pe_callB call_isK (by rfl) T.z_isinstance (by decide +kernel) (pa_cons (pv 0) (pa_cons (pe_glob (v := .ref T.c_Unreadable) (by rfl) T.g_Unreadable rfl) pa_nil))) pa_nil))))))
  (pss_cons (ps_expr (pe_bm PySem.F.plainAttrs_list PySem.F.slot_list_append PySem.F.type_list_append mt_append (pv 3) (pa_cons (pe_callB call_isK (by rfl) T.z_isinstance (by decide +kernel) (pa_cons (pv 0) (pa_cons (pe_glob (v := .ref T.c_InvalidBook) (by rfl) T.g_InvalidBook rfl) pa_nil))) pa_nil)))
  (pss_one (ps_ret (pe_and (pe_cmpR (op_eqD hr.units) (pv 3) (pe_lc (own := [("spot", 4)]) (g := (gName 4)) (by rfl) sc__law_rt_kind.nd (pi_range1 (by rfl) T.z_range (pa_cons pe_int pa_nil)) (blkOk_by (own := [("spot", 4)]) (N := n__law_rt_kind) (sc := defScope s__law_rt_kind) (by decide +kernel)) (fun _ _ _ _ _ => (pg_name (i := 4) sc__law_rt_kind.nd rfl (Or.inl rfl))) (fun _ _ _ _ _ => pts_nil) (fun _ _ _ _ _ => (pe_cmpR op_eq (pv 4) (pv 1) (nomark _)))) (nomark _)) (pe_one (pe_cmpR op_eq (pe_callB (call_repr hG hr) (by rfl) T.z_repr (by decide +kernel) (pa_cons (pe_xv (pv 0)) pa_nil)) (pe_callB (call_repr hG hr) (by rfl) T.z_repr (by decide +kernel) (pa_cons (pv 2) pa_nil)) (nomark _)))))))))))), ?_⟩
    have s0 := L2.Same.refl H
    refine ⟨_, rfl, e, C, d, _, _, _, _, rfl, s0 _ _ he, s0 _ _ hd, F.k, (.own _), (F.re _ T.n_RoadError), ⟨_, rfl, iteF ⟨_, rfl, e, C, d, _, _, _, _, rfl, s0 _ _ he, s0 _ _ hd, F.k, (.ty _), F.ve, ⟨_, rfl, iteF ?_⟩⟩⟩⟩
    refine ⟨_, rfl, e, C, d, _, _, _, _, rfl, s0 _ _ he, s0 _ _ hd, F.k, (.own _), (F.y0 _ T.n_InvalidRoad), ?_⟩
    refine ⟨_, rfl, e, C, d, _, _, _, _, rfl, s0 _ _ he, s0 _ _ hd, F.k, (.own _), (F.y1 _ T.n_InvalidFraction), ?_⟩
    refine ⟨_, rfl, e, C, d, _, _, _, _, rfl, s0 _ _ he, s0 _ _ hd, F.k, (.own _), (F.y2 _ T.n_InvalidMap), ?_⟩
    refine ⟨sz (by show 3 ≤ 1000000; decide), fun p1 n1 => ?_⟩
    have s1 := s0.new (o := .lst [.bl (decide (0 = r)), .bl (decide (1 = r)), .bl (decide (2 = r))]) n1
    refine ⟨_, rfl, _, rfl, e, C, d, _, _, _, _, rfl, s1 _ _ he, s1 _ _ hd, F.k, (.own _), (F.y3 _ T.n_InvalidMachine), ?_⟩
    refine ⟨_, rfl, e, C, d, _, _, _, _, rfl, s1 _ _ he, s1 _ _ hd, F.k, (.own _), (F.y4 _ T.n_InvalidSquare), ?_⟩
    refine ⟨sz (by show 2 ≤ 1000000; decide), fun p2 n2 => ?_⟩
    have e21 : p1 ≠ p2 := ne_of_none upd_same n2
    refine ⟨p1, p2, _, _, rfl, rfl, by rw [upd_ne e21]; exact upd_same, upd_same, sz (by show 3 + 2 ≤ 1000000; decide), fun p3 n3 => ?_⟩
    have s3 := (s1.new (o := .lst [.bl (decide (3 = r)), .bl (decide (4 = r))]) n2).new (o := .lst ([.bl (decide (0 = r)), .bl (decide (1 = r)), .bl (decide (2 = r))] ++ [.bl (decide (3 = r)), .bl (decide (4 = r))])) n3
    refine ⟨_, rfl, _, rfl, e, C, d, _, _, _, _, rfl, s3 _ _ he, s3 _ _ hd, F.k, (.own _), (F.y5 _ T.n_InvalidNumber), ?_⟩
    refine ⟨_, rfl, e, C, d, _, _, _, _, rfl, s3 _ _ he, s3 _ _ hd, F.k, (.own _), (F.y6 _ T.n_InvalidTurn), ?_⟩
    refine ⟨sz (by show 2 ≤ 1000000; decide), fun p4 n4 => ?_⟩
    have e43 : p3 ≠ p4 := ne_of_none upd_same n4
    refine ⟨p3, p4, _, _, rfl, rfl, by rw [upd_ne e43]; exact upd_same, upd_same, sz (by show 5 + 2 ≤ 1000000; decide), fun p5 n5 => ?_⟩
    have s5 := (s3.new (o := .lst [.bl (decide (5 = r)), .bl (decide (6 = r))]) n4).new (o := .lst (([.bl (decide (0 = r)), .bl (decide (1 = r)), .bl (decide (2 = r))] ++ [.bl (decide (3 = r)), .bl (decide (4 = r))]) ++ [.bl (decide (5 = r)), .bl (decide (6 = r))])) n5
    refine ⟨_, rfl, _, rfl, e, C, d, _, _, _, _, rfl, s5 _ _ he, s5 _ _ hd, F.k, (.own _), (F.y7 _ T.n_HasEnded), ?_⟩
    refine ⟨_, rfl, e, C, d, _, _, _, _, rfl, s5 _ _ he, s5 _ _ hd, F.k, (.own _), (F.y8 _ T.n_NothingToUndo), ?_⟩
    refine ⟨_, rfl, e, C, d, _, _, _, _, rfl, s5 _ _ he, s5 _ _ hd, F.k, (.own _), (F.y9 _ T.n_Unreadable), ?_⟩
    refine ⟨sz (by show 3 ≤ 1000000; decide), fun p6 n6 => ?_⟩
    have e65 : p5 ≠ p6 := ne_of_none upd_same n6
    refine ⟨p5, p6, _, _, rfl, rfl, by rw [upd_ne e65]; exact upd_same, upd_same, sz (by show 7 + 3 ≤ 1000000; decide), fun p7 n7 => ?_⟩
    have s6 := s5.new (o := .lst [.bl (decide (7 = r)), .bl (decide (8 = r)), .bl (decide (9 = r))]) n6
    have s7 := s6.new (o := .lst ((([.bl (decide (0 = r)), .bl (decide (1 = r)), .bl (decide (2 = r))] ++ [.bl (decide (3 = r)), .bl (decide (4 = r))]) ++ [.bl (decide (5 = r)), .bl (decide (6 = r))]) ++ [.bl (decide (7 = r)), .bl (decide (8 = r)), .bl (decide (9 = r))])) n7
    refine ⟨_, rfl, .inl ⟨rfl, _, SqL.of upd_same⟩, _, rfl, e, C, d, _, _, _, _, rfl, s7 _ _ he, s7 _ _ hd, F.k, .own _, F.y10 _ T.n_InvalidBook, p7, _, _, rfl, rfl, upd_same, sz (by show 11 ≤ 1000000; decide), ?_⟩
    rw [upd_upd]
    have s8 := fun o => s6.new (o := o) n7
    generalize hH : L2.upd _ p7 _ = H8
    have e8 : H8 p7 = some (.lst ((rks r).map V.bl)) := by
      rw [← hH]
      exact upd_same
    replace s8 : Same H H8 := by
      rw [← hH]
      exact s8 _
    clear hH
    refine ⟨_, rfl, 11, rfl, by decide, by decide, fun D hD => lc_range (lo := 0) (n := 11) (fun j H9 => Same H8 H9 ∧ H9 D = some (.lst (((rks r).take j).map V.bl))) ⟨(L2.Same.refl H8).new hD, upd_same⟩ ?_ ?_⟩
    · rintro j H9 hj ⟨sm, eD⟩
      refine ⟨rfl, ?_⟩
      refine iteT (B := Same H8 H9 ∧ H9 D = some (HO.lst (List.map V.bl (List.take (j + 1) (rks r))))) ?_
      refine ⟨_, rfl, _, rfl, rfl, _, eD, ?_, ?_, ?_⟩
      · rw [List.length_map, List.length_take]
        exact Nat.lt_of_le_of_lt (Nat.min_le_left _ _) (Nat.lt_trans hj (by decide))
      · exact fun b o z => by rw [upd_ne (ne_of_none z hD)]; exact sm b o z
      · have ej : (rks r)[j]? = some (decide (j = r)) := by
          unfold rks
          rw [List.getElem?_map, List.getElem?_range hj]
          rfl
        have ed : decide (V.int (0 + (j : Int)) = V.int (r : Int)) = decide (j = r) := by
          refine decide_eq_decide.mpr ⟨fun z => ?_, fun z => ?_⟩
          · injection z with z
            omega
          · rw [z]
            congr 1
            omega
        rw [upd_same, List.take_add_one, ej, List.map_append]
        show some (HO.lst (_ ++ [V.bl (decide (V.int (0 + (j : Int)) = V.int (r : Int)))])) = _
        rw [ed]
        rfl
    · rintro H9 ⟨sm, eD⟩
      have l11 : (rks r).take 11 = rks r := by
        have : (rks r).length = 11 := by simp [rks]
        rw [List.take_of_length_le (by omega)]
      rw [l11] at eD
      obtain ⟨w1, w2⟩ := hdp H9 (s8.trans sm)
      refine ⟨_, _, .lst (SqL.of (sm _ _ e8)) (dp_bs (rks r)), .lst (SqL.of eD) (dp_bs (rks r)), ?_, ?_, ?_⟩
      · rfl
      · rfl
      · refine ⟨true, ?_, ?_⟩
        · show V.bl (PyData.eqvAll _ _) = _
          rw [bs_eqv]
        · refine iteT ⟨_, rfl, e, C, d, _, v', rfl, (s8.trans sm) _ _ he, (s8.trans sm) _ _ hd, rfl, F.k.xf, F.k.no, ?_⟩
          refine ⟨_, _, rfl, w2, hsh, _, rfl, _, _, rfl, w1, hsh, rfl, ?_⟩
          have e : decide (V.str dat.shown = V.str dat.shown) = true := decide_eq_true rfl
          show Q (.bl (decide (V.str dat.shown = V.str dat.shown))) H9
          rw [e]
          exact q H9 (s8.trans sm)

/-! _law_rt_ring -/
def sp__law_rt_ring (K : PySem.W.Frag) : Sp := fun vs H Q _ => ∃ (a : Addr) (n : Nat), vs = [.ref a] ∧ n < 800000000 ∧ Pu H a n ∧
  ∀ (w : List Bool) H', Both w → w.length ≤ 6 → Pu H' a (n + 1004) → Kp a H H' → Q (.str (rd w)) H'
theorem both_mid (u v : List Bool) (t : Bool) : Both (u ++ [t, !t] ++ v) := by
  cases t <;> exact ⟨by simp, by simp⟩
theorem ok__law_rt_ring (T : Tx K mg) : FnOk P w K mg base CX0 3 T.a__law_rt_ring T.fd__law_rt_ring ["purse"] (sp__law_rt_ring K) := by
  have G__law_rt_way := ok__law_rt_way (P := P) (w := w) (base := base) T
  have G__law_coin := ok__law_coin (P := P) (w := w) (base := base) T
  refine T.F__law_rt_ring.ok sc__law_rt_ring (fun vs H Q E h => ?_) (fun cdv A outer s H vs Q E hr h => ?_)
  · obtain ⟨a, n, rfl, _⟩ := h
    rfl
  · obtain ⟨a, n, rfl, hn, hp, q⟩ := h
    refine ⟨_, (pss_cons (ps_set (i := 1) sc__law_rt_ring.nd rfl (Or.inl rfl) (pe_call G__law_rt_way (hr.mono (by decide)) (by rfl) T.g__law_rt_way T.F__law_rt_way.kp (b__law_rt_way T.F__law_rt_way) .nil pass0 (pa_cons (pv 0) (pa_cons pe_int pa_nil))))
  (pss_cons (ps_set (i := 2) sc__law_rt_ring.nd rfl (Or.inl rfl) (pe_call G__law_coin (hr.mono (by decide)) (by rfl) T.g__law_coin T.F__law_coin.kp (b__law_coin T.F__law_coin) .nil pass0 (pa_cons (pv 0) (pa_cons (pe_op op_add (pe_callB call_len_str (by rfl) T.z_len (by decide +kernel) (pa_cons (pv 1) pa_nil)) pe_int) pa_nil))))
  (pss_one (ps_ret (pe_op op_add_str (pe_op op_add_str (pe_slice sl_str (pv 1) po_none (po_some (pv 2))) (pe_ix ix_list (pe_lst (pa_cons pe_str (pa_cons pe_str pa_nil))) (pe_call G__law_coin (hr.mono (by decide)) (by rfl) T.g__law_coin T.F__law_coin.kp (b__law_coin T.F__law_coin) .nil pass0 (pa_cons (pv 0) (pa_cons pe_int pa_nil))) (fun _ _ => rfl))) (pe_slice sl_str (pv 1) (po_some (pv 2)) po_none)))))), ?_⟩
    refine ⟨_, rfl, a, 4, n, rfl, by decide, by decide, by omega, hp, fun w H1 hw hp1 k1 => ?_⟩
    refine ⟨_, rfl, _, rfl, rd w, rfl, by rw [rd_len]; exact sz (by omega), _, _, rfl, rfl, a, _, n + 1002, rfl, by omega, by rw [rd_len]; omega, by omega, hp1, fun sp H2 s0 s1 hp2 k2 => ?_⟩
    obtain ⟨j, rfl⟩ := nat_of s0
    rw [rd_len] at s1
    refine ⟨_, rfl, _, rfl, _, rfl, rd w, rfl, by rw [rd_len]; exact sz (by omega), ?_⟩
    rw [cut_take]
    refine ⟨sz (by show 2 ≤ 1000000; decide), fun M nM => ?_⟩
    refine ⟨_, rfl, a, 2, n + 1003, rfl, by decide, by decide, by omega, hp2.new nM, fun r H3 r0 r1 hp3 k3 => ?_⟩
    have eM : H3 M = some (.lst [.str "LR", .str "RL"]) := k3 M _ (hp2.ne nM).symm upd_same
    obtain ⟨t, et⟩ : ∃ t : Bool, atI [V.str "LR", .str "RL"] r = some (.str (rd [t, !t])) := by
      have c : r = 0 ∨ r = 1 := by omega
      rcases c with rfl | rfl
      · exact ⟨false, by decide +kernel⟩
      · exact ⟨true, by decide +kernel⟩
    refine ⟨M, _, r, _, rfl, rfl, SqL.of eM, et, _, _, rfl, rfl, rd_app_len (by rw [List.length_take]; show _ + 2 ≤ 1000000; omega), ?_⟩
    rw [rd_app]
    refine ⟨_, rfl, _, rfl, _, rfl, rd w, rfl, by rw [rd_len]; exact sz (by omega), ?_⟩
    rw [cut_drop]
    refine ⟨_, _, rfl, rfl, rd_app_len (by rw [List.length_append, List.length_take, List.length_drop]; show _ + 2 + _ ≤ 1000000; omega), ?_⟩
    rw [rd_app]
    refine q _ H3 (both_mid _ _ t) ?_ hp3 ((k1.trans k2).trans (((Kp.refl a _).new nM).trans k3))
    rw [List.length_append, List.length_append, List.length_take, List.length_drop]
    show min j w.length + 2 + _ ≤ 6
    omega

/-! is_undivided_map -/
def sp_is_undivided_map (K : PySem.W.Frag) : Sp := fun vs H Q _ => ∃ (p : Addr) (m : M4), vs = [.ref p] ∧ SqT K H p (m.l.map V.int) ∧ (∀ i ∈ m.l, Bd 900 i) ∧ ∀ b : Bool, (b = true ↔ (Nn m ∧ m.det ≠ 0)) → Q (.bl b) H
theorem ok_is_undivided_map (T : Tx K mg) : FnOk P w K mg base CX0 1 T.a_is_undivided_map T.fd_is_undivided_map ["one"] (sp_is_undivided_map K) := by
  refine T.F_is_undivided_map.ok sc_is_undivided_map (fun vs H Q E h => ?_) (fun cdv A outer s H vs Q E hr h => ?_)
  · obtain ⟨p, m, rfl, _⟩ := h
    rfl
  · obtain ⟨p, m, rfl, hp, hb, q⟩ := h
    refine ⟨_, (pss_cons (ps_asg (pv 0) (pg_tup (by rfl) (pgs_cons (pg_name (i := 1) sc_is_undivided_map.nd rfl (Or.inl rfl)) (pgs_cons (pg_name (i := 2) sc_is_undivided_map.nd rfl (Or.inl rfl)) (pgs_cons (pg_name (i := 3) sc_is_undivided_map.nd rfl (Or.inl rfl)) (pgs_cons (pg_name (i := 4) sc_is_undivided_map.nd rfl (Or.inl rfl)) pgs_nil))))))
  (pss_one (ps_ret (pe_and (pe_cmpR op_ge (pe_callB (cr_minN rfl) (by rfl) T.z_min (by decide +kernel) (pa_cons (pv 1) (pa_cons (pv 2) (pa_cons (pv 3) (pa_cons (pv 4) pa_nil))))) pe_int (nomark _)) (pe_one (pe_cmpR op_ne (pe_op op_mulL (pv 1) (pv 4)) (pe_op op_mulL (pv 2) (pv 3)) (nomark _))))))), ?_⟩
    have ba := hb m.a (by simp [M4.l])
    have bb := hb m.b (by simp [M4.l])
    have bc := hb m.c (by simp [M4.l])
    have bd := hb m.d (by simp [M4.l])
    refine ⟨_, rfl, p, _, rfl, hp, rfl, _, _, rfl, _, _, rfl, _, _, rfl, _, _, rfl, rfl, ?_⟩
    refine ⟨_, rfl, _, rfl, _, rfl, _, rfl, m.a, m.b, m.c, m.d, rfl, fun x hx hl => ⟨_, _, rfl, rfl, _, rfl, bl2 (fun h => ?_) (fun h => ?_)⟩⟩
    · have h := of_decide_eq_true h
      have nn : Nn m := ⟨by have := hl m.a (by simp); omega, by have := hl m.b (by simp); omega, by have := hl m.c (by simp); omega, by have := hl m.d (by simp); omega⟩
      refine ⟨_, rfl, _, rfl, _, _, rfl, rfl, ba.ml bd, _, rfl, _, rfl, _, _, rfl, rfl, bb.ml bc, rfl, q _ ?_⟩
      have e : m.det = m.a * m.d - m.b * m.c := rfl
      refine ⟨fun z => ⟨nn, fun d => ?_⟩, fun z => ?_⟩
      · have z : ¬ V.int (m.a * m.d) = V.int (m.b * m.c) := by simpa using z
        exact z (by rw [show m.a * m.d = m.b * m.c by omega])
      · have : ¬ V.int (m.a * m.d) = V.int (m.b * m.c) := fun y => by
          injection y with y
          exact z.2 (by omega)
        simpa using this
    · have h := of_decide_eq_false h
      refine q _ ⟨(fun z => nomatch z), fun z => absurd ?_ h⟩
      have := z.1.a
      have := z.1.b
      have := z.1.c
      have := z.1.d
      simp only [List.mem_cons, List.not_mem_nil, or_false] at hx
      rcases hx with rfl | rfl | rfl | rfl <;> omega

/-! is_map -/
def sp_is_map (K : PySem.W.Frag) : Sp := fun vs H Q _ => ∃ (p : Addr) (m : M4), vs = [.ref p] ∧ SqT K H p (m.l.map V.int) ∧ (∀ i ∈ m.l, Bd 900 i) ∧ ∀ b : Bool, (b = true ↔ Mp m) → Q (.bl b) H
theorem gl_four (m : M4) : gl m.l = Nat.gcd (Nat.gcd (Nat.gcd m.a.natAbs m.b.natAbs) m.c.natAbs) m.d.natAbs := by
  show Nat.gcd (Nat.gcd (Nat.gcd (Nat.gcd 0 m.a.natAbs) m.b.natAbs) m.c.natAbs) m.d.natAbs = _
  rw [Nat.gcd_zero_left]
theorem ok_is_map (T : Tx K mg) : FnOk P w K mg base CX0 2 T.a_is_map T.fd_is_map ["one"] (sp_is_map K) := by
  have G_is_undivided_map := ok_is_undivided_map (P := P) (w := w) (base := base) T
  refine T.F_is_map.ok sc_is_map (fun vs H Q E h => ?_) (fun cdv A outer s H vs Q E hr h => ?_)
  · obtain ⟨p, m, rfl, _⟩ := h
    rfl
  · obtain ⟨p, m, rfl, hp, hb, q⟩ := h
    refine ⟨_, (pss_cons (ps_asg (pv 0) (pg_tup (by rfl) (pgs_cons (pg_name (i := 1) sc_is_map.nd rfl (Or.inl rfl)) (pgs_cons (pg_name (i := 2) sc_is_map.nd rfl (Or.inl rfl)) (pgs_cons (pg_name (i := 3) sc_is_map.nd rfl (Or.inl rfl)) (pgs_cons (pg_name (i := 4) sc_is_map.nd rfl (Or.inl rfl)) pgs_nil))))))
  (pss_one (ps_ret (pe_and (pe_call G_is_undivided_map (hr.mono (by decide)) (by rfl) T.g_is_undivided_map T.F_is_undivided_map.kp (b_is_undivided_map T.F_is_undivided_map) .nil pass0 (pa_cons (pv 0) pa_nil)) (pe_one (pe_cmpR op_eq (pe_callBfun cr_gcdN (by rfl) T.m_gcd (pa_cons (pv 1) (pa_cons (pv 2) (pa_cons (pv 3) (pa_cons (pv 4) pa_nil))))) pe_int (nomark _))))))), ?_⟩
    refine ⟨_, rfl, p, _, rfl, hp, rfl, _, _, rfl, _, _, rfl, _, _, rfl, _, _, rfl, rfl, ?_⟩
    refine ⟨_, rfl, p, m, rfl, hp, hb, fun b hb => ⟨_, rfl, bl2 (fun c => ?_) (fun c => ?_)⟩⟩
    · have hm := hb.mp c
      refine ⟨_, rfl, _, rfl, _, rfl, _, rfl, .inr (.inr ⟨m.a, m.b, m.c, m.d, rfl, rfl, q _ ?_⟩)⟩
      rw [← gl_four]
      refine ⟨fun z => ?_, fun z => ?_⟩
      · have z : V.int (gl m.l : Nat) = V.int 1 := by simpa using z
        injection z with z
        exact ⟨hm.1, hm.2, by omega⟩
      · rw [z.gd]
        rfl
    · refine q _ ⟨(fun z => nomatch z), fun z => ?_⟩
      rw [hb.mpr ⟨z.nn, z.dt⟩] at c
      cases c

/-! check_map -/
def sp_check_map (K : PySem.W.Frag) : Sp := fun vs H Q E => ∃ (p : Addr) (m : M4), vs = [.ref p] ∧ SqT K H p (m.l.map V.int) ∧ (∀ i ∈ m.l, Bd 900 i) ∧ (Mp m → Q .non H) ∧
  (¬ Mp m → ∀ C d, PySem.W.nsIn K mainGlobals "InvalidMap" = some (some (.ref C)) → H d = none → E (.ref C) (some d) (L2.upd H d (.xd [("value", .ref p)])))
theorem ok_check_map (T : Tx K mg) : FnOk P w K mg base (L2.CX P w) 3 T.a_check_map T.fd_check_map ["one"] (sp_check_map K) := by
  have G_is_map := ok_is_map (P := P) (w := w) (base := base) T
  refine T.F_check_map.okX sc_check_map (fun vs H Q E h => ?_) (fun cdv A outer s H vs Q E hr h => ?_)
  · obtain ⟨p, m, rfl, _⟩ := h
    rfl
  · obtain ⟨p, m, rfl, hp, hb, q, qe⟩ := h
    refine ⟨_, (pss_one (ps_if (pt_not (pt_val (pe_call G_is_map (hr.mono (by decide)) (by rfl) T.g_is_map T.F_is_map.kp (b_is_map T.F_is_map) .nil pass0 (pa_cons (pv 0) pa_nil)))) (pss_one (ps_raise (by rfl) (takes_of rfl rfl rfl rfl) (pmk_V T.E_InvalidMap (ok_reinit T) (hr.mono (by decide)) (b_reinit T.F_reinit) (by rfl) (pa_cons (pv 0) pa_nil)))) pss_nil)), ?_⟩
    refine ⟨_, rfl, p, m, rfl, hp, hb, fun b hb => ⟨_, rfl, bl2 (fun c => ?_) (fun c => ?_)⟩⟩
    · have c : ¬ (b = true) := by simpa using c
      exact ⟨_, rfl, _, rfl, fun d nd => qe (fun z => c (hb.mpr z)) _ _ T.E_InvalidMap.ni nd⟩
    · have c : b = true := by simpa using c
      exact q (hb.mp c)

/-! list_of -/
def sp_list_of (K : PySem.W.Frag) : Sp := fun vs H Q _ => ∃ v : V, vs = [v] ∧ (v = .non → ∀ p, H p = none → Q (.ref p) (upd H p (.lst []))) ∧ (v ≠ .non → ∀ p, H p = none → Q (.ref p) (upd H p (.lst [v])))
theorem ok_list_of (T : Tx K mg) : FnOk P w K mg base CX0 1 T.a_list_of T.fd_list_of ["fraction"] (sp_list_of K) := by
  refine T.F_list_of.ok sc_list_of (fun vs H Q E h => ?_) (fun cdv A outer s H vs Q E hr h => ?_)
  · obtain ⟨v, rfl, _⟩ := h
    rfl
  · obtain ⟨v, rfl, q1, q2⟩ := h
    refine ⟨_, (pss_cons (ps_if (pt_cmpR op_isN (pv 0) pe_non (nomark _)) (pss_one (ps_ret (pe_lst pa_nil))) pss_nil)
  (pss_one (ps_ret (pe_lst (pa_cons (pv 0) pa_nil))))), ?_⟩
    refine ⟨_, rfl, rfl, _, rfl, ?_⟩
    by_cases c : v = .non
    · refine ifY c ⟨sz (by show 0 ≤ 1000000; decide), fun p np => q1 c p np⟩
    · refine ifN c ⟨_, rfl, sz (by show 1 ≤ 1000000; decide), fun p np => q2 c p np⟩

/-! fraction_above_zero -/
def sp_fraction_above_zero (K : PySem.W.Frag) : Sp := fun vs H Q _ => ∃ (x y : Int), vs = [.int x, .int y] ∧ Bd 1850 x ∧ Bd 1850 y ∧ (x * y ≤ 0 → Q .non H) ∧
  (0 < x * y → ∀ H' p, Same H H' → H p = none → H' p = some (.tup ((lowl [(x.natAbs : Int), (y.natAbs : Int)]).map V.int)) → Q (.ref p) H')
theorem gl_two (x y : Int) : gl [x, y] = Nat.gcd x.natAbs y.natAbs := by
  show Nat.gcd (Nat.gcd 0 x.natAbs) y.natAbs = _
  rw [Nat.gcd_zero_left]
theorem abs_if (x : Int) : (if x < 0 then -x else x) = (x.natAbs : Int) := by split <;> omega
theorem ok_fraction_above_zero (T : Tx K mg) : FnOk P w K mg base CX0 1 T.a_fraction_above_zero T.fd_fraction_above_zero ["above", "below"] (sp_fraction_above_zero K) := by
  refine T.F_fraction_above_zero.ok sc_fraction_above_zero (fun vs H Q E h => ?_) (fun cdv A outer s H vs Q E hr h => ?_)
  · obtain ⟨x, y, rfl, _⟩ := h
    rfl
  · obtain ⟨x, y, rfl, bx, by', q0, q1⟩ := h
    refine ⟨_, (pss_cons (ps_if (pt_cmpR op_le (pe_op op_mulL (pv 0) (pv 1)) pe_int (nomark _)) (pss_one (ps_ret pe_non)) pss_nil)
  (pss_cons (ps_set (i := 2) sc_fraction_above_zero.nd rfl (Or.inl rfl) (pe_callBfun cr_gcdN (by rfl) T.m_gcd (pa_cons (pv 0) (pa_cons (pv 1) pa_nil))))
  (pss_one (ps_ret (pe_tup (pa_cons (pe_op op_fdivL (pe_callB call_abs (by rfl) T.z_abs (by decide +kernel) (pa_cons (pv 0) pa_nil)) (pv 2)) (pa_cons (pe_op op_fdivL (pe_callB call_abs (by rfl) T.z_abs (by decide +kernel) (pa_cons (pv 1) pa_nil)) (pv 2)) pa_nil))))))), ?_⟩
    refine ⟨_, rfl, _, rfl, _, _, rfl, rfl, bx.ml by', _, _, rfl, rfl, _, rfl, bl2 (fun h => ?_) (fun h => ?_)⟩
    · exact q0 (of_decide_eq_true h)
    · have h := of_decide_eq_false h
      have pos : 0 < x * y := by omega
      have x0 : x ≠ 0 := by
        rintro rfl
        simp at pos
      have gp : 0 < Nat.gcd x.natAbs y.natAbs := Nat.gcd_pos_of_pos_left _ (by omega)
      have gb : Bd 1850 (Nat.gcd x.natAbs y.natAbs : Nat) := by
        unfold Bd at *
        rw [Int.natAbs_natCast]
        exact Nat.lt_of_le_of_lt (Nat.gcd_le_left _ (by omega)) bx
      have cd : ∀ i : Int, Cfd i (Nat.gcd x.natAbs y.natAbs : Nat) := fun i => .inr ⟨by omega, Nat.lt_trans (gb.sml).lg (by decide)⟩
      refine ⟨_, rfl, _, rfl, .inl ⟨x, y, rfl, ?_⟩⟩
      refine ⟨_, rfl, _, rfl, _, rfl, _, _, rfl, rfl, cd _, _, rfl, _, rfl, _, rfl, _, _, rfl, rfl, cd _, sz (by show 2 ≤ 1000000; decide), fun p np => ?_⟩
      refine q1 pos _ p ((L2.Same.refl H).new np) np ?_
      rw [upd_same, abs_if, abs_if]
      show some (HO.tup [V.int (Int.fdiv _ _), V.int (Int.fdiv _ _)]) = _
      rw [Int.fdiv_eq_ediv_of_nonneg _ (by omega), Int.fdiv_eq_ediv_of_nonneg _ (by omega)]
      unfold lowl
      rw [gl_two, Int.natAbs_natCast, Int.natAbs_natCast]
      rfl

/-! ring_of_root -/
def sp_ring_of_root (K : PySem.W.Frag) : Sp := fun vs H Q _ => ∃ (t : T3) (D : Int) (n : Nat), vs = [.int t.x, .int t.y, .int t.z] ∧ Met D t ∧ (∀ s : Int, s * s ≠ D) ∧ Ret t n ∧ n ≤ 1000000 ∧ ∀ H', Same H H' → Q (.str (rd (t.way n))) H'
theorem flatR_one (w : List Bool) : (w.map (fun t => [t])).flatten = w := by
  induction w with
  | nil => rfl
  | cons t w ih =>
    show [t] ++ (w.map (fun t => [t])).flatten = _
    rw [ih]
    rfl
theorem ok_ring_of_root (T : Tx K mg) : FnOk P w K mg base CX0 1 T.a_ring_of_root T.fd_ring_of_root ["a", "b", "c"] (sp_ring_of_root K) := by
  refine T.F_ring_of_root.ok sc_ring_of_root (fun vs H Q E h => ?_) (fun cdv A outer s H vs Q E hr h => ?_)
  · obtain ⟨t, D, n, rfl, _⟩ := h
    rfl
  · obtain ⟨t, D, n, rfl, m, ns, hr', hn, q⟩ := h
    refine ⟨_, (pss_cons (ps_set (i := 3) sc_ring_of_root.nd rfl (Or.inl rfl) (pe_tup (pa_cons (pv 0) (pa_cons (pv 1) (pa_cons (pv 2) pa_nil)))))
  (pss_cons (ps_set (i := 4) sc_ring_of_root.nd rfl (Or.inl rfl) (pe_lst pa_nil))
  (pss_cons (ps_while PassesOwn.never (PW.pt (pw_or (pt_not (pt_truth (pv 4) (fun _ => rfl))) (pw_or1 (pt_cmpR (op_neD hr.units) (pe_tup (pa_cons (pv 0) (pa_cons (pv 1) (pa_cons (pv 2) pa_nil)))) (pv 3) (nomark _)))))
    (pss_cons (ps_set (i := 5) sc_ring_of_root.nd rfl (Or.inl rfl) (pe_op op_add (pe_op op_add (pv 0) (pv 1)) (pv 2)))
  (pss_one (ps_if (pt_cmpR op_lt (pv 5) pe_int (nomark _)) (pss_cons (ps_expr (pe_bm PySem.F.plainAttrs_list PySem.F.slot_list_append PySem.F.type_list_append mt_append (pv 4) (pa_cons pe_str pa_nil)))
  (pss_one (ps_par (i := 1) (j := 2) (by rfl) sc_ring_of_root.nd rfl rfl (by decide) rfl rfl (pa_cons (pe_op op_add (pe_op op_mulL pe_int (pv 0)) (pv 1)) (pa_cons (pv 5) pa_nil)) (by rfl)))) (pss_cons (ps_expr (pe_bm PySem.F.plainAttrs_list PySem.F.slot_list_append PySem.F.type_list_append mt_append (pv 4) (pa_cons pe_str pa_nil)))
  (pss_one (ps_par (i := 0) (j := 1) (by rfl) sc_ring_of_root.nd rfl rfl (by decide) rfl rfl (pa_cons (pv 5) (pa_cons (pe_op op_add (pv 1) (pe_op op_mulL pe_int (pv 2))) pa_nil)) (by rfl))))))))
  (pss_one (ps_ret (pe_join pe_str (pv 4))))))), ?_⟩
    refine ⟨_, rfl, _, rfl, _, rfl, sz (by show 3 ≤ 1000000; decide), fun p np => ?_⟩
    refine ⟨sz (by show 0 ≤ 1000000; decide), fun r nr => ?_⟩
    have s1 := (L2.Same.refl H).new (o := .tup [.int t.x, .int t.y, .int t.z]) np
    have hp1 : (upd (upd H p (.tup [.int t.x, .int t.y, .int t.z])) r (.lst [])) p = some (.tup (t.l.map V.int)) := by rw [upd_ne (ne_of_none upd_same nr)]; exact upd_same
    refine ⟨fun k σ H2 => ∃ (i : Nat) (z : Option V), k = n - i ∧ i ≤ n ∧ σ = [some (.int (t.gos (t.way i)).x), some (.int (t.gos (t.way i)).y), some (.int (t.gos (t.way i)).z), some (.ref p), some (.ref r), z] ∧ Same H H2 ∧ H2 p = some (.tup (t.l.map V.int)) ∧ H2 r = some (.lst ((((t.way i).map (fun t => [t])).map rd).map V.str)), ⟨n, 0, none, rfl, Nat.zero_le _, rfl, s1.new nr, hp1, upd_same⟩, ?_⟩
    rintro k σ H2 ⟨i, z, rfl, hi, rfl, sm, hp, hr2⟩
    have hr0 : H r = none := s1.free nr
    have npr : p ≠ r := ne_of_none upd_same nr
    have ln : ((((t.way i).map (fun t => [t])).map rd).map V.str).length = i := by simp [way_len]
    refine testM (decide (i < n)) (fun H3 => Same H2 H3) (fun R hR => ?_) (fun H3 s3 => ?_)
    · by_cases c0 : i = 0
      · subst c0
        have z := hR H2 (L2.Same.refl _)
        rw [decide_eq_true (show 0 < n by have := hr'.pos; omega)] at z
        exact ⟨_, rfl, false, .inl ⟨_, SqL.of hr2, rfl⟩, z⟩
      · refine ⟨_, rfl, true, .inl ⟨_, SqL.of hr2, ?_⟩, ?_⟩
        · cases e : ((((t.way i).map (fun t => [t])).map rd).map V.str) with
          | nil => rw [e] at ln; exact absurd ln.symm c0
          | cons _ _ => rfl
        · refine ⟨_, rfl, _, rfl, _, rfl, sz (by show 3 ≤ 1000000; decide), fun u nu => ?_⟩
          have s4 := (L2.Same.refl H2).new (o := .tup ((t.gos (t.way i)).l.map V.int)) nu
          refine ⟨_, rfl, _, _, dp_tup (l := (t.gos (t.way i)).l) (SqT.of upd_same), dp_tup (l := t.l) (SqT.of (s4 _ _ hp)), shaped_tup _, shaped_tup _, ?_⟩
          rw [eqv_tup]
          have e : (!decide ((t.gos (t.way i)).l = t.l)) = decide (i < n) := by
            by_cases c : i < n
            · rw [decide_eq_true c, decide_eq_false fun z => hr'.no i (by omega) c (T3.ext' (by injection z) (by injection z with _ z; injection z) (by injection z with _ z; injection z with _ z; injection z))]
              rfl
            · have : i = n := by omega
              subst this
              rw [decide_eq_false c, hr'.eq, decide_eq_true rfl]
              rfl
          rw [e]
          exact ⟨_, rfl, hR _ s4⟩
    · have hp3 := s3 _ _ hp
      have hr3 := s3 _ _ hr2
      by_cases c : i < n
      · refine ifY c ?_
        have ws : t.gos (t.way (i + 1)) = (t.gos (t.way i)).go (t.gos (t.way i)).nx := way_st t i
        have wy : t.way (i + 1) = t.way i ++ [(t.gos (t.way i)).nx] := rfl
        have room : ((((t.way i).map (fun t => [t])).map rd).map V.str).length < sizeLine := by
          rw [ln]
          exact Nat.lt_of_le_of_lt (show i ≤ 1000000 by omega) (by decide)
        have keep : ∀ o, Same H (upd H3 r o) := fun o b u z => by rw [upd_ne (ne_of_none z hr0)]; exact (sm.trans s3) b u z
        refine ⟨fun σ' H' => ∃ z, σ' = [some (.int (t.gos (t.way (i + 1))).x), some (.int (t.gos (t.way (i + 1))).y), some (.int (t.gos (t.way (i + 1))).z), some (.ref p), some (.ref r), z] ∧ Same H H' ∧ H' p = some (.tup (t.l.map V.int)) ∧ H' r = some (.lst ((((t.way (i + 1)).map (fun t => [t])).map rd).map V.str)), ?_, ?_⟩
        · rintro σ' H' ⟨z, e⟩
          exact ⟨n - (i + 1), by omega, i + 1, z, rfl, c, e⟩
        · rw [ws, wy]
          generalize t.gos (t.way i) = F at *
          refine ⟨_, rfl, _, rfl, _, _, rfl, rfl, _, rfl, _, _, rfl, rfl, ?_⟩
          refine ⟨_, rfl, _, _, rfl, rfl, _, rfl, ?_⟩
          by_cases g : F.x + F.y + F.z < 0
          · have nx : F.nx = true := decide_eq_true g
            refine ifY g ⟨_, rfl, .inl ⟨rfl, _, SqL.of hr3⟩, r, _, _, rfl, rfl, hr3, room, ?_⟩
            refine ⟨_, rfl, _, _, rfl, rfl, cml_l (by decide), _, rfl, _, _, rfl, rfl, _, rfl, ?_⟩
            rw [nx]
            refine ⟨_, _, rfl, _, rfl, keep _, by rw [upd_ne npr]; exact hp3, ?_⟩
            rw [upd_same, show Str.ofString "R" = rd [true] from rd_R.symm]
            simp
          · have nx : F.nx = false := decide_eq_false g
            refine ifN g ⟨_, rfl, .inl ⟨rfl, _, SqL.of hr3⟩, r, _, _, rfl, rfl, hr3, room, ?_⟩
            refine ⟨_, rfl, _, rfl, _, rfl, _, _, rfl, rfl, cml_l (by decide), _, _, rfl, rfl, ?_⟩
            rw [nx]
            refine ⟨_, _, rfl, _, rfl, keep _, by rw [upd_ne npr]; exact hp3, ?_⟩
            rw [upd_same, show Str.ofString "L" = rd [false] from rd_L.symm]
            simp
      · have ei : i = n := by omega
        subst ei
        refine ifN c ?_
        refine ⟨⟨_, rfl⟩, _, rfl, ("" : Str), r, ((t.way i).map (fun t => [t])).map rd, rfl, rfl, .inl (SqL.of hr3), join_room (by rw [flatR_one, way_len]; omega), ?_⟩
        rw [join_rd, flatR_one]
        exact q _ (sm.trans s3)

/-! fixed -/
def FxdP (H : Hp) (Q : VK) (m : M4) : Prop := (∀ i ∈ m.l, Bd 30 i) ∧
  (m = M4.one → ∀ H', Same H H' → Q .non H') ∧
  (m ≠ M4.one → m.c = 0 → m.b * (m.d - m.a) ≤ 0 → ∀ H' r, Same H H' → H r = none → H' r = some (.lst []) → Q (.ref r) H') ∧
  (m ≠ M4.one → m.c = 0 → 0 < m.b * (m.d - m.a) → ∀ H' r q, Same H H' → H r = none → H q = none → H' q = some (.tup ((lowl [(m.b.natAbs : Int), ((m.d - m.a).natAbs : Int)]).map V.int)) → H' r = some (.lst [.ref q]) → Q (.ref r) H') ∧
  (m.c ≠ 0 → ∀ s : Int, 0 ≤ s → s * s = (T3.fx m).disc → (m.a - m.d + s) * (2 * m.c) ≤ 0 → ∀ H' r, Same H H' → H r = none → H' r = some (.lst []) → Q (.ref r) H') ∧
  (m.c ≠ 0 → ∀ s : Int, 0 ≤ s → s * s = (T3.fx m).disc → 0 < (m.a - m.d + s) * (2 * m.c) → ∀ H' r q, Same H H' → H r = none → H q = none → H' q = some (.tup ((lowl [((m.a - m.d + s).natAbs : Int), ((2 * m.c).natAbs : Int)]).map V.int)) → H' r = some (.lst [.ref q]) → Q (.ref r) H') ∧
  (m.c ≠ 0 → (∀ s : Int, s * s ≠ (T3.fx m).disc) → Met (T3.fx m).disc (T3.fx m) → ∃ n, n ≤ 1000000 ∧ Ret (T3.fx m) n ∧ ∀ H' r q, Same H H' → H r = none → H q = none → H' q = some (.tup [.str (rd []), .str (rd ((T3.fx m).way n))]) → H' r = some (.lst [.ref q]) → Q (.ref r) H')
def sp_fixed (K : PySem.W.Frag) : Sp := fun vs H Q E => ∃ (p : Addr) (m : M4), vs = [.ref p] ∧ H p = some (.tup (m.l.map V.int)) ∧ (∀ i ∈ m.l, Bd 900 i) ∧ (¬ Mp m → Rs K H E "InvalidMap" (.ref p)) ∧ (Mp m → FxdP H Q m)
theorem ok_fixed (T : Tx K mg) : FnOk P w K mg base (L2.CX P w) 4 T.a_fixed T.fd_fixed ["one"] (sp_fixed K) := by
  have G_check_map := ok_check_map (P := P) (w := w) (base := base) T
  have G_list_of := ok_list_of (P := P) (w := w) (base := base) T
  have G_fraction_above_zero := ok_fraction_above_zero (P := P) (w := w) (base := base) T
  have G_ring_of_root := ok_ring_of_root (P := P) (w := w) (base := base) T
  refine T.F_fixed.okX sc_fixed (fun vs H Q E h => ?_) (fun cdv A outer s H vs Q E hr h => ?_)
  · obtain ⟨p, m, rfl, _⟩ := h
    rfl
  · obtain ⟨p, m, rfl, hp, hb9, qe, qP⟩ := h
    refine ⟨_, (pss_cons (ps_expr (pe_call G_check_map (hr.mono (by decide)) (by rfl) T.g_check_map T.F_check_map.kp (b_check_map T.F_check_map) .nil (passes_call (takes_of rfl rfl rfl rfl) (fun _ _ _ _ h => h)) (pa_cons (pv 0) pa_nil)))
  (pss_cons (ps_if (pt_cmpR (op_eqD hr.units) (pv 0) (pe_tup (pa_cons pe_int (pa_cons pe_int (pa_cons pe_int (pa_cons pe_int pa_nil))))) (nomark _)) (pss_one (ps_ret pe_non)) pss_nil)
  (pss_cons (ps_asg (pv 0) (pg_tup (by rfl) (pgs_cons (pg_name (i := 1) sc_fixed.nd rfl (Or.inl rfl)) (pgs_cons (pg_name (i := 2) sc_fixed.nd rfl (Or.inl rfl)) (pgs_cons (pg_name (i := 3) sc_fixed.nd rfl (Or.inl rfl)) (pgs_cons (pg_name (i := 4) sc_fixed.nd rfl (Or.inl rfl)) pgs_nil))))))
  (pss_cons (ps_if (pt_cmpR op_eq (pv 3) pe_int (nomark _)) (pss_one (ps_ret (pe_call G_list_of (hr.mono (by decide)) (by rfl) T.g_list_of T.F_list_of.kp (b_list_of T.F_list_of) .nil pass0 (pa_cons (pe_call G_fraction_above_zero (hr.mono (by decide)) (by rfl) T.g_fraction_above_zero T.F_fraction_above_zero.kp (b_fraction_above_zero T.F_fraction_above_zero) .nil pass0 (pa_cons (pv 2) (pa_cons (pe_op op_sub (pv 4) (pv 1)) pa_nil))) pa_nil)))) pss_nil)
  (pss_cons (ps_set (i := 5) sc_fixed.nd rfl (Or.inl rfl) (pe_op op_add (pe_op op_powL (pe_op op_sub (pv 4) (pv 1)) pe_int) (pe_op op_mulL (pe_op op_mulL pe_int (pv 2)) (pv 3))))
  (pss_cons (ps_set (i := 6) sc_fixed.nd rfl (Or.inl rfl) (pe_callBfun cr_isqrt (by rfl) T.m_isqrt (pa_cons (pv 5) pa_nil)))
  (pss_cons (ps_if (pt_cmpR op_eq (pe_op op_mulL (pv 6) (pv 6)) (pv 5) (nomark _)) (pss_one (ps_ret (pe_call G_list_of (hr.mono (by decide)) (by rfl) T.g_list_of T.F_list_of.kp (b_list_of T.F_list_of) .nil pass0 (pa_cons (pe_call G_fraction_above_zero (hr.mono (by decide)) (by rfl) T.g_fraction_above_zero T.F_fraction_above_zero.kp (b_fraction_above_zero T.F_fraction_above_zero) .nil pass0 (pa_cons (pe_op op_add (pe_op op_sub (pv 1) (pv 4)) (pv 6)) (pa_cons (pe_op op_mulL pe_int (pv 3)) pa_nil))) pa_nil)))) pss_nil)
  (pss_one (ps_ret (pe_lst (pa_cons (pe_tup (pa_cons pe_str (pa_cons (pe_call G_ring_of_root (hr.mono (by decide)) (by rfl) T.g_ring_of_root T.F_ring_of_root.kp (b_ring_of_root T.F_ring_of_root) .nil pass0 (pa_cons (pv 3) (pa_cons (pe_op op_sub (pv 4) (pv 1)) (pa_cons (pe_un un_neg (pv 2)) pa_nil)))) pa_nil))) pa_nil))))))))))), ?_⟩
    refine ⟨_, rfl, p, m, rfl, SqT.of hp, hb9, fun mp => ?_, fun nm C d hC hd => (qe nm).now hC hd⟩
    obtain ⟨bd, q1, q2, q3, q4, q5, q6⟩ := qP mp
    have hb : ∀ i ∈ m.l, Bd 900 i := fun i hi => (bd i hi).up (by decide)
    refine ⟨_, rfl, sz (by show 4 ≤ 1000000; decide), fun u nu => ?_⟩
    have s1 := (L2.Same.refl H).new (o := .tup (M4.one.l.map V.int)) nu
    refine ⟨_, _, dp_tup (l := m.l) (SqT.of (s1 _ _ hp)), dp_tup (l := M4.one.l) (SqT.of upd_same), shaped_tup _, shaped_tup _, ?_⟩
    rw [eqv_tup]
    have nn := mp.nn
    have ba := bd m.a (by simp [M4.l])
    have bb := bd m.b (by simp [M4.l])
    have bc := bd m.c (by simp [M4.l])
    have bdd := bd m.d (by simp [M4.l])
    have bda := bdd.sub ba
    have H0 := s1
    refine ⟨_, rfl, ?_⟩
    by_cases c0 : m.l = M4.one.l
    · refine ifY c0 ?_
      exact q1 (M4.l_inj c0) _ s1
    · refine ifN c0 ?_
      have c1 : m ≠ M4.one := fun z => c0 (by rw [z])
      refine ⟨_, rfl, p, _, rfl, SqT.of (s1 _ _ hp), rfl, _, _, rfl, _, _, rfl, _, _, rfl, _, _, rfl, rfl, ?_⟩
      refine ⟨_, rfl, rfl, _, rfl, ?_⟩
      by_cases c2 : m.c = 0
      · refine ifY (congrArg V.int c2) ?_
        refine ⟨_, rfl, _, rfl, _, rfl, _, _, rfl, rfl, m.b, m.d - m.a, rfl, bb.up (by decide), bda.up (by decide), fun z => ?_, fun z => ?_⟩
        · refine ⟨_, rfl, fun _ r nr => ?_, fun y => absurd rfl y⟩
          exact q2 c1 c2 z _ r (s1.new nr) (s1.free nr) upd_same
        · intro H' t sm nt et
          refine ⟨_, rfl, (fun y => nomatch y), fun _ r nr => ?_⟩
          have s2 := s1.trans sm
          exact q3 c1 c2 z _ r t (s2.new nr) (s2.free nr) (s1.free nt) (((L2.Same.refl _).new nr) _ _ et) upd_same
      · refine ifN (fun z => c2 (by injection z)) ?_
        have ed : (m.d - m.a) ^ (2 : Int).toNat + 4 * m.b * m.c = (T3.fx m).disc := by
          show (m.d - m.a) ^ 2 + 4 * m.b * m.c = (m.d - m.a) * (m.d - m.a) - 4 * m.c * -m.b
          grind
        refine ⟨_, rfl, _, rfl, _, _, rfl, rfl, _, _, rfl, rfl, cpw 31 bda (by decide) (by decide), _, rfl, _, _, rfl, rfl, cml_l (by decide), _, rfl, _, _, rfl, rfl, cml_w 33 30 (Bd.mul (j := 3) (by unfold Bd; decide) bb) bc, _, _, rfl, rfl, ?_⟩
        dsimp only
        rw [ed]
        have sq : 0 ≤ (m.d - m.a) * (m.d - m.a) := by
          rcases Int.le_total 0 (m.d - m.a) with c | c
          · exact Int.mul_nonneg c c
          · rw [← Int.neg_mul_neg]
            exact Int.mul_nonneg (by omega) (by omega)
        have bc0 : 0 ≤ m.b * m.c := Int.mul_nonneg nn.b nn.c
        have dd : (T3.fx m).disc = (m.d - m.a) * (m.d - m.a) + 4 * (m.b * m.c) := by
          show (m.d - m.a) * (m.d - m.a) - 4 * m.c * -m.b = _
          grind
        have bD : (T3.fx m).disc < 2 ^ 64 := by
          have h1 : Bd 62 ((m.d - m.a) * (m.d - m.a)) := bda.mul bda
          have h2 : Bd 60 (m.b * m.c) := bb.mul bc
          unfold Bd at h1 h2
          have : (2 : Nat) ^ 62 = 4611686018427387904 := by decide
          have : (2 : Nat) ^ 60 = 1152921504606846976 := by decide
          have : (2 : Int) ^ 64 = 18446744073709551616 := by decide
          omega
        refine ⟨_, rfl, _, rfl, by omega, bD, fun s s0 sl sg => ?_⟩
        have bs : Bd 32 s := by
          unfold Bd
          refine Nat.not_le.mp fun z => ?_
          have z : (4294967296 : Int) ≤ s := by
            have : (2 : Nat) ^ 32 = 4294967296 := by decide
            omega
          have := Int.mul_le_mul z z (by decide) (by omega)
          have : (2 : Int) ^ 64 = 18446744073709551616 := by decide
          omega
        refine ⟨_, rfl, _, rfl, _, _, rfl, rfl, bs.ml bs, _, rfl, rfl, _, rfl, ?_⟩
        by_cases c3 : s * s = (T3.fx m).disc
        · refine ifY (congrArg V.int c3) ?_
          have b1 : Bd 33 (m.a - m.d + s) := ((ba.sub bdd).up (by decide : 31 ≤ 32)).add bs
          refine ⟨_, rfl, _, rfl, _, _, rfl, rfl, _, rfl, _, _, rfl, rfl, _, rfl, _, _, rfl, rfl, cml_l (by decide), m.a - m.d + s, 2 * m.c, rfl, b1.up (by decide), (Bd.mul (j := 2) (by unfold Bd; decide) bc).up (by decide), fun z => ?_, fun z => ?_⟩
          · refine ⟨_, rfl, fun _ r nr => ?_, fun y => absurd rfl y⟩
            exact q4 c2 s s0 c3 z _ r (s1.new nr) (s1.free nr) upd_same
          · intro H' t sm nt et
            refine ⟨_, rfl, (fun y => nomatch y), fun _ r nr => ?_⟩
            have s2 := s1.trans sm
            exact q5 c2 s s0 c3 z _ r t (s2.new nr) (s2.free nr) (s1.free nt) (((L2.Same.refl _).new nr) _ _ et) upd_same
        · refine ifN (fun z => c3 (by injection z)) ?_
          have ns : ∀ t : Int, t * t ≠ (T3.fx m).disc := by
            intro t et
            obtain ⟨k, k0, ek⟩ : ∃ k : Int, 0 ≤ k ∧ k * k = t * t := by
              rcases Int.le_total 0 t with c | c
              · exact ⟨t, c, rfl⟩
              · exact ⟨-t, by omega, Int.neg_mul_neg t t⟩
            rw [← et, ← ek] at sl sg c3
            have k1 : s ≤ k := Int.not_lt.mp fun z => by
              have := Int.mul_le_mul (show k + 1 ≤ s by omega) (show k + 1 ≤ s by omega) (by omega) (by omega)
              have e : (k + 1) * (k + 1) = k * k + 2 * k + 1 := by grind
              omega
            have k2 : k < s + 1 := Int.not_le.mp fun z => by
              have := Int.mul_le_mul z z (by omega) (by omega)
              omega
            have : s = k := by omega
            exact c3 (by rw [this])
          have b0 : m.b ≠ 0 := fun z => by
            refine ns (m.d - m.a) ?_
            rw [dd, z]
            omega
          have mt : Met (T3.fx m).disc (T3.fx m) := ⟨by have := nn.c; show 0 < m.c; omega, by have := nn.b; show -m.b < 0; omega, rfl⟩
          obtain ⟨n, hn, hr', q⟩ := q6 c2 ns mt
          refine ⟨_, rfl, _, rfl, _, rfl, _, _, rfl, rfl, _, rfl, _, rfl, T3.fx m, _, n, rfl, mt, ns, hr', hn, fun H' sm => ?_⟩
          refine ⟨sz (by show 2 ≤ 1000000; decide), fun u1 nu1 => ⟨sz (by show 1 ≤ 1000000; decide), fun r nr => ?_⟩⟩
          have s2 := s1.trans sm
          exact q _ r u1 ((s2.new nu1).new nr) ((s2.new nu1).free nr) (s2.free nu1) (by rw [((L2.Same.refl _).new nr) _ _ upd_same, rd_nil]) upd_same
theorem low_eqn {P R c e b : Int} (hP : 0 < P) (hR : 0 < R) (h : c * (P * P) + e * (P * R) = b * (R * R)) (bP : Bd 190 P) (bR : Bd 190 R) : ∃ x y, lowl [P, R] = [x, y] ∧ 1 ≤ x ∧ 1 ≤ y ∧ gl [x, y] = 1 ∧ Bd 200 x ∧ Bd 200 y ∧ c * x * x + e * x * y = b * y * y := by
  obtain ⟨u, v, e1, u1, v1, g, uP, vR, gu, gv, gp⟩ := low_two hP hR
  generalize (gl [P, R] : Int) = k at gu gv
  refine ⟨u, v, e1, u1, v1, by rw [gl2]; exact g, ?_, ?_, ?_⟩
  · exact (Bd.le' bP (by omega)).up (by decide)
  · exact (Bd.le' bR (by omega)).up (by decide)
  · have k0 : k ≠ 0 := fun z => by rw [z] at gu; omega
    have kk : k * k ≠ 0 := fun z => by rcases Int.mul_eq_zero.mp z with y | y <;> exact k0 y
    refine (Int.mul_eq_mul_left_iff kk).mp ?_
    rw [← gu, ← gv] at h
    grind
theorem fixed_ex {m : M4} (mp : Mp m) (le : Le 60 m) : ∃ R : FxR, FxOk m R ∧ ∀ (H : Hp) (Q : VK), (∀ H' v, Same H H' → R.At H H' v → Q v H') → FxdP H Q m := by
  have nn := mp.nn
  have a0 := nn.a
  have b0 := nn.b
  have c0 := nn.c
  have d0 := nn.d
  have a1 := le.a
  have b1 := le.b
  have c1 := le.c
  have d1 := le.d
  have bd : ∀ i ∈ m.l, Bd 30 i := bd4 nn le (by decide)
  by_cases one : m = M4.one
  · refine ⟨.non, ⟨⟨fun _ => one, fun _ => rfl⟩, fun h => absurd one h, fun h => absurd (by rw [one]; rfl) h, fun h => absurd (by rw [one]; rfl) h, (fun x y h => nomatch h), (fun w h => nomatch h)⟩, fun H Q q => ?_⟩
    exact ⟨bd, fun _ H' s => q H' _ s rfl, fun h => absurd one h, fun h => absurd one h, fun h => absurd (by rw [one]; rfl) h, fun h => absurd (by rw [one]; rfl) h, fun h => absurd (by rw [one]; rfl) h⟩
  by_cases z : m.c = 0
  · by_cases pos : 0 < m.b * (m.d - m.a)
    · have hbd : 0 < m.b ∧ 0 < m.d - m.a := by
        rcases mul_sign pos with h | h
        · exact h
        · omega
      obtain ⟨hb, hd⟩ := hbd
      obtain ⟨x, y, e1, x1, y1, g, bx, by', eq⟩ := low_eqn (c := m.c) (e := m.d - m.a) (b := m.b) hb hd (by rw [z]; grind) ((bd m.b (by simp [M4.l])).up (by decide)) (((bd m.d (by simp [M4.l])).sub (bd m.a (by simp [M4.l]))).up (by decide))
      have eb : ((m.b.natAbs : Nat) : Int) = m.b := by omega
      have ed : (((m.d - m.a).natAbs : Nat) : Int) = m.d - m.a := by omega
      refine ⟨.fr x y, ⟨⟨(fun h => nomatch h), fun h => absurd h one⟩, fun _ _ => ⟨fun _ => rfl, fun _ => ⟨by omega, hb⟩⟩, fun h => absurd z h, fun h => absurd z h, fun x' y' h => by cases h; exact ⟨x1, y1, g, bx, by', eq⟩, (fun w h => nomatch h)⟩, fun H Q q => ?_⟩
      refine ⟨bd, fun h => absurd h one, fun _ _ h => by omega, fun _ _ _ H' r t s nr nt ht hr => q H' _ s ⟨r, t, rfl, nr, nt, hr, ?_⟩, fun h => absurd z h, fun h => absurd z h, fun h => absurd z h⟩
      rw [ht, eb, ed, e1]
      rfl
    · refine ⟨.nil, ⟨⟨(fun h => nomatch h), fun h => absurd h one⟩, fun _ _ => ⟨fun h => absurd (Int.mul_pos h.2 (show 0 < m.d - m.a by omega)) pos, (fun h => nomatch h)⟩, fun h => absurd z h, fun h => absurd z h, (fun x y h => nomatch h), (fun w h => nomatch h)⟩, fun H Q q => ?_⟩
      exact ⟨bd, fun h => absurd h one, fun _ _ _ H' r s nr hr => q H' _ s ⟨r, rfl, nr, hr⟩, fun _ _ h => absurd h pos, fun h => absurd z h, fun h => absurd z h, fun h => absurd z h⟩
  have hc : 0 < m.c := by omega
  have dd : (T3.fx m).disc = (m.d - m.a) * (m.d - m.a) + 4 * (m.b * m.c) := by
    show (m.d - m.a) * (m.d - m.a) - 4 * m.c * -m.b = _
    grind
  by_cases sq : ∃ s : Int, 0 ≤ s ∧ s * s = (T3.fx m).disc
  · obtain ⟨s, s0, es⟩ := sq
    have uni : ∀ t : Int, 0 ≤ t → t * t = (T3.fx m).disc → t = s := fun t t0 et => by
      rw [← es] at et
      have : (t - s) * (t + s) = 0 := by grind
      rcases Int.mul_eq_zero.mp this with h | h <;> omega
    have nsq : ∀ t : Int, t * t = (T3.fx m).disc → ¬ ∀ s : Int, s * s ≠ (T3.fx m).disc := fun t et h => h t et
    by_cases pos : 0 < (m.a - m.d + s) * (2 * m.c)
    · have hP : 0 < m.a - m.d + s := by
        rcases mul_sign pos with h | h
        · exact h.1
        · omega
      have s134 : s ≤ 134 := Int.not_lt.mp fun h => by
        have := Int.mul_le_mul (show (135 : Int) ≤ s by omega) (show (135 : Int) ≤ s by omega) (by omega) (by omega)
        have m1 := mulB b0 b1 c0 c1
        have m2 : (m.d - m.a) * (m.d - m.a) ≤ 3600 := by
          rcases Int.le_total 0 (m.d - m.a) with h | h
          · exact (mulB h (show m.d - m.a ≤ 60 by omega) h (show m.d - m.a ≤ 60 by omega)).2
          · rw [← Int.neg_mul_neg]
            exact (mulB (show 0 ≤ -(m.d - m.a) by omega) (show -(m.d - m.a) ≤ 60 by omega) (show 0 ≤ -(m.d - m.a) by omega) (show -(m.d - m.a) ≤ 60 by omega)).2
        omega
      have bP : Bd 190 (m.a - m.d + s) := bd_le (by omega) (Int.lt_of_lt_of_le (show m.a - m.d + s < 2 ^ 10 by omega) (pow_lt (by decide)))
      have bR : Bd 190 (2 * m.c) := bd_le (by omega) (Int.lt_of_lt_of_le (show 2 * m.c < 2 ^ 10 by omega) (pow_lt (by decide)))
      obtain ⟨x, y, e1, x1, y1, g, bx, by', eq⟩ := low_eqn (c := m.c) (e := m.d - m.a) (b := m.b) hP (show 0 < 2 * m.c by omega) (by rw [dd] at es; grind) bP bR
      have eb : (((m.a - m.d + s).natAbs : Nat) : Int) = m.a - m.d + s := by omega
      have ed : (((2 * m.c).natAbs : Nat) : Int) = 2 * m.c := by omega
      refine ⟨.fr x y, ⟨⟨(fun h => nomatch h), fun h => absurd h one⟩, fun _ h => absurd h z, fun _ h => ⟨fun _ => rfl, fun _ => ?_⟩, fun _ _ => rfl, fun x' y' h => by cases h; exact ⟨x1, y1, g, bx, by', eq⟩, (fun w h => nomatch h)⟩, fun H Q q => ?_⟩
      · refine Int.not_le.mp fun k => ?_
        have := uni (m.d - m.a) (by omega) (by rw [dd, h]; omega)
        omega
      refine ⟨bd, fun h => absurd h one, fun _ h => absurd h z, fun _ h => absurd h z, fun _ t t0 et h => ?_, fun _ t t0 et _ H' r u sm nr nu hu hr => ?_, fun _ h => absurd h (nsq s es)⟩
      · rw [uni t t0 et] at h
        omega
      · rw [uni t t0 et, eb, ed, e1] at hu
        exact q H' _ sm ⟨r, u, rfl, nr, nu, hr, hu⟩
    · have hP : m.a - m.d + s ≤ 0 := Int.not_lt.mp fun h => pos (Int.mul_pos h (by omega))
      have bz : m.b = 0 := by
        have : s * s ≤ (m.d - m.a) * (m.d - m.a) := Int.mul_le_mul (by omega) (by omega) s0 (by omega)
        have : 4 * (m.b * m.c) ≤ 0 := by omega
        refine Classical.byContradiction fun h => ?_
        have := Int.mul_pos (show 0 < m.b by omega) hc
        omega
      refine ⟨.nil, ⟨⟨(fun h => nomatch h), fun h => absurd h one⟩, fun _ h => absurd h z, fun _ h => ⟨fun k => by omega, (fun h => nomatch h)⟩, fun _ h => absurd bz h, (fun x y h => nomatch h), (fun w h => nomatch h)⟩, fun H Q q => ?_⟩
      refine ⟨bd, fun h => absurd h one, fun _ h => absurd h z, fun _ h => absurd h z, fun _ t t0 et h H' r sm nr hr => q H' _ sm ⟨r, rfl, nr, hr⟩, fun _ t t0 et h => ?_, fun _ h => absurd h (nsq s es)⟩
      rw [uni t t0 et] at h
      exact absurd h pos
  · have ns : ∀ t : Int, t * t ≠ (T3.fx m).disc := fun t et => by
      rcases Int.le_total 0 t with c | c
      · exact sq ⟨t, c, et⟩
      · exact sq ⟨-t, by omega, by rw [Int.neg_mul_neg]; exact et⟩
    have hb : m.b ≠ 0 := fun h => ns (m.d - m.a) (by rw [dd, h]; omega)
    have mt : Met (T3.fx m).disc (T3.fx m) := ⟨hc, by show -m.b < 0; omega, rfl⟩
    have hD : (T3.fx m).disc ≤ 18000 := by
      have m1 := mulB b0 b1 c0 c1
      have m2 : (m.d - m.a) * (m.d - m.a) ≤ 3600 := by
        rcases Int.le_total 0 (m.d - m.a) with h | h
        · exact (mulB h (show m.d - m.a ≤ 60 by omega) h (show m.d - m.a ≤ 60 by omega)).2
        · rw [← Int.neg_mul_neg]
          exact (mulB (show 0 ≤ -(m.d - m.a) by omega) (show -(m.d - m.a) ≤ 60 by omega) (show 0 ≤ -(m.d - m.a) by omega) (show -(m.d - m.a) ≤ 60 by omega)).2
      omega
    obtain ⟨n, hn, hr⟩ := ret_ex2 mt ns hD
    refine ⟨.rg ((T3.fx m).way n), ⟨⟨(fun h => nomatch h), fun h => absurd h one⟩, fun _ h => absurd h z, fun _ h => absurd h hb, fun _ _ => rfl, (fun x y h => nomatch h), fun w h => by cases h; exact ⟨by rw [way_len]; omega, hr.both mt, hr.prim mt, hc, hr.nsq mt⟩⟩, fun H Q q => ?_⟩
    exact ⟨bd, fun h => absurd h one, fun _ h => absurd h z, fun _ h => absurd h z, fun _ t _ et => absurd et (ns t), fun _ t _ et => absurd et (ns t), fun _ _ _ => ⟨n, by omega, hr, fun H' r u sm nr nu hu hr' => q H' _ sm ⟨r, u, rfl, nr, nu, hr', hu⟩⟩⟩

/-! size -/
def sp_size (K : PySem.W.Frag) : Sp := fun vs H Q E => ∃ (p : Addr) (m : M4), vs = [.ref p] ∧ SqT K H p (m.l.map V.int) ∧ (∀ i ∈ m.l, Bd 900 i) ∧ (Mp m → Q (.int m.det) H) ∧
  (¬ Mp m → ∀ C d, PySem.W.nsIn K mainGlobals "InvalidMap" = some (some (.ref C)) → H d = none → E (.ref C) (some d) (L2.upd H d (.xd [("value", .ref p)])))
theorem ok_size (T : Tx K mg) : FnOk P w K mg base (L2.CX P w) 4 T.a_size T.fd_size ["one"] (sp_size K) := by
  have G_check_map := ok_check_map (P := P) (w := w) (base := base) T
  refine T.F_size.okX sc_size (fun vs H Q E h => ?_) (fun cdv A outer s H vs Q E hr h => ?_)
  · obtain ⟨p, m, rfl, _⟩ := h
    rfl
  · obtain ⟨p, m, rfl, hp, hb, q, qe⟩ := h
    refine ⟨_, (pss_cons (ps_expr (pe_call G_check_map (hr.mono (by decide)) (by rfl) T.g_check_map T.F_check_map.kp (b_check_map T.F_check_map) .nil (passes_call (takes_of rfl rfl rfl rfl) (fun _ _ _ _ h => h)) (pa_cons (pv 0) pa_nil)))
  (pss_cons (ps_asg (pv 0) (pg_tup (by rfl) (pgs_cons (pg_name (i := 1) sc_size.nd rfl (Or.inl rfl)) (pgs_cons (pg_name (i := 2) sc_size.nd rfl (Or.inl rfl)) (pgs_cons (pg_name (i := 3) sc_size.nd rfl (Or.inl rfl)) (pgs_cons (pg_name (i := 4) sc_size.nd rfl (Or.inl rfl)) pgs_nil))))))
  (pss_one (ps_ret (pe_op op_sub (pe_op op_mulL (pv 1) (pv 4)) (pe_op op_mulL (pv 2) (pv 3))))))), ?_⟩
    have ba := hb m.a (by simp [M4.l])
    have bb := hb m.b (by simp [M4.l])
    have bc := hb m.c (by simp [M4.l])
    have bd := hb m.d (by simp [M4.l])
    refine ⟨_, rfl, p, m, rfl, hp, hb, fun mp => ?_, fun nm C d hC hd => qe nm C d hC hd⟩
    refine ⟨_, rfl, p, _, rfl, hp, rfl, _, _, rfl, _, _, rfl, _, _, rfl, _, _, rfl, rfl, ?_⟩
    exact ⟨_, rfl, _, rfl, _, _, rfl, rfl, ba.ml bd, _, rfl, _, rfl, _, _, rfl, rfl, bb.ml bc, _, _, rfl, rfl, q mp⟩

/-! is_fraction -/
def sp_is_fraction (K : PySem.W.Frag) : Sp := fun vs H Q _ => ∃ (p : Addr) (x y : Int), vs = [.ref p] ∧ SqT K H p [.int x, .int y] ∧ ∀ b : Bool, (b = true ↔ (1 ≤ x ∧ 1 ≤ y ∧ Nat.gcd x.natAbs y.natAbs = 1)) → Q (.bl b) H
theorem ok_is_fraction (T : Tx K mg) : FnOk P w K mg base CX0 1 T.a_is_fraction T.fd_is_fraction ["fraction"] (sp_is_fraction K) := by
  refine T.F_is_fraction.ok sc_is_fraction (fun vs H Q E h => ?_) (fun cdv A outer s H vs Q E hr h => ?_)
  · obtain ⟨p, x, y, rfl, _⟩ := h
    rfl
  · obtain ⟨p, x, y, rfl, hp, q⟩ := h
    refine ⟨_, (pss_cons (ps_asg (pv 0) (pg_tup (by rfl) (pgs_cons (pg_name (i := 1) sc_is_fraction.nd rfl (Or.inl rfl)) (pgs_cons (pg_name (i := 2) sc_is_fraction.nd rfl (Or.inl rfl)) pgs_nil))))
  (pss_one (ps_ret (pe_and (pe_cmpR op_gt (pv 1) pe_int (nomark _)) (pe_and (pe_cmpR op_gt (pv 2) pe_int (nomark _)) (pe_one (pe_cmpR op_eq (pe_callBfun cr_gcdN (by rfl) T.m_gcd (pa_cons (pv 1) (pa_cons (pv 2) pa_nil))) pe_int (nomark _)))))))), ?_⟩
    refine ⟨_, rfl, p, _, rfl, hp, rfl, _, _, rfl, _, _, rfl, rfl, ?_⟩
    refine ⟨_, rfl, _, _, rfl, rfl, _, rfl, bl2 (fun c1 => ?_) (fun c1 => ?_)⟩
    · have c1 := of_decide_eq_true c1
      refine ⟨_, rfl, _, _, rfl, rfl, _, rfl, bl2 (fun c2 => ?_) (fun c2 => ?_)⟩
      · have c2 := of_decide_eq_true c2
        refine ⟨_, rfl, _, rfl, .inl ⟨x, y, rfl, rfl, q _ ?_⟩⟩
        refine ⟨fun z => ?_, fun z => ?_⟩
        · have z : V.int (Nat.gcd x.natAbs y.natAbs : Nat) = V.int 1 := by simpa using z
          injection z with z
          exact ⟨by omega, by omega, by omega⟩
        · rw [z.2.2]
          rfl
      · have c2 := of_decide_eq_false c2
        exact q _ ⟨(fun z => nomatch z), fun z => by omega⟩
    · have c1 := of_decide_eq_false c1
      exact q _ ⟨(fun z => nomatch z), fun z => by omega⟩

/-! check_fraction -/
def sp_check_fraction (K : PySem.W.Frag) : Sp := fun vs H Q E => ∃ (p : Addr) (x y : Int), vs = [.ref p] ∧ SqT K H p [.int x, .int y] ∧ ((1 ≤ x ∧ 1 ≤ y ∧ Nat.gcd x.natAbs y.natAbs = 1) → Q .non H) ∧ (¬ (1 ≤ x ∧ 1 ≤ y ∧ Nat.gcd x.natAbs y.natAbs = 1) → Rs K H E "InvalidFraction" (.ref p))
theorem ok_check_fraction (T : Tx K mg) : FnOk P w K mg base (L2.CX P w) 3 T.a_check_fraction T.fd_check_fraction ["fraction"] (sp_check_fraction K) := by
  have G_is_fraction := ok_is_fraction (P := P) (w := w) (base := base) T
  refine T.F_check_fraction.okX sc_check_fraction (fun vs H Q E h => ?_) (fun cdv A outer s H vs Q E hr h => ?_)
  · obtain ⟨p, x, y, rfl, _⟩ := h
    rfl
  · obtain ⟨p, x, y, rfl, hp, q, qe⟩ := h
    refine ⟨_, (pss_one (ps_if (pt_not (pt_val (pe_call G_is_fraction (hr.mono (by decide)) (by rfl) T.g_is_fraction T.F_is_fraction.kp (b_is_fraction T.F_is_fraction) .nil pass0 (pa_cons (pv 0) pa_nil)))) (pss_one (ps_raise (by rfl) (takes_of rfl rfl rfl rfl) (pmk_V T.E_InvalidFraction (ok_reinit T) (hr.mono (by decide)) (b_reinit T.F_reinit) (by rfl) (pa_cons (pv 0) pa_nil)))) pss_nil)), ?_⟩
    refine ⟨_, rfl, p, x, y, rfl, hp, fun b hb => ⟨_, rfl, bl2 (fun c => ?_) (fun c => ?_)⟩⟩
    · have c : ¬ (b = true) := by simpa using c
      exact ⟨_, rfl, _, rfl, fun d nd => (qe fun z => c (hb.mpr z)).now T.E_InvalidFraction.ni nd⟩
    · have c : b = true := by simpa using c
      exact q (hb.mp c)

/-! sent -/
def sp_sent (K : PySem.W.Frag) : Sp := fun vs H Q E => ∃ (p r : Addr) (m : M4) (x y : Int), vs = [.ref p, .ref r] ∧ SqT K H p (m.l.map V.int) ∧ SqT K H r [.int x, .int y] ∧ (∀ i ∈ m.l, Bd 900 i) ∧ Bd 900 x ∧ Bd 900 y ∧
  (¬ Mp m → Rs K H E "InvalidMap" (.ref p)) ∧ (Mp m → ¬ FracP x y → Rs K H E "InvalidFraction" (.ref r)) ∧
  (Mp m → FracP x y → ∀ H' p, Same H H' → H p = none → H' p = some (.tup ((lowl [m.a * x + m.b * y, m.c * x + m.d * y]).map V.int)) → Q (.ref p) H')
theorem ok_sent (T : Tx K mg) : FnOk P w K mg base (L2.CX P w) 4 T.a_sent T.fd_sent ["one", "fraction"] (sp_sent K) := by
  have G_check_map := ok_check_map (P := P) (w := w) (base := base) T
  have G_check_fraction := ok_check_fraction (P := P) (w := w) (base := base) T
  have G_fraction_above_zero := ok_fraction_above_zero (P := P) (w := w) (base := base) T
  refine T.F_sent.okX sc_sent (fun vs H Q E h => ?_) (fun cdv A outer s H vs Q E hr h => ?_)
  · obtain ⟨p, r, m, x, y, rfl, _⟩ := h
    rfl
  · obtain ⟨p, r, m, x, y, rfl, hp, hr', hb, bx, by', q1, q2, q⟩ := h
    refine ⟨_, (pss_cons (ps_expr (pe_call G_check_map (hr.mono (by decide)) (by rfl) T.g_check_map T.F_check_map.kp (b_check_map T.F_check_map) .nil (passes_call (takes_of rfl rfl rfl rfl) (fun _ _ _ _ h => h)) (pa_cons (pv 0) pa_nil)))
  (pss_cons (ps_expr (pe_call G_check_fraction (hr.mono (by decide)) (by rfl) T.g_check_fraction T.F_check_fraction.kp (b_check_fraction T.F_check_fraction) .nil (passes_call (takes_of rfl rfl rfl rfl) (fun _ _ _ _ h => h)) (pa_cons (pv 1) pa_nil)))
  (pss_cons (ps_asg (pv 0) (pg_tup (by rfl) (pgs_cons (pg_name (i := 2) sc_sent.nd rfl (Or.inl rfl)) (pgs_cons (pg_name (i := 3) sc_sent.nd rfl (Or.inl rfl)) (pgs_cons (pg_name (i := 4) sc_sent.nd rfl (Or.inl rfl)) (pgs_cons (pg_name (i := 5) sc_sent.nd rfl (Or.inl rfl)) pgs_nil))))))
  (pss_cons (ps_asg (pv 1) (pg_tup (by rfl) (pgs_cons (pg_name (i := 6) sc_sent.nd rfl (Or.inl rfl)) (pgs_cons (pg_name (i := 7) sc_sent.nd rfl (Or.inl rfl)) pgs_nil))))
  (pss_one (ps_ret (pe_call G_fraction_above_zero (hr.mono (by decide)) (by rfl) T.g_fraction_above_zero T.F_fraction_above_zero.kp (b_fraction_above_zero T.F_fraction_above_zero) .nil pass0 (pa_cons (pe_op op_add (pe_op op_mulL (pv 2) (pv 6)) (pe_op op_mulL (pv 3) (pv 7))) (pa_cons (pe_op op_add (pe_op op_mulL (pv 4) (pv 6)) (pe_op op_mulL (pv 5) (pv 7))) pa_nil))))))))), ?_⟩
    have ba := hb m.a (by simp [M4.l])
    have bb := hb m.b (by simp [M4.l])
    have bc := hb m.c (by simp [M4.l])
    have bd := hb m.d (by simp [M4.l])
    refine ⟨_, rfl, p, m, rfl, hp, hb, fun mp => ?_, fun nm C d hC hd => (q1 nm).now hC hd⟩
    refine ⟨_, rfl, r, x, y, rfl, hr', fun fr => ?_, fun nf => q2 mp nf⟩
    obtain ⟨x1, y1, xy⟩ := id fr
    obtain ⟨u0, v0⟩ := map_pos mp.nn mp.dt x1 y1
    refine ⟨_, rfl, p, _, rfl, hp, rfl, _, _, rfl, _, _, rfl, _, _, rfl, _, _, rfl, rfl, ?_⟩
    refine ⟨_, rfl, r, _, rfl, hr', rfl, _, _, rfl, _, _, rfl, rfl, ?_⟩
    refine ⟨_, rfl, _, rfl, _, _, rfl, rfl, ba.ml bx, _, rfl, _, rfl, _, _, rfl, rfl, bb.ml by', _, _, rfl, rfl, ?_⟩
    refine ⟨_, rfl, _, rfl, _, _, rfl, rfl, bc.ml bx, _, rfl, _, rfl, _, _, rfl, rfl, bd.ml by', _, _, rfl, rfl, ?_⟩
    refine ⟨m.a * x + m.b * y, m.c * x + m.d * y, rfl, ((ba.mul bx).add (bb.mul by')).up (by decide), ((bc.mul bx).add (bd.mul by')).up (by decide), fun h => ?_, fun _ H' t sm nt e => q mp fr H' t sm nt ?_⟩
    · have := Int.mul_pos u0 v0
      omega
    · rw [Int.natAbs_of_nonneg (by omega), Int.natAbs_of_nonneg (by omega)] at e
      exact e

/-! times -/
def sp_times (K : PySem.W.Frag) : Sp := fun vs H Q _ => ∃ (x y : Addr) (m n : M4) (k : Nat), vs = [.ref x, .ref y] ∧ SqT K H x (m.l.map V.int) ∧ SqT K H y (n.l.map V.int) ∧ k ≤ 1900 ∧ (∀ i ∈ m.l, Bd k i) ∧ (∀ i ∈ n.l, Bd k i) ∧
  ∀ H' p, Same H H' → H p = none → H' p = some (.tup ((m.mul n).l.map V.int)) → Q (.ref p) H'
theorem ok_times (T : Tx K mg) : FnOk P w K mg base CX0 1 T.a_times T.fd_times ["one", "other"] (sp_times K) := by
  refine T.F_times.ok sc_times (fun vs H Q E h => ?_) (fun cdv A outer s H vs Q E hr h => ?_)
  · obtain ⟨x, y, m, n, k, rfl, _⟩ := h
    rfl
  · obtain ⟨x, y, m, n, k, rfl, hx, hy, hk, bm, bn, q⟩ := h
    refine ⟨_, (pss_cons (ps_asg (pv 0) (pg_tup (by rfl) (pgs_cons (pg_name (i := 2) sc_times.nd rfl (Or.inl rfl)) (pgs_cons (pg_name (i := 3) sc_times.nd rfl (Or.inl rfl)) (pgs_cons (pg_name (i := 4) sc_times.nd rfl (Or.inl rfl)) (pgs_cons (pg_name (i := 5) sc_times.nd rfl (Or.inl rfl)) pgs_nil))))))
  (pss_cons (ps_asg (pv 1) (pg_tup (by rfl) (pgs_cons (pg_name (i := 6) sc_times.nd rfl (Or.inl rfl)) (pgs_cons (pg_name (i := 7) sc_times.nd rfl (Or.inl rfl)) (pgs_cons (pg_name (i := 8) sc_times.nd rfl (Or.inl rfl)) (pgs_cons (pg_name (i := 9) sc_times.nd rfl (Or.inl rfl)) pgs_nil))))))
  (pss_one (ps_ret (pe_tup (pa_cons (pe_op op_add (pe_op op_mulL (pv 2) (pv 6)) (pe_op op_mulL (pv 3) (pv 8))) (pa_cons (pe_op op_add (pe_op op_mulL (pv 2) (pv 7)) (pe_op op_mulL (pv 3) (pv 9))) (pa_cons (pe_op op_add (pe_op op_mulL (pv 4) (pv 6)) (pe_op op_mulL (pv 5) (pv 8))) (pa_cons (pe_op op_add (pe_op op_mulL (pv 4) (pv 7)) (pe_op op_mulL (pv 5) (pv 9))) pa_nil))))))))), ?_⟩
    have ba := bm m.a (by simp [M4.l])
    have bb := bm m.b (by simp [M4.l])
    have bc := bm m.c (by simp [M4.l])
    have bd := bm m.d (by simp [M4.l])
    have ca := bn n.a (by simp [M4.l])
    have cb := bn n.b (by simp [M4.l])
    have cc := bn n.c (by simp [M4.l])
    have cd := bn n.d (by simp [M4.l])
    refine ⟨_, rfl, x, _, rfl, hx, rfl, _, _, rfl, _, _, rfl, _, _, rfl, _, _, rfl, rfl, ?_⟩
    refine ⟨_, rfl, y, _, rfl, hy, rfl, _, _, rfl, _, _, rfl, _, _, rfl, _, _, rfl, rfl, ?_⟩
    refine ⟨_, rfl, _, rfl, _, _, rfl, rfl, ba.ml ca hk hk, _, rfl, _, rfl, _, _, rfl, rfl, bb.ml cc hk hk, _, _, rfl, rfl, ?_⟩
    refine ⟨_, rfl, _, rfl, _, _, rfl, rfl, ba.ml cb hk hk, _, rfl, _, rfl, _, _, rfl, rfl, bb.ml cd hk hk, _, _, rfl, rfl, ?_⟩
    refine ⟨_, rfl, _, rfl, _, _, rfl, rfl, bc.ml ca hk hk, _, rfl, _, rfl, _, _, rfl, rfl, bd.ml cc hk hk, _, _, rfl, rfl, ?_⟩
    refine ⟨_, rfl, _, rfl, _, _, rfl, rfl, bc.ml cb hk hk, _, rfl, _, rfl, _, _, rfl, rfl, bd.ml cd hk hk, _, _, rfl, rfl, sz (by show 4 ≤ 1000000; decide), fun p np => ?_⟩
    exact q _ p ((L2.Same.refl H).new np) np upd_same

/-! check_undivided_map -/
def sp_check_undivided_map (K : PySem.W.Frag) : Sp := fun vs H Q E => ∃ (p : Addr) (m : M4), vs = [.ref p] ∧ SqT K H p (m.l.map V.int) ∧ (∀ i ∈ m.l, Bd 900 i) ∧ ((Nn m ∧ m.det ≠ 0) → Q .non H) ∧
  (¬ (Nn m ∧ m.det ≠ 0) → ∀ C d, PySem.W.nsIn K mainGlobals "InvalidMap" = some (some (.ref C)) → H d = none → E (.ref C) (some d) (L2.upd H d (.xd [("value", .ref p)])))
theorem ok_check_undivided_map (T : Tx K mg) : FnOk P w K mg base (L2.CX P w) 3 T.a_check_undivided_map T.fd_check_undivided_map ["one"] (sp_check_undivided_map K) := by
  have G_is_undivided_map := ok_is_undivided_map (P := P) (w := w) (base := base) T
  refine T.F_check_undivided_map.okX sc_check_undivided_map (fun vs H Q E h => ?_) (fun cdv A outer s H vs Q E hr h => ?_)
  · obtain ⟨p, m, rfl, _⟩ := h
    rfl
  · obtain ⟨p, m, rfl, hp, hb, q, qe⟩ := h
    refine ⟨_, (pss_one (ps_if (pt_not (pt_val (pe_call G_is_undivided_map (hr.mono (by decide)) (by rfl) T.g_is_undivided_map T.F_is_undivided_map.kp (b_is_undivided_map T.F_is_undivided_map) .nil pass0 (pa_cons (pv 0) pa_nil)))) (pss_one (ps_raise (by rfl) (takes_of rfl rfl rfl rfl) (pmk_V T.E_InvalidMap (ok_reinit T) (hr.mono (by decide)) (b_reinit T.F_reinit) (by rfl) (pa_cons (pv 0) pa_nil)))) pss_nil)), ?_⟩
    refine ⟨_, rfl, p, m, rfl, hp, hb, fun b hb => ⟨_, rfl, bl2 (fun c => ?_) (fun c => ?_)⟩⟩
    · have c : ¬ (b = true) := by simpa using c
      exact ⟨_, rfl, _, rfl, fun d nd => qe (fun z => c (hb.mpr z)) _ _ T.E_InvalidMap.ni nd⟩
    · have c : b = true := by simpa using c
      exact q (hb.mp c)

/-! least_map -/
def sp_least_map (K : PySem.W.Frag) : Sp := fun vs H Q E => ∃ (m : M4), vs = [.int m.a, .int m.b, .int m.c, .int m.d] ∧ (∀ i ∈ m.l, Bd 900 i) ∧
  ((Nn m ∧ m.det ≠ 0) → ∀ H' p, Same H H' → H p = none → H' p = some (.tup (m.low.l.map V.int)) → Q (.ref p) H') ∧
  (¬ (Nn m ∧ m.det ≠ 0) → ∀ C d t, PySem.W.nsIn K mainGlobals "InvalidMap" = some (some (.ref C)) → H t = none → H d = none → d ≠ t → E (.ref C) (some d) (L2.upd (L2.upd H t (.tup (m.l.map V.int))) d (.xd [("value", .ref t)])))
theorem gl_4 (m : M4) : gl m.l = Nat.gcd (Nat.gcd (Nat.gcd m.a.natAbs m.b.natAbs) m.c.natAbs) m.d.natAbs := by
  show Nat.gcd (Nat.gcd (Nat.gcd (Nat.gcd 0 m.a.natAbs) m.b.natAbs) m.c.natAbs) m.d.natAbs = _
  rw [Nat.gcd_zero_left]
theorem ok_least_map (T : Tx K mg) : FnOk P w K mg base (L2.CX P w) 4 T.a_least_map T.fd_least_map ["a", "b", "c", "d"] (sp_least_map K) := by
  have G_check_undivided_map := ok_check_undivided_map (P := P) (w := w) (base := base) T
  refine T.F_least_map.okX sc_least_map (fun vs H Q E h => ?_) (fun cdv A outer s H vs Q E hr h => ?_)
  · obtain ⟨m, rfl, _⟩ := h
    rfl
  · obtain ⟨m, rfl, hb, q, qe⟩ := h
    refine ⟨_, (pss_cons (ps_expr (pe_call G_check_undivided_map (hr.mono (by decide)) (by rfl) T.g_check_undivided_map T.F_check_undivided_map.kp (b_check_undivided_map T.F_check_undivided_map) .nil (passes_call (takes_of rfl rfl rfl rfl) (fun _ _ _ _ h => h)) (pa_cons (pe_tup (pa_cons (pv 0) (pa_cons (pv 1) (pa_cons (pv 2) (pa_cons (pv 3) pa_nil))))) pa_nil)))
  (pss_cons (ps_set (i := 4) sc_least_map.nd rfl (Or.inl rfl) (pe_callBfun cr_gcdN (by rfl) T.m_gcd (pa_cons (pv 0) (pa_cons (pv 1) (pa_cons (pv 2) (pa_cons (pv 3) pa_nil))))))
  (pss_one (ps_ret (pe_tup (pa_cons (pe_op op_fdivL (pv 0) (pv 4)) (pa_cons (pe_op op_fdivL (pv 1) (pv 4)) (pa_cons (pe_op op_fdivL (pv 2) (pv 4)) (pa_cons (pe_op op_fdivL (pv 3) (pv 4)) pa_nil))))))))), ?_⟩
    refine ⟨_, rfl, _, rfl, _, rfl, _, rfl, sz (by show 4 ≤ 1000000; decide), fun p0 np0 => ?_⟩
    refine ⟨p0, m, rfl, SqT.of upd_same, hb, fun nd => ?_, fun nd C d hC hd => ?_⟩
    · have g0 := det_pos_gl nd.2
      have gs := (det_gl nd.2 hb).sml
      refine ⟨_, rfl, _, rfl, _, rfl, _, rfl, .inr (.inr ⟨m.a, m.b, m.c, m.d, rfl, ?_⟩)⟩
      rw [← gl_4]
      have cd : ∀ i : Int, Cfd i (gl m.l : Nat) := fun i => .inr ⟨by omega, Nat.lt_trans gs.lg (by decide)⟩
      refine ⟨_, rfl, _, rfl, _, _, rfl, rfl, cd _, _, rfl, _, rfl, _, _, rfl, rfl, cd _, _, rfl, _, rfl, _, _, rfl, rfl, cd _, _, rfl, _, rfl, _, _, rfl, rfl, cd _, sz (by show 4 ≤ 1000000; decide), fun p np => ?_⟩
      refine q nd _ p (((L2.Same.refl H).new np0).new np) (((L2.Same.refl H).new np0).free np) ?_
      rw [upd_same]
      show some (HO.tup [V.int (Int.fdiv _ _), V.int (Int.fdiv _ _), V.int (Int.fdiv _ _), V.int (Int.fdiv _ _)]) = _
      rw [Int.fdiv_eq_ediv_of_nonneg _ (by omega), Int.fdiv_eq_ediv_of_nonneg _ (by omega), Int.fdiv_eq_ediv_of_nonneg _ (by omega), Int.fdiv_eq_ediv_of_nonneg _ (by omega)]
      rfl
    · have ne : d ≠ p0 := fun z => by
        rw [z, upd_same] at hd
        cases hd
      rw [upd_ne ne] at hd
      exact qe nd C d p0 hC np0 hd ne

/-! behind -/
def sp_behind (K : PySem.W.Frag) : Sp := fun vs H Q E => ∃ (x y : Addr) (m n : M4), vs = [.ref x, .ref y] ∧ SqT K H x (m.l.map V.int) ∧ SqT K H y (n.l.map V.int) ∧ (∀ i ∈ m.l, Bd 400 i) ∧ (∀ i ∈ n.l, Bd 400 i) ∧
  (¬ Mp m → Rs K H E "InvalidMap" (.ref x)) ∧ (Mp m → ¬ Mp n → Rs K H E "InvalidMap" (.ref y)) ∧ (Mp m → Mp n → ∀ v H', Same H H' → Q v H')
theorem det_mul_ne {m n : M4} (hm : m.det ≠ 0) (hn : n.det ≠ 0) : (m.mul n).det ≠ 0 := by
  rw [M4.det_mul]
  exact Int.mul_ne_zero hm hn
theorem ok_behind (T : Tx K mg) : FnOk P w K mg base (L2.CX P w) 5 T.a_behind T.fd_behind ["one", "other"] (sp_behind K) := by
  have G_check_map := ok_check_map (P := P) (w := w) (base := base) T
  have G_times := ok_times (P := P) (w := w) (base := base) T
  have G_least_map := ok_least_map (P := P) (w := w) (base := base) T
  refine T.F_behind.okX sc_behind (fun vs H Q E h => ?_) (fun cdv A outer s H vs Q E hr h => ?_)
  · obtain ⟨x, y, m, n, rfl, _⟩ := h
    rfl
  · obtain ⟨x, y, m, n, rfl, hx, hy, hm, hn, q1, q2, q⟩ := h
    refine ⟨_, (pss_cons (ps_expr (pe_call G_check_map (hr.mono (by decide)) (by rfl) T.g_check_map T.F_check_map.kp (b_check_map T.F_check_map) .nil (passes_call (takes_of rfl rfl rfl rfl) (fun _ _ _ _ h => h)) (pa_cons (pv 0) pa_nil)))
  (pss_cons (ps_expr (pe_call G_check_map (hr.mono (by decide)) (by rfl) T.g_check_map T.F_check_map.kp (b_check_map T.F_check_map) .nil (passes_call (takes_of rfl rfl rfl rfl) (fun _ _ _ _ h => h)) (pa_cons (pv 1) pa_nil)))
  (pss_cons (ps_asg (pe_call G_times (hr.mono (by decide)) (by rfl) T.g_times T.F_times.kp (b_times T.F_times) .nil pass0 (pa_cons (pv 1) (pa_cons (pv 0) pa_nil))) (pg_tup (by rfl) (pgs_cons (pg_name (i := 2) sc_behind.nd rfl (Or.inl rfl)) (pgs_cons (pg_name (i := 3) sc_behind.nd rfl (Or.inl rfl)) (pgs_cons (pg_name (i := 4) sc_behind.nd rfl (Or.inl rfl)) (pgs_cons (pg_name (i := 5) sc_behind.nd rfl (Or.inl rfl)) pgs_nil))))))
  (pss_one (ps_ret (pe_call G_least_map (hr.mono (by decide)) (by rfl) T.g_least_map T.F_least_map.kp (b_least_map T.F_least_map) .nil (passes_call (takes_of rfl rfl rfl rfl) (fun _ _ _ _ h => h)) (pa_cons (pv 2) (pa_cons (pv 3) (pa_cons (pv 4) (pa_cons (pv 5) pa_nil)))))))))), ?_⟩
    have hm9 : ∀ i ∈ m.l, Bd 900 i := fun i hi => (hm i hi).up (by decide)
    have hn9 : ∀ i ∈ n.l, Bd 900 i := fun i hi => (hn i hi).up (by decide)
    refine ⟨_, rfl, x, m, rfl, hx, hm9, fun mp => ?_, fun nm C d hC hd => (q1 nm).now hC hd⟩
    refine ⟨_, rfl, y, n, rfl, hy, hn9, fun np' => ?_, fun nm C d hC hd => (q2 mp nm).now hC hd⟩
    refine ⟨_, rfl, _, rfl, y, x, n, m, 900, rfl, hy, hx, by decide, hn9, hm9, fun H1 p1 sm1 np1 e1 => ?_⟩
    refine ⟨p1, _, rfl, .inl (.inl e1), rfl, _, _, rfl, _, _, rfl, _, _, rfl, _, _, rfl, rfl, ?_⟩
    refine ⟨_, rfl, _, rfl, _, rfl, _, rfl, n.mul m, rfl, fun i hi => (mul_bd hn hm i hi).up (by decide), fun _ H2 p2 sm2 np2 e2 => ?_, fun no => absurd ⟨mul_nn np'.nn mp.nn, det_mul_ne np'.dt mp.dt⟩ no⟩
    exact q mp np' _ _ (sm1.trans sm2)

/-! turned -/
def sp_turned (K : PySem.W.Frag) : Sp := fun vs H Q E => ∃ (x : Addr) (m : M4), vs = [.ref x] ∧ SqT K H x (m.l.map V.int) ∧ (∀ i ∈ m.l, Bd 900 i) ∧ (¬ Mp m → Rs K H E "InvalidMap" (.ref x)) ∧ (Mp m → ∀ v H', Same H H' → Q v H')
theorem ok_turned (T : Tx K mg) : FnOk P w K mg base (L2.CX P w) 4 T.a_turned T.fd_turned ["one"] (sp_turned K) := by
  have G_check_map := ok_check_map (P := P) (w := w) (base := base) T
  refine T.F_turned.okX sc_turned (fun vs H Q E h => ?_) (fun cdv A outer s H vs Q E hr h => ?_)
  · obtain ⟨x, m, rfl, _⟩ := h
    rfl
  · obtain ⟨x, m, rfl, hx, hb, qe, qq⟩ := h
    refine ⟨_, (pss_cons (ps_expr (pe_call G_check_map (hr.mono (by decide)) (by rfl) T.g_check_map T.F_check_map.kp (b_check_map T.F_check_map) .nil (passes_call (takes_of rfl rfl rfl rfl) (fun _ _ _ _ h => h)) (pa_cons (pv 0) pa_nil)))
  (pss_cons (ps_asg (pv 0) (pg_tup (by rfl) (pgs_cons (pg_name (i := 1) sc_turned.nd rfl (Or.inl rfl)) (pgs_cons (pg_name (i := 2) sc_turned.nd rfl (Or.inl rfl)) (pgs_cons (pg_name (i := 3) sc_turned.nd rfl (Or.inl rfl)) (pgs_cons (pg_name (i := 4) sc_turned.nd rfl (Or.inl rfl)) pgs_nil))))))
  (pss_cons (ps_if (PW.pt (pw_and (pt_cmpR op_eq (pv 2) pe_int (nomark _)) (pw_and1 (pt_cmpR op_eq (pv 3) pe_int (nomark _))))) (pss_one (ps_ret (pe_tup (pa_cons (pv 4) (pa_cons pe_int (pa_cons pe_int (pa_cons (pv 1) pa_nil))))))) pss_nil)
  (pss_cons (ps_if (PW.pt (pw_and (pt_cmpR op_eq (pv 1) pe_int (nomark _)) (pw_and1 (pt_cmpR op_eq (pv 4) pe_int (nomark _))))) (pss_one (ps_ret (pe_tup (pa_cons pe_int (pa_cons (pv 2) (pa_cons (pv 3) (pa_cons pe_int pa_nil))))))) pss_nil)
  (pss_one (ps_ret pe_non)))))), ?_⟩
    refine ⟨_, rfl, x, m, rfl, hx, hb, fun mp => ?_, fun nm C d hC hd => (qe nm).now hC hd⟩
    have q := qq mp
    refine ⟨_, rfl, x, _, rfl, hx, rfl, _, _, rfl, _, _, rfl, _, _, rfl, _, _, rfl, rfl, ?_⟩
    by_cases h : m.b = 0 ∧ m.c = 0
    · refine ⟨_, rfl, rfl, _, rfl, ifI (fun _ => ?_) (fun z => absurd h.1 z)⟩
      refine ⟨_, rfl, rfl, _, rfl, ifI (fun _ => ?_) (fun z => absurd h.2 z)⟩
      exact ⟨_, rfl, _, rfl, sz (by show 4 ≤ 1000000; decide), fun p np => q _ _ ((L2.Same.refl H).new np)⟩
    · by_cases hb0 : m.b = 0
      · refine ⟨_, rfl, rfl, _, rfl, ifI (fun _ => ?_) (fun z => absurd hb0 z)⟩
        refine ⟨_, rfl, rfl, _, rfl, ifI (fun z => absurd ⟨hb0, z⟩ h) (fun _ => ?_)⟩
        refine ⟨_, rfl, rfl, _, rfl, ifI (fun a0 => ?_) (fun a0 => iteF ?_)⟩
        · refine ⟨_, rfl, rfl, _, rfl, ifI (fun d0 => ?_) (fun d0 => ?_)⟩
          · exact ⟨_, rfl, _, rfl, sz (by show 4 ≤ 1000000; decide), fun p np => q _ _ ((L2.Same.refl H).new np)⟩
          · exact q _ _ (L2.Same.refl H)
        · exact q _ _ (L2.Same.refl H)
      · refine ⟨_, rfl, rfl, _, rfl, ifI (fun z => absurd z hb0) (fun _ => iteF ?_)⟩
        refine ⟨_, rfl, rfl, _, rfl, ifI (fun a0 => ?_) (fun a0 => iteF ?_)⟩
        · refine ⟨_, rfl, rfl, _, rfl, ifI (fun d0 => ?_) (fun d0 => ?_)⟩
          · exact ⟨_, rfl, _, rfl, sz (by show 4 ≤ 1000000; decide), fun p np => q _ _ ((L2.Same.refl H).new np)⟩
          · exact q _ _ (L2.Same.refl H)
        · exact q _ _ (L2.Same.refl H)

/-! before -/
def sp_before (K : PySem.W.Frag) : Sp := fun vs H Q E => ∃ (p r : Addr) (m : M4) (x y : Int), vs = [.ref p, .ref r] ∧ SqT K H p (m.l.map V.int) ∧ SqT K H r [.int x, .int y] ∧ (∀ i ∈ m.l, Bd 900 i) ∧ Bd 900 x ∧ Bd 900 y ∧
  (¬ Mp m → Rs K H E "InvalidMap" (.ref p)) ∧ (Mp m → ¬ FracP x y → Rs K H E "InvalidFraction" (.ref r)) ∧ (Mp m → FracP x y → ∀ v H', Same H H' → Q v H')
theorem ok_before (T : Tx K mg) : FnOk P w K mg base (L2.CX P w) 4 T.a_before T.fd_before ["one", "fraction"] (sp_before K) := by
  have G_check_map := ok_check_map (P := P) (w := w) (base := base) T
  have G_check_fraction := ok_check_fraction (P := P) (w := w) (base := base) T
  have G_fraction_above_zero := ok_fraction_above_zero (P := P) (w := w) (base := base) T
  refine T.F_before.okX sc_before (fun vs H Q E h => ?_) (fun cdv A outer s H vs Q E hr h => ?_)
  · obtain ⟨p, r, m, x, y, rfl, _⟩ := h
    rfl
  · obtain ⟨p, r, m, x, y, rfl, hp, hr', hb, bx, by', q1, q2, q⟩ := h
    refine ⟨_, (pss_cons (ps_expr (pe_call G_check_map (hr.mono (by decide)) (by rfl) T.g_check_map T.F_check_map.kp (b_check_map T.F_check_map) .nil (passes_call (takes_of rfl rfl rfl rfl) (fun _ _ _ _ h => h)) (pa_cons (pv 0) pa_nil)))
  (pss_cons (ps_expr (pe_call G_check_fraction (hr.mono (by decide)) (by rfl) T.g_check_fraction T.F_check_fraction.kp (b_check_fraction T.F_check_fraction) .nil (passes_call (takes_of rfl rfl rfl rfl) (fun _ _ _ _ h => h)) (pa_cons (pv 1) pa_nil)))
  (pss_cons (ps_asg (pv 0) (pg_tup (by rfl) (pgs_cons (pg_name (i := 2) sc_before.nd rfl (Or.inl rfl)) (pgs_cons (pg_name (i := 3) sc_before.nd rfl (Or.inl rfl)) (pgs_cons (pg_name (i := 4) sc_before.nd rfl (Or.inl rfl)) (pgs_cons (pg_name (i := 5) sc_before.nd rfl (Or.inl rfl)) pgs_nil))))))
  (pss_cons (ps_asg (pv 1) (pg_tup (by rfl) (pgs_cons (pg_name (i := 6) sc_before.nd rfl (Or.inl rfl)) (pgs_cons (pg_name (i := 7) sc_before.nd rfl (Or.inl rfl)) pgs_nil))))
  (pss_one (ps_ret (pe_call G_fraction_above_zero (hr.mono (by decide)) (by rfl) T.g_fraction_above_zero T.F_fraction_above_zero.kp (b_fraction_above_zero T.F_fraction_above_zero) .nil pass0 (pa_cons (pe_op op_sub (pe_op op_mulL (pv 5) (pv 6)) (pe_op op_mulL (pv 3) (pv 7))) (pa_cons (pe_op op_sub (pe_op op_mulL (pv 2) (pv 7)) (pe_op op_mulL (pv 4) (pv 6))) pa_nil))))))))), ?_⟩
    have ba := hb m.a (by simp [M4.l])
    have bb := hb m.b (by simp [M4.l])
    have bc := hb m.c (by simp [M4.l])
    have bd := hb m.d (by simp [M4.l])
    refine ⟨_, rfl, p, m, rfl, hp, hb, fun mp => ?_, fun nm C d hC hd => (q1 nm).now hC hd⟩
    refine ⟨_, rfl, r, x, y, rfl, hr', fun fr => ?_, fun nf => q2 mp nf⟩
    refine ⟨_, rfl, p, _, rfl, hp, rfl, _, _, rfl, _, _, rfl, _, _, rfl, _, _, rfl, rfl, ?_⟩
    refine ⟨_, rfl, r, _, rfl, hr', rfl, _, _, rfl, _, _, rfl, rfl, ?_⟩
    refine ⟨_, rfl, _, rfl, _, _, rfl, rfl, bd.ml bx, _, rfl, _, rfl, _, _, rfl, rfl, bb.ml by', _, _, rfl, rfl, ?_⟩
    refine ⟨_, rfl, _, rfl, _, _, rfl, rfl, ba.ml by', _, rfl, _, rfl, _, _, rfl, rfl, bc.ml bx, _, _, rfl, rfl, ?_⟩
    exact ⟨m.d * x - m.b * y, m.a * y - m.c * x, rfl, ((bd.mul bx).sub (bb.mul by')).up (by decide), ((ba.mul by').sub (bc.mul bx)).up (by decide), fun _ => q mp fr _ _ (L2.Same.refl _), fun _ H' t s _ _ => q mp fr _ _ s⟩

/-! settled -/
def sp_settled (K : PySem.W.Frag) : Sp := fun vs H Q _ => ∃ (x : Addr) (m r : M4) (w : List Bool) (B : Int), vs = [.ref x] ∧ SqT K H x (m.l.map V.int) ∧ Nn m ∧ m.det ≠ 0 ∧ Stl m w r ∧ w.length ≤ 5000 ∧ Le B m ∧ Bd 1800 B ∧
  ∀ H' p q, Same H H' → H p = none → H' p = some (.tup [.str (rd w), .ref q]) → H q = none → H' q = some (.tup (r.l.map V.int)) → Q (.ref p) H'
theorem one_flat (w : List Bool) : (w.map (fun t => [t])).flatten = w := by
  induction w with
  | nil => rfl
  | cons t w ih =>
    show [t] ++ (w.map (fun t => [t])).flatten = _
    rw [ih]
    rfl
theorem ok_settled (T : Tx K mg) : FnOk P w K mg base CX0 1 T.a_settled T.fd_settled ["one"] (sp_settled K) := by
  refine T.F_settled.ok sc_settled (fun vs H Q E h => ?_) (fun cdv A outer s H vs Q E hr h => ?_)
  · obtain ⟨x, m, r, w, B, rfl, _⟩ := h
    rfl
  · obtain ⟨x, m, r, w, B, rfl, hx, hn, hd, hs, hw, hl, hb, q⟩ := h
    refine ⟨_, (pss_cons (ps_asg (pv 0) (pg_tup (by rfl) (pgs_cons (pg_name (i := 1) sc_settled.nd rfl (Or.inl rfl)) (pgs_cons (pg_name (i := 2) sc_settled.nd rfl (Or.inl rfl)) (pgs_cons (pg_name (i := 3) sc_settled.nd rfl (Or.inl rfl)) (pgs_cons (pg_name (i := 4) sc_settled.nd rfl (Or.inl rfl)) pgs_nil))))))
  (pss_cons (ps_set (i := 5) sc_settled.nd rfl (Or.inl rfl) (pe_lst pa_nil))
  (pss_cons (ps_while PassesOwn.never (pt_cmpR op_ge (pe_op op_mulL (pe_op op_sub (pv 1) (pv 3)) (pe_op op_sub (pv 2) (pv 4))) pe_int (nomark _))
    (pss_one (ps_if (pt_cmpR op_gt (pe_op op_add (pv 1) (pv 2)) (pe_op op_add (pv 3) (pv 4)) (nomark _)) (pss_cons (ps_expr (pe_bm PySem.F.plainAttrs_list PySem.F.slot_list_append PySem.F.type_list_append mt_append (pv 5) (pa_cons pe_str pa_nil)))
  (pss_one (ps_par (i := 1) (j := 2) (by rfl) sc_settled.nd rfl rfl (by decide) rfl rfl (pa_cons (pe_op op_sub (pv 1) (pv 3)) (pa_cons (pe_op op_sub (pv 2) (pv 4)) pa_nil)) (by rfl)))) (pss_cons (ps_expr (pe_bm PySem.F.plainAttrs_list PySem.F.slot_list_append PySem.F.type_list_append mt_append (pv 5) (pa_cons pe_str pa_nil)))
  (pss_one (ps_par (i := 3) (j := 4) (by rfl) sc_settled.nd rfl rfl (by decide) rfl rfl (pa_cons (pe_op op_sub (pv 3) (pv 1)) (pa_cons (pe_op op_sub (pv 4) (pv 2)) pa_nil)) (by rfl)))))))
  (pss_one (ps_ret (pe_tup (pa_cons (pe_join pe_str (pv 5)) (pa_cons (pe_tup (pa_cons (pv 1) (pa_cons (pv 2) (pa_cons (pv 3) (pa_cons (pv 4) pa_nil))))) pa_nil)))))))), ?_⟩
    refine ⟨_, rfl, x, _, rfl, hx, rfl, _, _, rfl, _, _, rfl, _, _, rfl, _, _, rfl, rfl, sz (by show 0 ≤ 1000000; decide), fun r' nr => ?_⟩
    refine ⟨fun k σ H2 => ∃ (pre post : List Bool) (n : M4), σ = [some (.ref x), some (.int n.a), some (.int n.b), some (.int n.c), some (.int n.d), some (.ref r')] ∧ k = post.length ∧ pre ++ post = w ∧ Stl n post r ∧ Nn n ∧ n.det ≠ 0 ∧ Le B n ∧ Same H H2 ∧ H2 r' = some (.lst (((pre.map (fun t => [t])).map rd).map V.str)), ⟨w.length, [], w, m, rfl, rfl, rfl, hs, hn, hd, hl, (L2.Same.refl H).new nr, upd_same⟩, ?_⟩
    rintro k σ H2 ⟨pre, post, n, rfl, rfl, ew, hs, hn, hd, hl, sm, hr2⟩
    obtain ⟨a0, b0, c0, d0⟩ := hn
    obtain ⟨a1, b1, c1, d1⟩ := hl
    have ba := le_bd a0 a1 hb
    have bb := le_bd b0 b1 hb
    have bc := le_bd c0 c1 hb
    have bd := le_bd d0 d1 hb
    have lp : pre.length + post.length = w.length := by rw [← ew, List.length_append]
    have room : (List.map V.str (List.map rd (List.map (fun t => [t]) pre))).length < sizeLine := by
      rw [List.length_map, List.length_map, List.length_map]
      exact Nat.lt_of_le_of_lt (show pre.length ≤ 5000 by omega) (by decide)
    refine ⟨_, rfl, _, rfl, _, _, rfl, rfl, _, rfl, _, rfl, _, _, rfl, rfl, _, _, rfl, rfl, (ba.sub bc).ml (bb.sub bd), _, _, rfl, rfl, _, rfl, ?_⟩
    cases hs.step hd with
    | stop hb e =>
      subst e
      rw [List.append_nil] at ew
      subst ew
      have nb : ¬ (0 ≤ (n.a - n.c) * (n.b - n.d)) := by
        unfold bal at hb
        omega
      refine ifN nb ?_
      refine ⟨⟨_, rfl⟩, _, rfl, ("" : Str), r', (pre.map (fun t => [t])).map rd, rfl, rfl, .inl (SqL.of hr2), join_room (by rw [one_flat]; omega), ?_⟩
      rw [join_rd, one_flat]
      refine ⟨_, rfl, _, rfl, _, rfl, _, rfl, sz (by show 4 ≤ 1000000; decide), fun q0 nq0 => ⟨sz (by show 2 ≤ 1000000; decide), fun p0 np0 => ?_⟩⟩
      have ne : q0 ≠ p0 := ne_of_none upd_same np0
      exact q _ p0 q0 ((sm.new nq0).new np0) ((sm.new nq0).free np0) upd_same (sm.free nq0) (by rw [upd_ne ne, upd_same]; rfl)
    | right v nb h1 h2 h3 h4 h5 h6 =>
      have nb : 0 ≤ (n.a - n.c) * (n.b - n.d) := by
        unfold bal at nb
        omega
      refine ifY nb ?_
      refine ⟨fun σ' H' => ∃ (pre' post' : List Bool) (n : M4), σ' = [some (.ref x), some (.int n.a), some (.int n.b), some (.int n.c), some (.int n.d), some (.ref r')] ∧ post'.length < (true :: v).length ∧ pre' ++ post' = w ∧ Stl n post' r ∧ Nn n ∧ n.det ≠ 0 ∧ Le B n ∧ Same H H' ∧ H' r' = some (.lst (((pre'.map (fun t => [t])).map rd).map V.str)), ?_, ?_⟩
      · rintro σ' H' ⟨pre', post', n', rfl, lt, e⟩
        exact ⟨post'.length, lt, pre', post', n', rfl, rfl, e⟩
      · refine ⟨_, rfl, _, rfl, _, _, rfl, rfl, _, rfl, _, rfl, _, _, rfl, rfl, _, _, rfl, rfl, _, rfl, ?_⟩
        refine ifY h3 ?_
        refine ⟨_, rfl, .inl ⟨rfl, _, SqL.of hr2⟩, r', _, _, rfl, rfl, hr2, room, ?_⟩
        refine ⟨_, rfl, _, rfl, _, _, rfl, rfl, _, rfl, _, rfl, _, _, rfl, rfl, _, _, rfl, pre ++ [true], v, ⟨n.a - n.c, n.b - n.d, n.c, n.d⟩, rfl, Nat.lt_succ_self _, ?_, h4, h5, by rw [h6]; exact hd, ⟨by show n.a - n.c ≤ B; omega, by show n.b - n.d ≤ B; omega, c1, d1⟩, ?_, ?_⟩
        · rw [List.append_assoc]
          exact ew
        · exact fun b o z => by rw [upd_ne (ne_of_none z nr)]; exact sm b o z
        · rw [upd_same, show Str.ofString "R" = rd [true] from rd_R.symm]
          simp
    | left v nb h1 h2 h3 h4 h5 h6 =>
      have nb : 0 ≤ (n.a - n.c) * (n.b - n.d) := by
        unfold bal at nb
        omega
      refine ifY nb ?_
      refine ⟨fun σ' H' => ∃ (pre' post' : List Bool) (n : M4), σ' = [some (.ref x), some (.int n.a), some (.int n.b), some (.int n.c), some (.int n.d), some (.ref r')] ∧ post'.length < (true :: v).length ∧ pre' ++ post' = w ∧ Stl n post' r ∧ Nn n ∧ n.det ≠ 0 ∧ Le B n ∧ Same H H' ∧ H' r' = some (.lst (((pre'.map (fun t => [t])).map rd).map V.str)), ?_, ?_⟩
      · rintro σ' H' ⟨pre', post', n', rfl, lt, e⟩
        exact ⟨post'.length, lt, pre', post', n', rfl, rfl, e⟩
      · refine ⟨_, rfl, _, rfl, _, _, rfl, rfl, _, rfl, _, rfl, _, _, rfl, rfl, _, _, rfl, rfl, _, rfl, ?_⟩
        refine ifN (p := n.c + n.d < n.a + n.b) (by omega) ?_
        refine ⟨_, rfl, .inl ⟨rfl, _, SqL.of hr2⟩, r', _, _, rfl, rfl, hr2, room, ?_⟩
        refine ⟨_, rfl, _, rfl, _, _, rfl, rfl, _, rfl, _, rfl, _, _, rfl, rfl, _, _, rfl, pre ++ [false], v, ⟨n.a, n.b, n.c - n.a, n.d - n.b⟩, rfl, Nat.lt_succ_self _, ?_, h4, h5, by rw [h6]; exact hd, ⟨a1, b1, by show n.c - n.a ≤ B; omega, by show n.d - n.b ≤ B; omega⟩, ?_, ?_⟩
        · rw [List.append_assoc]
          exact ew
        · exact fun b o z => by rw [upd_ne (ne_of_none z nr)]; exact sm b o z
        · rw [upd_same, show Str.ofString "L" = rd [false] from rd_L.symm]
          simp

/-! road_of -/
def sp_road_of (K : PySem.W.Frag) : Sp := fun vs H Q E => ∃ (p : Addr) (x y : Int), vs = [.ref p] ∧ SqT K H p [.int x, .int y] ∧ (¬ (1 ≤ x ∧ 1 ≤ y ∧ Nat.gcd x.natAbs y.natAbs = 1) → Rs K H E "InvalidFraction" (.ref p)) ∧
  ((1 ≤ x ∧ 1 ≤ y ∧ Nat.gcd x.natAbs y.natAbs = 1) → ∃ w, x = wa w ∧ y = wb w ∧ w.length ≤ 1000 ∧ ∀ H', Same H H' → Q (.str (rd w)) H')
theorem ok_road_of (T : Tx K mg) : FnOk P w K mg base (L2.CX P w) 4 T.a_road_of T.fd_road_of ["fraction"] (sp_road_of K) := by
  have G_check_fraction := ok_check_fraction (P := P) (w := w) (base := base) T
  refine T.F_road_of.okX sc_road_of (fun vs H Q E h => ?_) (fun cdv A outer s H vs Q E hr h => ?_)
  · obtain ⟨p, x, y, rfl, _⟩ := h
    rfl
  · obtain ⟨p, x, y, rfl, hp, qe, q⟩ := h
    refine ⟨_, (pss_cons (ps_expr (pe_call G_check_fraction (hr.mono (by decide)) (by rfl) T.g_check_fraction T.F_check_fraction.kp (b_check_fraction T.F_check_fraction) .nil (passes_call (takes_of rfl rfl rfl rfl) (fun _ _ _ _ h => h)) (pa_cons (pv 0) pa_nil)))
  (pss_cons (ps_asg (pv 0) (pg_tup (by rfl) (pgs_cons (pg_name (i := 1) sc_road_of.nd rfl (Or.inl rfl)) (pgs_cons (pg_name (i := 2) sc_road_of.nd rfl (Or.inl rfl)) pgs_nil))))
  (pss_cons (ps_set (i := 3) sc_road_of.nd rfl (Or.inl rfl) (pe_lst pa_nil))
  (pss_cons (ps_while (passes_of rfl) (pt_cmpR op_ne (pv 1) (pv 2) (nomark _))
    (pss_one (ps_if (pt_cmpR op_gt (pv 1) (pv 2) (nomark _)) (pss_cons (ps_set (i := 4) sc_road_of.nd rfl (Or.inl rfl) (pe_op op_fdivL (pe_op op_sub (pv 1) pe_int) (pv 2)))
  (pss_cons (ps_expr (pe_bm PySem.F.plainAttrs_list PySem.F.slot_list_append PySem.F.type_list_append mt_append (pv 3) (pa_cons (pe_op op_mulS pe_str (pv 4)) pa_nil)))
  (pss_one (ps_set (i := 1) sc_road_of.nd rfl (Or.inl rfl) (pe_op op_sub (pv 1) (pe_op op_mulL (pv 4) (pv 2))))))) (pss_cons (ps_set (i := 4) sc_road_of.nd rfl (Or.inl rfl) (pe_op op_fdivL (pe_op op_sub (pv 2) pe_int) (pv 1)))
  (pss_cons (ps_expr (pe_bm PySem.F.plainAttrs_list PySem.F.slot_list_append PySem.F.type_list_append mt_append (pv 3) (pa_cons (pe_op op_mulS pe_str (pv 4)) pa_nil)))
  (pss_one (ps_set (i := 2) sc_road_of.nd rfl (Or.inl rfl) (pe_op op_sub (pv 2) (pe_op op_mulL (pv 4) (pv 1))))))))))
  (pss_one (ps_ret (pe_join pe_str (pv 3)))))))), ?_⟩
    refine ⟨_, rfl, p, x, y, rfl, hp, fun g => ?_, qe⟩
    obtain ⟨w, rfl, rfl, hw, q⟩ := q g
    obtain ⟨p1, p2⟩ := up_pos w
    refine ⟨_, rfl, p, _, rfl, hp, rfl, _, _, rfl, _, _, rfl, rfl, sz (by show 0 ≤ 1000000; decide), fun r nr => ?_⟩
    refine ⟨fun m σ H2 => ∃ (ls : List (List Bool)) (v : List Bool) (x : Option V), σ = [some (.ref p), some (.int (wa v)), some (.int (wb v)), some (.ref r), x] ∧ m = v.length ∧ ls.flatten ++ v = w ∧ ls.length + v.length ≤ w.length ∧ Same H H2 ∧ H2 r = some (.lst ((ls.map rd).map V.str)),
      ⟨w.length, [], w, none, rfl, rfl, rfl, Nat.le_of_eq (Nat.zero_add _), (L2.Same.refl H).new nr, upd_same⟩, ?_⟩
    rintro m σ H2 ⟨ls, v, x, rfl, rfl, ev, hl, sm, hr2⟩
    have lw : v.length ≤ 1000 := by omega
    obtain ⟨v1, v2⟩ := up_pos v
    obtain ⟨sa, sb⟩ := up_sml (w := v) (by omega)
    have room : (List.map V.str (List.map rd ls)).length < sizeLine := by
      rw [List.length_map, List.length_map]
      exact Nat.lt_of_le_of_lt (show ls.length ≤ 1000 by omega) (by decide)
    refine ⟨_, rfl, _, rfl, rfl, _, rfl, ?_⟩
    by_cases e : wa v = wb v
    · -- the end
      have ev0 := rest_nil.mp e
      subst ev0
      rw [List.append_nil] at ev
      refine iteNS (by rw [e]) ?_
      refine ⟨⟨_, rfl⟩, _, rfl, ("" : Str), r, ls.map rd, rfl, rfl, .inl (SqL.of hr2), join_room (by rw [ev]; omega), ?_⟩
      rw [join_rd, ev]
      exact q _ sm
    · have en : (!decide (V.int (wa v) = V.int (wb v))) = true := by
        rw [decide_eq_false (fun z => e (V.int.inj z))]
        rfl
      rw [en]
      refine iteT ⟨fun σ' H' => ∃ (ls' : List (List Bool)) (v' : List Bool) (x : Option V), σ' = [some (.ref p), some (.int (wa v')), some (.int (wb v')), some (.ref r), x] ∧ v'.length < v.length ∧ ls'.flatten ++ v' = w ∧ ls'.length + v'.length ≤ w.length ∧ Same H H' ∧ H' r = some (.lst ((ls'.map rd).map V.str)), ?_, ?_⟩
      · rintro σ' H' ⟨ls', v', x, rfl, lt, e1, e2, e3, e4⟩
        exact ⟨v'.length, lt, ls', v', x, rfl, rfl, e1, e2, e3, e4⟩
      · refine ⟨_, rfl, _, rfl, _, _, rfl, rfl, _, rfl, ite2 (fun e2 => ?_) (fun e2 => ?_)⟩
        · have gt : wa v > wb v := of_decide_eq_true e2
          obtain ⟨v', e3, e4, e5⟩ := runs_R v
          have many : 1 ≤ (wa v - 1) / wb v := (Int.le_ediv_iff_mul_le (by omega)).mpr (by omega)
          have ef : (wa v - 1).fdiv (wb v) = (wa v - 1) / wb v := Int.fdiv_eq_ediv_of_nonneg _ (by omega)
          have el : ((wa v - 1) / wb v).toNat + v'.length = v.length := by
            have := congrArg List.length e3
            rw [List.length_append, List.length_replicate] at this
            omega
          refine ⟨_, rfl, _, _, rfl, rfl, _, rfl, _, _, rfl, rfl, .inr ⟨by omega, Nat.lt_trans sb.lg (by decide)⟩, ?_⟩
          refine ⟨_, rfl, .inl ⟨rfl, _, SqL.of hr2⟩, _, rfl, ("R" : Str), _, rfl, rfl, by decide +kernel, ?_, ?_, r, _, _, rfl, rfl, hr2, room, ?_⟩
          · show (-1000 : Int) ≤ (wa v - 1).fdiv (wb v)
            rw [ef]
            omega
          · show (wa v - 1).fdiv (wb v) ≤ 1000
            rw [ef]
            omega
          · have e6 : repT ("R" : Str) ((wa v - 1).fdiv (wb v)) = rd (List.replicate ((wa v - 1) / wb v).toNat true) := by
              rw [← rd_R, ef, rep_rd]
              congr 1
              unfold repR
              rw [List.flatten_replicate_singleton]
            rw [e6]
            refine ⟨_, rfl, _, rfl, _, rfl, _, _, rfl, rfl, cml_s ?_ sb, _, _, rfl, rfl, ls ++ [List.replicate ((wa v - 1) / wb v).toNat true], v', some (.int ((wa v - 1).fdiv (wb v))), ?_, by omega, ?_, ?_, ?_, ?_⟩
            · rw [ef]
              have : (((wa v - 1) / wb v).natAbs) ≤ 1000 := by omega
              exact Nat.lt_of_le_of_lt this (by decide)
            · show [some (V.ref p), some (V.int (wa v - (wa v - 1).fdiv (wb v) * wb v)), some (V.int (wb v)), some (V.ref r), some (V.int ((wa v - 1).fdiv (wb v)))] = _
              rw [e4, e5, ef]
            · rw [List.flatten_append, List.append_assoc, ← ev]
              show ls.flatten ++ ((List.replicate ((wa v - 1) / wb v).toNat true ++ []) ++ v') = _
              rw [List.append_nil, ← e3]
            · rw [List.length_append]
              show ls.length + 1 + v'.length ≤ w.length
              omega
            · exact fun b o z => by rw [upd_ne (ne_of_none z nr)]; exact sm b o z
            · rw [upd_same]
              simp
        · have lt : wa v < wb v := by
            have : ¬ wa v > wb v := fun z => e2 (decide_eq_true z)
            omega
          obtain ⟨v', e3, e4, e5⟩ := runs_L v
          have many : 1 ≤ (wb v - 1) / wa v := (Int.le_ediv_iff_mul_le (by omega)).mpr (by omega)
          have ef : (wb v - 1).fdiv (wa v) = (wb v - 1) / wa v := Int.fdiv_eq_ediv_of_nonneg _ (by omega)
          have el : ((wb v - 1) / wa v).toNat + v'.length = v.length := by
            have := congrArg List.length e3
            rw [List.length_append, List.length_replicate] at this
            omega
          refine ⟨_, rfl, _, _, rfl, rfl, _, rfl, _, _, rfl, rfl, .inr ⟨by omega, Nat.lt_trans sa.lg (by decide)⟩, ?_⟩
          refine ⟨_, rfl, .inl ⟨rfl, _, SqL.of hr2⟩, _, rfl, ("L" : Str), _, rfl, rfl, by decide +kernel, ?_, ?_, r, _, _, rfl, rfl, hr2, room, ?_⟩
          · show (-1000 : Int) ≤ (wb v - 1).fdiv (wa v)
            rw [ef]
            omega
          · show (wb v - 1).fdiv (wa v) ≤ 1000
            rw [ef]
            omega
          · have e6 : repT ("L" : Str) ((wb v - 1).fdiv (wa v)) = rd (List.replicate ((wb v - 1) / wa v).toNat false) := by
              rw [← rd_L, ef, rep_rd]
              congr 1
              unfold repR
              rw [List.flatten_replicate_singleton]
            rw [e6]
            refine ⟨_, rfl, _, rfl, _, rfl, _, _, rfl, rfl, cml_s ?_ sa, _, _, rfl, rfl, ls ++ [List.replicate ((wb v - 1) / wa v).toNat false], v', some (.int ((wb v - 1).fdiv (wa v))), ?_, by omega, ?_, ?_, ?_, ?_⟩
            · rw [ef]
              have : (((wb v - 1) / wa v).natAbs) ≤ 1000 := by omega
              exact Nat.lt_of_le_of_lt this (by decide)
            · show [some (V.ref p), some (V.int (wa v)), some (V.int (wb v - (wb v - 1).fdiv (wa v) * wa v)), some (V.ref r), some (V.int ((wb v - 1).fdiv (wa v)))] = _
              rw [e4, e5, ef]
            · rw [List.flatten_append, List.append_assoc, ← ev]
              show ls.flatten ++ ((List.replicate ((wb v - 1) / wa v).toNat false ++ []) ++ v') = _
              rw [List.append_nil, ← e3]
            · rw [List.length_append]
              show ls.length + 1 + v'.length ≤ w.length
              omega
            · exact fun b o z => by rw [upd_ne (ne_of_none z nr)]; exact sm b o z
            · rw [upd_same]
              simp

/-! rows_of_standings -/
def sp_rows_of_standings (K : PySem.W.Frag) : Sp := fun vs H Q _ => ∃ (d : Addr) (m : M4) (l : List M4) (as : List Addr), vs = [.ref d] ∧ H d = some (.dT (kvz l as)) ∧ Stp H l as (fun _ => [false, true]) ∧ Okm m ∧ Lst m l ∧ (∀ r ∈ l, gl r.l = 1 ∧ ∀ t, rd1 r t ∈ l) ∧
  ∀ (rs : List Rw) (bs : List Addr) H' q, Rws l rs → rs.length = l.length → Same H H' → H q = none → H' q = some (.lst (bs.map V.ref)) → RowsL H' bs rs → Q (.ref q) H'
theorem ok_rows_of_standings (T : Tx K mg) : FnOk P w K mg base (L2.CX P w) 5 T.a_rows_of_standings T.fd_rows_of_standings ["steps"] (sp_rows_of_standings K) := by
  have G_road_of := ok_road_of (P := P) (w := w) (base := base) T
  have G_sent := ok_sent (P := P) (w := w) (base := base) T
  refine T.F_rows_of_standings.okX sc_rows_of_standings (fun vs H Q E h => ?_) (fun cdv A outer s H vs Q E hr h => ?_)
  · obtain ⟨d, m, l, as, rfl, _⟩ := h
    rfl
  · obtain ⟨d, m, l, as, rfl, hd, st, o, lt, cl, q⟩ := h
    refine ⟨_, (pss_cons (ps_set (i := 3) sc_rows_of_standings.nd rfl (Or.inr rfl) (pe_lock (pe_dcG (own := [("number", 1), ("standing", 2)]) (g := (gTup K 2 (gCons (gName 1) (gCons (gName 2) gNil)))) (.inr rfl) (hu_of hr) (by rfl) sc_rows_of_standings.nd (pi_enumT (by rfl) T.z_enumerate (pa_cons (pv 0) pa_nil)) (blkOk_by (own := [("number", 1), ("standing", 2)]) (N := n_rows_of_standings) (sc := defScope s_rows_of_standings) (by decide +kernel)) (fun _ _ _ _ _ => (pg_tup (by rfl) (pgs_cons (pg_name (i := 1) sc_rows_of_standings.nd rfl (Or.inl rfl)) (pgs_cons (pg_name (i := 2) sc_rows_of_standings.nd rfl (Or.inl rfl)) pgs_nil)))) (fun _ _ _ _ _ => pts_nil) (fun _ _ _ _ _ => (pv 2)) (fun _ _ _ _ _ => (pv 1)))))
  (pss_cons (ps_set (i := 4) sc_rows_of_standings.nd rfl (Or.inl rfl) (pe_lst pa_nil))
  (pss_cons (ps_lock (ps_for (passes_of rfl) rfl (pi_itemsT (pv 0)) (pg_tup (by rfl) (pgs_cons (pg_name (i := 2) sc_rows_of_standings.nd rfl (Or.inl rfl)) (pgs_cons (pg_name (i := 5) sc_rows_of_standings.nd rfl (Or.inl rfl)) pgs_nil)))
    (pss_cons (ps_asg (pe_lc (own := [("word", 6), ("follower", 7)]) (g := (gTup K 2 (gCons (gName 6) (gCons (gName 7) gNil)))) (by rfl) sc_rows_of_standings.nd (pi_list (pv 5)) (blkOk_by (own := [("word", 6), ("follower", 7)]) (N := n_rows_of_standings) (sc := defScope s_rows_of_standings) (by decide +kernel)) (fun _ _ _ _ _ => (pg_tup (by rfl) (pgs_cons (pg_name (i := 6) sc_rows_of_standings.nd rfl (Or.inl rfl)) (pgs_cons (pg_name (i := 7) sc_rows_of_standings.nd rfl (Or.inl rfl)) pgs_nil)))) (fun _ _ _ _ _ => pts_nil) (fun _ _ _ _ _ => (pe_tup (pa_cons (pv 6) (pa_cons (pe_dget (hu_of hr) (pv 3) (pv 7) (fun _ _ => rfl)) pa_nil))))) (pg_unl (by rfl) (pgs_cons (pg_name (i := 8) sc_rows_of_standings.nd rfl (Or.inl rfl)) (pgs_cons (pg_name (i := 9) sc_rows_of_standings.nd rfl (Or.inl rfl)) pgs_nil))))
  (pss_one (ps_expr (pe_bm PySem.F.plainAttrs_list PySem.F.slot_list_append PySem.F.type_list_append mt_append (pv 4) (pa_cons (pe_tup (pa_cons (pv 8) (pa_cons (pv 9) (pa_cons (pe_call G_road_of (hr.mono (by decide)) (by rfl) T.g_road_of T.F_road_of.kp (b_road_of T.F_road_of) .nil (passes_call (takes_of rfl rfl rfl rfl) (fun _ _ _ _ h => h)) (pa_cons (pe_call G_sent (hr.mono (by decide)) (by rfl) T.g_sent T.F_sent.kp (b_sent T.F_sent) .nil (passes_call (takes_of rfl rfl rfl rfl) (fun _ _ _ _ h => h)) (pa_cons (pv 2) (pa_cons (pe_tup (pa_cons pe_int (pa_cons pe_int pa_nil))) pa_nil))) pa_nil)) pa_nil)))) pa_nil)))))))
  (pss_one (ps_ret (pv 4)))))), ?_⟩
    obtain ⟨rs, hrs, lrs⟩ := rws_ex o lt fun r hr => (cl r hr).2
    have ll : l.length ≤ 1000 := Nat.le_trans (lt.len o) (by decide)
    dsimp only [tSeq, tAsg, tLockE, tDcG]
    refine ⟨d, _, hd, trivial, fun od => ⟨_, rfl, d, od, _, rfl, upd_same, fun N nN => ?_⟩⟩
    have hN0 : H N = none := by
      by_cases c : N = d
      · rw [c, upd_same] at nN
        cases nN
      · rw [upd_ne c] at nN
        exact nN
    have nNd : N ≠ d := fun c => by rw [c, hd] at hN0; cases hN0
    refine dcG_turns (n := l.length) (fun i H' => ∃ kvs, Same (upd H d (.frz od (.dT (kvz l as)))) H' ∧ H' N = some (.dT kvs) ∧ DictL kvs (l.take i)) ⟨[], (L2.Same.refl _).new nN, upd_same, ⟨by simp, fun k r z => by simp at z, fun r _ => rfl⟩⟩ ?_ ?_ ?_ ?_
    · rintro i H' c ⟨kvs, sm, _⟩
      exact ⟨sm _ _ upd_same, by rw [kvz_len st.len]; exact c⟩
    · rintro H' ⟨kvs, sm, _⟩
      exact ⟨sm _ _ upd_same, by rw [kvz_len st.len]; exact Nat.le_refl _⟩
    · rintro i v H' H'' c ⟨kvs, sm, hN, dl⟩ ⟨k, v, qk, T1, e1, e2, rfl, nT, rfl⟩
      obtain ⟨r, a, hr, ha, rfl, rfl⟩ := kvz_at e1
      have sT := (L2.Same.refl H').new (o := .tup [.int (i : Nat), .ref qk]) nT
      refine ⟨T1, _, rfl, SqT.of upd_same, rfl, _, _, rfl, _, _, rfl, rfl, rfl, _, rfl, _, rfl, ?_⟩
      have ltk : (l.take i).length = i := by rw [List.length_take]; omega
      have out' : ¬ r ∈ l.take i := fun z => by
        obtain ⟨j, hj⟩ := List.getElem?_of_mem z
        have jl : j < i := by have := (List.getElem?_eq_some_iff.mp hj).1; omega
        rw [List.getElem?_take_of_lt jl] at hj
        exact absurd (nodup_at lt.nd hj hr) (by omega)
      have tk : l.take (i + 1) = l.take i ++ [r] := by rw [List.take_succ, hr]; rfl
      refine ⟨_, DPut.t (k := r.key) (sT _ _ hN) (sT _ _ e2) (by rw [dl.len, ltk]; exact Nat.lt_of_le_of_lt (show i ≤ 1000 by omega) (by decide)), _, fun b o z => ?_, upd_same, ?_⟩
      · rw [upd_ne (fun c => by rw [c, nN] at z; cases z)]
        exact sT _ _ (sm _ _ z)
      · rw [tk]
        have := dl.snoc out'
        rw [ltk] at this
        exact this
    · rintro H1 ⟨kvs, sm1, hN1, dl⟩
      rw [List.take_length] at dl
      refine ⟨sm1 _ _ upd_same, ?_⟩
      have s1 := Same.thaw sm1 hd
      have hN1 : (upd H1 d (.dT (kvz l as))) N = some (.dT kvs) := by rw [upd_ne nNd]; exact hN1
      generalize upd H1 d (.dT (kvz l as)) = H2 at *
      have hd2 := s1 _ _ hd
      have st2 := st.same s1
      dsimp only [gName, tSeq]
      refine ⟨sz (by show 0 ≤ 1000000; decide), fun R nR => ?_⟩
      have nNR : N ≠ R := ne_of_none hN1 nR
      have ndR : d ≠ R := ne_of_none hd2 nR
      have hR0 : H R = none := s1.free nR
      have sR := (L2.Same.refl H2).new (o := .lst []) nR
      dsimp only [tAsg, tLock, tSeq]
      refine ⟨d, _, sR _ _ hd2, trivial, fun od => ⟨_, rfl, d, od, _, rfl, upd_same, ?_⟩⟩
      have s3 : Same (upd H d (.frz od (.dT (kvz l as)))) (upd (upd H2 R (.lst [])) d (.frz od (.dT (kvz l as)))) := Same.freeze (s1.trans sR)
      have st3 := (st2.same sR).freeze (f := .frz od (.dT (kvz l as))) (sR _ _ hd2)
      have fN : (upd (upd H2 R (.lst [])) d (.frz od (.dT (kvz l as)))) N = some (.dT kvs) := by rw [upd_ne nNd]; exact sR _ _ hN1
      have fR : (upd (upd H2 R (.lst [])) d (.frz od (.dT (kvz l as)))) R = some (.lst []) := by rw [upd_ne (Ne.symm ndR)]; exact upd_same
      have fd : (upd (upd H2 R (.lst [])) d (.frz od (.dT (kvz l as)))) d = some (.frz od (.dT (kvz l as))) := upd_same
      have hRf : (upd H d (.frz od (.dT (kvz l as)))) R = none := by rw [upd_ne (Ne.symm ndR)]; exact hR0
      have nRas : ∀ a ∈ as, a ≠ R := fun a ha => by
        obtain ⟨xs, e⟩ := st2.lst ha
        exact ne_of_none e nR
      generalize (upd (upd H2 R (.lst [])) d (.frz od (.dT (kvz l as)))) = H3 at *
      refine for_turns (n := l.length) (fun i σ H4 => ∃ (bs : List Addr) (a1 a2 a5 a6 a7 a8 a9 : Option V), σ = [some (.ref d), a1, a2, some (.ref N), some (.ref R), a5, a6, a7, a8, a9] ∧ Same (upd H d (.frz od (.dT (kvz l as)))) H4 ∧ TupS H3 H4 ∧ (∀ a ∈ as, H4 a = H3 a) ∧ H4 N = some (.dT kvs) ∧ H4 d = some (.frz od (.dT (kvz l as))) ∧ H4 R = some (.lst (bs.map V.ref)) ∧ RowsL H4 bs (rs.take i))
        ⟨[], none, none, none, none, none, none, none, rfl, s3, fun b xs z => z, fun a _ => rfl, fN, fd, fR, by rw [List.take_zero]; exact RowsL.nil⟩ ?_ ?_ ?_ ?_
      · rintro i σ H4 c ⟨bs, a1, a2, a5, a6, a7, a8, a9, rfl, sm, ts, ea, hN, hd, hR, mR⟩
        exact ⟨hd, by rw [kvz_len st.len]; exact c⟩
      · rintro σ H4 ⟨bs, a1, a2, a5, a6, a7, a8, a9, rfl, sm, ts, ea, hN, hd, hR, mR⟩
        exact ⟨hd, by rw [kvz_len st.len]; exact Nat.le_refl _⟩
      · rintro i v σ H4 H4' c ⟨bs, a1, a2, a5, a6, a7, a8, a9, rfl, sm, ts, ea, hN, hd4, hR, mR⟩ ⟨k, v, qk, T1, e1, e2, rfl, nT, rfl⟩
        obtain ⟨r, a, hr, ha, rfl, rfl⟩ := kvz_at e1
        have sT := (L2.Same.refl H4).new (o := .tup [.ref qk, .ref a]) nT
        have ham := List.mem_of_getElem? ha
        have mr := List.mem_of_getElem? hr
        have Or := lt.ok r mr
        refine ⟨T1, _, rfl, SqT.of upd_same, rfl, _, _, rfl, _, _, rfl, rfl, ?_⟩
        obtain ⟨ps, ep, lps, hps⟩ := st3.st i r a hr ha
        have eaT : (upd H4 T1 (.tup [.ref qk, .ref a])) a = some (.lst (ps.map V.ref)) := sT _ _ ((ea a ham).trans ep)
        have hN5 := sT _ _ hN
        have hR5 := sT _ _ hR
        have hd5 := sT _ _ hd4
        have eq5 := sT _ _ e2
        have s5 := sm.trans sT
        have ts5 := ts.trans (.of sT)
        have ea5 : ∀ b ∈ as, (upd H4 T1 (.tup [.ref qk, .ref a])) b = H3 b := fun b hb => by
          obtain ⟨ys, z⟩ := st3.lst hb
          rw [upd_ne (ne_of_none ((ea b hb).trans z) nT)]
          exact ea b hb
        generalize (upd H4 T1 (.tup [.ref qk, .ref a])) = H5 at *
        dsimp only [tSeq, tAsg]
        refine ⟨_, rfl, a, rfl, ⟨_, SqL.of eaT⟩, fun L1 nL => ?_⟩
        have hLn := nL
        refine lc_list (xs := ps.map V.ref) (fun j H' => Same H5 H' ∧ ∃ cs : List Addr, H' L1 = some (.lst (cs.map V.ref)) ∧ cs.length = j ∧ ∀ (k : Nat) (t : Bool), (([false, true] : List Bool).take j)[k]? = some t → ∃ (e : Addr) (n : Nat), cs[k]? = some e ∧ H' e = some (.tup [.str (rd (wd1 r t)), .int (n : Nat)]) ∧ l[n]? = some (rd1 r t))
          ⟨(L2.Same.refl H5).new nL, [], upd_same, rfl, fun k t z => by simp at z⟩ (fun j H' _ z => SqL.of (z.1 _ _ eaT)) ?_ ?_
        · rintro j x H6 hx ⟨s6, cs, hL6, lcs, hcs⟩
          obtain ⟨b, hb, rfl⟩ : ∃ b, ps[j]? = some b ∧ x = .ref b := by
            rw [List.getElem?_map] at hx
            cases e : ps[j]? with
            | none =>
              rw [e] at hx
              cases hx
            | some b =>
              rw [e] at hx
              exact ⟨b, rfl, (Option.some.inj hx).symm⟩
          have j2 : j < 2 := by have := (List.getElem?_eq_some_iff.mp hb).1; rw [lps] at this; exact this
          obtain ⟨t, ht⟩ : ∃ t, ([false, true] : List Bool)[j]? = some t := ⟨_, List.getElem?_eq_getElem j2⟩
          obtain ⟨qf, f1, f2⟩ := hps j t b ht hb
          have f1' := s6 _ _ (ts5 _ _ f1)
          have f2' := s6 _ _ (ts5 _ _ f2)
          have hN6 := s6 _ _ hN5
          obtain ⟨n, hn⟩ := List.getElem?_of_mem ((cl r mr).2 t)
          have get : DGet H6 N (.ref qf) (some (.int (n : Nat))) := by rw [← dl.yes n _ hn]; exact DGet.t (k := (rd1 r t).key) hN6 f2'
          refine ⟨b, _, rfl, SqT.of f1', rfl, _, _, rfl, _, _, rfl, rfl, rfl, _, rfl, _, rfl, _, rfl, N, .int (n : Nat), rfl, get, sz (by show 2 ≤ 1000000; decide), fun e ne => ?_⟩
          have s7 := (L2.Same.refl H6).new (o := .tup [.str (rd (wd1 r t)), .int (n : Nat)]) ne
          have nLe : L1 ≠ e := ne_of_none hL6 ne
          refine ⟨_, s7 _ _ hL6, by rw [List.length_map, lcs]; exact Nat.lt_of_le_of_lt (show j ≤ 1000 by omega) (by decide), ?_, cs ++ [e], by rw [upd_same]; simp, by rw [List.length_append, lcs]; rfl, ?_⟩
          · exact fun b o z => by rw [upd_ne (ne_of_none z hLn)]; exact s7 _ _ (s6 _ _ z)
          · intro k t' hk
            have tl := TupS.lst (o := .lst (cs.map V.ref ++ [.ref e])) (s7 _ _ hL6)
            rw [List.take_succ, ht] at hk
            have l2 : (([false, true] : List Bool).take j).length = j := by rw [List.length_take]; show min j 2 = j; omega
            by_cases c : k < j
            · rw [List.getElem?_append_left (by omega)] at hk
              obtain ⟨e', n', g1, g2, g3⟩ := hcs k t' hk
              exact ⟨e', n', by rw [List.getElem?_append_left (by omega)]; exact g1, tl _ _ (s7 _ _ g2), g3⟩
            · rw [List.getElem?_append_right (by omega), l2] at hk
              cases d2 : k - j with
              | zero =>
                rw [d2] at hk
                cases hk
                exact ⟨e, n, by rw [List.getElem?_append_right (by omega), lcs, d2]; rfl, tl _ _ upd_same, hn⟩
              | succ k' =>
                rw [d2] at hk
                cases hk
        · rintro H6 ⟨s6, cs, hL6, lcs, hcs⟩
          rw [List.length_map, lps] at lcs hcs
          obtain ⟨cF, nF, f1, f2, f3⟩ := hcs 0 false rfl
          obtain ⟨cT, nT, g1, g2, g3⟩ := hcs 1 true rfl
          obtain rfl : cs = [cF, cT] := by
            match cs, lcs, f1, g1 with
            | [u, v], _, h1, h2 =>
              cases h1
              cases h2
              rfl
          obtain ⟨y, hy⟩ : ∃ y, rs[i]? = some y := ⟨_, List.getElem?_eq_getElem (by rw [lrs]; exact c)⟩
          obtain ⟨r', hr', ry⟩ := hrs.at_ i y hy
          rw [hr] at hr'
          cases hr'
          have jF := nodup_at lt.nd f3 ry.j
          have jT := nodup_at lt.nd g3 ry.k
          subst jF jT
          rw [← ry.w] at f2
          rw [← ry.v] at g2
          refine ⟨L1, [.ref cF, .ref cT], rfl, SqL.of hL6, rfl, _, _, rfl, _, _, rfl, rfl, ?_⟩
          have hR6 := s6 _ _ hR5
          have z2 : ([.int 0, .int 1] : List V).length ≤ sizeLine := sz (by show 2 ≤ 1000000; decide)
          have b1 : Bd 900 1 := by unfold Bd; decide +kernel
          obtain ⟨e, he, le⟩ := end_ex Or.nn (by rw [Or.de]; exact o.d0) (Or.le o)
          have ee := ry.e.one he
          refine ⟨_, rfl, .inl ⟨rfl, _, SqL.of hR6⟩, _, rfl, _, rfl, _, rfl, z2, fun u nu => ?_⟩
          have s7 := (L2.Same.refl H6).new (o := .tup [.int 1, .int 1]) nu
          have mpr : Mp r := ⟨Or.nn, by rw [Or.de]; exact o.d0, (cl r mr).1⟩
          have fr1 : FracP 1 1 := ⟨by decide, by decide, by decide⟩
          refine ⟨qk, u, r, 1, 1, rfl, SqT.of (s7 _ _ (s6 _ _ eq5)), SqT.of upd_same, bds_of Or.nn (Or.le o) (by unfold Bd; decide +kernel), b1, b1, fun z => absurd mpr z, fun _ z => absurd fr1 z, fun _ _ H7 p7 sm7 np7 e7 => ?_⟩
          rw [show lowl [r.a * 1 + r.b * 1, r.c * 1 + r.d * 1] = [wa y.e, wb y.e] from ry.e] at e7
          have fe : FracP (wa y.e) (wb y.e) := ⟨(up_pos y.e).1, (up_pos y.e).2, road_gcd y.e⟩
          refine ⟨p7, wa y.e, wb y.e, rfl, SqT.of e7, fun z => absurd fe z, fun _ => ⟨y.e, rfl, rfl, by rw [ee]; omega, fun H8 sm8 => ⟨sz (by show 3 ≤ 1000000; decide), fun ra nra => ?_⟩⟩⟩
          have s68 := ((s7.trans sm7).trans sm8).new (o := .tup [.ref cF, .ref cT, .str (rd y.e)]) nra
          have hR8 := s68 _ _ hR6
          have room : (bs.map V.ref).length < sizeLine := by
            rw [List.length_map, mR.1, List.length_take]
            exact Nat.lt_of_le_of_lt (show min i rs.length ≤ 1000 by omega) (by decide)
          have t9 := TupS.lst (o := .lst (bs.map V.ref ++ [.ref ra])) hR8
          have s58 := s6.trans s68
          have t59 := (TupS.of s58).trans t9
          refine ⟨R, _, _, rfl, rfl, hR8, room, bs ++ [ra], _, _, _, _, _, _, _, rfl, ?_, ts5.trans t59, ?_, by rw [upd_ne nNR]; exact s58 _ _ hN5, by rw [upd_ne ndR]; exact s58 _ _ hd5, by rw [upd_same]; simp, ?_⟩
          · exact fun b o z => by rw [upd_ne (ne_of_none z hRf)]; exact s58 _ _ (s5 _ _ z)
          · intro b hb
            obtain ⟨ys, z⟩ := st3.lst hb
            rw [upd_ne (nRas b hb), s58 _ _ ((ea5 b hb).trans z), z]
          · have tk : rs.take (i + 1) = rs.take i ++ [y] := by
              rw [List.take_succ, hy]
              rfl
            rw [tk]
            exact (mR.up (TupS.trans (TupS.of sT) t59)).snoc ⟨cF, cT, t9 _ _ upd_same, (TupS.trans (TupS.of s68) t9) _ _ f2, (TupS.trans (TupS.of s68) t9) _ _ g2⟩
      · rintro σ H4 ⟨bs, a1, a2, a5, a6, a7, a8, a9, rfl, sm, ts, ea, hN, hd4, hR, mR⟩
        rw [show rs.take l.length = rs by rw [← lrs]; exact List.take_length] at mR
        have td : TupS H4 (upd H4 d (.dT (kvz l as))) := fun b xs z => by rw [upd_ne (fun c => by rw [c, hd4] at z; cases z)]; exact z
        exact ⟨hd4, _, rfl, q rs bs _ R hrs lrs (Same.thaw sm hd) hR0 (by rw [upd_ne (Ne.symm ndR)]; exact hR) (mR.up td)⟩

/-! matrix_of -/
def sp_matrix_of (K : PySem.W.Frag) : Sp := fun vs H Q _ => ∃ (w : List Bool), vs = [.str (rd w)] ∧
  ∀ H' p, Same H H' → H p = none → H' p = some (.tup [.int (mat w).a, .int (mat w).b, .int (mat w).c, .int (mat w).d]) → Q (.ref p) H'
theorem ok_matrix_of (T : Tx K mg) : FnOk P w K mg base CX0 1 T.a_matrix_of T.fd_matrix_of ["road"] (sp_matrix_of K) := by
  refine T.F_matrix_of.ok sc_matrix_of (fun vs H Q E h => ?_) (fun cdv A outer s H vs Q E hr h => ?_)
  · obtain ⟨w, rfl, _⟩ := h
    rfl
  · obtain ⟨w, rfl, q⟩ := h
    refine ⟨_, (pss_cons (ps_asg (pe_tup (pa_cons pe_int (pa_cons pe_int (pa_cons pe_int (pa_cons pe_int pa_nil))))) (pg_tup (by rfl) (pgs_cons (pg_name (i := 1) sc_matrix_of.nd rfl (Or.inl rfl)) (pgs_cons (pg_name (i := 2) sc_matrix_of.nd rfl (Or.inl rfl)) (pgs_cons (pg_name (i := 3) sc_matrix_of.nd rfl (Or.inl rfl)) (pgs_cons (pg_name (i := 4) sc_matrix_of.nd rfl (Or.inl rfl)) pgs_nil))))))
  (pss_cons (ps_for PassesOwn.never rfl (pi_str (pv 0)) (pg_name (i := 5) sc_matrix_of.nd rfl (Or.inl rfl))
    (pss_one (ps_if (pt_cmpR op_eq (pv 5) pe_str (nomark _)) (pss_one (ps_par (i := 1) (j := 3) (by rfl) sc_matrix_of.nd rfl rfl (by decide) rfl rfl (pa_cons (pe_op op_add (pv 1) (pv 2)) (pa_cons (pe_op op_add (pv 3) (pv 4)) pa_nil)) (by rfl))) (pss_one (ps_par (i := 2) (j := 4) (by rfl) sc_matrix_of.nd rfl rfl (by decide) rfl rfl (pa_cons (pe_op op_add (pv 1) (pv 2)) (pa_cons (pe_op op_add (pv 3) (pv 4)) pa_nil)) (by rfl))))))
  (pss_one (ps_ret (pe_tup (pa_cons (pv 1) (pa_cons (pv 2) (pa_cons (pv 3) (pa_cons (pv 4) pa_nil))))))))), ?_⟩
    have z4 : ([.int 1, .int 0, .int 0, .int 1] : List V).length ≤ sizeLine := sz (by show 4 ≤ 1000000; decide)
    refine ⟨z4, fun p np => ⟨p, _, rfl, .inl (.inl upd_same), rfl, ?_⟩⟩
    refine ⟨_, _, rfl, _, _, rfl, _, _, rfl, _, _, rfl, rfl, ?_⟩
    refine ⟨_, rfl, rd w, rfl, for_rd (fun pre σ H2 => ∃ x, σ = [some (.str (rd w)), some (.int (mat pre).a), some (.int (mat pre).b), some (.int (mat pre).c), some (.int (mat pre).d), x] ∧ Same H H2) ⟨none, rfl, (L2.Same.refl H).new np⟩ ?_ ?_⟩
    · rintro pre t post σ H2 ew ⟨x, rfl, sm⟩
      refine ⟨_, rfl, rfl, _, rfl, ?_⟩
      rw [eq_L]
      cases t
      · refine iteT ⟨_, rfl, _, rfl, _, _, rfl, rfl, _, rfl, _, rfl, _, _, rfl, rfl, _, _, rfl, some (.str (rd [false])), ?_, sm⟩
        rw [mat_snoc]
        rfl
      · refine iteF ⟨_, rfl, _, rfl, _, _, rfl, rfl, _, rfl, _, rfl, _, _, rfl, rfl, _, _, rfl, some (.str (rd [true])), ?_, sm⟩
        rw [mat_snoc]
        rfl
    · rintro σ H2 ⟨x, rfl, sm⟩
      refine ⟨_, rfl, _, rfl, _, rfl, _, rfl, sz (by show 4 ≤ 1000000; decide), fun p np => ?_⟩
      exact q _ p (sm.new np) (sm.free np) upd_same

/-! standings_from -/
def sp_standings_from (K : PySem.W.Frag) : Sp := fun vs H Q _ => ∃ (x y : Addr) (m r0 : M4) (N : Nat), vs = [.ref x] ∧ H x = some (.lst [.ref y]) ∧ H y = some (.tup (r0.l.map V.int)) ∧ Okm m ∧ Okr m r0 ∧ N ≤ 364 ∧ Fin r0 N ∧
  ∀ (as : List Addr) H' d, Same H H' → H d = none → H' d = some (.dT (kvz (enm r0 N) as)) → Stp H' (enm r0 N) as (fun _ => [false, true]) → (∀ a ∈ as, H a = none) → Q (.ref d) H'
theorem ok_standings_from (T : Tx K mg) : FnOk P w K mg base CX0 2 T.a_standings_from T.fd_standings_from ["starts"] (sp_standings_from K) := by
  have G_settled := ok_settled (P := P) (w := w) (base := base) T
  have G_times := ok_times (P := P) (w := w) (base := base) T
  have G_matrix_of := ok_matrix_of (P := P) (w := w) (base := base) T
  refine T.F_standings_from.ok sc_standings_from (fun vs H Q E h => ?_) (fun cdv A outer s H vs Q E hr h => ?_)
  · obtain ⟨x, y, m, r0, N, rfl, _⟩ := h
    rfl
  · obtain ⟨x, y, m, r0, N, rfl, hx, hy, o, O0, hN, fn, q⟩ := h
    refine ⟨_, (pss_cons (ps_setDcG (i := 2) (own := [("start", 1)]) (g := (gName 1)) (.inr rfl) (hu_of hr) (by rfl) sc_standings_from.nd rfl rfl (sw_trueD rfl rfl rfl (by decide +kernel)) (pi_list (pv 0)) (blkOk_by (own := [("start", 1)]) (N := n_standings_from) (sc := defScope s_standings_from) (by decide +kernel)) (fun _ _ _ _ _ => (pg_name (i := 1) sc_standings_from.nd rfl (Or.inl rfl))) (fun _ _ _ _ _ => pts_nil) (fun _ _ _ _ _ => (pv 1)) (fun _ _ _ _ _ => (pe_lst pa_nil)))
  (pss_cons (ps_set (i := 3) sc_standings_from.nd rfl (Or.inl rfl) (pe_callTy (call_list_dT (by rfl)) (by rfl) T.z_list (by decide +kernel) (pa_cons (pv 2) pa_nil)))
  (pss_cons (ps_set (i := 4) sc_standings_from.nd rfl (Or.inl rfl) pe_int)
  (pss_cons (ps_while PassesOwn.never (pt_cmpR op_lt (pv 4) (pe_callB call_len_seq (by rfl) T.z_len (by decide +kernel) (pa_cons (pv 3) pa_nil)) (nomark _))
    (pss_cons (ps_set (i := 5) sc_standings_from.nd rfl (Or.inl rfl) (pe_ix ix_list (pv 3) (pv 4) (fun _ _ => rfl)))
  (pss_cons (ps_aug (i := 4) sc_standings_from.nd rfl (Or.inl rfl) pe_int ip_add)
  (pss_one (ps_for PassesOwn.never rfl (pi_str pe_str) (pg_name (i := 6) sc_standings_from.nd rfl (Or.inl rfl))
    (pss_cons (ps_asg (pe_call G_settled (hr.mono (by decide)) (by rfl) T.g_settled T.F_settled.kp (b_settled T.F_settled) .nil pass0 (pa_cons (pe_call G_times (hr.mono (by decide)) (by rfl) T.g_times T.F_times.kp (b_times T.F_times) .nil pass0 (pa_cons (pv 5) (pa_cons (pe_call G_matrix_of (hr.mono (by decide)) (by rfl) T.g_matrix_of T.F_matrix_of.kp (b_matrix_of T.F_matrix_of) .nil pass0 (pa_cons (pv 6) pa_nil)) pa_nil))) pa_nil)) (pg_tup (by rfl) (pgs_cons (pg_name (i := 7) sc_standings_from.nd rfl (Or.inl rfl)) (pgs_cons (pg_name (i := 8) sc_standings_from.nd rfl (Or.inl rfl)) pgs_nil))))
  (pss_cons (ps_if (pt_cmp (pc_dnotin (hu_of hr) (pv 8) (pv 2))) (pss_cons (ps_dput (hu_of hr) (pv 2) (pv 8) (pe_lst pa_nil) rfl)
  (pss_one (ps_expr (pe_bm PySem.F.plainAttrs_list PySem.F.slot_list_append PySem.F.type_list_append mt_append (pv 3) (pa_cons (pv 8) pa_nil))))) pss_nil)
  (pss_one (ps_expr (pe_bm PySem.F.plainAttrs_list PySem.F.slot_list_append PySem.F.type_list_append mt_append (pe_dget (hu_of hr) (pv 2) (pv 5) (fun _ _ => rfl)) (pa_cons (pe_tup (pa_cons (pv 7) (pa_cons (pv 8) pa_nil))) pa_nil)))))))))))
  (pss_one (ps_ret (pv 2))))))), ?_⟩
    dsimp only [tSeq, tAsg, tDcG]
    refine ⟨_, rfl, x, rfl, ⟨_, SqL.of hx⟩, fun D nD => ?_⟩
    refine dcG_turns (n := 1) (fun i H' => ∃ as, Same H H' ∧ H' D = some (.dT (kvz (([r0] : List M4).take i) as)) ∧ Stp H' (([r0] : List M4).take i) as (pro 0 []) ∧ ∀ a ∈ as, H a = none) ⟨[], (L2.Same.refl H).new nD, upd_same, Stp.nil, fun a h => by cases h⟩ ?_ ?_ ?_ ?_
    · rintro i H' lt ⟨as, sm, _⟩
      obtain rfl : i = 0 := by omega
      exact ⟨[.ref y], .ref y, SqL.of (sm _ _ hx), rfl⟩
    · rintro H' ⟨as, sm, _⟩
      exact ⟨[.ref y], SqL.of (sm _ _ hx), Nat.le_refl _⟩
    · rintro i v H' H'' lt ⟨as, sm, hD, st, fr⟩ yy
      obtain rfl : i = 0 := by omega
      obtain ⟨e0, y0⟩ := yy
      subst e0
      cases y0 _ (SqL.of (sm _ _ hx))
      obtain rfl : as = [] := List.length_eq_zero_iff.mp st.len
      refine ⟨rfl, .ref y, rfl, sz (by show 0 ≤ 1000000; decide), fun L1 nL => ?_⟩
      have nD1 : D ≠ L1 := ne_of_none hD nL
      have hD0 : H D = none := nD
      have hD' : (L2.upd H'' L1 (.lst [])) D = some (.dT []) := by rw [upd_ne nD1]; exact hD
      have hy' : (L2.upd H'' L1 (.lst [])) y = _ := ((L2.Same.refl H'').new nL) _ _ (sm _ _ hy)
      refine ⟨_, DPut.t (k := r0.key) hD' hy' (by show 0 < sizeLine; decide), [L1], fun b o z => ?_, by rw [upd_same]; exact congrArg (fun z => some (HO.dT z)) (kvz_snoc (l := []) (as := []) (r := r0) rfl (by simp)), ?_, ?_⟩
      · rw [upd_ne (ne_of_none z hD0)]; exact ((L2.Same.refl H'').new nL) _ _ (sm _ _ z)
      · refine Stp.key (l := []) (as := []) (pr := pro 0 []) (H := H'') (r := r0) Stp.nil (fun b h => by cases h) (fun b h => by cases h) ?_ (by rw [upd_ne (Ne.symm nD1)]; exact upd_same) rfl
        exact (TupS.of ((L2.Same.refl H'').new nL)).trans (TupS.dT hD')
      · intro a ha
        rw [List.mem_singleton.mp ha]
        exact sm.free nL
    · rintro H1 ⟨as, sm, hD, st, fr⟩
      rw [show ([r0] : List M4).take 1 = [r0] from rfl] at hD st
      have hD0 : H D = none := nD
      dsimp only [gName, tSeq]
      refine ⟨_, rfl, D, _, rfl, .inl hD, fun F ps nF hk => ?_⟩
      have nDF : D ≠ F := ne_of_none hD nF
      have hF0 : H F = none := sm.free nF
      have smF := (L2.Same.refl H1).new (o := .lst (ps.map V.ref)) nF
      have mF := (isKeys_maps st.len hk).up (.of smF)
      have nFas : ∀ a ∈ as, a ≠ F := fun a ha => by
        obtain ⟨xs, e⟩ := st.lst ha
        exact ne_of_none e nF
      dsimp only [tSeq, tAsg, tC, gName]
      refine ⟨fun k σ H2 => ∃ (i : Nat) (ps as : List Addr) (a1 a5 a6 a7 a8 : Option V), σ = [some (.ref x), a1, some (.ref D), some (.ref F), some (.int i), a5, a6, a7, a8] ∧ k = N - i ∧ i ≤ N ∧ Same H H2 ∧ H2 F = some (.lst (ps.map V.ref)) ∧ MapsL H2 ps (enm r0 i) ∧ H2 D = some (.dT (kvz (enm r0 i) as)) ∧ Stp H2 (enm r0 i) as (pro i []) ∧ ∀ a ∈ as, H a = none ∧ a ≠ F,
        ⟨N, 0, ps, as, none, none, none, none, none, rfl, rfl, Nat.zero_le _, sm.new nF, upd_same, mF, by rw [upd_ne nDF]; exact hD, st.same smF, fun a ha => ⟨fr a ha, nFas a ha⟩⟩, ?_⟩
      rintro k σ H2 ⟨i, ps, as, a1, a5, a6, a7, a8, rfl, rfl, hi, sm, hF, mP, hD, st, fr⟩
      have lt0 := enm_ok o O0 i
      have len0 := lt0.len o
      refine ⟨_, rfl, _, rfl, F, _, rfl, .inl (SqL.of hF), _, _, rfl, rfl, _, rfl, ?_⟩
      by_cases c : i < N
      · have ci : i < (enm r0 i).length := fn.no i c
        refine ifY (p := ((i : Nat) : Int) < ((ps.map V.ref).length : Nat)) (by rw [List.length_map, mP.1]; omega) ?_
        obtain ⟨r, hr⟩ : ∃ r, (enm r0 i)[i]? = some r := ⟨_, List.getElem?_eq_getElem ci⟩
        obtain ⟨po, hpo, ero⟩ := mP.at_ hr
        have Or := lt0.ok r (List.mem_of_getElem? hr)
        refine ⟨fun σ' H' => ∃ (ps as : List Addr) (a1 a5 a6 a7 a8 : Option V), σ' = [some (.ref x), a1, some (.ref D), some (.ref F), some (.int (i + 1 : Nat)), a5, a6, a7, a8] ∧ Same H H' ∧ H' F = some (.lst (ps.map V.ref)) ∧ MapsL H' ps (enm r0 (i + 1)) ∧ H' D = some (.dT (kvz (enm r0 (i + 1)) as)) ∧ Stp H' (enm r0 (i + 1)) as (pro (i + 1) []) ∧ ∀ a ∈ as, H a = none ∧ a ≠ F, ?_, ?_⟩
        · rintro σ' H' ⟨ps', as', b1, b5, b6, b7, b8, rfl, e⟩
          exact ⟨N - (i + 1), by omega, i + 1, ps', as', b1, b5, b6, b7, b8, rfl, rfl, c, e⟩
        refine ⟨_, rfl, _, rfl, F, _, _, .ref po, rfl, rfl, SqL.of hF, atI_nat (by rw [List.getElem?_map, hpo]; rfl), _, rfl, _, _, rfl, rfl, ?_⟩
        have hP0 : H F = none := hF0
        have nFD : F ≠ D := Ne.symm nDF
        refine ⟨rd [false, true], congrArg V.str (by decide +kernel), for_rd (fun pre σ H3 => ∃ (ps as : List Addr) (a1 a6 a7 a8 : Option V), σ = [some (.ref x), a1, some (.ref D), some (.ref F), some (.int (i + 1 : Nat)), some (.ref po), a6, a7, a8] ∧ Same H H3 ∧ TupS H2 H3 ∧ H3 F = some (.lst (ps.map V.ref)) ∧ MapsL H3 ps (addT r (enm r0 i) pre) ∧ H3 D = some (.dT (kvz (addT r (enm r0 i) pre) as)) ∧ Stp H3 (addT r (enm r0 i) pre) as (pro i pre) ∧ ∀ a ∈ as, H a = none ∧ a ≠ F)
          ⟨ps, as, _, _, _, _, rfl, sm, fun b xs z => z, hF, mP, hD, st, fr⟩ ?_ ?_⟩
        · rintro pre t post σ H3 ew ⟨ps, as, a1, a6, a7, a8, rfl, sm3, ts3, hF3, mP3, hD3, st3, fr3⟩
          obtain ⟨lt1, y1, hy1⟩ := addT_ok o Or lt0 pre
          obtain ⟨rS, rl, rO⟩ := read1 o Or t
          have hri : (addT r (enm r0 i) pre)[i]? = some r := by rw [hy1]; exact at_pre hr
          have ea := ts3 _ _ ero
          have bR : ∀ i' ∈ r.l, Bd 900 i' := bds_of Or.nn (Or.le o) (by unfold Bd; decide +kernel)
          refine ⟨_, rfl, _, rfl, [t], rfl, fun H5 p5 sm5 np5 e5 => ?_⟩
          refine ⟨po, p5, r, mat [t], 900, rfl, SqT.of (sm5 _ _ ea), SqT.of e5, by decide, bR, fun i' hi' => (bd_mat (k := 1) (Nat.le_refl _) i' hi').up (by decide), fun H6 p6 sm6 np6 e6 => ?_⟩
          refine ⟨p6, r.mul (mat [t]), rd1 r t, wd1 r t, 2 * 12, rfl, SqT.of e6, nn_mul Or.nn (mat_nn _), by rw [det_mat, Or.de]; exact o.d0, rS, by omega, turn_le Or.nn (Or.le o), by unfold Bd; decide +kernel, fun H4 p4 q4 sm7 np4 e4 nq4 eq4 => ?_⟩
          have sm4 := (sm5.trans sm6).trans sm7
          refine ⟨p4, _, rfl, .inl (.inl e4), rfl, _, _, rfl, _, _, rfl, rfl, ?_⟩
          have hF4 := sm4 _ _ hF3
          have hD4 := sm4 _ _ hD3
          have mP4 := mP3.up (.of sm4)
          have st4 := st3.same sm4
          have smH4 := sm3.trans sm4
          refine ⟨_, rfl, _, rfl, D, _, rfl, DGet.t (k := (rd1 r t).key) hD4 eq4, _, rfl, meet (fun σ' H5 => ∃ (ps as : List Addr), σ' = [some (.ref x), a1, some (.ref D), some (.ref F), some (.int (i + 1 : Nat)), some (.ref po), some (.str (rd [t])), some (.str (rd (wd1 r t))), some (.ref q4)] ∧ Same H H5 ∧ TupS H4 H5 ∧ H5 F = some (.lst (ps.map V.ref)) ∧ MapsL H5 ps (addT r (enm r0 i) (pre ++ [t])) ∧ H5 D = some (.dT (kvz (addT r (enm r0 i) (pre ++ [t])) as)) ∧ Stp H5 (addT r (enm r0 i) (pre ++ [t])) as (pro i pre) ∧ ∀ a ∈ as, H a = none ∧ a ≠ F) (fun c N hN => ?_) (fun c N hN => ?_) (fun σ5 H5 z => ?_)⟩
          · have out' : ¬ rd1 r t ∈ addT r (enm r0 i) pre := fun z => by
              rw [(kvz_some st4.len lt1.nd).mpr z] at c
              cases c
            have room : (ps.map V.ref).length < sizeLine := by
              rw [List.length_map, mP4.1]
              exact Nat.lt_of_le_of_lt (show _ ≤ 1000 from Nat.le_trans (lt1.len o) (by decide)) (by decide)
            have room2 : (kvz (addT r (enm r0 i) pre) as).length < sizeLine := by
              rw [kvz_len st4.len]
              exact Nat.lt_of_le_of_lt (show _ ≤ 1000 from Nat.le_trans (lt1.len o) (by decide)) (by decide)
            have far : i < (addT r (enm r0 i) pre).length := (List.getElem?_eq_some_iff.mp hri).1
            dsimp only [tSeq]
            refine ⟨sz (by show 0 ≤ 1000000; decide), fun L1 nL => ?_⟩
            have sL := (L2.Same.refl H4).new (o := .lst []) nL
            have nFL : F ≠ L1 := ne_of_none hF4 nL
            have nDL : D ≠ L1 := ne_of_none hD4 nL
            have hDL : (L2.upd H4 L1 (.lst [])) D = _ := sL _ _ hD4
            have td := TupS.dT (o := .dT (putK (kvz (addT r (enm r0 i) pre) as) (rd1 r t).key (.ref L1))) hDL
            refine ⟨_, rfl, _, rfl, D, _, rfl, DPut.t (k := (rd1 r t).key) hDL (sL _ _ eq4) room2, ?_⟩
            have hF5 : (L2.upd (L2.upd H4 L1 (.lst [])) D (.dT (putK (kvz (addT r (enm r0 i) pre) as) (rd1 r t).key (.ref L1)))) F = some (.lst (ps.map V.ref)) := by rw [upd_ne nFD]; exact sL _ _ hF4
            have tl := TupS.lst (o := .lst (ps.map V.ref ++ [.ref q4])) hF5
            have tt := ((TupS.of sL).trans td).trans tl
            refine ⟨_, rfl, .inl ⟨rfl, _, SqL.of hF5⟩, _, rfl, F, _, _, rfl, rfl, hF5, room, hN _ _ ⟨ps ++ [q4], as ++ [L1], rfl, ?_, tt, by rw [upd_same]; simp, ?_, ?_, ?_, ?_⟩⟩
            · exact fun b o z => by rw [upd_ne (ne_of_none z hP0), upd_ne (ne_of_none z hD0)]; exact (smH4.new nL) b o z
            · rw [addT_snoc, addM_out out']
              exact (mP4.up tt).snoc (tt _ _ eq4)
            · rw [addT_snoc, addM_out out', upd_ne nDF, upd_same, kvz_snoc st4.len out']
            · rw [addT_snoc, addM_out out']
              refine st4.key (fun b hb => ?_) (fun b hb => ?_) tt (by rw [upd_ne (Ne.symm nFL), upd_ne (Ne.symm nDL)]; exact upd_same) (pro_far far)
              · obtain ⟨xs, e⟩ := st4.lst hb
                exact ne_of_none e nL
              · obtain ⟨xs, e⟩ := st4.lst hb
                have bD : b ≠ D := fun z => by rw [z, hD4] at e; cases e
                rw [upd_ne (fr3 b hb).2, upd_ne bD, upd_ne (ne_of_none e nL)]
            · intro b hb
              rcases List.mem_append.mp hb with z | z
              · exact fr3 b z
              · rw [List.mem_singleton.mp z]
                exact ⟨smH4.free nL, Ne.symm nFL⟩
          · have inn : rd1 r t ∈ addT r (enm r0 i) pre := by
              have c' := c
              rw [Bool.not_eq_false'] at c'
              exact (kvz_some st4.len lt1.nd).mp c'
            refine hN _ _ ⟨ps, as, rfl, smH4, fun b xs z => z, hF4, ?_, ?_, ?_, fr3⟩
            · rw [addT_snoc, addM_in inn]
              exact mP4
            · rw [addT_snoc, addM_in inn]
              exact hD4
            · rw [addT_snoc, addM_in inn]
              exact st4
          · obtain ⟨ps', as', rfl, smH5, ts5, hF5, mP5, hD5, st5, fr5⟩ := z
            obtain ⟨y5, hy5⟩ : ∃ y, addT r (enm r0 i) (pre ++ [t]) = addT r (enm r0 i) pre ++ y := by rw [addT_snoc]; exact addM_pre _ _
            have lt5 := (addT_ok o Or lt0 (pre ++ [t])).1
            have hri5 : (addT r (enm r0 i) (pre ++ [t]))[i]? = some r := by rw [hy5]; exact at_pre hri
            generalize addT r (enm r0 i) (pre ++ [t]) = l5 at *
            have t35 := (TupS.of sm4).trans ts5
            have ero5 := t35 _ _ ea
            have eq5 := ts5 _ _ eq4
            obtain ⟨b0, hb0, bs, eb0, lbs, stb⟩ := st5.at_ hri5
            have hb0m := List.mem_of_getElem? hb0
            rw [pro_at] at lbs
            have nD0 : D ≠ b0 := fun z => by rw [z, eb0] at hD5; cases hD5
            have get : DGet H5 D (.ref po) (some (.ref b0)) := by rw [← kvz_get lt5.nd hri5 hb0]; exact DGet.t (k := r.key) hD5 ero5
            refine ⟨_, rfl, _, rfl, D, .ref b0, rfl, get, .inl ⟨rfl, _, SqL.of eb0⟩, _, rfl, _, rfl, sz (by show 2 ≤ 1000000; decide), fun b nb => ?_⟩
            have s56 : Same H5 (L2.upd H5 b (.tup [.str (rd (wd1 r t)), .ref q4])) := (L2.Same.refl H5).new nb
            have lpre : pre.length ≤ 2 := by
              have := congrArg List.length ew
              rw [List.length_append] at this
              have : 2 = pre.length + (post.length + 1) := this
              omega
            have room : (bs.map V.ref).length < sizeLine := by
              rw [List.length_map, lbs]
              exact Nat.lt_of_le_of_lt (show pre.length ≤ 1000 by omega) (by decide)
            have t67 := TupS.lst (o := .lst (bs.map V.ref ++ [.ref b])) (s56 _ _ eb0)
            have t57 := (TupS.of s56).trans t67
            have nb0 : b0 ≠ b := ne_of_none eb0 nb
            have fb0 := fr5 b0 hb0m
            have hA0 : H b0 = none := fb0.1
            refine ⟨b0, _, _, rfl, rfl, s56 _ _ eb0, room, ps', as', _, _, _, _, rfl, ?_, (ts3.trans t35).trans t57, by rw [upd_ne (Ne.symm fb0.2)]; exact s56 _ _ hF5, mP5.up t57, by rw [upd_ne nD0]; exact s56 _ _ hD5, ?_, fr5⟩
            · exact fun b o z => by rw [upd_ne (ne_of_none z hA0)]; exact (smH5.trans s56) b o z
            · refine st5.push (bs := bs) (b := b) (q := q4) hri5 hb0 eb0 (fun c hc nc => ?_) t57 (by rw [upd_same]; simp) (by rw [upd_ne (Ne.symm nb0)]; exact upd_same) (t57 _ _ eq5) (by rw [pro_at, pro_at]) (fun k hk => pro_off hk)
              obtain ⟨xs, e⟩ := st5.lst hc
              rw [upd_ne nc, upd_ne (ne_of_none e nb)]
        · rintro σ H3 ⟨ps, as, a1, a6, a7, a8, rfl, sm3, ts3, hF3, mP3, hD3, st3, fr3⟩
          rw [enm_addT hr] at mP3 hD3 st3
          exact ⟨ps, as, a1, _, _, _, _, rfl, sm3, hF3, mP3, hD3, by rw [← pro_full]; exact st3, fr3⟩
      · have ei : i = N := by omega
        subst ei
        refine ifN (p := ((i : Nat) : Int) < ((ps.map V.ref).length : Nat)) (by rw [List.length_map, mP.1, fn.eq]; omega) ?_
        refine ⟨_, rfl, ?_⟩
        exact q as H2 D sm hD0 hD (st.ext fun k hk => by rw [fn.eq] at hk; unfold pro; rw [if_pos hk]) fun a ha => (fr a ha).1

/-! machine_of -/
def sp_machine_of (K : PySem.W.Frag) : Sp := fun vs H Q E => ∃ (x : Addr) (m : M4), vs = [.ref x] ∧ H x = some (.tup (m.l.map V.int)) ∧ (∀ i ∈ m.l, Bd 900 i) ∧ (¬ Mp m → Rs K H E "InvalidMap" (.ref x)) ∧ (Mp m → Okm m ∧ ∀ v H', Same H H' → Q v H')
theorem ok_machine_of (T : Tx K mg) : FnOk P w K mg base (L2.CX P w) 6 T.a_machine_of T.fd_machine_of ["one"] (sp_machine_of K) := by
  have G_check_map := ok_check_map (P := P) (w := w) (base := base) T
  have G_settled := ok_settled (P := P) (w := w) (base := base) T
  have G_rows_of_standings := ok_rows_of_standings (P := P) (w := w) (base := base) T
  have G_standings_from := ok_standings_from (P := P) (w := w) (base := base) T
  refine T.F_machine_of.okX sc_machine_of (fun vs H Q E h => ?_) (fun cdv A outer s H vs Q E hr h => ?_)
  · obtain ⟨x, m, rfl, _⟩ := h
    rfl
  · obtain ⟨x, m, rfl, hx, bm, qe, qq⟩ := h
    refine ⟨_, (pss_cons (ps_expr (pe_call G_check_map (hr.mono (by decide)) (by rfl) T.g_check_map T.F_check_map.kp (b_check_map T.F_check_map) .nil (passes_call (takes_of rfl rfl rfl rfl) (fun _ _ _ _ h => h)) (pa_cons (pv 0) pa_nil)))
  (pss_cons (ps_asg (pe_call G_settled (hr.mono (by decide)) (by rfl) T.g_settled T.F_settled.kp (b_settled T.F_settled) .nil pass0 (pa_cons (pv 0) pa_nil)) (pg_tup (by rfl) (pgs_cons (pg_name (i := 1) sc_machine_of.nd rfl (Or.inl rfl)) (pgs_cons (pg_name (i := 2) sc_machine_of.nd rfl (Or.inl rfl)) pgs_nil))))
  (pss_one (ps_ret (pe_tup (pa_cons (pv 1) (pa_cons (pe_call G_rows_of_standings (hr.mono (by decide)) (by rfl) T.g_rows_of_standings T.F_rows_of_standings.kp (b_rows_of_standings T.F_rows_of_standings) .nil (passes_call (takes_of rfl rfl rfl rfl) (fun _ _ _ _ h => h)) (pa_cons (pe_call G_standings_from (hr.mono (by decide)) (by rfl) T.g_standings_from T.F_standings_from.kp (b_standings_from T.F_standings_from) .nil pass0 (pa_cons (pe_lst (pa_cons (pv 2) pa_nil)) pa_nil)) pa_nil)) pa_nil))))))), ?_⟩
    refine ⟨_, rfl, x, m, rfl, SqT.of hx, bm, fun mp => ?_, fun nm C d hC hd => (qe nm).now hC hd⟩
    obtain ⟨o, q⟩ := qq mp
    have g1 := mp.gd
    obtain ⟨S0, L0, O0⟩ := out_ok o
    have g0 : gl (out m).2.l = 1 := by rw [S0.gl, g1]
    obtain ⟨N, hN, fn⟩ := fin_ex o O0
    refine ⟨_, rfl, x, m, (out m).2, (out m).1, 60, rfl, SqT.of hx, o.nn, o.d0, S0, by omega, o.le, by unfold Bd; decide +kernel, fun H1 p1 q1 sm1 np1 e1 nq1 eq1 => ?_⟩
    refine ⟨p1, _, rfl, .inl (.inl e1), rfl, _, _, rfl, _, _, rfl, rfl, ?_⟩
    generalize (out m).2 = r0 at *
    generalize (out m).1 = w0 at *
    have ltN := enm_ok o O0 N
    have gN := enm_gl o O0 g0 N
    dsimp only [tSeq]
    refine ⟨_, rfl, _, rfl, sz (by show 1 ≤ 1000000; decide), fun LS nLS => ?_⟩
    have s2 := (L2.Same.refl H1).new (o := .lst [.ref q1]) nLS
    refine ⟨LS, q1, m, r0, N, rfl, upd_same, s2 _ _ eq1, o, O0, hN, fn, fun as H2 d s3 nd hd st fr => ?_⟩
    refine ⟨d, m, enm r0 N, as, rfl, hd, st, o, ltN, fun r hr => ⟨gN r hr, fun t => enm_closed fn hr t⟩, fun rs bs H3 qr hrs lrs s4 nqr hqr mr => ⟨sz (by show 2 ≤ 1000000; decide), fun p np => ?_⟩⟩
    have s14 := (s2.trans s3).trans s4
    have s := (L2.Same.refl H3).new (o := .tup [.str (rd w0), .ref qr]) np
    have s04 := sm1.trans s14
    exact q _ _ (s04.trans s)

/-! standings -/
def sp_standings (K : PySem.W.Frag) : Sp := fun vs H Q E => ∃ (x : Addr) (m : M4), vs = [.ref x] ∧ H x = some (.tup (m.l.map V.int)) ∧ (∀ i ∈ m.l, Bd 900 i) ∧ (¬ Mp m → Rs K H E "InvalidMap" (.ref x)) ∧ (Mp m → Okm m ∧ ∀ v H', Same H H' → Q v H')
theorem ok_standings (T : Tx K mg) : FnOk P w K mg base (L2.CX P w) 4 T.a_standings T.fd_standings ["one"] (sp_standings K) := by
  have G_check_map := ok_check_map (P := P) (w := w) (base := base) T
  have G_standings_from := ok_standings_from (P := P) (w := w) (base := base) T
  have G_settled := ok_settled (P := P) (w := w) (base := base) T
  refine T.F_standings.okX sc_standings (fun vs H Q E h => ?_) (fun cdv A outer s H vs Q E hr h => ?_)
  · obtain ⟨x, m, rfl, _⟩ := h
    rfl
  · obtain ⟨x, m, rfl, hx, bm, qe, qq⟩ := h
    refine ⟨_, (pss_cons (ps_expr (pe_call G_check_map (hr.mono (by decide)) (by rfl) T.g_check_map T.F_check_map.kp (b_check_map T.F_check_map) .nil (passes_call (takes_of rfl rfl rfl rfl) (fun _ _ _ _ h => h)) (pa_cons (pv 0) pa_nil)))
  (pss_one (ps_ret (pe_callTy (call_list_dT (by rfl)) (by rfl) T.z_list (by decide +kernel) (pa_cons (pe_call G_standings_from (hr.mono (by decide)) (by rfl) T.g_standings_from T.F_standings_from.kp (b_standings_from T.F_standings_from) .nil pass0 (pa_cons (pe_lst (pa_cons (pe_ix ix_tup (pe_call G_settled (hr.mono (by decide)) (by rfl) T.g_settled T.F_settled.kp (b_settled T.F_settled) .nil pass0 (pa_cons (pv 0) pa_nil)) pe_int (fun _ _ => rfl)) pa_nil)) pa_nil)) pa_nil))))), ?_⟩
    refine ⟨_, rfl, x, m, rfl, SqT.of hx, bm, fun mp => ?_, fun nm C d hC hd => (qe nm).now hC hd⟩
    obtain ⟨o, q⟩ := qq mp
    have g1 := mp.gd
    obtain ⟨S0, L0, O0⟩ := out_ok o
    obtain ⟨N, hN, fn⟩ := fin_ex o O0
    refine ⟨_, rfl, x, m, (out m).2, (out m).1, 60, rfl, SqT.of hx, o.nn, o.d0, S0, by omega, o.le, by unfold Bd; decide +kernel, fun H1 p1 q1 sm1 np1 e1 nq1 eq1 => ?_⟩
    generalize (out m).2 = r0 at *
    refine ⟨p1, _, _, .ref q1, rfl, rfl, SqT.of e1, rfl, sz (by show 1 ≤ 1000000; decide), fun LS nLS => ?_⟩
    have s2 := (L2.Same.refl H1).new (o := .lst [.ref q1]) nLS
    refine ⟨LS, q1, m, r0, N, rfl, upd_same, s2 _ _ eq1, o, O0, hN, fn, fun as H2 d s3 nd hd st fr => ?_⟩
    refine ⟨d, _, rfl, .inl hd, fun p bs np hk => ?_⟩
    have s := (L2.Same.refl H2).new (o := .lst (bs.map V.ref)) np
    have s12 := sm1.trans (s2.trans s3)
    exact q _ _ (s12.trans s)

/-! is_road -/
def sp_is_road (K : PySem.W.Frag) : Sp := fun vs H Q _ => ∃ t : Str, vs = [.str t] ∧ t.length ≤ 1000000 ∧ ∀ b : Bool, (b = true ↔ ∃ w, t = rd w) → Q (.bl b) H
theorem lr_cnt : ∀ l : List Nat, cnt 76 l + cnt 82 l ≤ (l.length : Int) ∧ (cnt 76 l + cnt 82 l = (l.length : Int) ↔ ∀ x ∈ l, x = 76 ∨ x = 82)
  | [] => ⟨Int.le_refl _, (fun _ x h => nomatch h), fun _ => rfl⟩
  | c :: l => by
    obtain ⟨h1, h2⟩ := lr_cnt l
    rw [cnt_cons, cnt_cons, List.length_cons]
    by_cases e : c = 76
    · subst e
      have e1 : ((if (76 : Nat) = 76 then 1 else 0 : Int)) = 1 := rfl
      have e2 : ((if (76 : Nat) = 82 then 1 else 0 : Int)) = 0 := rfl
      rw [e1, e2]
      refine ⟨by omega, fun z x hx => ?_, fun z => ?_⟩
      · rcases List.mem_cons.mp hx with rfl | hx
        · exact .inl rfl
        · exact h2.mp (by omega) x hx
      · have := h2.mpr fun x hx => z x (List.mem_cons_of_mem _ hx)
        omega
    · by_cases e2 : c = 82
      · subst e2
        have e1 : ((if (82 : Nat) = 76 then 1 else 0 : Int)) = 0 := rfl
        have e2 : ((if (82 : Nat) = 82 then 1 else 0 : Int)) = 1 := rfl
        rw [e1, e2]
        refine ⟨by omega, fun z x hx => ?_, fun z => ?_⟩
        · rcases List.mem_cons.mp hx with rfl | hx
          · exact .inr rfl
          · exact h2.mp (by omega) x hx
        · have := h2.mpr fun x hx => z x (List.mem_cons_of_mem _ hx)
          omega
      · rw [if_neg e, if_neg e2]
        refine ⟨by omega, fun z => by omega, fun z => ?_⟩
        rcases z c List.mem_cons_self with y | y
        · exact absurd y e
        · exact absurd y e2
theorem rd_of {t : Str} (h : ∀ x ∈ t.cps.toList, x = 76 ∨ x = 82) : ∃ w, t = rd w := by
  refine ⟨t.cps.toList.map fun x => decide (x = 82), str_ext ?_⟩
  rw [rd_cps, List.map_map]
  refine (List.map_id _).symm.trans (List.map_congr_left fun x hx => ?_)
  rcases h x hx with rfl | rfl <;> rfl
theorem ok_is_road (T : Tx K mg) : FnOk P w K mg base CX0 1 T.a_is_road T.fd_is_road ["text"] (sp_is_road K) := by
  refine T.F_is_road.ok sc_is_road (fun vs H Q E h => ?_) (fun cdv A outer s H vs Q E hr h => ?_)
  · obtain ⟨t, rfl, _⟩ := h
    rfl
  · obtain ⟨t, rfl, hw, q⟩ := h
    refine ⟨_, (pss_one (ps_ret (pe_cmpR op_eq (pe_op op_add (pe_m1 PySem.F.slot_str_count PySem.F.type_str_count mt_count (pv 0) pe_str) (pe_m1 PySem.F.slot_str_count PySem.F.type_str_count mt_count (pv 0) pe_str)) (pe_callB call_len_str (by rfl) T.z_len (by decide +kernel) (pa_cons (pv 0) pa_nil)) (nomark _)))), ?_⟩
    refine ⟨_, rfl, ⟨_, rfl⟩, _, _, rfl, rfl, _, rfl, ⟨_, rfl⟩, _, _, rfl, rfl, _, _, rfl, rfl, _, rfl, _, rfl, sz hw, rfl, ?_⟩
    refine q _ ?_
    have eL : ("L" : Str) = ⟨#[76]⟩ := by decide +kernel
    have eR : ("R" : Str) = ⟨#[82]⟩ := by decide +kernel
    rw [eL, eR, count_cnt, count_cnt]
    have el : (t.length : Int) = (t.cps.toList.length : Int) := by
      show (t.cps.size : Int) = _
      simp
    rw [el]
    obtain ⟨_, h2⟩ := lr_cnt t.cps.toList
    refine ⟨fun z => rd_of (h2.mp ?_), fun z => ?_⟩
    · have z : V.int _ = V.int _ := of_decide_eq_true z
      injection z
    · obtain ⟨w, rfl⟩ := z
      refine decide_eq_true (congrArg V.int (h2.mpr ?_))
      intro x hx
      rw [rd_cps] at hx
      obtain ⟨b, _, rfl⟩ := List.mem_map.mp hx
      cases b
      · exact .inl rfl
      · exact .inr rfl

/-! check_road -/
def sp_check_road (K : PySem.W.Frag) : Sp := fun vs H Q E => ∃ t : Str, vs = [.str t] ∧ t.length ≤ 1000000 ∧ (IsRd t → Q .non H) ∧ (¬ IsRd t → Rs K H E "InvalidRoad" (.str t))
theorem ok_check_road (T : Tx K mg) : FnOk P w K mg base (L2.CX P w) 3 T.a_check_road T.fd_check_road ["road"] (sp_check_road K) := by
  have G_is_road := ok_is_road (P := P) (w := w) (base := base) T
  refine T.F_check_road.okX sc_check_road (fun vs H Q E h => ?_) (fun cdv A outer s H vs Q E hr h => ?_)
  · obtain ⟨t, rfl, _⟩ := h
    rfl
  · obtain ⟨t, rfl, hl, q, qe⟩ := h
    refine ⟨_, (pss_one (ps_if (pt_not (pt_val (pe_call G_is_road (hr.mono (by decide)) (by rfl) T.g_is_road T.F_is_road.kp (b_is_road T.F_is_road) .nil pass0 (pa_cons (pv 0) pa_nil)))) (pss_one (ps_raise (by rfl) (takes_of rfl rfl rfl rfl) (pmk_V T.E_InvalidRoad (ok_reinit T) (hr.mono (by decide)) (b_reinit T.F_reinit) (by rfl) (pa_cons (pv 0) pa_nil)))) pss_nil)), ?_⟩
    refine ⟨_, rfl, t, rfl, hl, fun b hb => ?_⟩
    cases b with
    | true => exact ⟨true, rfl, iteF (q (hb.1 rfl))⟩
    | false =>
      refine ⟨false, rfl, iteT ⟨_, rfl, _, rfl, fun d nd => (qe fun z => ?_).now T.E_InvalidRoad.ni nd⟩⟩
      have := hb.2 z
      cases this

/-! check_course -/
def sp_check_course (K : PySem.W.Frag) : Sp := fun vs H Q E => ∃ (p : Addr) (t u : Str), vs = [.ref p] ∧ SqT K H p [.str t, .str u] ∧ t.length ≤ 200000 ∧ u.length ≤ 200000 ∧ (Fo [(t, 0), (u, 1)] = none → Q .non H) ∧ (∀ x, Fo [(t, 0), (u, 1)] = some x → Rs K H E "InvalidRoad" (.str x))
theorem ok_check_course (T : Tx K mg) : FnOk P w K mg base (L2.CX P w) 4 T.a_check_course T.fd_check_course ["told"] (sp_check_course K) := by
  have G_check_road := ok_check_road (P := P) (w := w) (base := base) T
  refine T.F_check_course.okX sc_check_course (fun vs H Q E h => ?_) (fun cdv A outer s H vs Q E hr h => ?_)
  · obtain ⟨p, t, u, rfl, _⟩ := h
    rfl
  · obtain ⟨p, t, u, rfl, hp, hf, hw, q, qe⟩ := h
    refine ⟨_, (pss_cons (ps_asg (pv 0) (pg_tup (by rfl) (pgs_cons (pg_name (i := 1) sc_check_course.nd rfl (Or.inl rfl)) (pgs_cons (pg_name (i := 2) sc_check_course.nd rfl (Or.inl rfl)) pgs_nil))))
  (pss_cons (ps_expr (pe_call G_check_road (hr.mono (by decide)) (by rfl) T.g_check_road T.F_check_road.kp (b_check_road T.F_check_road) .nil (passes_call (takes_of rfl rfl rfl rfl) (fun _ _ _ _ h => h)) (pa_cons (pv 1) pa_nil)))
  (pss_cons (ps_expr (pe_call G_check_road (hr.mono (by decide)) (by rfl) T.g_check_road T.F_check_road.kp (b_check_road T.F_check_road) .nil (passes_call (takes_of rfl rfl rfl rfl) (fun _ _ _ _ h => h)) (pa_cons (pv 2) pa_nil)))
  (pss_one (ps_if (pt_cmpR op_eq (pv 2) pe_str (nomark _)) (pss_one (ps_raise (by rfl) (takes_of rfl rfl rfl rfl) (pmk_V T.E_InvalidRoad (ok_reinit T) (hr.mono (by decide)) (b_reinit T.F_reinit) (by rfl) (pa_cons (pv 2) pa_nil)))) pss_nil))))), ?_⟩
    refine ⟨_, rfl, p, _, rfl, hp, rfl, _, _, rfl, _, _, rfl, rfl, ?_⟩
    refine ⟨_, rfl, t, rfl, by omega, fun ht => ?_, fun ht => qe t (fo_yes (odd_0.mpr ht))⟩
    rw [fo_no (fun z => odd_0.mp z ht)] at q qe
    refine ⟨_, rfl, u, rfl, by omega, fun hu => ?_, fun hu => qe u (fo_yes (.inl hu))⟩
    obtain ⟨w, rfl⟩ := hu
    refine ⟨_, rfl, rfl, _, rfl, ifNil (fun z => ?_) (fun z => ?_)⟩
    · exact ⟨_, rfl, _, rfl, fun d nd => (qe (rd w) (fo_yes (odd_1.mpr z))).now T.E_InvalidRoad.ni nd⟩
    · rw [fo_no (fun y => z (odd_1.mp y))] at q
      exact q rfl

/-! check_turning_course -/
def sp_check_turning_course (K : PySem.W.Frag) : Sp := fun vs H Q E => ∃ (p : Addr) (t u : Str), vs = [.ref p] ∧ SqT K H p [.str t, .str u] ∧ t.length ≤ 200000 ∧ u.length ≤ 200000 ∧ (Fo [(t, 0), (u, 2)] = none → Q .non H) ∧ (∀ x, Fo [(t, 0), (u, 2)] = some x → Rs K H E "InvalidRoad" (.str x))
theorem fo_12 {t u : Str} {x : Str} (h : Fo [(t, 0), (u, 1)] = some x) : Fo [(t, 0), (u, 2)] = some x := by
  by_cases c : OddT (t, 0)
  · rw [fo_yes c] at h ⊢
    exact h
  · rw [fo_no c] at h ⊢
    by_cases c2 : OddT (u, 1)
    · rw [fo_yes c2] at h
      rw [fo_yes (show OddT (u, 2) from ?_)]
      · exact h
      · rcases c2 with y | y | y
        · exact .inl y
        · exact .inr (.inl ⟨by show 0 < 2; decide, y.2⟩)
        · exact absurd y.1 (by show ¬ 1 < 1; decide)
    · rw [fo_no c2] at h
      cases h
theorem ok_check_turning_course (T : Tx K mg) : FnOk P w K mg base (L2.CX P w) 5 T.a_check_turning_course T.fd_check_turning_course ["told"] (sp_check_turning_course K) := by
  have G_check_course := ok_check_course (P := P) (w := w) (base := base) T
  refine T.F_check_turning_course.okX sc_check_turning_course (fun vs H Q E h => ?_) (fun cdv A outer s H vs Q E hr h => ?_)
  · obtain ⟨p, t, u, rfl, _⟩ := h
    rfl
  · obtain ⟨p, t, u, rfl, hp, hf, hw, q, qe⟩ := h
    refine ⟨_, (pss_cons (ps_expr (pe_call G_check_course (hr.mono (by decide)) (by rfl) T.g_check_course T.F_check_course.kp (b_check_course T.F_check_course) .nil (passes_call (takes_of rfl rfl rfl rfl) (fun _ _ _ _ h => h)) (pa_cons (pv 0) pa_nil)))
  (pss_cons (ps_set (i := 1) sc_check_turning_course.nd rfl (Or.inl rfl) (pe_ix ix_tup (pv 0) pe_int (fun _ _ => rfl)))
  (pss_one (ps_if (PW.pt (pw_or (pt_cmpR op_notIn_sign pe_str (pv 1) rfl) (pw_or1 (pt_cmpR op_notIn_sign pe_str (pv 1) rfl)))) (pss_one (ps_raise (by rfl) (takes_of rfl rfl rfl rfl) (pmk_V T.E_InvalidRoad (ok_reinit T) (hr.mono (by decide)) (b_reinit T.F_reinit) (by rfl) (pa_cons (pv 1) pa_nil)))) pss_nil)))), ?_⟩
    refine ⟨_, rfl, p, t, u, rfl, hp, hf, hw, fun h0 => ?_, fun x hx => qe x (fo_12 hx)⟩
    obtain ⟨n1, h1⟩ := fo_none h0
    obtain ⟨n2, _⟩ := fo_none h1
    rw [fo_no n1] at q qe
    have hu : IsRd u := Classical.byContradiction fun z => n2 (.inl z)
    obtain ⟨w, rfl⟩ := hu
    refine ⟨_, rfl, p, _, _, _, rfl, rfl, hp, rfl, ?_⟩
    have er : ∀ _ : ¬ Both w, Rs K H E "InvalidRoad" (.str (rd w)) := fun nb => qe _ (fo_yes (odd_2.mpr nb))
    refine ⟨_, rfl, sg false, rd w, congrArg V.str str_L, rfl, _, rfl, bl2 (fun c => ?_) (fun c => ?_)⟩
    · refine ⟨_, rfl, _, rfl, fun d nd => (er fun b => ?_).now T.E_InvalidRoad.ni nd⟩
      have := in_rd.mpr b.1
      simp [this] at c
    · have c1 : (sg false ∈ (rd w).cps.toList) := by simpa using c
      refine ⟨_, rfl, sg true, rd w, congrArg V.str str_R, rfl, _, rfl, bl2 (fun c => ?_) (fun c => ?_)⟩
      · refine ⟨_, rfl, _, rfl, fun d nd => (er fun b => ?_).now T.E_InvalidRoad.ni nd⟩
        have := in_rd.mpr b.2
        simp [this] at c
      · have c2 : (sg true ∈ (rd w).cps.toList) := by simpa using c
        rw [fo_no (fun y => (odd_2.mp y) (both_rd.mp ⟨c1, c2⟩))] at q
        exact q rfl

/-! course -/
def sp_course (K : PySem.W.Frag) : Sp := fun vs H Q E => ∃ (t u : Str), vs = [.str t, .str u] ∧ t.length ≤ 200000 ∧ u.length ≤ 200000 ∧ (∀ x, Fo [(t, 0), (u, 1)] = some x → Rs K H E "InvalidRoad" (.str x)) ∧ (Fo [(t, 0), (u, 1)] = none → ∀ v H', Same H H' → Q v H')
theorem ok_course (T : Tx K mg) : FnOk P w K mg base (L2.CX P w) 5 T.a_course T.fd_course ["ahead", "ring"] (sp_course K) := by
  have G_check_course := ok_check_course (P := P) (w := w) (base := base) T
  refine T.F_course.okX sc_course (fun vs H Q E h => ?_) (fun cdv A outer s H vs Q E hr h => ?_)
  · obtain ⟨t, u, rfl, _⟩ := h
    rfl
  · obtain ⟨t, u, rfl, ht, hu, qe, q⟩ := h
    refine ⟨_, (pss_cons (ps_expr (pe_call G_check_course (hr.mono (by decide)) (by rfl) T.g_check_course T.F_check_course.kp (b_check_course T.F_check_course) .nil (passes_call (takes_of rfl rfl rfl rfl) (fun _ _ _ _ h => h)) (pa_cons (pe_tup (pa_cons (pv 0) (pa_cons (pv 1) pa_nil))) pa_nil)))
  (pss_cons (ps_set (i := 1) sc_course.nd rfl (Or.inl rfl) (pe_slice sl_str (pv 1) po_none (po_some (pe_bm PySem.F.plainAttrs_str PySem.F.slot_str_find PySem.F.type_str_find mt_find3 (pe_op op_add_str (pv 1) (pv 1)) (pa_cons (pv 1) (pa_cons pe_int pa_nil))))))
  (pss_cons (ps_while (passes_of rfl) (PW.pt (pw_and (pt_cmpR op_ne (pv 0) pe_str (nomark _)) (pw_and1 (pt_cmpR op_eq (pe_ix ix_str (pv 0) (pe_un un_neg pe_int) (fun _ _ => rfl)) (pe_ix ix_str (pv 1) (pe_un un_neg pe_int) (fun _ _ => rfl)) (nomark _)))))
    (pss_cons (ps_set (i := 0) sc_course.nd rfl (Or.inl rfl) (pe_slice sl_str (pv 0) po_none (po_some (pe_un un_neg pe_int))))
  (pss_one (ps_set (i := 1) sc_course.nd rfl (Or.inl rfl) (pe_op op_add_str (pe_ix ix_str (pv 1) (pe_un un_neg pe_int) (fun _ _ => rfl)) (pe_slice sl_str (pv 1) po_none (po_some (pe_un un_neg pe_int))))))))
  (pss_one (ps_ret (pe_tup (pa_cons (pv 0) (pa_cons (pv 1) pa_nil)))))))), ?_⟩
    refine ⟨_, rfl, _, rfl, sz (by show 2 ≤ 1000000; decide), fun p0 np0 => ?_⟩
    refine ⟨p0, t, u, rfl, SqT.of upd_same, ht, hu, fun h0 => ?_, fun x hx => (qe x hx).same ((L2.Same.refl H).new np0)⟩
    obtain ⟨n1, h1⟩ := fo_none h0
    obtain ⟨n2, _⟩ := fo_none h1
    rw [h0] at q
    obtain ⟨f, rfl⟩ : IsRd t := Classical.byContradiction fun z => n1 (odd_0.mpr z)
    obtain ⟨w, rfl⟩ : IsRd u := Classical.byContradiction fun z => n2 (.inl z)
    have h0 : w ≠ [] := fun z => n2 (odd_1.mpr z)
    rw [rd_len] at ht hu
    have hf := ht
    have hw := hu
    refine ⟨_, rfl, _, rfl, _, rfl, _, _, rfl, rfl, rd_app_len (by omega), ?_⟩
    rw [rd_app]
    obtain ⟨p, ep, lp⟩ := find_ring h0
    refine ⟨rfl, _, rfl, _, _, 1, rfl, rfl, ?_⟩
    rw [ep]
    refine ⟨_, rfl, rd w, rfl, by rw [rd_len]; exact sz (by omega), ?_⟩
    rw [cut_take]
    have pn := lp.2.1
    have hp0 : w.take p ≠ [] := lp.prim.1
    refine ⟨fun m σ H' => ∃ (i : Nat) (c : List Bool × List Bool), c = its i (f, w.take p) ∧ i + c.1.length = f.length ∧ σ = [some (.str (rd c.1)), some (.str (rd c.2))] ∧ m = c.1.length ∧ H' = L2.upd H p0 (.tup [.str (rd f), .str (rd w)]), ⟨f.length, 0, (f, w.take p), rfl, by show 0 + f.length = f.length; omega, rfl, rfl, rfl⟩, ?_⟩
    rintro m σ H' ⟨i, c, hc, hi, rfl, rfl, rfl⟩
    have c2 : c.2 ≠ [] := by rw [hc]; exact its_ring hp0 i
    have fin : stp c = c → c = its f.length (f, w.take p) := fun z => by
      rw [hc] at z ⊢
      exact (its_fix z f.length (by omega)).symm
    obtain ⟨l1, l2⟩ := its_le (f, w.take p) i
    rw [← hc] at l1 l2
    have l1 : c.1.length ≤ f.length := l1
    have l2 : c.2.length ≤ w.length := by rw [l2]; show (w.take p).length ≤ _; rw [List.length_take]; omega
    obtain ⟨t2, e2⟩ : ∃ t, c.2.getLast? = some t := by
      cases h : c.2.getLast? with
      | none => exact absurd (List.getLast?_eq_none_iff.mp h) c2
      | some t => exact ⟨t, rfl⟩
    refine ⟨_, rfl, rfl, _, rfl, ifNilN (fun c1 => ?_) (fun c1 => ?_)⟩
    · obtain ⟨t1, e1⟩ : ∃ t, c.1.getLast? = some t := by
        cases h : c.1.getLast? with
        | none => exact absurd (List.getLast?_eq_none_iff.mp h) c1
        | some t => exact ⟨t, rfl⟩
      refine ⟨_, rfl, _, rfl, _, _, _, rfl, rfl, by rw [rd_len]; exact sz (by omega), at_last e1, ?_⟩
      refine ⟨_, rfl, _, rfl, _, _, _, rfl, rfl, by rw [rd_len]; exact sz (by omega), at_last e2, ?_⟩
      refine ⟨rfl, _, rfl, ifRd (u := [t1]) (v := [t2]) (fun z => ?_) (fun z => ?_)⟩
      · have et : c.1.getLast? = c.2.getLast? := by rw [e1, e2, List.cons.inj z |>.1]
        have es : stp c = (c.1.dropLast, rr c.2) := by
          unfold stp
          rw [if_pos et]
        have er : rr c.2 = [t2] ++ c.2.dropLast := by
          rw [rr_last c2]
          unfold last1
          rw [e2]
        have c1l := last_len e1
        refine ⟨_, fun σ' H' hn => hn, ?_⟩
        refine ⟨_, rfl, _, rfl, _, rfl, rd c.1, rfl, by rw [rd_len]; exact sz (by omega), ?_⟩
        rw [show (-(1 : Int)) = -1 from rfl, cut_most]
        refine ⟨_, rfl, _, rfl, _, _, _, rfl, rfl, by rw [rd_len]; exact sz (by omega), at_last e2, ?_⟩
        refine ⟨_, rfl, _, rfl, _, rfl, rd c.2, rfl, by rw [rd_len]; exact sz (by omega), ?_⟩
        rw [show (-(1 : Int)) = -1 from rfl, cut_most]
        refine ⟨rd [t2], _, rfl, rfl, rd_app_len (by rw [List.length_dropLast]; show 1 + _ ≤ 1000000; omega), ?_⟩
        rw [rd_app, ← er]
        refine ⟨c.1.length - 1, by omega, i + 1, stp c, by rw [hc]; rfl, ?_, ?_, ?_, rfl⟩
        · rw [es]
          show i + 1 + c.1.dropLast.length = f.length
          rw [List.length_dropLast]
          omega
        · rw [es]
          rfl
        · rw [es]
          show _ = c.1.dropLast.length
          rw [List.length_dropLast]
      · have z' : stp c = c := stp_ne (by rw [e1, e2]; intro k; exact z (by rw [Option.some.inj k]))
        refine ⟨_, rfl, _, rfl, sz (by show 2 ≤ 1000000; decide), fun q1 nq1 => ?_⟩
        exact q rfl _ _ (((L2.Same.refl H).new np0).new nq1)
    · have z' : stp c = c := stp_ne (by rw [c1, e2]; intro k; cases k)
      refine iteF ⟨_, rfl, _, rfl, sz (by show 2 ≤ 1000000; decide), fun q1 nq1 => ?_⟩
      exact q rfl _ _ (((L2.Same.refl H).new np0).new nq1)

/-! course_sent -/
def sp_course_sent (K : PySem.W.Frag) : Sp := fun vs H Q E => ∃ (x y : Addr) (m : M4) (ft wt : Str), vs = [.ref x, .ref y] ∧ H x = some (.tup (m.l.map V.int)) ∧ H y = some (.tup [.str ft, .str wt]) ∧ (∀ i ∈ m.l, Bd 900 i) ∧ ft.length ≤ 60 ∧ wt.length ≤ 7 ∧
  (¬ Mp m → Rs K H E "InvalidMap" (.ref x)) ∧ (Mp m → ∀ t, Fo [(ft, 0), (wt, 2)] = some t → Rs K H E "InvalidRoad" (.str t)) ∧ (Mp m → Fo [(ft, 0), (wt, 2)] = none → Okm m ∧ ∀ v H', Same H H' → Q v H')
theorem ok_course_sent (T : Tx K mg) : FnOk P w K mg base (L2.CX P w) 6 T.a_course_sent T.fd_course_sent ["one", "told"] (sp_course_sent K) := by
  have G_check_map := ok_check_map (P := P) (w := w) (base := base) T
  have G_check_turning_course := ok_check_turning_course (P := P) (w := w) (base := base) T
  have G_settled := ok_settled (P := P) (w := w) (base := base) T
  have G_course := ok_course (P := P) (w := w) (base := base) T
  have G_times := ok_times (P := P) (w := w) (base := base) T
  have G_matrix_of := ok_matrix_of (P := P) (w := w) (base := base) T
  refine T.F_course_sent.okX sc_course_sent (fun vs H Q E h => ?_) (fun cdv A outer s H vs Q E hr h => ?_)
  · obtain ⟨x, y, m, ft, wt, rfl, _⟩ := h
    rfl
  · obtain ⟨x, y, m, ft, wt, rfl, hx, hy, bm, lf, lw, q1, q2, qq⟩ := h
    refine ⟨_, (pss_cons (ps_expr (pe_call G_check_map (hr.mono (by decide)) (by rfl) T.g_check_map T.F_check_map.kp (b_check_map T.F_check_map) .nil (passes_call (takes_of rfl rfl rfl rfl) (fun _ _ _ _ h => h)) (pa_cons (pv 0) pa_nil)))
  (pss_cons (ps_expr (pe_call G_check_turning_course (hr.mono (by decide)) (by rfl) T.g_check_turning_course T.F_check_turning_course.kp (b_check_turning_course T.F_check_turning_course) .nil (passes_call (takes_of rfl rfl rfl rfl) (fun _ _ _ _ h => h)) (pa_cons (pv 1) pa_nil)))
  (pss_cons (ps_asg (pv 1) (pg_tup (by rfl) (pgs_cons (pg_name (i := 2) sc_course_sent.nd rfl (Or.inl rfl)) (pgs_cons (pg_name (i := 3) sc_course_sent.nd rfl (Or.inl rfl)) pgs_nil))))
  (pss_cons (ps_asg (pe_call G_settled (hr.mono (by decide)) (by rfl) T.g_settled T.F_settled.kp (b_settled T.F_settled) .nil pass0 (pa_cons (pe_call G_times (hr.mono (by decide)) (by rfl) T.g_times T.F_times.kp (b_times T.F_times) .nil pass0 (pa_cons (pv 0) (pa_cons (pe_call G_matrix_of (hr.mono (by decide)) (by rfl) T.g_matrix_of T.F_matrix_of.kp (b_matrix_of T.F_matrix_of) .nil pass0 (pa_cons (pv 2) pa_nil)) pa_nil))) pa_nil)) (pg_tup (by rfl) (pgs_cons (pg_name (i := 4) sc_course_sent.nd rfl (Or.inl rfl)) (pgs_cons (pg_name (i := 5) sc_course_sent.nd rfl (Or.inl rfl)) pgs_nil))))
  (pss_cons (ps_set (i := 6) sc_course_sent.nd rfl (Or.inl rfl) pe_dnewT)
  (pss_cons (ps_while (passes_of rfl) (pt_cmp (pc_dnotin (hu_of hr) (pv 5) (pv 6)))
    (pss_cons (ps_dput (hu_of hr) (pv 6) (pv 5) (pe_callB call_len_str (by rfl) T.z_len (by decide +kernel) (pa_cons (pv 4) pa_nil)) rfl)
  (pss_cons (ps_asg (pe_call G_settled (hr.mono (by decide)) (by rfl) T.g_settled T.F_settled.kp (b_settled T.F_settled) .nil pass0 (pa_cons (pe_call G_times (hr.mono (by decide)) (by rfl) T.g_times T.F_times.kp (b_times T.F_times) .nil pass0 (pa_cons (pv 5) (pa_cons (pe_call G_matrix_of (hr.mono (by decide)) (by rfl) T.g_matrix_of T.F_matrix_of.kp (b_matrix_of T.F_matrix_of) .nil pass0 (pa_cons (pv 3) pa_nil)) pa_nil))) pa_nil)) (pg_tup (by rfl) (pgs_cons (pg_name (i := 7) sc_course_sent.nd rfl (Or.inl rfl)) (pgs_cons (pg_name (i := 5) sc_course_sent.nd rfl (Or.inl rfl)) pgs_nil))))
  (pss_one (ps_set (i := 4) sc_course_sent.nd rfl (Or.inl rfl) (pe_op op_add_str (pv 4) (pv 7)))))))
  (pss_cons (ps_set (i := 8) sc_course_sent.nd rfl (Or.inl rfl) (pe_dget (hu_of hr) (pv 6) (pv 5) (fun _ _ => rfl)))
  (pss_one (ps_ret (pe_call G_course (hr.mono (by decide)) (by rfl) T.g_course T.F_course.kp (b_course T.F_course) .nil (passes_call (takes_of rfl rfl rfl rfl) (fun _ _ _ _ h => h)) (pa_cons (pe_slice sl_str (pv 4) po_none (po_some (pv 8))) (pa_cons (pe_slice sl_str (pv 4) (po_some (pv 8)) po_none) pa_nil)))))))))))), ?_⟩
    refine ⟨_, rfl, x, m, rfl, SqT.of hx, bm, fun mp => ?_, fun nm C d hC hd => (q1 nm).now hC hd⟩
    refine ⟨_, rfl, y, ft, wt, rfl, SqT.of hy, by omega, by omega, fun h0 => ?_, fun t z => q2 mp t z⟩
    obtain ⟨o, q⟩ := qq mp h0
    have g1 := mp.gd
    obtain ⟨n1, h1⟩ := fo_none h0
    obtain ⟨n2, _⟩ := fo_none h1
    obtain ⟨f, rfl⟩ : IsRd ft := Classical.byContradiction fun z => n1 (odd_0.mpr z)
    obtain ⟨w, rfl⟩ : IsRd wt := Classical.byContradiction fun z => n2 (.inl z)
    have bw : Both w := Classical.byContradiction fun z => n2 (odd_2.mpr z)
    rw [rd_len] at lf lw
    have hf := lf
    have hw := lw
    obtain ⟨n, j, hn, hj⟩ := fst_ex o f w
    refine ⟨_, rfl, y, _, rfl, .inl (.inl hy), rfl, _, _, rfl, _, _, rfl, rfl, ?_⟩
    refine ⟨_, rfl, _, rfl, f, rfl, fun H1 p1 sm1 np1 e1 => ?_⟩
    refine ⟨x, p1, m, mat f, 900, rfl, SqT.of (sm1 _ _ hx), SqT.of e1, by decide, bm, fun i hi => (bd_mat (k := 60) hf i hi).up (by decide), fun H2 p2 sm2 np2 e2 => ?_⟩
    have bk : ∀ i ∈ (m.mul (mat f)).l, Bd 1700 i := fun i hi => (mul_bds bm (fun i hi => (bd_mat (k := 60) hf i hi)) i hi).up (by decide)
    have nk : Nn (m.mul (mat f)) := nn_mul o.nn (mat_nn _)
    refine ⟨p2, m.mul (mat f), stR m f w 0, stW m f w 0, _, rfl, SqT.of e2, nk, by rw [det_mat]; exact o.d0, (st_zero o f w).1, by have := (st_zero o f w).2; omega, le_sum nk, (bd_sum bk).up (by decide), fun H3 p3 q3 sm3 np3 e3 nq3 eq3 => ?_⟩
    refine ⟨p3, _, rfl, .inl (.inl e3), rfl, _, _, rfl, _, _, rfl, rfl, fun D nD => ?_⟩
    have s3 := (sm1.trans sm2).trans sm3
    have hD0 : H D = none := s3.free nD
    refine ⟨fun k σ H4 => ∃ (i : Nat) (kvs : List (List Key × V)) (q2 : Addr) (a7 : Option V), σ = [some (.ref x), some (.ref y), some (.str (rd f)), some (.str (rd w)), some (.str (rd (wl m f w (i + 1)).flatten)), some (.ref q2), some (.ref D), a7, none] ∧ k = n - i ∧ i ≤ n ∧ Same H H4 ∧ H4 q2 = some (.tup ((stR m f w i).l.map V.int)) ∧ H4 D = some (.dT kvs) ∧ kvs.length = i ∧ (∀ a, a < i → valV kvs (stR m f w a).key = some (.int ((wl m f w (a + 1)).flatten.length : Nat))) ∧ (∀ r : M4, (∀ a, a < i → stR m f w a ≠ r) → valV kvs r.key = none),
      ⟨n, 0, [], q3, none, ?_, rfl, Nat.zero_le _, s3.new nD, by rw [upd_ne (ne_of_none eq3 nD)]; exact eq3, upd_same, rfl, fun a ha => absurd ha (Nat.not_lt_zero _), fun r _ => rfl⟩, ?_⟩
    · have e0 : (wl m f w (0 + 1)).flatten = stW m f w 0 := by
        show ([] ++ [stW m f w 0]).flatten = _
        simp
      rw [e0]
      rfl
    · rintro k σ H4 ⟨i, kvs, q2, a7, rfl, rfl, hi, sm, hq, hD, lk, hv1, hv2⟩
      have szi : (wl m f w (i + 1)).flatten.length ≤ 200000 := by
        have z := wl_size o f w i
        have : i * (48 * w.length) ≤ 364 * 336 := Nat.mul_le_mul (by omega) (by omega)
        omega
      refine ⟨_, rfl, _, rfl, D, _, rfl, DGet.t (k := (stR m f w i).key) hD hq, _, rfl, ?_⟩
      by_cases c : (valV kvs (stR m f w i).key).isSome = true
      · rw [c]
        refine iteF ?_
        have inn : i = n := by
          obtain ⟨a, ha, e⟩ := key_some hv2 c
          refine Nat.le_antisymm hi (Nat.not_lt.mp fun z => hj.no i z a ha e.symm)
        subst inn
        have ej : valV kvs (stR m f w i).key = some (.int ((wl m f w (j + 1)).flatten.length : Nat)) := by
          rw [hj.eq]
          exact hv1 j hj.lt
        have szd := wl_drop (m := m) (f := f) (l := w) hj.lt
        have tk : (wl m f w (i + 1)).flatten.take (wl m f w (j + 1)).flatten.length = (wl m f w (j + 1)).flatten := by
          rw [← szd]
          exact List.take_left
        have dk : (wl m f w (i + 1)).flatten.drop (wl m f w (j + 1)).flatten.length = ((wl m f w (i + 1)).drop (j + 1)).flatten := by
          rw [← szd]
          exact List.drop_left
        have lens : (wl m f w (j + 1)).flatten.length + ((wl m f w (i + 1)).drop (j + 1)).flatten.length ≤ 200000 := by
          rw [← List.length_append, szd]
          exact szi
        refine ⟨_, rfl, _, rfl, D, .int ((wl m f w (j + 1)).flatten.length : Nat), rfl, (by rw [← ej]; exact DGet.t (k := (stR m f w i).key) hD hq), ?_⟩
        refine ⟨_, rfl, _, rfl, _, rfl, rd (wl m f w (i + 1)).flatten, rfl, by rw [rd_len]; exact sz (by omega), ?_⟩
        rw [cut_take, tk]
        refine ⟨_, rfl, _, rfl, _, rfl, rd (wl m f w (i + 1)).flatten, rfl, by rw [rd_len]; exact sz (by omega), ?_⟩
        rw [cut_drop, dk]
        refine ⟨_, _, rfl, by rw [rd_len]; omega, by rw [rd_len]; omega, fun x hx => ?_, fun _ v H' s' => q v H' (sm.trans s')⟩
        rw [fo_no (fun z => odd_0.mp z ⟨_, rfl⟩), fo_no (fun z => ring_ne o bw.2 hj (odd_1.mp z))] at hx
        cases hx
      · rw [Bool.eq_false_iff.mpr c]
        refine iteT ?_
        have cn : ∀ a, a < i → stR m f w a ≠ stR m f w i := fun a ha e => c (by rw [← e, hv1 a ha]; rfl)
        have hin : i < n := by
          refine Nat.lt_of_le_of_ne hi fun z => ?_
          exact cn j (by rw [z]; exact hj.lt) (by rw [z]; exact hj.eq.symm)
        obtain ⟨pk1, pk2, pk3⟩ := key_put (L := fun a => .int ((wl m f w (a + 1)).flatten.length : Nat)) hv1 hv2 cn
        refine ⟨fun σ' H' => ∃ (kvs : List (List Key × V)) (q2 : Addr) (a7 : Option V), σ' = [some (.ref x), some (.ref y), some (.str (rd f)), some (.str (rd w)), some (.str (rd (wl m f w (i + 1 + 1)).flatten)), some (.ref q2), some (.ref D), a7, none] ∧ Same H H' ∧ H' q2 = some (.tup ((stR m f w (i + 1)).l.map V.int)) ∧ H' D = some (.dT kvs) ∧ kvs.length = i + 1 ∧ (∀ a, a < i + 1 → valV kvs (stR m f w a).key = some (.int ((wl m f w (a + 1)).flatten.length : Nat))) ∧ (∀ r : M4, (∀ a, a < i + 1 → stR m f w a ≠ r) → valV kvs r.key = none), ?_, ?_⟩
        · rintro σ' H' ⟨kvs', q', a7', rfl, e⟩
          exact ⟨n - (i + 1), by omega, i + 1, kvs', q', a7', rfl, rfl, hin, e⟩
        · have oR := st_all o f w i
          have leR := oR.le o
          have bR : ∀ i' ∈ (stR m f w i).l, Bd 900 i' := bds_of oR.nn leR (by unfold Bd; decide +kernel)
          refine ⟨_, rfl, rd (wl m f w (i + 1)).flatten, rfl, by rw [rd_len]; exact sz (by omega), _, rfl, _, rfl, D, _, rfl, DPut.t (k := (stR m f w i).key) hD hq (by rw [lk]; exact Nat.lt_of_le_of_lt (show i ≤ 1000 by omega) (by decide)), ?_⟩
          rw [show (((rd (wl m f w (i + 1)).flatten).length : Nat) : Int) = (((wl m f w (i + 1)).flatten.length : Nat) : Int) by rw [rd_len]]
          have hq5 : (upd H4 D (.dT (putK kvs (stR m f w i).key (.int ((wl m f w (i + 1)).flatten.length : Nat))))) q2 = some (.tup ((stR m f w i).l.map V.int)) := by
            rw [upd_ne (fun z => by rw [z, hD] at hq; cases hq)]
            exact hq
          have sm5 : Same H (upd H4 D (.dT (putK kvs (stR m f w i).key (.int ((wl m f w (i + 1)).flatten.length : Nat))))) := fun b o z => by
            rw [upd_ne (ne_of_none z hD0)]
            exact sm b o z
          have hD5 : (upd H4 D (.dT (putK kvs (stR m f w i).key (.int ((wl m f w (i + 1)).flatten.length : Nat))))) D = some (.dT (putK kvs (stR m f w i).key (.int ((wl m f w (i + 1)).flatten.length : Nat)))) := upd_same
          refine ⟨_, rfl, _, rfl, w, rfl, fun H6 p6 sm6 np6 e6 => ?_⟩
          refine ⟨q2, p6, stR m f w i, mat w, 900, rfl, SqT.of (sm6 _ _ hq5), SqT.of e6, by decide, bR, fun i' hi' => (bd_mat (k := 7) hw i' hi').up (by decide), fun H7 p7 sm7 np7 e7 => ?_⟩
          have bk2 : ∀ i' ∈ ((stR m f w i).mul (mat w)).l, Bd 1700 i' := fun i' hi' => (mul_bds bR (fun i hi => (bd_mat (k := 7) hw i hi)) i' hi').up (by decide)
          have nk2 : Nn ((stR m f w i).mul (mat w)) := nn_mul oR.nn (mat_nn _)
          have st := st_succ o f w i
          refine ⟨p7, (stR m f w i).mul (mat w), stR m f w (i + 1), stW m f w (i + 1), _, rfl, SqT.of e7, nk2, by rw [det_mat, oR.de]; exact o.d0, st.1, by have := st.2; omega, le_sum nk2, (bd_sum bk2).up (by decide), fun H8 p8 q8 sm8 np8 e8 nq8 eq8 => ?_⟩
          refine ⟨p8, _, rfl, .inl (.inl e8), rfl, _, _, rfl, _, _, rfl, rfl, ?_⟩
          refine ⟨_, rfl, _, rfl, rd (wl m f w (i + 1)).flatten, rd (stW m f w (i + 1)), rfl, rfl, rd_app_len (by have := st.2; omega), ?_⟩
          have e9 : (wl m f w (i + 1)).flatten ++ stW m f w (i + 1) = (wl m f w (i + 1 + 1)).flatten := by
            rw [wl_succ m f w (i + 1), List.flatten_append]
            simp
          rw [rd_app, e9]
          have s58 := (sm6.trans sm7).trans sm8
          exact ⟨_, q8, _, rfl, sm5.trans s58, eq8, s58 _ _ hD5, by rw [pk1, lk], pk2, pk3⟩

/-! _law_ask_named -/
def sp__law_ask_named (K : PySem.W.Frag) : Sp := fun vs H Q E => ∃ (way : Nat) (pm pn pp W : Addr) (m n : M4) (x y : Int) (t0 t1 : Str), vs = [.int (way : Nat), .ref pm, .ref pn, .ref pp, .ref W] ∧ way < 9 ∧ H pm = some (.tup (m.l.map V.int)) ∧ H pn = some (.tup (n.l.map V.int)) ∧ H pp = some (.tup [.int x, .int y]) ∧ H W = some (.lst [.str t0, .str t1]) ∧
  (∀ i ∈ m.l, Bd 300 i) ∧ (∀ i ∈ n.l, Bd 300 i) ∧ (Mp m → Okm m) ∧ Bd 300 x ∧ Bd 300 y ∧ t0.length ≤ 60 ∧ t1.length ≤ 7 ∧
  (∀ k v, dueM way pm pn pp m n x y t0 t1 = some (k, v) → Rs K H E (errM k) v) ∧ (dueM way pm pn pp m n x y t0 t1 = none → ∀ v H', Same H H' → Q v H')
theorem ok__law_ask_named (T : Tx K mg) : FnOk P w K mg base (L2.CX P w) 7 T.a__law_ask_named T.fd__law_ask_named ["way", "plan", "rival", "pair", "words"] (sp__law_ask_named K) := by
  have G_fixed := ok_fixed (P := P) (w := w) (base := base) T
  have G_size := ok_size (P := P) (w := w) (base := base) T
  have G_sent := ok_sent (P := P) (w := w) (base := base) T
  have G_behind := ok_behind (P := P) (w := w) (base := base) T
  have G_turned := ok_turned (P := P) (w := w) (base := base) T
  have G_before := ok_before (P := P) (w := w) (base := base) T
  have G_machine_of := ok_machine_of (P := P) (w := w) (base := base) T
  have G_standings := ok_standings (P := P) (w := w) (base := base) T
  have G_course_sent := ok_course_sent (P := P) (w := w) (base := base) T
  refine T.F__law_ask_named.okX sc__law_ask_named (fun vs H Q E h => ?_) (fun cdv A outer s H vs Q E hr h => ?_)
  · obtain ⟨way, pm, pn, pp, W, m, n, x, y, t0, t1, rfl, _⟩ := h
    rfl
  · obtain ⟨way, pm, pn, pp, W, m, n, x, y, t0, t1, rfl, hway, em, en, ep, eW, bm, bn, ok, bx, by', l0, l1, qe, q⟩ := h
    refine ⟨_, (pss_cons (ps_if (pt_cmpR op_eq (pv 0) pe_int (nomark _)) (pss_one (ps_ret (pe_callK0 G_size (hr.mono (by decide)) (by rfl) T.g_size T.F_size.kp (kb_size_0 T.F_size) (passes_call (takes_of rfl rfl rfl rfl) (fun _ _ _ _ h => h)) (pk_cons (pv 1) pk_nil)))) pss_nil)
  (pss_cons (ps_if (pt_cmpR op_eq (pv 0) pe_int (nomark _)) (pss_one (ps_ret (pe_callK0 G_sent (hr.mono (by decide)) (by rfl) T.g_sent T.F_sent.kp (kb_sent_10 T.F_sent) (passes_call (takes_of rfl rfl rfl rfl) (fun _ _ _ _ h => h)) (pk_cons (pv 3) (pk_cons (pv 1) pk_nil))))) pss_nil)
  (pss_cons (ps_if (pt_cmpR op_eq (pv 0) pe_int (nomark _)) (pss_one (ps_ret (pe_callK0 G_behind (hr.mono (by decide)) (by rfl) T.g_behind T.F_behind.kp (kb_behind_10 T.F_behind) (passes_call (takes_of rfl rfl rfl rfl) (fun _ _ _ _ h => h)) (pk_cons (pv 2) (pk_cons (pv 1) pk_nil))))) pss_nil)
  (pss_cons (ps_if (pt_cmpR op_eq (pv 0) pe_int (nomark _)) (pss_one (ps_ret (pe_callK0 G_turned (hr.mono (by decide)) (by rfl) T.g_turned T.F_turned.kp (kb_turned_0 T.F_turned) (passes_call (takes_of rfl rfl rfl rfl) (fun _ _ _ _ h => h)) (pk_cons (pv 1) pk_nil)))) pss_nil)
  (pss_cons (ps_if (pt_cmpR op_eq (pv 0) pe_int (nomark _)) (pss_one (ps_ret (pe_callK0 G_before (hr.mono (by decide)) (by rfl) T.g_before T.F_before.kp (kb_before_10 T.F_before) (passes_call (takes_of rfl rfl rfl rfl) (fun _ _ _ _ h => h)) (pk_cons (pv 3) (pk_cons (pv 1) pk_nil))))) pss_nil)
  (pss_cons (ps_if (pt_cmpR op_eq (pv 0) pe_int (nomark _)) (pss_one (ps_ret (pe_callK0 G_machine_of (hr.mono (by decide)) (by rfl) T.g_machine_of T.F_machine_of.kp (kb_machine_of_0 T.F_machine_of) (passes_call (takes_of rfl rfl rfl rfl) (fun _ _ _ _ h => h)) (pk_cons (pv 1) pk_nil)))) pss_nil)
  (pss_cons (ps_if (pt_cmpR op_eq (pv 0) pe_int (nomark _)) (pss_one (ps_ret (pe_callK0 G_standings (hr.mono (by decide)) (by rfl) T.g_standings T.F_standings.kp (kb_standings_0 T.F_standings) (passes_call (takes_of rfl rfl rfl rfl) (fun _ _ _ _ h => h)) (pk_cons (pv 1) pk_nil)))) pss_nil)
  (pss_cons (ps_if (pt_cmpR op_eq (pv 0) pe_int (nomark _)) (pss_one (ps_ret (pe_callK0 G_course_sent (hr.mono (by decide)) (by rfl) T.g_course_sent T.F_course_sent.kp (kb_course_sent_10 T.F_course_sent) (passes_call (takes_of rfl rfl rfl rfl) (fun _ _ _ _ h => h)) (pk_cons (pe_tup (pa_cons (pe_ix ix_list (pv 4) pe_int (fun _ _ => rfl)) (pa_cons (pe_ix ix_list (pv 4) pe_int (fun _ _ => rfl)) pa_nil))) (pk_cons (pv 1) pk_nil))))) pss_nil)
  (pss_one (ps_ret (pe_callK0 G_fixed (hr.mono (by decide)) (by rfl) T.g_fixed T.F_fixed.kp (kb_fixed_0 T.F_fixed) (passes_call (takes_of rfl rfl rfl rfl) (fun _ _ _ _ h => h)) (pk_cons (pv 1) pk_nil)))))))))))), ?_⟩
    have bm9 : ∀ i ∈ m.l, Bd 900 i := fun i hi => (bm i hi).up (by decide)
    have bm4 : ∀ i ∈ m.l, Bd 400 i := fun i hi => (bm i hi).up (by decide)
    have bn4 : ∀ i ∈ n.l, Bd 400 i := fun i hi => (bn i hi).up (by decide)
    have ni : ∀ {a b : Nat} {A B : Prop}, a ≠ b → B → if decide (V.int (a : Int) = V.int (b : Int)) = true then A else B := fun {a b A B} n h => by
      rw [decide_eq_false fun z => n (by injection z with z; omega)]
      exact iteF h
    have yi : ∀ {a : Nat} {A B : Prop}, A → if decide (V.int (a : Int) = V.int (a : Int)) = true then A else B := fun {a A B} h => by
      rw [decide_eq_true rfl]
      exact iteT h
    have bad : ¬ Mp m → Rs K H E "InvalidMap" (.ref pm) := fun h => qe 2 _ (dueM_m h)
    have z2 : ([.int 0, .int 1] : List V).length ≤ sizeLine := sz (by show 2 ≤ 1000000; decide)
    match way, hway with
    | 0, _ =>
      refine ⟨_, rfl, rfl, _, rfl, yi (a := 0) ?_⟩
      exact ⟨_, rfl, pm, m, rfl, SqT.of em, bm9, fun mp => q (dueM_no mp (by decide) (fun h => absurd h (by decide)) (fun h => absurd h (by decide))) _ _ (L2.Same.refl _), fun nm C d hC hd => (bad nm).now hC hd⟩
    | 1, _ =>
      refine ⟨_, rfl, rfl, _, rfl, ni (a := 1) (b := 0) (by decide) ?_⟩
      refine ⟨_, rfl, rfl, _, rfl, yi (a := 1) ?_⟩
      exact ⟨_, rfl, _, rfl, pm, pp, m, x, y, rfl, SqT.of em, SqT.of ep, bm9, bx.up (by decide), by'.up (by decide), bad, fun mp nf => qe 1 _ (dueM_f mp (.inl rfl) nf), fun mp fr H' p s _ _ => q (dueM_no mp (by decide) (fun h => absurd h (by decide)) (fun _ => fr)) _ _ s⟩
    | 2, _ =>
      refine ⟨_, rfl, rfl, _, rfl, ni (a := 2) (b := 0) (by decide) ?_⟩
      refine ⟨_, rfl, rfl, _, rfl, ni (a := 2) (b := 1) (by decide) ?_⟩
      refine ⟨_, rfl, rfl, _, rfl, yi (a := 2) ?_⟩
      exact ⟨_, rfl, _, rfl, pm, pn, m, n, rfl, SqT.of em, SqT.of en, bm4, bn4, bad, fun mp nn => qe 2 _ (dueM_n mp nn), fun mp mn v H' s => q (dueM_no mp (by decide) (fun _ => mn) (fun h => absurd h (by decide))) v H' s⟩
    | 3, _ =>
      refine ⟨_, rfl, rfl, _, rfl, ni (a := 3) (b := 0) (by decide) ?_⟩
      refine ⟨_, rfl, rfl, _, rfl, ni (a := 3) (b := 1) (by decide) ?_⟩
      refine ⟨_, rfl, rfl, _, rfl, ni (a := 3) (b := 2) (by decide) ?_⟩
      refine ⟨_, rfl, rfl, _, rfl, yi (a := 3) ?_⟩
      exact ⟨_, rfl, pm, m, rfl, SqT.of em, bm9, bad, fun mp => q (dueM_no mp (by decide) (fun h => absurd h (by decide)) (fun h => absurd h (by decide)))⟩
    | 4, _ =>
      refine ⟨_, rfl, rfl, _, rfl, ni (a := 4) (b := 0) (by decide) ?_⟩
      refine ⟨_, rfl, rfl, _, rfl, ni (a := 4) (b := 1) (by decide) ?_⟩
      refine ⟨_, rfl, rfl, _, rfl, ni (a := 4) (b := 2) (by decide) ?_⟩
      refine ⟨_, rfl, rfl, _, rfl, ni (a := 4) (b := 3) (by decide) ?_⟩
      refine ⟨_, rfl, rfl, _, rfl, yi (a := 4) ?_⟩
      exact ⟨_, rfl, _, rfl, pm, pp, m, x, y, rfl, SqT.of em, SqT.of ep, bm9, bx.up (by decide), by'.up (by decide), bad, fun mp nf => qe 1 _ (dueM_f mp (.inr rfl) nf), fun mp fr v H' s => q (dueM_no mp (by decide) (fun h => absurd h (by decide)) (fun _ => fr)) v H' s⟩
    | 5, _ =>
      refine ⟨_, rfl, rfl, _, rfl, ni (a := 5) (b := 0) (by decide) ?_⟩
      refine ⟨_, rfl, rfl, _, rfl, ni (a := 5) (b := 1) (by decide) ?_⟩
      refine ⟨_, rfl, rfl, _, rfl, ni (a := 5) (b := 2) (by decide) ?_⟩
      refine ⟨_, rfl, rfl, _, rfl, ni (a := 5) (b := 3) (by decide) ?_⟩
      refine ⟨_, rfl, rfl, _, rfl, ni (a := 5) (b := 4) (by decide) ?_⟩
      refine ⟨_, rfl, rfl, _, rfl, yi (a := 5) ?_⟩
      exact ⟨_, rfl, pm, m, rfl, em, bm9, bad, fun mp => ⟨ok mp, q (dueM_no mp (by decide) (fun h => absurd h (by decide)) (fun h => absurd h (by decide)))⟩⟩
    | 6, _ =>
      refine ⟨_, rfl, rfl, _, rfl, ni (a := 6) (b := 0) (by decide) ?_⟩
      refine ⟨_, rfl, rfl, _, rfl, ni (a := 6) (b := 1) (by decide) ?_⟩
      refine ⟨_, rfl, rfl, _, rfl, ni (a := 6) (b := 2) (by decide) ?_⟩
      refine ⟨_, rfl, rfl, _, rfl, ni (a := 6) (b := 3) (by decide) ?_⟩
      refine ⟨_, rfl, rfl, _, rfl, ni (a := 6) (b := 4) (by decide) ?_⟩
      refine ⟨_, rfl, rfl, _, rfl, ni (a := 6) (b := 5) (by decide) ?_⟩
      refine ⟨_, rfl, rfl, _, rfl, yi (a := 6) ?_⟩
      exact ⟨_, rfl, pm, m, rfl, em, bm9, bad, fun mp => ⟨ok mp, q (dueM_no mp (by decide) (fun h => absurd h (by decide)) (fun h => absurd h (by decide)))⟩⟩
    | 7, _ =>
      refine ⟨_, rfl, rfl, _, rfl, ni (a := 7) (b := 0) (by decide) ?_⟩
      refine ⟨_, rfl, rfl, _, rfl, ni (a := 7) (b := 1) (by decide) ?_⟩
      refine ⟨_, rfl, rfl, _, rfl, ni (a := 7) (b := 2) (by decide) ?_⟩
      refine ⟨_, rfl, rfl, _, rfl, ni (a := 7) (b := 3) (by decide) ?_⟩
      refine ⟨_, rfl, rfl, _, rfl, ni (a := 7) (b := 4) (by decide) ?_⟩
      refine ⟨_, rfl, rfl, _, rfl, ni (a := 7) (b := 5) (by decide) ?_⟩
      refine ⟨_, rfl, rfl, _, rfl, ni (a := 7) (b := 6) (by decide) ?_⟩
      refine ⟨_, rfl, rfl, _, rfl, yi (a := 7) ?_⟩
      refine ⟨_, rfl, W, _, _, _, rfl, rfl, SqL.of eW, rfl, _, rfl, W, _, _, _, rfl, rfl, SqL.of eW, rfl, z2, fun u nu => ?_⟩
      have s1 := (L2.Same.refl H).new (o := .tup [.str t0, .str t1]) nu
      exact ⟨_, rfl, pm, u, m, t0, t1, rfl, s1 _ _ em, upd_same, bm9, l0, l1, fun nm => (bad nm).same s1, fun mp t ht => (qe 0 _ (by rw [dueM_7 mp, ht]; rfl)).same s1, fun mp h0 => ⟨ok mp, fun v H' s => q (by rw [dueM_7 mp, h0]; rfl) v H' (s1.trans s)⟩⟩
    | 8, _ =>
      refine ⟨_, rfl, rfl, _, rfl, ni (a := 8) (b := 0) (by decide) ?_⟩
      refine ⟨_, rfl, rfl, _, rfl, ni (a := 8) (b := 1) (by decide) ?_⟩
      refine ⟨_, rfl, rfl, _, rfl, ni (a := 8) (b := 2) (by decide) ?_⟩
      refine ⟨_, rfl, rfl, _, rfl, ni (a := 8) (b := 3) (by decide) ?_⟩
      refine ⟨_, rfl, rfl, _, rfl, ni (a := 8) (b := 4) (by decide) ?_⟩
      refine ⟨_, rfl, rfl, _, rfl, ni (a := 8) (b := 5) (by decide) ?_⟩
      refine ⟨_, rfl, rfl, _, rfl, ni (a := 8) (b := 6) (by decide) ?_⟩
      refine ⟨_, rfl, rfl, _, rfl, ni (a := 8) (b := 7) (by decide) ?_⟩
      refine ⟨_, rfl, pm, m, rfl, em, bm9, bad, fun mp => ?_⟩
      have o := ok mp
      obtain ⟨R, _, call⟩ := fixed_ex mp o.le
      exact call H Q fun H' v s _ => q (dueM_no mp (by decide) (fun h => absurd h (by decide)) (fun h => absurd h (by decide))) v H' s
    | (n + 9), z => exact absurd z (by omega)

/-! _law_ask -/
def sp__law_ask (K : PySem.W.Frag) : Sp := fun vs H Q E => ∃ (way : Nat) (pm pn pp W : Addr) (m n : M4) (x y : Int) (t0 t1 : Str), vs = [.int (way : Nat), .ref pm, .ref pn, .ref pp, .ref W] ∧ way < 9 ∧ H pm = some (.tup (m.l.map V.int)) ∧ H pn = some (.tup (n.l.map V.int)) ∧ H pp = some (.tup [.int x, .int y]) ∧ H W = some (.lst [.str t0, .str t1]) ∧
  (∀ i ∈ m.l, Bd 300 i) ∧ (∀ i ∈ n.l, Bd 300 i) ∧ (Mp m → Okm m) ∧ Bd 300 x ∧ Bd 300 y ∧ t0.length ≤ 60 ∧ t1.length ≤ 7 ∧
  (∀ k v, dueM way pm pn pp m n x y t0 t1 = some (k, v) → Rs K H E (errM k) v) ∧ (dueM way pm pn pp m n x y t0 t1 = none → ∀ v H', Same H H' → Q v H')
theorem ok__law_ask (T : Tx K mg) : FnOk P w K mg base (L2.CX P w) 7 T.a__law_ask T.fd__law_ask ["way", "plan", "rival", "pair", "words"] (sp__law_ask K) := by
  have G_fixed := ok_fixed (P := P) (w := w) (base := base) T
  have G_size := ok_size (P := P) (w := w) (base := base) T
  have G_sent := ok_sent (P := P) (w := w) (base := base) T
  have G_behind := ok_behind (P := P) (w := w) (base := base) T
  have G_turned := ok_turned (P := P) (w := w) (base := base) T
  have G_before := ok_before (P := P) (w := w) (base := base) T
  have G_machine_of := ok_machine_of (P := P) (w := w) (base := base) T
  have G_standings := ok_standings (P := P) (w := w) (base := base) T
  have G_course_sent := ok_course_sent (P := P) (w := w) (base := base) T
  refine T.F__law_ask.okX sc__law_ask (fun vs H Q E h => ?_) (fun cdv A outer s H vs Q E hr h => ?_)
  · obtain ⟨way, pm, pn, pp, W, m, n, x, y, t0, t1, rfl, _⟩ := h
    rfl
  · obtain ⟨way, pm, pn, pp, W, m, n, x, y, t0, t1, rfl, hway, em, en, ep, eW, bm, bn, ok, bx, by', l0, l1, qe, q⟩ := h
    refine ⟨_, (pss_cons (ps_if (pt_cmpR op_eq (pv 0) pe_int (nomark _)) (pss_one (ps_ret (pe_call G_size (hr.mono (by decide)) (by rfl) T.g_size T.F_size.kp (b_size T.F_size) .nil (passes_call (takes_of rfl rfl rfl rfl) (fun _ _ _ _ h => h)) (pa_cons (pv 1) pa_nil)))) pss_nil)
  (pss_cons (ps_if (pt_cmpR op_eq (pv 0) pe_int (nomark _)) (pss_one (ps_ret (pe_call G_sent (hr.mono (by decide)) (by rfl) T.g_sent T.F_sent.kp (b_sent T.F_sent) .nil (passes_call (takes_of rfl rfl rfl rfl) (fun _ _ _ _ h => h)) (pa_cons (pv 1) (pa_cons (pv 3) pa_nil))))) pss_nil)
  (pss_cons (ps_if (pt_cmpR op_eq (pv 0) pe_int (nomark _)) (pss_one (ps_ret (pe_call G_behind (hr.mono (by decide)) (by rfl) T.g_behind T.F_behind.kp (b_behind T.F_behind) .nil (passes_call (takes_of rfl rfl rfl rfl) (fun _ _ _ _ h => h)) (pa_cons (pv 1) (pa_cons (pv 2) pa_nil))))) pss_nil)
  (pss_cons (ps_if (pt_cmpR op_eq (pv 0) pe_int (nomark _)) (pss_one (ps_ret (pe_call G_turned (hr.mono (by decide)) (by rfl) T.g_turned T.F_turned.kp (b_turned T.F_turned) .nil (passes_call (takes_of rfl rfl rfl rfl) (fun _ _ _ _ h => h)) (pa_cons (pv 1) pa_nil)))) pss_nil)
  (pss_cons (ps_if (pt_cmpR op_eq (pv 0) pe_int (nomark _)) (pss_one (ps_ret (pe_call G_before (hr.mono (by decide)) (by rfl) T.g_before T.F_before.kp (b_before T.F_before) .nil (passes_call (takes_of rfl rfl rfl rfl) (fun _ _ _ _ h => h)) (pa_cons (pv 1) (pa_cons (pv 3) pa_nil))))) pss_nil)
  (pss_cons (ps_if (pt_cmpR op_eq (pv 0) pe_int (nomark _)) (pss_one (ps_ret (pe_call G_machine_of (hr.mono (by decide)) (by rfl) T.g_machine_of T.F_machine_of.kp (b_machine_of T.F_machine_of) .nil (passes_call (takes_of rfl rfl rfl rfl) (fun _ _ _ _ h => h)) (pa_cons (pv 1) pa_nil)))) pss_nil)
  (pss_cons (ps_if (pt_cmpR op_eq (pv 0) pe_int (nomark _)) (pss_one (ps_ret (pe_call G_standings (hr.mono (by decide)) (by rfl) T.g_standings T.F_standings.kp (b_standings T.F_standings) .nil (passes_call (takes_of rfl rfl rfl rfl) (fun _ _ _ _ h => h)) (pa_cons (pv 1) pa_nil)))) pss_nil)
  (pss_cons (ps_if (pt_cmpR op_eq (pv 0) pe_int (nomark _)) (pss_one (ps_ret (pe_call G_course_sent (hr.mono (by decide)) (by rfl) T.g_course_sent T.F_course_sent.kp (b_course_sent T.F_course_sent) .nil (passes_call (takes_of rfl rfl rfl rfl) (fun _ _ _ _ h => h)) (pa_cons (pv 1) (pa_cons (pe_tup (pa_cons (pe_ix ix_list (pv 4) pe_int (fun _ _ => rfl)) (pa_cons (pe_ix ix_list (pv 4) pe_int (fun _ _ => rfl)) pa_nil))) pa_nil))))) pss_nil)
  (pss_one (ps_ret (pe_call G_fixed (hr.mono (by decide)) (by rfl) T.g_fixed T.F_fixed.kp (b_fixed T.F_fixed) .nil (passes_call (takes_of rfl rfl rfl rfl) (fun _ _ _ _ h => h)) (pa_cons (pv 1) pa_nil)))))))))))), ?_⟩
    have bm9 : ∀ i ∈ m.l, Bd 900 i := fun i hi => (bm i hi).up (by decide)
    have bm4 : ∀ i ∈ m.l, Bd 400 i := fun i hi => (bm i hi).up (by decide)
    have bn4 : ∀ i ∈ n.l, Bd 400 i := fun i hi => (bn i hi).up (by decide)
    have ni : ∀ {a b : Nat} {A B : Prop}, a ≠ b → B → if decide (V.int (a : Int) = V.int (b : Int)) = true then A else B := fun {a b A B} n h => by
      rw [decide_eq_false fun z => n (by injection z with z; omega)]
      exact iteF h
    have yi : ∀ {a : Nat} {A B : Prop}, A → if decide (V.int (a : Int) = V.int (a : Int)) = true then A else B := fun {a A B} h => by
      rw [decide_eq_true rfl]
      exact iteT h
    have bad : ¬ Mp m → Rs K H E "InvalidMap" (.ref pm) := fun h => qe 2 _ (dueM_m h)
    have z2 : ([.int 0, .int 1] : List V).length ≤ sizeLine := sz (by show 2 ≤ 1000000; decide)
    match way, hway with
    | 0, _ =>
      refine ⟨_, rfl, rfl, _, rfl, yi (a := 0) ?_⟩
      exact ⟨_, rfl, pm, m, rfl, SqT.of em, bm9, fun mp => q (dueM_no mp (by decide) (fun h => absurd h (by decide)) (fun h => absurd h (by decide))) _ _ (L2.Same.refl _), fun nm C d hC hd => (bad nm).now hC hd⟩
    | 1, _ =>
      refine ⟨_, rfl, rfl, _, rfl, ni (a := 1) (b := 0) (by decide) ?_⟩
      refine ⟨_, rfl, rfl, _, rfl, yi (a := 1) ?_⟩
      exact ⟨_, rfl, _, rfl, pm, pp, m, x, y, rfl, SqT.of em, SqT.of ep, bm9, bx.up (by decide), by'.up (by decide), bad, fun mp nf => qe 1 _ (dueM_f mp (.inl rfl) nf), fun mp fr H' p s _ _ => q (dueM_no mp (by decide) (fun h => absurd h (by decide)) (fun _ => fr)) _ _ s⟩
    | 2, _ =>
      refine ⟨_, rfl, rfl, _, rfl, ni (a := 2) (b := 0) (by decide) ?_⟩
      refine ⟨_, rfl, rfl, _, rfl, ni (a := 2) (b := 1) (by decide) ?_⟩
      refine ⟨_, rfl, rfl, _, rfl, yi (a := 2) ?_⟩
      exact ⟨_, rfl, _, rfl, pm, pn, m, n, rfl, SqT.of em, SqT.of en, bm4, bn4, bad, fun mp nn => qe 2 _ (dueM_n mp nn), fun mp mn v H' s => q (dueM_no mp (by decide) (fun _ => mn) (fun h => absurd h (by decide))) v H' s⟩
    | 3, _ =>
      refine ⟨_, rfl, rfl, _, rfl, ni (a := 3) (b := 0) (by decide) ?_⟩
      refine ⟨_, rfl, rfl, _, rfl, ni (a := 3) (b := 1) (by decide) ?_⟩
      refine ⟨_, rfl, rfl, _, rfl, ni (a := 3) (b := 2) (by decide) ?_⟩
      refine ⟨_, rfl, rfl, _, rfl, yi (a := 3) ?_⟩
      exact ⟨_, rfl, pm, m, rfl, SqT.of em, bm9, bad, fun mp => q (dueM_no mp (by decide) (fun h => absurd h (by decide)) (fun h => absurd h (by decide)))⟩
    | 4, _ =>
      refine ⟨_, rfl, rfl, _, rfl, ni (a := 4) (b := 0) (by decide) ?_⟩
      refine ⟨_, rfl, rfl, _, rfl, ni (a := 4) (b := 1) (by decide) ?_⟩
      refine ⟨_, rfl, rfl, _, rfl, ni (a := 4) (b := 2) (by decide) ?_⟩
      refine ⟨_, rfl, rfl, _, rfl, ni (a := 4) (b := 3) (by decide) ?_⟩
      refine ⟨_, rfl, rfl, _, rfl, yi (a := 4) ?_⟩
      exact ⟨_, rfl, _, rfl, pm, pp, m, x, y, rfl, SqT.of em, SqT.of ep, bm9, bx.up (by decide), by'.up (by decide), bad, fun mp nf => qe 1 _ (dueM_f mp (.inr rfl) nf), fun mp fr v H' s => q (dueM_no mp (by decide) (fun h => absurd h (by decide)) (fun _ => fr)) v H' s⟩
    | 5, _ =>
      refine ⟨_, rfl, rfl, _, rfl, ni (a := 5) (b := 0) (by decide) ?_⟩
      refine ⟨_, rfl, rfl, _, rfl, ni (a := 5) (b := 1) (by decide) ?_⟩
      refine ⟨_, rfl, rfl, _, rfl, ni (a := 5) (b := 2) (by decide) ?_⟩
      refine ⟨_, rfl, rfl, _, rfl, ni (a := 5) (b := 3) (by decide) ?_⟩
      refine ⟨_, rfl, rfl, _, rfl, ni (a := 5) (b := 4) (by decide) ?_⟩
      refine ⟨_, rfl, rfl, _, rfl, yi (a := 5) ?_⟩
      exact ⟨_, rfl, pm, m, rfl, em, bm9, bad, fun mp => ⟨ok mp, q (dueM_no mp (by decide) (fun h => absurd h (by decide)) (fun h => absurd h (by decide)))⟩⟩
    | 6, _ =>
      refine ⟨_, rfl, rfl, _, rfl, ni (a := 6) (b := 0) (by decide) ?_⟩
      refine ⟨_, rfl, rfl, _, rfl, ni (a := 6) (b := 1) (by decide) ?_⟩
      refine ⟨_, rfl, rfl, _, rfl, ni (a := 6) (b := 2) (by decide) ?_⟩
      refine ⟨_, rfl, rfl, _, rfl, ni (a := 6) (b := 3) (by decide) ?_⟩
      refine ⟨_, rfl, rfl, _, rfl, ni (a := 6) (b := 4) (by decide) ?_⟩
      refine ⟨_, rfl, rfl, _, rfl, ni (a := 6) (b := 5) (by decide) ?_⟩
      refine ⟨_, rfl, rfl, _, rfl, yi (a := 6) ?_⟩
      exact ⟨_, rfl, pm, m, rfl, em, bm9, bad, fun mp => ⟨ok mp, q (dueM_no mp (by decide) (fun h => absurd h (by decide)) (fun h => absurd h (by decide)))⟩⟩
    | 7, _ =>
      refine ⟨_, rfl, rfl, _, rfl, ni (a := 7) (b := 0) (by decide) ?_⟩
      refine ⟨_, rfl, rfl, _, rfl, ni (a := 7) (b := 1) (by decide) ?_⟩
      refine ⟨_, rfl, rfl, _, rfl, ni (a := 7) (b := 2) (by decide) ?_⟩
      refine ⟨_, rfl, rfl, _, rfl, ni (a := 7) (b := 3) (by decide) ?_⟩
      refine ⟨_, rfl, rfl, _, rfl, ni (a := 7) (b := 4) (by decide) ?_⟩
      refine ⟨_, rfl, rfl, _, rfl, ni (a := 7) (b := 5) (by decide) ?_⟩
      refine ⟨_, rfl, rfl, _, rfl, ni (a := 7) (b := 6) (by decide) ?_⟩
      refine ⟨_, rfl, rfl, _, rfl, yi (a := 7) ?_⟩
      refine ⟨_, rfl, _, rfl, W, _, _, _, rfl, rfl, SqL.of eW, rfl, _, rfl, W, _, _, _, rfl, rfl, SqL.of eW, rfl, z2, fun u nu => ?_⟩
      have s1 := (L2.Same.refl H).new (o := .tup [.str t0, .str t1]) nu
      exact ⟨pm, u, m, t0, t1, rfl, s1 _ _ em, upd_same, bm9, l0, l1, fun nm => (bad nm).same s1, fun mp t ht => (qe 0 _ (by rw [dueM_7 mp, ht]; rfl)).same s1, fun mp h0 => ⟨ok mp, fun v H' s => q (by rw [dueM_7 mp, h0]; rfl) v H' (s1.trans s)⟩⟩
    | 8, _ =>
      refine ⟨_, rfl, rfl, _, rfl, ni (a := 8) (b := 0) (by decide) ?_⟩
      refine ⟨_, rfl, rfl, _, rfl, ni (a := 8) (b := 1) (by decide) ?_⟩
      refine ⟨_, rfl, rfl, _, rfl, ni (a := 8) (b := 2) (by decide) ?_⟩
      refine ⟨_, rfl, rfl, _, rfl, ni (a := 8) (b := 3) (by decide) ?_⟩
      refine ⟨_, rfl, rfl, _, rfl, ni (a := 8) (b := 4) (by decide) ?_⟩
      refine ⟨_, rfl, rfl, _, rfl, ni (a := 8) (b := 5) (by decide) ?_⟩
      refine ⟨_, rfl, rfl, _, rfl, ni (a := 8) (b := 6) (by decide) ?_⟩
      refine ⟨_, rfl, rfl, _, rfl, ni (a := 8) (b := 7) (by decide) ?_⟩
      refine ⟨_, rfl, pm, m, rfl, em, bm9, bad, fun mp => ?_⟩
      have o := ok mp
      obtain ⟨R, _, call⟩ := fixed_ex mp o.le
      exact call H Q fun H' v s _ => q (dueM_no mp (by decide) (fun h => absurd h (by decide)) (fun h => absurd h (by decide))) v H' s
    | (n + 9), z => exact absurd z (by omega)

/-! _law_right -/
def sp__law_right (K : PySem.W.Frag) : Sp := fun vs H Q _ => ∃ (a : Addr) (n : Nat), vs = [.ref a] ∧ n < 600000000 ∧ Pu H a n ∧ ∀ H', Pu H' a (n + 20000) → Kp a H H' → Q (.bl true) H'
theorem ok__law_right (T : Tx K mg) : FnG P w K mg base CX0 8 T.a__law_right T.fd__law_right ["purse"] (sp__law_right K) := by
  have G__law_due := ok__law_due (P := P) (w := w) (base := base) T
  have G__law_coin := ok__law_coin (P := P) (w := w) (base := base) T
  have G__law_rt_odd_map := ok__law_rt_odd_map (P := P) (w := w) (base := base) T
  have G__law_rt_map := ok__law_rt_map (P := P) (w := w) (base := base) T
  have G__law_rt_odd_pair := ok__law_rt_odd_pair (P := P) (w := w) (base := base) T
  have G__law_rt_odd_way := ok__law_rt_odd_way (P := P) (w := w) (base := base) T
  have G__law_rt_kind := ok__law_rt_kind (P := P) (w := w) (base := base) T
  have G__law_rt_way := ok__law_rt_way (P := P) (w := w) (base := base) T
  have G__law_rt_ring := ok__law_rt_ring (P := P) (w := w) (base := base) T
  have G__law_ask_named := ok__law_ask_named (P := P) (w := w) (base := base) T
  have G__law_ask := ok__law_ask (P := P) (w := w) (base := base) T
  refine okG T.F__law_right sc__law_right (fun vs H Q E h => ?_) (fun cdv A outer s H vs Q E hG hr h => ?_)
  · obtain ⟨a, n, rfl, _⟩ := h
    rfl
  · obtain ⟨a, n, rfl, hn, hp, q⟩ := h
    refine ⟨_, (pss_cons (ps_par (i := 1) (j := 2) (by rfl) sc__law_right.nd rfl rfl (by decide) rfl rfl (pa_cons (pe_call G__law_coin (hr.mono (by decide)) (by rfl) T.g__law_coin T.F__law_coin.kp (b__law_coin T.F__law_coin) .nil pass0 (pa_cons (pv 0) (pa_cons pe_int pa_nil))) (pa_cons (pe_call G__law_coin (hr.mono (by decide)) (by rfl) T.g__law_coin T.F__law_coin.kp (b__law_coin T.F__law_coin) .nil pass0 (pa_cons (pv 0) (pa_cons pe_int pa_nil))) pa_nil)) (by rfl))
  (pss_cons (ps_set (i := 3) sc__law_right.nd rfl (Or.inl rfl) (pe_ifExp (pt_cmpR op_eq (pe_call G__law_coin (hr.mono (by decide)) (by rfl) T.g__law_coin T.F__law_coin.kp (b__law_coin T.F__law_coin) .nil pass0 (pa_cons (pv 0) (pa_cons pe_int pa_nil))) pe_int (nomark _)) (pe_call G__law_rt_odd_map (hr.mono (by decide)) (by rfl) T.g__law_rt_odd_map T.F__law_rt_odd_map.kp (b__law_rt_odd_map T.F__law_rt_odd_map) .nil pass0 (pa_cons (pv 0) pa_nil)) (pe_call G__law_rt_map (hr.mono (by decide)) (by rfl) T.g__law_rt_map T.F__law_rt_map.kp (b__law_rt_map T.F__law_rt_map) .nil pass0 (pa_cons (pv 0) (pa_cons pe_int pa_nil)))))
  (pss_cons (ps_par (i := 4) (j := 5) (by rfl) sc__law_right.nd rfl rfl (by decide) rfl rfl (pa_cons (pe_call G__law_rt_odd_map (hr.mono (by decide)) (by rfl) T.g__law_rt_odd_map T.F__law_rt_odd_map.kp (b__law_rt_odd_map T.F__law_rt_odd_map) .nil pass0 (pa_cons (pv 0) pa_nil)) (pa_cons (pe_call G__law_rt_odd_pair (hr.mono (by decide)) (by rfl) T.g__law_rt_odd_pair T.F__law_rt_odd_pair.kp (b__law_rt_odd_pair T.F__law_rt_odd_pair) .nil pass0 (pa_cons (pv 0) pa_nil)) pa_nil)) (by rfl))
  (pss_cons (ps_set (i := 6) sc__law_right.nd rfl (Or.inl rfl) (pe_lst (pa_cons (pe_call G__law_rt_odd_way (hr.mono (by decide)) (by rfl) T.g__law_rt_odd_way T.F__law_rt_odd_way.kp (b__law_rt_odd_way T.F__law_rt_odd_way) .nil pass0 (pa_cons (pv 0) (pa_cons (pe_call G__law_rt_way (hr.mono (by decide)) (by rfl) T.g__law_rt_way T.F__law_rt_way.kp (b__law_rt_way T.F__law_rt_way) .nil pass0 (pa_cons (pv 0) (pa_cons (pe_ix ix_list (pe_lst (pa_cons pe_int (pa_cons pe_int (pa_cons pe_int pa_nil)))) (pe_call G__law_coin (hr.mono (by decide)) (by rfl) T.g__law_coin T.F__law_coin.kp (b__law_coin T.F__law_coin) .nil pass0 (pa_cons (pv 0) (pa_cons pe_int pa_nil))) (fun _ _ => rfl)) pa_nil))) pa_nil))) pa_nil)))
  (pss_cons (ps_set (i := 7) sc__law_right.nd rfl (Or.inl rfl) (pe_ix ix_list (pe_lst (pa_cons pe_str (pa_cons (pe_call G__law_rt_way (hr.mono (by decide)) (by rfl) T.g__law_rt_way T.F__law_rt_way.kp (b__law_rt_way T.F__law_rt_way) .nil pass0 (pa_cons (pv 0) (pa_cons pe_int pa_nil))) (pa_cons (pe_call G__law_rt_ring (hr.mono (by decide)) (by rfl) T.g__law_rt_ring T.F__law_rt_ring.kp (b__law_rt_ring T.F__law_rt_ring) .nil pass0 (pa_cons (pv 0) pa_nil)) (pa_cons (pe_call G__law_rt_ring (hr.mono (by decide)) (by rfl) T.g__law_rt_ring T.F__law_rt_ring.kp (b__law_rt_ring T.F__law_rt_ring) .nil pass0 (pa_cons (pv 0) pa_nil)) pa_nil))))) (pe_call G__law_coin (hr.mono (by decide)) (by rfl) T.g__law_coin T.F__law_coin.kp (b__law_coin T.F__law_coin) .nil pass0 (pa_cons (pv 0) (pa_cons pe_int pa_nil))) (fun _ _ => rfl)))
  (pss_cons (ps_expr (pe_bm PySem.F.plainAttrs_list PySem.F.slot_list_append PySem.F.type_list_append mt_append (pv 6) (pa_cons (pe_call G__law_rt_odd_way (hr.mono (by decide)) (by rfl) T.g__law_rt_odd_way T.F__law_rt_odd_way.kp (b__law_rt_odd_way T.F__law_rt_odd_way) .nil pass0 (pa_cons (pv 0) (pa_cons (pv 7) pa_nil))) pa_nil)))
  (pss_cons (ps_set (i := 8) sc__law_right.nd rfl (Or.inl rfl) (pe_call G__law_due (hr.mono (by decide)) (by rfl) T.g__law_due T.F__law_due.kp (b__law_due T.F__law_due) .nil pass0 (pa_cons (pv 1) (pa_cons (pv 3) (pa_cons (pv 4) (pa_cons (pv 5) (pa_cons (pv 6) pa_nil)))))))
  (pss_cons (ps_set (i := 9) sc__law_right.nd rfl (Or.inl rfl) pe_non)
  (pss_cons (ps_tryK (i := 10) rfl rfl rfl sc__law_right.nd rfl rfl ⟨rfl, by decide, Or.inl T.g_RoadError⟩ (fun W pn xe tk po => (pss_one (ps_if (pt_cmpR op_eq (pv 2) pe_int (nomark _)) (pss_one (ps_expr (pe_callS G__law_ask_named (hr.mono (by decide)) (by rfl) T.g__law_ask_named T.F__law_ask_named.kp (b__law_ask_named T.F__law_ask_named) (fun σ => passAt tk σ) (pa_cons (pv 1) (pa_cons (pv 3) (pa_cons (pv 4) (pa_cons (pv 5) (pa_cons (pv 6) pa_nil)))))))) (pss_one (ps_expr (pe_callS G__law_ask (hr.mono (by decide)) (by rfl) T.g__law_ask T.F__law_ask.kp (b__law_ask T.F__law_ask) (fun σ => passAt tk σ) (pa_cons (pv 1) (pa_cons (pv 3) (pa_cons (pv 4) (pa_cons (pv 5) (pa_cons (pv 6) pa_nil))))))))))) (fun a oe cls d pn hz hf => (pss_one (ps_set (i := 9) sc__law_right.nd rfl (Or.inl rfl) (pv 10)))))
  (pss_cons (ps_if (pt_cmpR (op_eqD hr.units) (pv 8) (pe_lst pa_nil) (nomark _)) (pss_one (ps_ret (pe_cmpR op_isN (pv 9) pe_non (nomark _)))) pss_nil)
  (pss_one (ps_ret (pe_and (pe_cmpR op_notN (pv 9) pe_non (nomark _)) (pe_one (pe_callG G__law_rt_kind hG (hr.mono (by decide)) (by rfl) T.g__law_rt_kind T.F__law_rt_kind.kp (b__law_rt_kind T.F__law_rt_kind) pass0 (pa_cons (pv 9) (pa_cons (pe_ix ix_list (pv 8) pe_int (fun _ _ => rfl)) (pa_cons (pe_ix ix_list (pv 8) pe_int (fun _ _ => rfl)) pa_nil)))))))))))))))))), ?_⟩
    refine ⟨_, rfl, a, 9, n, rfl, by decide, by decide, by omega, hp, fun way H1 w0 w1 hp1 k1 => ?_⟩
    refine ⟨_, rfl, a, 3, n + 1, rfl, by decide, by decide, by omega, hp1, fun named H2 n0 n1 hp2 k2 => ⟨_, _, rfl, ?_⟩⟩
    obtain ⟨way, rfl⟩ := nat_of w0
    have hway : way < 9 := by omega
    have k02 := k1.trans k2
    refine ⟨_, rfl, a, 2, n + 2, rfl, by decide, by decide, by omega, hp2, fun c0 H3 c00 c01 hp3 k3 => ⟨rfl, _, rfl, meetE (fun v H' => ∃ (pm : Addr) (m : M4), v = .ref pm ∧ (∀ i ∈ m.l, i.natAbs ≤ 1000) ∧ (Mp m → Okm m) ∧ Pu H' a (n + 3010) ∧ Kp a H H' ∧ H' pm = some (.tup (m.l.map V.int))) (fun _ R hR => ?_) (fun _ R hR => ?_) (fun v H4 z => ?_)⟩⟩
    · exact ⟨_, rfl, a, n + 3, rfl, by omega, hp3, fun m H' p b o hp' k' np e => hR _ _ ⟨p, m, rfl, b, o, hp'.le (by omega), (k02.trans k3).trans k', e⟩⟩
    · refine ⟨_, rfl, a, 12, n + 3, rfl, by decide, by decide, by omega, hp3, fun m H' p mp le dt hp' k' np e => hR _ _ ⟨p, m, rfl, fun i hi => ?_, fun _ => ⟨mp.nn, mp.dt, dt, le⟩, hp'.le (by omega), (k02.trans k3).trans k', e⟩⟩
      have := mp.nn.a
      have := mp.nn.b
      have := mp.nn.c
      have := mp.nn.d
      have := le.a
      have := le.b
      have := le.c
      have := le.d
      simp only [M4.l, List.mem_cons, List.not_mem_nil, or_false] at hi
      rcases hi with rfl | rfl | rfl | rfl <;> omega
    obtain ⟨pm, m, rfl, bm, ok, hp4, k4, em⟩ := z
    clear hp1 hp2 hp3 k1 k2 k3 k02
    refine ⟨_, rfl, a, n + 3010, rfl, by omega, hp4, fun r H5 pn br _ hp5 k5 npn en => ?_⟩
    have em5 := k5 _ _ (tup_nea hp4 em) em
    refine ⟨_, rfl, a, n + 6013, rfl, by omega, hp5, fun x y H6 pp bx by' hfr hp6 k6 ep => ⟨_, _, rfl, ?_⟩⟩
    have em6 := k6 _ _ (tup_nea hp5 em5) em5
    have en6 := k6 _ _ (tup_nea hp5 en) en
    have k06 := (k4.trans k5).trans k6
    dsimp only [tSeq, tAsg]
    refine ⟨_, rfl, _, rfl, sz (by show 3 ≤ 1000000; decide), fun L1 nL1 => ?_⟩
    refine ⟨_, rfl, a, 3, n + 6123, rfl, by decide, by decide, by omega, hp6.new nL1, fun c1 H7 c10 c11 hp7 k7 => ?_⟩
    have eL1 : H7 L1 = some (.lst ([6, 6, 59].map V.int)) := k7 L1 _ (hp6.ne nL1).symm upd_same
    have s61 := (L2.Same.refl H6).new (o := .lst ([6, 6, 59].map V.int)) nL1
    have em7 := k7 _ _ (tup_nea hp6 em6) (s61 _ _ em6)
    have en7 := k7 _ _ (tup_nea hp6 en6) (s61 _ _ en6)
    have ep7 := k7 _ _ (tup_nea hp6 ep) (s61 _ _ ep)
    obtain ⟨c, hc, ec⟩ := menu_at (l := [6, 6, 59]) c10 c11
    have hc1 : 0 ≤ c ∧ c ≤ 59 := by
      simp only [List.mem_cons, List.not_mem_nil, or_false] at hc
      rcases hc with rfl | rfl | rfl <;> omega
    have k07 := (k06.new nL1).trans k7
    refine ⟨L1, _, c1, _, rfl, rfl, SqL.of eL1, ec, a, c, n + 6124, rfl, by omega, by omega, by omega, hp7, fun w0 H8 hw0 hp8 k8 => ?_⟩
    refine ⟨a, w0, n + 7126, rfl, by omega, by omega, hp8, fun t0 H9 lt0 st0 hp9 k9 => ?_⟩
    refine ⟨sz (by show 1 ≤ 1000000; decide), fun W nW => ?_⟩
    have k79 := k8.trans k9
    have em9 := k79 _ _ (tup_nea hp7 em7) em7
    have en9 := k79 _ _ (tup_nea hp7 en7) en7
    have ep9 := k79 _ _ (tup_nea hp7 ep7) ep7
    have k09 := k07.trans k79
    have hW0 : H W = none := k09.free hp9 nW
    have Wa : W ≠ a := fun z => (hp9.ne nW) z.symm
    have hp10 := hp9.new (o := .lst [.str t0]) nW
    have k010 := k09.new (o := .lst [.str t0]) nW
    have sW := (L2.Same.refl H9).new (o := .lst [.str t0]) nW
    have eW : L2.upd H9 W (.lst [.str t0]) W = some (.lst [.str t0]) := upd_same
    have em10 := sW _ _ em9
    have en10 := sW _ _ en9
    have ep10 := sW _ _ ep9
    generalize L2.upd H9 W (.lst [.str t0]) = H10 at *
    rw [rd_empty]
    refine ⟨_, rfl, a, 3, n + 7129, rfl, by decide, by decide, by omega, hp10, fun u H11 hu hp11 k11 => ?_⟩
    refine ⟨_, rfl, a, n + 8131, rfl, by omega, hp11, fun v1 H12 bv1 lv1 hp12 k12 => ?_⟩
    refine ⟨_, rfl, a, n + 9135, rfl, by omega, hp12, fun v2 H13 bv2 lv2 hp13 k13 => ?_⟩
    refine ⟨sz (by show 4 ≤ 1000000; decide), fun M nM => ?_⟩
    have k1013 := (k11.trans k12).trans k13
    have em13 := k1013 _ _ (tup_nea hp10 em10) em10
    have en13 := k1013 _ _ (tup_nea hp10 en10) en10
    have ep13 := k1013 _ _ (tup_nea hp10 ep10) ep10
    have eW13 := k1013 _ _ Wa eW
    have eM : L2.upd H13 M (.lst [.str (rd []), .str (rd u), .str (rd v1), .str (rd v2)]) M = some (.lst [.str (rd []), .str (rd u), .str (rd v1), .str (rd v2)]) := upd_same
    have hp14 := hp13.new (o := .lst [.str (rd []), .str (rd u), .str (rd v1), .str (rd v2)]) nM
    have k014 := ((k010.trans k1013).new (o := .lst [.str (rd []), .str (rd u), .str (rd v1), .str (rd v2)]) nM)
    have sM := (L2.Same.refl H13).new (o := .lst [.str (rd []), .str (rd u), .str (rd v1), .str (rd v2)]) nM
    have em14 := sM _ _ em13
    have en14 := sM _ _ en13
    have ep14 := sM _ _ ep13
    have eW14 := sM _ _ eW13
    generalize L2.upd H13 M (.lst [.str (rd []), .str (rd u), .str (rd v1), .str (rd v2)]) = H14 at *
    refine ⟨_, rfl, a, 4, n + 10139, rfl, by decide, by decide, by omega, hp14, fun st H15 s0 s1 hp15 k15 => ?_⟩
    have eM15 := k15 _ _ (fun z => by rw [z] at eM; obtain ⟨_, _, _, h1, _⟩ := hp14; rw [eM] at h1; cases h1) eM
    obtain ⟨v, ev, lv⟩ : ∃ v : List Bool, atI [V.str (rd []), .str (rd u), .str (rd v1), .str (rd v2)] st = some (.str (rd v)) ∧ v.length ≤ 6 := by
      obtain ⟨j, rfl⟩ := nat_of s0
      have hj : j < 4 := by omega
      match j, hj with
      | 0, _ => exact ⟨[], rfl, Nat.zero_le _⟩
      | 1, _ => exact ⟨u, rfl, by omega⟩
      | 2, _ => exact ⟨v1, rfl, lv1⟩
      | 3, _ => exact ⟨v2, rfl, lv2⟩
    refine ⟨M, _, st, _, rfl, rfl, SqL.of eM15, ev, ?_⟩
    have em15 := k15 _ _ (tup_nea hp14 em14) em14
    have en15 := k15 _ _ (tup_nea hp14 en14) en14
    have ep15 := k15 _ _ (tup_nea hp14 ep14) ep14
    have eW15 := k15 _ _ Wa eW14
    dsimp only [gName, tSeq]
    refine ⟨_, rfl, .inl ⟨rfl, _, SqL.of eW15⟩, _, rfl, _, rfl, a, v, n + 10140, rfl, by omega, by omega, hp15, fun t1 H16 lt1 st1 hp16 k16 => ?_⟩
    have em16 := k16 _ _ (tup_nea hp15 em15) em15
    have en16 := k16 _ _ (tup_nea hp15 en15) en15
    have ep16 := k16 _ _ (tup_nea hp15 ep15) ep15
    have eW16 := k16 _ _ Wa eW15
    refine ⟨W, _, _, rfl, rfl, eW16, by show 1 < sizeLine; decide, ?_⟩
    have k016 := (k014.trans k15).trans k16
    have tW := TupS.lst (o := .lst ([V.str t0] ++ [.str t1])) eW16
    have eW17 : (L2.upd H16 W (.lst ([V.str t0] ++ [.str t1]))) W = some (.lst [.str t0, .str t1]) := upd_same
    have em17 := tW _ _ em16
    have en17 := tW _ _ en16
    have ep17 := tW _ _ ep16
    have hp17 : Pu (L2.upd H16 W (.lst ([V.str t0] ++ [.str t1]))) a (n + 10143) := hp16.upd (Ne.symm Wa)
    have k017 := k016.upd' (o := .lst ([V.str t0] ++ [.str t1])) hW0
    generalize L2.upd H16 W (.lst ([V.str t0] ++ [.str t1])) = H17 at *
    have b9 : ∀ {l : List Int}, (∀ i ∈ l, i.natAbs ≤ 1000) → ∀ i ∈ l, Bd 300 i := fun {l} h i hi => Nat.lt_of_le_of_lt (h i hi) (Nat.lt_of_lt_of_le (show 1000 < 2 ^ 10 by decide) (Nat.pow_le_pow_right (by decide) (by decide)))
    have bm3 := b9 bm
    have br3 := b9 br
    have hall : ∀ t ∈ [t0, t1], t.length ≤ 10000 ∧ Sok t := fun t ht => by
      simp only [List.mem_cons, List.not_mem_nil, or_false] at ht
      rcases ht with rfl | rfl
      · exact ⟨by omega, st0⟩
      · exact ⟨by omega, st1⟩
    refine ⟨_, rfl, _, rfl, _, rfl, _, rfl, _, rfl, way, pm, pn, pp, W, m, r, x, y, t0, t1, rfl, hway, em17, en17, ep17, eW17, fun i hi => (bm3 i hi).up (by decide), fun i hi => (br3 i hi).up (by decide), hall, fun H18 D s18 nD eD => ?_⟩
    have k018 := k017.trans (Kp.of s18)
    have hp18 := hp17.same s18
    have em18 := s18 _ _ em17
    have en18 := s18 _ _ en17
    have ep18 := s18 _ _ ep17
    have eW18 := s18 _ _ eW17
    dsimp only [gName, tAsg, tC]
    have cl : ∀ k v, dueM way pm pn pp m r x y t0 t1 = some (k, v) → k < 11 ∧ (∃ C, PySem.W.nsIn K mainGlobals (errM k) = some (some (.ref C)) ∧ Fx K C k ∧ PySem.W.exmOne K (.ref C) (.ref T.c_RoadError) = some true) ∧
        ∃ dat, (∀ H', Same H18 H' → Dp K H' v dat) ∧ Shw dat ∧ (PyData.canLay0 dat = true ∧ dat.depth ≤ 60) := fun k v h => by
      have mapC : ∀ (p : Addr) (z : M4), H18 p = some (.tup (z.l.map V.int)) → (∀ i ∈ z.l, Bd 300 i) → (2 < 11 ∧ (∃ C, PySem.W.nsIn K mainGlobals (errM 2) = some (some (.ref C)) ∧ Fx K C 2 ∧ PySem.W.exmOne K (.ref C) (.ref T.c_RoadError) = some true) ∧ ∃ dat, (∀ H', Same H18 H' → Dp K H' (.ref p) dat) ∧ Shw dat ∧ (PyData.canLay0 dat = true ∧ dat.depth ≤ 60)) := fun p z e b =>
        ⟨by decide, ⟨_, T.n_InvalidMap, fx_InvalidMap T, T.x_InvalidMap_RoadError⟩, tupD z.l, fun H' s => dp_tup (SqT.of (s _ _ e)), shw_tup (fun i hi => (b i hi).sml) (by show 4 ≤ 8000; decide), lay_ints z.l, by show PyData.depthAll (intsD z.l) + 1 ≤ 60; rw [depth0_ints]; decide⟩
      by_cases c1 : Mp m
      · by_cases c2 : way = 2 ∧ ¬ Mp r
        · obtain ⟨e2, nr⟩ := c2
          subst e2
          rw [dueM_n c1 nr] at h
          cases Option.some.inj h
          exact mapC pn r en18 br3
        · by_cases c3 : (way = 1 ∨ way = 4) ∧ ¬ FracP x y
          · rw [dueM_f c1 c3.1 c3.2] at h
            cases Option.some.inj h
            exact ⟨by decide, ⟨_, T.n_InvalidFraction, fx_InvalidFraction T, T.x_InvalidFraction_RoadError⟩, tupD [x, y], fun H' s => dp_tup (SqT.of (s _ _ ep18)), shw2 bx.sml by'.sml, rfl, by show 1 ≤ 60; decide⟩
          · by_cases c4 : way = 7
            · subst c4
              rw [dueM_7 c1] at h
              cases hF : Fo [(t0, 0), (t1, 2)] with
              | none =>
                rw [hF] at h
                cases h
              | some t =>
                rw [hF] at h
                cases Option.some.inj h
                obtain ⟨z, hz, ez⟩ := fo_mem hF
                have ht : t ∈ [t0, t1] := by
                  rw [← ez]
                  simp only [List.mem_cons, List.not_mem_nil, or_false] at hz
                  rcases hz with rfl | rfl <;> simp
                refine ⟨by decide, ⟨_, T.n_InvalidRoad, fx_InvalidRoad T, T.x_InvalidRoad_RoadError⟩, .str t, fun _ _ => .str _, shw_txt (hall t ht).2 ?_, str_ok (hall t ht).2, by show 0 ≤ 60; decide⟩
                simp only [List.mem_cons, List.not_mem_nil, or_false] at ht
                rcases ht with rfl | rfl <;> omega
            · rw [dueM_no c1 c4 (fun e => Classical.byContradiction fun z => c2 ⟨e, z⟩) (fun e => Classical.byContradiction fun z => c3 ⟨e, z⟩)] at h
              cases h
      · rw [dueM_m c1] at h
        cases Option.some.inj h
        exact mapC pm m em18 bm3
    show tSeq _ _ _ [some (.ref a), some (.int (way : Int)), some (.int named), some (.ref pm), some (.ref pn), some (.ref pp), some (.ref W), some (.str (rd v)), some (.ref D), none, none] H18
    refine asgSeq ?_
    obtain ⟨PP, hPP⟩ : ∃ PP : L2.St → Hp → Prop, PP = (fun σ' H' => ∃ cv : V, σ' = [some (.ref a), some (.int (way : Int)), some (.int named), some (.ref pm), some (.ref pn), some (.ref pp), some (.ref W), some (.str (rd v)), some (.ref D), some cv, none] ∧ Same H18 H' ∧
      ((dueM way pm pn pp m r x y t0 t1 = none ∧ cv = .non) ∨ ∃ (k : Nat) (v : V) (e C d : Addr) (dat : PyData), dueM way pm pn pp m r x y t0 t1 = some (k, v) ∧ cv = .ref e ∧ k < 11 ∧ Fx K C k ∧ H' e = some (ExV C d e) ∧ H' d = some (.xd [("value", v)]) ∧ (∀ H', Same H18 H' → Dp K H' v dat) ∧ Shw dat ∧ (PyData.canLay0 dat = true ∧ dat.depth ≤ 60))) := ⟨_, rfl⟩
    have tail : ∀ σ' H', PP σ' H' → tSeq (tIfS (tTest (tOp (rEqD K) (tVar 8) (tLst tNil))) (tRet (tOp (fun x y H Q => y = V.non ∧ Q (V.bl (decide (x = V.non))) H) (tVar 9) (tC V.non))) tNext) (tRet (tAndV (tOp (fun x y H Q => y = V.non ∧ Q (V.bl (!decide (x = V.non))) H) (tVar 9) (tC V.non)) (tCall (sp__law_rt_kind K) [] E0 (tCons (tVar 9) (tCons (tOp (rIxL K) (tVar 8) (tC (V.int 0))) (tCons (tOp (rIxL K) (tVar 8) (tC (V.int 1))) tNil)))))) { nx := fun x H' => Q V.non H', rt := Q } σ' H' := fun σ' H' z => by
      rw [hPP] at z
      obtain ⟨cv, rfl, s11, z⟩ := z
      have hp11 := hp18.same s11
      have k11 := k018.trans (Kp.of s11)
      refine ⟨_, rfl, sz (by show 0 ≤ 1000000; decide), fun E0 nE0 => ?_⟩
      have s12 := (L2.Same.refl H').new (o := .lst []) nE0
      have eE : L2.upd H' E0 (.lst []) E0 = some (.lst []) := upd_same
      revert s12 eE
      generalize L2.upd H' E0 (.lst []) = H12
      intro s12 eE
      rcases z with ⟨hd, rfl⟩ | ⟨k, v, e, C, d, dat, hd, rfl, kl, fx, ee, ed, dp, sh, lay⟩
      · rw [hd] at eD
        have eD12 := s12 _ _ (s11 _ _ (show H18 D = some (.lst []) from eD))
        refine ⟨.list [], .list [], .lst (SqL.of eD12) .nil, .lst (SqL.of eE) .nil, rfl, rfl, _, rfl, iteT ⟨_, rfl, rfl, ?_⟩⟩
        exact q H12 ((hp11.same s12).le (by omega)) (k11.trans (Kp.of s12))
      · rw [hd] at eD
        have eD12 := s12 _ _ (s11 _ _ (show H18 D = some (.lst [.int (k : Nat), v]) from eD))
        refine ⟨.list [.int k, dat], .list [], .lst (SqL.of eD12) (.cons (.int _) (.cons (dp _ (s11.trans s12)) .nil)), .lst (SqL.of eE) .nil, ?_, rfl, _, rfl, iteF ?_⟩
        · exact due_shaped lay
        refine ⟨_, rfl, rfl, _, rfl, iteT ?_⟩
        refine ⟨_, rfl, _, rfl, D, _, _, _, rfl, rfl, SqL.of eD12, rfl, _, rfl, D, _, _, _, rfl, rfl, SqL.of eD12, rfl, ?_⟩
        refine ⟨e, C, d, k, v, v, dat, rfl, kl, fx, s12 _ _ ee, s12 _ _ ed, fun H3 s3 => ⟨dp _ ((s11.trans s12).trans s3), dp _ ((s11.trans s12).trans s3)⟩, sh, fun H3 s3 => ?_⟩
        exact q H3 (((hp11.same s12).same s3).le (by omega)) ((k11.trans (Kp.of s12)).trans (Kp.of s3))
    have raised : ∀ Dx : Ends, (∀ σ' H', PP σ' H' → Dx.nx σ' H') → ∀ k v', dueM way pm pn pp m r x y t0 t1 = some (k, v') → Rs K H18 (fun cls d H' => wAsK K (.ref T.c_RoadError) 10 (fun a cls d => tAsg (tVar 10) (gName 9)) Dx cls d [some (.ref a), some (.int (way : Int)), some (.int named), some (.ref pm), some (.ref pn), some (.ref pp), some (.ref W), some (.str (rd v)), some (.ref D), some .non, none] H') (errM k) v' := fun Dx hx k v' hd H1 s1 C d hC nd => by
      obtain ⟨k11, ⟨C', hC', fx, xm⟩, dat, dp, sh, lay⟩ := cl k v' hd
      cases ns_one hC hC'
      refine ⟨xm, C, d, rfl, rfl, fun e ne => ⟨_, rfl, ?_⟩⟩
      have dne : d ≠ e := ne_of_none upd_same ne
      refine hx _ _ ?_
      rw [hPP]
      exact ⟨.ref e, rfl, (s1.new nd).new ne, .inr ⟨k, v', e, C, d, dat, hd, rfl, k11, fx, upd_same, by rw [upd_ne dne]; exact upd_same, dp, sh, lay⟩⟩
    have fine : dueM way pm pn pp m r x y t0 t1 = none → ∀ H', Same H18 H' → PP [some (.ref a), some (.int (way : Int)), some (.int named), some (.ref pm), some (.ref pn), some (.ref pp), some (.ref W), some (.str (rd v)), some (.ref D), some .non, none] H' := fun hd H' s => by
      rw [hPP]
      exact ⟨.non, rfl, s, .inl ⟨hd, rfl⟩⟩
    refine ⟨_, rfl, rfl, _, rfl, bl2 (fun _ => ?_) (fun _ => ?_)⟩
    · exact ⟨_, rfl, _, rfl, _, rfl, _, rfl, _, rfl, way, pm, pn, pp, W, m, r, x, y, t0, t1, rfl, hway, em18, en18, ep18, eW18, bm3, br3, ok, bx.up (by decide), by'.up (by decide), by omega, by omega, raised _ tail, fun hd v' H' s => tail _ _ (fine hd H' s)⟩
    · exact ⟨_, rfl, _, rfl, _, rfl, _, rfl, _, rfl, way, pm, pn, pp, W, m, r, x, y, t0, t1, rfl, hway, em18, en18, ep18, eW18, bm3, br3, ok, bx.up (by decide), by'.up (by decide), by omega, by omega, raised _ tail, fun hd v' H' s => tail _ _ (fine hd H' s)⟩

/-! law -/
def sp_law (K : PySem.W.Frag) : Sp := fun vs H Q _ => ∃ (a : Addr) (ns : List Int), vs = [.ref a] ∧ SqL K H a (ns.map V.int) ∧ ns.length ≤ 63 ∧ ∀ H', Q (.bl true) H'
theorem ok_law (T : Tx K mg) : FnG P w K mg base CX0 9 T.a_law T.fd_law ["script"] (sp_law K) := by
  have G__law_purse := ok__law_purse (P := P) (w := w) (base := base) T
  have G__law_right := ok__law_right (P := P) (w := w) (base := base) T
  refine okG T.F_law sc_law (fun vs H Q E h => ?_) (fun cdv A outer s H vs Q E hG hr h => ?_)
  · obtain ⟨a, ns, rfl, _⟩ := h
    rfl
  · obtain ⟨a, ns, rfl, hS, hl, q⟩ := h
    refine ⟨_, (pss_cons (ps_for PassesOwn.never rfl (pi_range1 (by rfl) T.z_range (pa_cons (pe_callB (call_max2 rfl) (by rfl) T.z_max (by decide +kernel) (pa_cons pe_int (pa_cons (pe_callB (call_min2 rfl) (by rfl) T.z_min (by decide +kernel) (pa_cons pe_int (pa_cons (pe_callB call_len_seq (by rfl) T.z_len (by decide +kernel) (pa_cons (pv 0) pa_nil)) pa_nil))) pa_nil))) pa_nil)) (pg_name (i := 1) sc_law.nd rfl (Or.inl rfl))
    (pss_cons (ps_set (i := 2) sc_law.nd rfl (Or.inl rfl) (pe_call G__law_purse (hr.mono (by decide)) (by rfl) T.g__law_purse T.F__law_purse.kp (b__law_purse T.F__law_purse) .nil pass0 (pa_cons (pv 0) (pa_cons (pv 1) pa_nil))))
  (pss_one (ps_for PassesOwn.never rfl (pi_range1 (by rfl) T.z_range (pa_cons pe_int pa_nil)) (pg_name (i := 3) sc_law.nd rfl (Or.inl rfl))
    (pss_one (ps_if (pt_not (pt_val (pe_callG G__law_right hG (hr.mono (by decide)) (by rfl) T.g__law_right T.F__law_right.kp (b__law_right T.F__law_right) pass0 (pa_cons (pv 2) pa_nil)))) (pss_one (ps_ret pe_bl)) pss_nil))))))
  (pss_one (ps_ret pe_bl))), ?_⟩
    refine ⟨_, rfl, a, _, rfl, .inl hS, _, _, rfl, _, _, rfl, ?_⟩
    have hn : (((ns.map V.int).length : Nat) : Int) ≤ 63 := by rw [List.length_map]; omega
    generalize (((ns.map V.int).length : Nat) : Int) = m at hn
    refine ⟨_, rfl, ?_, ?_, for_range (lo := 0) (fun i σ H2 => ∃ x y z, σ = [some (.ref a), x, y, z] ∧ SqL K H2 a (ns.map V.int)) ⟨none, none, none, rfl, hS⟩ ?_ ?_⟩
    · split <;> split <;> omega
    · split <;> split <;> omega
    · rintro i σ H2 hi ⟨x, y, z, rfl, hS2⟩
      have hi : i < 63 := law_i hi (by decide) (by decide)
      refine ⟨_, rfl, _, rfl, a, ns, _, rfl, hS2, hl, by omega, by omega, fun H3 p sm np hp => ?_⟩
      refine ⟨4, rfl, by decide, by decide, for_range (lo := 0) (n := 4) (fun j σ H4 => ∃ x, σ = [some (.ref a), some (.int (0 + (i : Int))), some (.ref p), x] ∧ Pu H4 p (20000 * j) ∧ Kp p H3 H4) ⟨_, rfl, hp, Kp.refl p H3⟩ ?_ ?_⟩
      · rintro j σ H4 hj ⟨x, rfl, hp4, k4⟩
        exact ⟨_, rfl, p, 20000 * j, rfl, by omega, hp4, fun H5 hp5 k5 => ⟨true, rfl, iteF ⟨_, rfl, hp5.le (by omega), k4.trans k5⟩⟩⟩
      · rintro σ H4 ⟨x, rfl, hp4, k4⟩
        exact ⟨_, _, _, rfl, (same_kp sm np k4).seq hS2⟩
    · rintro σ H2 ⟨x, y, z, rfl, hS2⟩
      exact q _
theorem law_in {K : PySem.W.Frag} {n : Nat} {H : Hp} {a : Addr} {ns : List Int} (hl : ns.length ≤ 63) (hb : ∀ z ∈ ns, Builtin.Int.intBits z ≤ 1048576) (hS : SqL K H a (ns.map V.int)) (ho : ∀ b, b ≠ a → H b = none) : sp_law K [.ref a] H (fun v _ => v = .bl true) fun _ _ _ => False :=
  ⟨a, ns, rfl, hS, hl, fun _ => rfl⟩

end
/-! what the top has left -/
theorem mk_tx {K : PySem.W.Frag} {h : Heap} {mg : Str → Option Value} {f0 f1 f2 f3 f4 f5 f6 f7 f8 f9 f10 f11 f12 f13 f14 f15 f16 f17 f18 f19 f20 f21 f22 f23 f24 f25 f26 f27 f28 f29 f30 f31 f32 f33 f34 f35 f36 f37 f38 f39 f40 f41 f42 f43 f44 f45 f46 f47 f48 f49 f50 f51 f52 f53 f54 : Addr} (X : K.In h) (G : h.Ns mainGlobals mg)
    {od0 an0 od1 an1 od2 an2 od3 an3 od4 an4 od5 an5 od6 an6 od7 an7 od8 an8 od9 an9 od10 an10 od11 an11 od12 an12 od13 an13 od14 an14 od15 an15 od16 an16 od17 an17 od18 an18 od19 an19 od20 an20 od21 an21 od22 an22 od23 an23 od24 an24 od25 an25 od26 an26 od27 an27 od28 an28 od29 an29 od30 an30 od31 an31 od32 an32 od33 an33 od34 an34 od35 an35 od36 an36 od37 an37 od38 an38 od39 an39 od40 an40 od41 an41 od42 an42 od43 an43 od44 an44 od45 an45 od46 an46 od47 an47 od48 an48 od49 an49 od50 an50 od51 an51 od52 an52 od53 an53 od54 an54 : Option Addr} {sl0 sl1 sl2 sl3 sl4 sl5 sl6 sl7 sl8 sl9 sl10 sl11 sl12 sl13 sl14 sl15 sl16 sl17 sl18 sl19 sl20 sl21 sl22 sl23 sl24 sl25 sl26 sl27 sl28 sl29 sl30 sl31 sl32 sl33 sl34 sl35 sl36 sl37 sl38 sl39 sl40 sl41 sl42 sl43 sl44 sl45 sl46 sl47 sl48 sl49 sl50 sl51 sl52 sl53 sl54 : Array (Option Value)} {oc0 kV0 dc0 pm0 cd0 ct0 oc1 kV1 dc1 pm1 cd1 ct1 oc2 kV2 dc2 pm2 cd2 ct2 oc3 kV3 dc3 pm3 cd3 ct3 oc4 kV4 dc4 pm4 cd4 ct4 oc5 kV5 dc5 pm5 cd5 ct5 oc6 kV6 dc6 pm6 cd6 ct6 oc7 kV7 dc7 pm7 cd7 ct7 oc8 kV8 dc8 pm8 cd8 ct8 oc9 kV9 dc9 pm9 cd9 ct9 oc10 kV10 dc10 pm10 cd10 ct10 oc11 kV11 dc11 pm11 cd11 ct11 oc12 kV12 dc12 pm12 cd12 ct12 oc13 kV13 dc13 pm13 cd13 ct13 oc14 kV14 dc14 pm14 cd14 ct14 oc15 kV15 dc15 pm15 cd15 ct15 oc16 kV16 dc16 pm16 cd16 ct16 oc17 kV17 dc17 pm17 cd17 ct17 oc18 kV18 dc18 pm18 cd18 ct18 oc19 kV19 dc19 pm19 cd19 ct19 oc20 kV20 dc20 pm20 cd20 ct20 oc21 kV21 dc21 pm21 cd21 ct21 oc22 kV22 dc22 pm22 cd22 ct22 oc23 kV23 dc23 pm23 cd23 ct23 oc24 kV24 dc24 pm24 cd24 ct24 oc25 kV25 dc25 pm25 cd25 ct25 oc26 kV26 dc26 pm26 cd26 ct26 oc27 kV27 dc27 pm27 cd27 ct27 oc28 kV28 dc28 pm28 cd28 ct28 oc29 kV29 dc29 pm29 cd29 ct29 oc30 kV30 dc30 pm30 cd30 ct30 oc31 kV31 dc31 pm31 cd31 ct31 oc32 kV32 dc32 pm32 cd32 ct32 oc33 kV33 dc33 pm33 cd33 ct33 oc34 kV34 dc34 pm34 cd34 ct34 oc35 kV35 dc35 pm35 cd35 ct35 oc36 kV36 dc36 pm36 cd36 ct36 oc37 kV37 dc37 pm37 cd37 ct37 oc38 kV38 dc38 pm38 cd38 ct38 oc39 kV39 dc39 pm39 cd39 ct39 oc40 kV40 dc40 pm40 cd40 ct40 oc41 kV41 dc41 pm41 cd41 ct41 oc42 kV42 dc42 pm42 cd42 ct42 oc43 kV43 dc43 pm43 cd43 ct43 oc44 kV44 dc44 pm44 cd44 ct44 oc45 kV45 dc45 pm45 cd45 ct45 oc46 kV46 dc46 pm46 cd46 ct46 oc47 kV47 dc47 pm47 cd47 ct47 oc48 kV48 dc48 pm48 cd48 ct48 oc49 kV49 dc49 pm49 cd49 ct49 oc50 kV50 dc50 pm50 cd50 ct50 oc51 kV51 dc51 pm51 cd51 ct51 oc52 kV52 dc52 pm52 cd52 ct52 oc53 kV53 dc53 pm53 cd53 ct53 oc54 kV54 dc54 pm54 cd54 ct54 : Value}
    (a0 : PySem.W.nsIn K mainGlobals "_law_purse" = some (some (.ref f0))) (l0 : K.lookup f0 = some ⟨oc0, od0, .func (PySem.W.fnOf "_law_purse" "_law_purse" (defArgs s__law_purse) (defBody s__law_purse) (defScope s__law_purse) .none kV0 dc0 pm0 an0 cd0 ct0), sl0⟩) (c0 : PySem.W.codeIn K cd0 "_law_purse" = true) (k0 : PySem.W.keepIn K (.ref f0) = true)
    (a1 : PySem.W.nsIn K mainGlobals "_law_rt_first_odd" = some (some (.ref f1))) (l1 : K.lookup f1 = some ⟨oc1, od1, .func (PySem.W.fnOf "_law_rt_first_odd" "_law_rt_first_odd" (defArgs s__law_rt_first_odd) (defBody s__law_rt_first_odd) (defScope s__law_rt_first_odd) .none kV1 dc1 pm1 an1 cd1 ct1), sl1⟩) (c1 : PySem.W.codeIn K cd1 "_law_rt_first_odd" = true) (k1 : PySem.W.keepIn K (.ref f1) = true)
    (a2 : PySem.W.nsIn K mainGlobals "_law_rt_size" = some (some (.ref f2))) (l2 : K.lookup f2 = some ⟨oc2, od2, .func (PySem.W.fnOf "_law_rt_size" "_law_rt_size" (defArgs s__law_rt_size) (defBody s__law_rt_size) (defScope s__law_rt_size) .none kV2 dc2 pm2 an2 cd2 ct2), sl2⟩) (c2 : PySem.W.codeIn K cd2 "_law_rt_size" = true) (k2 : PySem.W.keepIn K (.ref f2) = true)
    (a3 : PySem.W.nsIn K mainGlobals "_law_rt_shared" = some (some (.ref f3))) (l3 : K.lookup f3 = some ⟨oc3, od3, .func (PySem.W.fnOf "_law_rt_shared" "_law_rt_shared" (defArgs s__law_rt_shared) (defBody s__law_rt_shared) (defScope s__law_rt_shared) .none kV3 dc3 pm3 an3 cd3 ct3), sl3⟩) (c3 : PySem.W.codeIn K cd3 "_law_rt_shared" = true) (k3 : PySem.W.keepIn K (.ref f3) = true)
    (a4 : PySem.W.nsIn K mainGlobals "_law_rt_is_map" = some (some (.ref f4))) (l4 : K.lookup f4 = some ⟨oc4, od4, .func (PySem.W.fnOf "_law_rt_is_map" "_law_rt_is_map" (defArgs s__law_rt_is_map) (defBody s__law_rt_is_map) (defScope s__law_rt_is_map) .none kV4 dc4 pm4 an4 cd4 ct4), sl4⟩) (c4 : PySem.W.codeIn K cd4 "_law_rt_is_map" = true) (k4 : PySem.W.keepIn K (.ref f4) = true)
    (a5 : PySem.W.nsIn K mainGlobals "_law_rt_is_pair" = some (some (.ref f5))) (l5 : K.lookup f5 = some ⟨oc5, od5, .func (PySem.W.fnOf "_law_rt_is_pair" "_law_rt_is_pair" (defArgs s__law_rt_is_pair) (defBody s__law_rt_is_pair) (defScope s__law_rt_is_pair) .none kV5 dc5 pm5 an5 cd5 ct5), sl5⟩) (c5 : PySem.W.codeIn K cd5 "_law_rt_is_pair" = true) (k5 : PySem.W.keepIn K (.ref f5) = true)
    (a6 : PySem.W.nsIn K mainGlobals "_law_due" = some (some (.ref f6))) (l6 : K.lookup f6 = some ⟨oc6, od6, .func (PySem.W.fnOf "_law_due" "_law_due" (defArgs s__law_due) (defBody s__law_due) (defScope s__law_due) .none kV6 dc6 pm6 an6 cd6 ct6), sl6⟩) (c6 : PySem.W.codeIn K cd6 "_law_due" = true) (k6 : PySem.W.keepIn K (.ref f6) = true)
    (a7 : PySem.W.nsIn K mainGlobals "_law_coin" = some (some (.ref f7))) (l7 : K.lookup f7 = some ⟨oc7, od7, .func (PySem.W.fnOf "_law_coin" "_law_coin" (defArgs s__law_coin) (defBody s__law_coin) (defScope s__law_coin) .none kV7 dc7 pm7 an7 cd7 ct7), sl7⟩) (c7 : PySem.W.codeIn K cd7 "_law_coin" = true) (k7 : PySem.W.keepIn K (.ref f7) = true)
    (a8 : PySem.W.nsIn K mainGlobals "_law_rt_low" = some (some (.ref f8))) (l8 : K.lookup f8 = some ⟨oc8, od8, .func (PySem.W.fnOf "_law_rt_low" "_law_rt_low" (defArgs s__law_rt_low) (defBody s__law_rt_low) (defScope s__law_rt_low) .none kV8 dc8 pm8 an8 cd8 ct8), sl8⟩) (c8 : PySem.W.codeIn K cd8 "_law_rt_low" = true) (k8 : PySem.W.keepIn K (.ref f8) = true)
    (a9 : PySem.W.nsIn K mainGlobals "_law_rt_ends" = some (some (.ref f9))) (l9 : K.lookup f9 = some ⟨oc9, od9, .func (PySem.W.fnOf "_law_rt_ends" "_law_rt_ends" (defArgs s__law_rt_ends) (defBody s__law_rt_ends) (defScope s__law_rt_ends) .none kV9 dc9 pm9 an9 cd9 ct9), sl9⟩) (c9 : PySem.W.codeIn K cd9 "_law_rt_ends" = true) (k9 : PySem.W.keepIn K (.ref f9) = true)
    (a10 : PySem.W.nsIn K mainGlobals "_law_rt_turns" = some (some (.ref f10))) (l10 : K.lookup f10 = some ⟨oc10, od10, .func (PySem.W.fnOf "_law_rt_turns" "_law_rt_turns" (defArgs s__law_rt_turns) (defBody s__law_rt_turns) (defScope s__law_rt_turns) .none kV10 dc10 pm10 an10 cd10 ct10), sl10⟩) (c10 : PySem.W.codeIn K cd10 "_law_rt_turns" = true) (k10 : PySem.W.keepIn K (.ref f10) = true)
    (a11 : PySem.W.nsIn K mainGlobals "_law_rt_way" = some (some (.ref f11))) (l11 : K.lookup f11 = some ⟨oc11, od11, .func (PySem.W.fnOf "_law_rt_way" "_law_rt_way" (defArgs s__law_rt_way) (defBody s__law_rt_way) (defScope s__law_rt_way) .none kV11 dc11 pm11 an11 cd11 ct11), sl11⟩) (c11 : PySem.W.codeIn K cd11 "_law_rt_way" = true) (k11 : PySem.W.keepIn K (.ref f11) = true)
    (a12 : PySem.W.nsIn K mainGlobals "_law_rt_times" = some (some (.ref f12))) (l12 : K.lookup f12 = some ⟨oc12, od12, .func (PySem.W.fnOf "_law_rt_times" "_law_rt_times" (defArgs s__law_rt_times) (defBody s__law_rt_times) (defScope s__law_rt_times) .none kV12 dc12 pm12 an12 cd12 ct12), sl12⟩) (c12 : PySem.W.codeIn K cd12 "_law_rt_times" = true) (k12 : PySem.W.keepIn K (.ref f12) = true)
    (a13 : PySem.W.nsIn K mainGlobals "_law_rt_map" = some (some (.ref f13))) (l13 : K.lookup f13 = some ⟨oc13, od13, .func (PySem.W.fnOf "_law_rt_map" "_law_rt_map" (defArgs s__law_rt_map) (defBody s__law_rt_map) (defScope s__law_rt_map) .none kV13 dc13 pm13 an13 cd13 ct13), sl13⟩) (c13 : PySem.W.codeIn K cd13 "_law_rt_map" = true) (k13 : PySem.W.keepIn K (.ref f13) = true)
    (a14 : PySem.W.nsIn K mainGlobals "_law_rt_odd_map" = some (some (.ref f14))) (l14 : K.lookup f14 = some ⟨oc14, od14, .func (PySem.W.fnOf "_law_rt_odd_map" "_law_rt_odd_map" (defArgs s__law_rt_odd_map) (defBody s__law_rt_odd_map) (defScope s__law_rt_odd_map) .none kV14 dc14 pm14 an14 cd14 ct14), sl14⟩) (c14 : PySem.W.codeIn K cd14 "_law_rt_odd_map" = true) (k14 : PySem.W.keepIn K (.ref f14) = true)
    (a15 : PySem.W.nsIn K mainGlobals "_law_rt_worth" = some (some (.ref f15))) (l15 : K.lookup f15 = some ⟨oc15, od15, .func (PySem.W.fnOf "_law_rt_worth" "_law_rt_worth" (defArgs s__law_rt_worth) (defBody s__law_rt_worth) (defScope s__law_rt_worth) .none kV15 dc15 pm15 an15 cd15 ct15), sl15⟩) (c15 : PySem.W.codeIn K cd15 "_law_rt_worth" = true) (k15 : PySem.W.keepIn K (.ref f15) = true)
    (a16 : PySem.W.nsIn K mainGlobals "_law_rt_fraction" = some (some (.ref f16))) (l16 : K.lookup f16 = some ⟨oc16, od16, .func (PySem.W.fnOf "_law_rt_fraction" "_law_rt_fraction" (defArgs s__law_rt_fraction) (defBody s__law_rt_fraction) (defScope s__law_rt_fraction) .none kV16 dc16 pm16 an16 cd16 ct16), sl16⟩) (c16 : PySem.W.codeIn K cd16 "_law_rt_fraction" = true) (k16 : PySem.W.keepIn K (.ref f16) = true)
    (a17 : PySem.W.nsIn K mainGlobals "_law_rt_odd_pair" = some (some (.ref f17))) (l17 : K.lookup f17 = some ⟨oc17, od17, .func (PySem.W.fnOf "_law_rt_odd_pair" "_law_rt_odd_pair" (defArgs s__law_rt_odd_pair) (defBody s__law_rt_odd_pair) (defScope s__law_rt_odd_pair) .none kV17 dc17 pm17 an17 cd17 ct17), sl17⟩) (c17 : PySem.W.codeIn K cd17 "_law_rt_odd_pair" = true) (k17 : PySem.W.keepIn K (.ref f17) = true)
    (a18 : PySem.W.nsIn K mainGlobals "_law_rt_odd_way" = some (some (.ref f18))) (l18 : K.lookup f18 = some ⟨oc18, od18, .func (PySem.W.fnOf "_law_rt_odd_way" "_law_rt_odd_way" (defArgs s__law_rt_odd_way) (defBody s__law_rt_odd_way) (defScope s__law_rt_odd_way) .none kV18 dc18 pm18 an18 cd18 ct18), sl18⟩) (c18 : PySem.W.codeIn K cd18 "_law_rt_odd_way" = true) (k18 : PySem.W.keepIn K (.ref f18) = true)
    (a19 : PySem.W.nsIn K mainGlobals "_law_rt_kind" = some (some (.ref f19))) (l19 : K.lookup f19 = some ⟨oc19, od19, .func (PySem.W.fnOf "_law_rt_kind" "_law_rt_kind" (defArgs s__law_rt_kind) (defBody s__law_rt_kind) (defScope s__law_rt_kind) .none kV19 dc19 pm19 an19 cd19 ct19), sl19⟩) (c19 : PySem.W.codeIn K cd19 "_law_rt_kind" = true) (k19 : PySem.W.keepIn K (.ref f19) = true)
    (a20 : PySem.W.nsIn K mainGlobals "_law_rt_ring" = some (some (.ref f20))) (l20 : K.lookup f20 = some ⟨oc20, od20, .func (PySem.W.fnOf "_law_rt_ring" "_law_rt_ring" (defArgs s__law_rt_ring) (defBody s__law_rt_ring) (defScope s__law_rt_ring) .none kV20 dc20 pm20 an20 cd20 ct20), sl20⟩) (c20 : PySem.W.codeIn K cd20 "_law_rt_ring" = true) (k20 : PySem.W.keepIn K (.ref f20) = true)
    (a21 : PySem.W.nsIn K mainGlobals "is_undivided_map" = some (some (.ref f21))) (l21 : K.lookup f21 = some ⟨oc21, od21, .func (PySem.W.fnOf "is_undivided_map" "is_undivided_map" (defArgs s_is_undivided_map) (defBody s_is_undivided_map) (defScope s_is_undivided_map) .none kV21 dc21 pm21 an21 cd21 ct21), sl21⟩) (c21 : PySem.W.codeIn K cd21 "is_undivided_map" = true) (k21 : PySem.W.keepIn K (.ref f21) = true)
    (a22 : PySem.W.nsIn K mainGlobals "is_map" = some (some (.ref f22))) (l22 : K.lookup f22 = some ⟨oc22, od22, .func (PySem.W.fnOf "is_map" "is_map" (defArgs s_is_map) (defBody s_is_map) (defScope s_is_map) .none kV22 dc22 pm22 an22 cd22 ct22), sl22⟩) (c22 : PySem.W.codeIn K cd22 "is_map" = true) (k22 : PySem.W.keepIn K (.ref f22) = true)
    (a23 : PySem.W.nsIn K mainGlobals "check_map" = some (some (.ref f23))) (l23 : K.lookup f23 = some ⟨oc23, od23, .func (PySem.W.fnOf "check_map" "check_map" (defArgs s_check_map) (defBody s_check_map) (defScope s_check_map) .none kV23 dc23 pm23 an23 cd23 ct23), sl23⟩) (c23 : PySem.W.codeIn K cd23 "check_map" = true) (k23 : PySem.W.keepIn K (.ref f23) = true)
    (a24 : PySem.W.nsIn K mainGlobals "list_of" = some (some (.ref f24))) (l24 : K.lookup f24 = some ⟨oc24, od24, .func (PySem.W.fnOf "list_of" "list_of" (defArgs s_list_of) (defBody s_list_of) (defScope s_list_of) .none kV24 dc24 pm24 an24 cd24 ct24), sl24⟩) (c24 : PySem.W.codeIn K cd24 "list_of" = true) (k24 : PySem.W.keepIn K (.ref f24) = true)
    (a25 : PySem.W.nsIn K mainGlobals "fraction_above_zero" = some (some (.ref f25))) (l25 : K.lookup f25 = some ⟨oc25, od25, .func (PySem.W.fnOf "fraction_above_zero" "fraction_above_zero" (defArgs s_fraction_above_zero) (defBody s_fraction_above_zero) (defScope s_fraction_above_zero) .none kV25 dc25 pm25 an25 cd25 ct25), sl25⟩) (c25 : PySem.W.codeIn K cd25 "fraction_above_zero" = true) (k25 : PySem.W.keepIn K (.ref f25) = true)
    (a26 : PySem.W.nsIn K mainGlobals "ring_of_root" = some (some (.ref f26))) (l26 : K.lookup f26 = some ⟨oc26, od26, .func (PySem.W.fnOf "ring_of_root" "ring_of_root" (defArgs s_ring_of_root) (defBody s_ring_of_root) (defScope s_ring_of_root) .none kV26 dc26 pm26 an26 cd26 ct26), sl26⟩) (c26 : PySem.W.codeIn K cd26 "ring_of_root" = true) (k26 : PySem.W.keepIn K (.ref f26) = true)
    (a27 : PySem.W.nsIn K mainGlobals "fixed" = some (some (.ref f27))) (l27 : K.lookup f27 = some ⟨oc27, od27, .func (PySem.W.fnOf "fixed" "fixed" (defArgs s_fixed) (defBody s_fixed) (defScope s_fixed) .none kV27 dc27 pm27 an27 cd27 ct27), sl27⟩) (c27 : PySem.W.codeIn K cd27 "fixed" = true) (k27 : PySem.W.keepIn K (.ref f27) = true)
    (a28 : PySem.W.nsIn K mainGlobals "size" = some (some (.ref f28))) (l28 : K.lookup f28 = some ⟨oc28, od28, .func (PySem.W.fnOf "size" "size" (defArgs s_size) (defBody s_size) (defScope s_size) .none kV28 dc28 pm28 an28 cd28 ct28), sl28⟩) (c28 : PySem.W.codeIn K cd28 "size" = true) (k28 : PySem.W.keepIn K (.ref f28) = true)
    (a29 : PySem.W.nsIn K mainGlobals "is_fraction" = some (some (.ref f29))) (l29 : K.lookup f29 = some ⟨oc29, od29, .func (PySem.W.fnOf "is_fraction" "is_fraction" (defArgs s_is_fraction) (defBody s_is_fraction) (defScope s_is_fraction) .none kV29 dc29 pm29 an29 cd29 ct29), sl29⟩) (c29 : PySem.W.codeIn K cd29 "is_fraction" = true) (k29 : PySem.W.keepIn K (.ref f29) = true)
    (a30 : PySem.W.nsIn K mainGlobals "check_fraction" = some (some (.ref f30))) (l30 : K.lookup f30 = some ⟨oc30, od30, .func (PySem.W.fnOf "check_fraction" "check_fraction" (defArgs s_check_fraction) (defBody s_check_fraction) (defScope s_check_fraction) .none kV30 dc30 pm30 an30 cd30 ct30), sl30⟩) (c30 : PySem.W.codeIn K cd30 "check_fraction" = true) (k30 : PySem.W.keepIn K (.ref f30) = true)
    (a31 : PySem.W.nsIn K mainGlobals "sent" = some (some (.ref f31))) (l31 : K.lookup f31 = some ⟨oc31, od31, .func (PySem.W.fnOf "sent" "sent" (defArgs s_sent) (defBody s_sent) (defScope s_sent) .none kV31 dc31 pm31 an31 cd31 ct31), sl31⟩) (c31 : PySem.W.codeIn K cd31 "sent" = true) (k31 : PySem.W.keepIn K (.ref f31) = true)
    (a32 : PySem.W.nsIn K mainGlobals "times" = some (some (.ref f32))) (l32 : K.lookup f32 = some ⟨oc32, od32, .func (PySem.W.fnOf "times" "times" (defArgs s_times) (defBody s_times) (defScope s_times) .none kV32 dc32 pm32 an32 cd32 ct32), sl32⟩) (c32 : PySem.W.codeIn K cd32 "times" = true) (k32 : PySem.W.keepIn K (.ref f32) = true)
    (a33 : PySem.W.nsIn K mainGlobals "check_undivided_map" = some (some (.ref f33))) (l33 : K.lookup f33 = some ⟨oc33, od33, .func (PySem.W.fnOf "check_undivided_map" "check_undivided_map" (defArgs s_check_undivided_map) (defBody s_check_undivided_map) (defScope s_check_undivided_map) .none kV33 dc33 pm33 an33 cd33 ct33), sl33⟩) (c33 : PySem.W.codeIn K cd33 "check_undivided_map" = true) (k33 : PySem.W.keepIn K (.ref f33) = true)
    (a34 : PySem.W.nsIn K mainGlobals "least_map" = some (some (.ref f34))) (l34 : K.lookup f34 = some ⟨oc34, od34, .func (PySem.W.fnOf "least_map" "least_map" (defArgs s_least_map) (defBody s_least_map) (defScope s_least_map) .none kV34 dc34 pm34 an34 cd34 ct34), sl34⟩) (c34 : PySem.W.codeIn K cd34 "least_map" = true) (k34 : PySem.W.keepIn K (.ref f34) = true)
    (a35 : PySem.W.nsIn K mainGlobals "behind" = some (some (.ref f35))) (l35 : K.lookup f35 = some ⟨oc35, od35, .func (PySem.W.fnOf "behind" "behind" (defArgs s_behind) (defBody s_behind) (defScope s_behind) .none kV35 dc35 pm35 an35 cd35 ct35), sl35⟩) (c35 : PySem.W.codeIn K cd35 "behind" = true) (k35 : PySem.W.keepIn K (.ref f35) = true)
    (a36 : PySem.W.nsIn K mainGlobals "turned" = some (some (.ref f36))) (l36 : K.lookup f36 = some ⟨oc36, od36, .func (PySem.W.fnOf "turned" "turned" (defArgs s_turned) (defBody s_turned) (defScope s_turned) .none kV36 dc36 pm36 an36 cd36 ct36), sl36⟩) (c36 : PySem.W.codeIn K cd36 "turned" = true) (k36 : PySem.W.keepIn K (.ref f36) = true)
    (a37 : PySem.W.nsIn K mainGlobals "before" = some (some (.ref f37))) (l37 : K.lookup f37 = some ⟨oc37, od37, .func (PySem.W.fnOf "before" "before" (defArgs s_before) (defBody s_before) (defScope s_before) .none kV37 dc37 pm37 an37 cd37 ct37), sl37⟩) (c37 : PySem.W.codeIn K cd37 "before" = true) (k37 : PySem.W.keepIn K (.ref f37) = true)
    (a38 : PySem.W.nsIn K mainGlobals "settled" = some (some (.ref f38))) (l38 : K.lookup f38 = some ⟨oc38, od38, .func (PySem.W.fnOf "settled" "settled" (defArgs s_settled) (defBody s_settled) (defScope s_settled) .none kV38 dc38 pm38 an38 cd38 ct38), sl38⟩) (c38 : PySem.W.codeIn K cd38 "settled" = true) (k38 : PySem.W.keepIn K (.ref f38) = true)
    (a39 : PySem.W.nsIn K mainGlobals "road_of" = some (some (.ref f39))) (l39 : K.lookup f39 = some ⟨oc39, od39, .func (PySem.W.fnOf "road_of" "road_of" (defArgs s_road_of) (defBody s_road_of) (defScope s_road_of) .none kV39 dc39 pm39 an39 cd39 ct39), sl39⟩) (c39 : PySem.W.codeIn K cd39 "road_of" = true) (k39 : PySem.W.keepIn K (.ref f39) = true)
    (a40 : PySem.W.nsIn K mainGlobals "rows_of_standings" = some (some (.ref f40))) (l40 : K.lookup f40 = some ⟨oc40, od40, .func (PySem.W.fnOf "rows_of_standings" "rows_of_standings" (defArgs s_rows_of_standings) (defBody s_rows_of_standings) (defScope s_rows_of_standings) .none kV40 dc40 pm40 an40 cd40 ct40), sl40⟩) (c40 : PySem.W.codeIn K cd40 "rows_of_standings" = true) (k40 : PySem.W.keepIn K (.ref f40) = true)
    (a41 : PySem.W.nsIn K mainGlobals "matrix_of" = some (some (.ref f41))) (l41 : K.lookup f41 = some ⟨oc41, od41, .func (PySem.W.fnOf "matrix_of" "matrix_of" (defArgs s_matrix_of) (defBody s_matrix_of) (defScope s_matrix_of) .none kV41 dc41 pm41 an41 cd41 ct41), sl41⟩) (c41 : PySem.W.codeIn K cd41 "matrix_of" = true) (k41 : PySem.W.keepIn K (.ref f41) = true)
    (a42 : PySem.W.nsIn K mainGlobals "standings_from" = some (some (.ref f42))) (l42 : K.lookup f42 = some ⟨oc42, od42, .func (PySem.W.fnOf "standings_from" "standings_from" (defArgs s_standings_from) (defBody s_standings_from) (defScope s_standings_from) .none kV42 dc42 pm42 an42 cd42 ct42), sl42⟩) (c42 : PySem.W.codeIn K cd42 "standings_from" = true) (k42 : PySem.W.keepIn K (.ref f42) = true)
    (a43 : PySem.W.nsIn K mainGlobals "machine_of" = some (some (.ref f43))) (l43 : K.lookup f43 = some ⟨oc43, od43, .func (PySem.W.fnOf "machine_of" "machine_of" (defArgs s_machine_of) (defBody s_machine_of) (defScope s_machine_of) .none kV43 dc43 pm43 an43 cd43 ct43), sl43⟩) (c43 : PySem.W.codeIn K cd43 "machine_of" = true) (k43 : PySem.W.keepIn K (.ref f43) = true)
    (a44 : PySem.W.nsIn K mainGlobals "standings" = some (some (.ref f44))) (l44 : K.lookup f44 = some ⟨oc44, od44, .func (PySem.W.fnOf "standings" "standings" (defArgs s_standings) (defBody s_standings) (defScope s_standings) .none kV44 dc44 pm44 an44 cd44 ct44), sl44⟩) (c44 : PySem.W.codeIn K cd44 "standings" = true) (k44 : PySem.W.keepIn K (.ref f44) = true)
    (a45 : PySem.W.nsIn K mainGlobals "is_road" = some (some (.ref f45))) (l45 : K.lookup f45 = some ⟨oc45, od45, .func (PySem.W.fnOf "is_road" "is_road" (defArgs s_is_road) (defBody s_is_road) (defScope s_is_road) .none kV45 dc45 pm45 an45 cd45 ct45), sl45⟩) (c45 : PySem.W.codeIn K cd45 "is_road" = true) (k45 : PySem.W.keepIn K (.ref f45) = true)
    (a46 : PySem.W.nsIn K mainGlobals "check_road" = some (some (.ref f46))) (l46 : K.lookup f46 = some ⟨oc46, od46, .func (PySem.W.fnOf "check_road" "check_road" (defArgs s_check_road) (defBody s_check_road) (defScope s_check_road) .none kV46 dc46 pm46 an46 cd46 ct46), sl46⟩) (c46 : PySem.W.codeIn K cd46 "check_road" = true) (k46 : PySem.W.keepIn K (.ref f46) = true)
    (a47 : PySem.W.nsIn K mainGlobals "check_course" = some (some (.ref f47))) (l47 : K.lookup f47 = some ⟨oc47, od47, .func (PySem.W.fnOf "check_course" "check_course" (defArgs s_check_course) (defBody s_check_course) (defScope s_check_course) .none kV47 dc47 pm47 an47 cd47 ct47), sl47⟩) (c47 : PySem.W.codeIn K cd47 "check_course" = true) (k47 : PySem.W.keepIn K (.ref f47) = true)
    (a48 : PySem.W.nsIn K mainGlobals "check_turning_course" = some (some (.ref f48))) (l48 : K.lookup f48 = some ⟨oc48, od48, .func (PySem.W.fnOf "check_turning_course" "check_turning_course" (defArgs s_check_turning_course) (defBody s_check_turning_course) (defScope s_check_turning_course) .none kV48 dc48 pm48 an48 cd48 ct48), sl48⟩) (c48 : PySem.W.codeIn K cd48 "check_turning_course" = true) (k48 : PySem.W.keepIn K (.ref f48) = true)
    (a49 : PySem.W.nsIn K mainGlobals "course" = some (some (.ref f49))) (l49 : K.lookup f49 = some ⟨oc49, od49, .func (PySem.W.fnOf "course" "course" (defArgs s_course) (defBody s_course) (defScope s_course) .none kV49 dc49 pm49 an49 cd49 ct49), sl49⟩) (c49 : PySem.W.codeIn K cd49 "course" = true) (k49 : PySem.W.keepIn K (.ref f49) = true)
    (a50 : PySem.W.nsIn K mainGlobals "course_sent" = some (some (.ref f50))) (l50 : K.lookup f50 = some ⟨oc50, od50, .func (PySem.W.fnOf "course_sent" "course_sent" (defArgs s_course_sent) (defBody s_course_sent) (defScope s_course_sent) .none kV50 dc50 pm50 an50 cd50 ct50), sl50⟩) (c50 : PySem.W.codeIn K cd50 "course_sent" = true) (k50 : PySem.W.keepIn K (.ref f50) = true)
    (a51 : PySem.W.nsIn K mainGlobals "_law_ask_named" = some (some (.ref f51))) (l51 : K.lookup f51 = some ⟨oc51, od51, .func (PySem.W.fnOf "_law_ask_named" "_law_ask_named" (defArgs s__law_ask_named) (defBody s__law_ask_named) (defScope s__law_ask_named) .none kV51 dc51 pm51 an51 cd51 ct51), sl51⟩) (c51 : PySem.W.codeIn K cd51 "_law_ask_named" = true) (k51 : PySem.W.keepIn K (.ref f51) = true)
    (a52 : PySem.W.nsIn K mainGlobals "_law_ask" = some (some (.ref f52))) (l52 : K.lookup f52 = some ⟨oc52, od52, .func (PySem.W.fnOf "_law_ask" "_law_ask" (defArgs s__law_ask) (defBody s__law_ask) (defScope s__law_ask) .none kV52 dc52 pm52 an52 cd52 ct52), sl52⟩) (c52 : PySem.W.codeIn K cd52 "_law_ask" = true) (k52 : PySem.W.keepIn K (.ref f52) = true)
    (a53 : PySem.W.nsIn K mainGlobals "_law_right" = some (some (.ref f53))) (l53 : K.lookup f53 = some ⟨oc53, od53, .func (PySem.W.fnOf "_law_right" "_law_right" (defArgs s__law_right) (defBody s__law_right) (defScope s__law_right) .none kV53 dc53 pm53 an53 cd53 ct53), sl53⟩) (c53 : PySem.W.codeIn K cd53 "_law_right" = true) (k53 : PySem.W.keepIn K (.ref f53) = true)
    (a54 : PySem.W.nsIn K mainGlobals "law" = some (some (.ref f54))) (l54 : K.lookup f54 = some ⟨oc54, od54, .func (PySem.W.fnOf "law" "law" (defArgs s_law) (defBody s_law) (defScope s_law) .none kV54 dc54 pm54 an54 cd54 ct54), sl54⟩) (c54 : PySem.W.codeIn K cd54 "law" = true) (k54 : PySem.W.keepIn K (.ref f54) = true)
    {qInvalidMap qInvalidFraction qInvalidRoad qRoadError qInvalidBook qInvalidMachine qInvalidSquare qInvalidNumber qInvalidTurn qHasEnded qNothingToUndo qUnreadable fR : Addr}
    {odR anR : Option Addr} {slR : Array (Option Value)} {ocR kVR dcR pmR cdR ctR : Value}
    (aCInvalidMap : PySem.W.nsIn K mainGlobals "InvalidMap" = some (some (.ref qInvalidMap)))
    (aCInvalidFraction : PySem.W.nsIn K mainGlobals "InvalidFraction" = some (some (.ref qInvalidFraction)))
    (aCInvalidRoad : PySem.W.nsIn K mainGlobals "InvalidRoad" = some (some (.ref qInvalidRoad)))
    (aCRoadError : PySem.W.nsIn K mainGlobals "RoadError" = some (some (.ref qRoadError)))
    (aCInvalidBook : PySem.W.nsIn K mainGlobals "InvalidBook" = some (some (.ref qInvalidBook)))
    (aCInvalidMachine : PySem.W.nsIn K mainGlobals "InvalidMachine" = some (some (.ref qInvalidMachine)))
    (aCInvalidSquare : PySem.W.nsIn K mainGlobals "InvalidSquare" = some (some (.ref qInvalidSquare)))
    (aCInvalidNumber : PySem.W.nsIn K mainGlobals "InvalidNumber" = some (some (.ref qInvalidNumber)))
    (aCInvalidTurn : PySem.W.nsIn K mainGlobals "InvalidTurn" = some (some (.ref qInvalidTurn)))
    (aCHasEnded : PySem.W.nsIn K mainGlobals "HasEnded" = some (some (.ref qHasEnded)))
    (aCNothingToUndo : PySem.W.nsIn K mainGlobals "NothingToUndo" = some (some (.ref qNothingToUndo)))
    (aCUnreadable : PySem.W.nsIn K mainGlobals "Unreadable" = some (some (.ref qUnreadable)))
    {nmInvalidMap q0InvalidMap : Str} {NInvalidMap : Addr} {bsInvalidMap : List Value} {snInvalidMap : List Str} {subInvalidMap : List Value} {abInvalidMap : Bool} {colInvalidMap : Option Bool} {ddInvalidMap : Option Addr} {m0InvalidMap m1InvalidMap m2InvalidMap m3InvalidMap m5InvalidMap : Option Value}
    (xLInvalidMap : K.lookup qInvalidMap = some (excClassObj nmInvalidMap q0InvalidMap qInvalidMap NInvalidMap bsInvalidMap [.ref qRoadError, .type "ValueError", .type "Exception", .type "BaseException", .type "object"] true snInvalidMap subInvalidMap abInvalidMap colInvalidMap ddInvalidMap m0InvalidMap m1InvalidMap m2InvalidMap m3InvalidMap m5InvalidMap "ValueError.__new__"))
    (saInvalidMap : PySem.W.findIn K (.ref qInvalidMap) "__setattr__" = some (some (.builtin "object.__setattr__")))
    (gaInvalidMap : PySem.W.findIn K (.ref qInvalidMap) "__getattribute__" = some (some (.builtin "BaseException.__getattribute__")))
    (ggInvalidMap : PySem.W.findIn K (.ref qInvalidMap) "__getattr__" = some none)
    (nvInvalidMap : PySem.W.findIn K (.ref qInvalidMap) "value" = some none)
    (icInvalidMap : PySem.W.findIn K (.ref qInvalidMap) "__init__" = some (some (.ref fR)))
    (kcInvalidMap : PySem.W.keepIn K (.ref qInvalidMap) = true)
    (ecInvalidMap : PySem.W.subIn K (.ref qInvalidMap) (.type "BaseException") = some true)
    (tcInvalidMap : PySem.W.typeIn K (.ref qInvalidMap) = some (.type "type"))
    (hdInvalidMap : PySem.W.hasDictIn K qInvalidMap = true)
    (clInvalidMap : PySem.W.isClsIn K qInvalidMap = true)
    (haInvalidMap : PySem.W.findIn K (.ref qInvalidMap) "__class__" = some (some (.builtin "object.__class__")))
    (hmInvalidMap : PySem.W.mroIn K qInvalidMap (.type "object") = some true)
    (tR : PySem.W.typeIn K (.ref fR) = some (.type "function"))
    (lR : K.lookup fR = some ⟨ocR, odR, .func (PySem.W.fnOf "__init__" "RoadError.__init__" (defArgs s_reinit) (defBody s_reinit) (defScope s_reinit) .none kVR dcR pmR anR cdR ctR), slR⟩)
    (cR : PySem.W.codeIn K cdR "RoadError.__init__" = true)
    (kR : PySem.W.keepIn K (.ref fR) = true)
    (hn : PySem.W.specialIn K (.builtin "object.__class__") "__get__" = some (some (.builtin "getset_descriptor.__get__")))
    (ht : PySem.W.takesIn K (.builtin "object.__class__") = some true)
    {nmInvalidFraction q0InvalidFraction : Str} {NInvalidFraction : Addr} {bsInvalidFraction : List Value} {snInvalidFraction : List Str} {subInvalidFraction : List Value} {abInvalidFraction : Bool} {colInvalidFraction : Option Bool} {ddInvalidFraction : Option Addr} {m0InvalidFraction m1InvalidFraction m2InvalidFraction m3InvalidFraction m5InvalidFraction : Option Value}
    (xLInvalidFraction : K.lookup qInvalidFraction = some (excClassObj nmInvalidFraction q0InvalidFraction qInvalidFraction NInvalidFraction bsInvalidFraction [.ref qRoadError, .type "ValueError", .type "Exception", .type "BaseException", .type "object"] true snInvalidFraction subInvalidFraction abInvalidFraction colInvalidFraction ddInvalidFraction m0InvalidFraction m1InvalidFraction m2InvalidFraction m3InvalidFraction m5InvalidFraction "ValueError.__new__"))
    (saInvalidFraction : PySem.W.findIn K (.ref qInvalidFraction) "__setattr__" = some (some (.builtin "object.__setattr__")))
    (gaInvalidFraction : PySem.W.findIn K (.ref qInvalidFraction) "__getattribute__" = some (some (.builtin "BaseException.__getattribute__")))
    (ggInvalidFraction : PySem.W.findIn K (.ref qInvalidFraction) "__getattr__" = some none)
    (nvInvalidFraction : PySem.W.findIn K (.ref qInvalidFraction) "value" = some none)
    (icInvalidFraction : PySem.W.findIn K (.ref qInvalidFraction) "__init__" = some (some (.ref fR)))
    (kcInvalidFraction : PySem.W.keepIn K (.ref qInvalidFraction) = true)
    (ecInvalidFraction : PySem.W.subIn K (.ref qInvalidFraction) (.type "BaseException") = some true)
    (tcInvalidFraction : PySem.W.typeIn K (.ref qInvalidFraction) = some (.type "type"))
    (hdInvalidFraction : PySem.W.hasDictIn K qInvalidFraction = true)
    (clInvalidFraction : PySem.W.isClsIn K qInvalidFraction = true)
    (haInvalidFraction : PySem.W.findIn K (.ref qInvalidFraction) "__class__" = some (some (.builtin "object.__class__")))
    (hmInvalidFraction : PySem.W.mroIn K qInvalidFraction (.type "object") = some true)
    {nmInvalidRoad q0InvalidRoad : Str} {NInvalidRoad : Addr} {bsInvalidRoad : List Value} {snInvalidRoad : List Str} {subInvalidRoad : List Value} {abInvalidRoad : Bool} {colInvalidRoad : Option Bool} {ddInvalidRoad : Option Addr} {m0InvalidRoad m1InvalidRoad m2InvalidRoad m3InvalidRoad m5InvalidRoad : Option Value}
    (xLInvalidRoad : K.lookup qInvalidRoad = some (excClassObj nmInvalidRoad q0InvalidRoad qInvalidRoad NInvalidRoad bsInvalidRoad [.ref qRoadError, .type "ValueError", .type "Exception", .type "BaseException", .type "object"] true snInvalidRoad subInvalidRoad abInvalidRoad colInvalidRoad ddInvalidRoad m0InvalidRoad m1InvalidRoad m2InvalidRoad m3InvalidRoad m5InvalidRoad "ValueError.__new__"))
    (saInvalidRoad : PySem.W.findIn K (.ref qInvalidRoad) "__setattr__" = some (some (.builtin "object.__setattr__")))
    (gaInvalidRoad : PySem.W.findIn K (.ref qInvalidRoad) "__getattribute__" = some (some (.builtin "BaseException.__getattribute__")))
    (ggInvalidRoad : PySem.W.findIn K (.ref qInvalidRoad) "__getattr__" = some none)
    (nvInvalidRoad : PySem.W.findIn K (.ref qInvalidRoad) "value" = some none)
    (icInvalidRoad : PySem.W.findIn K (.ref qInvalidRoad) "__init__" = some (some (.ref fR)))
    (kcInvalidRoad : PySem.W.keepIn K (.ref qInvalidRoad) = true)
    (ecInvalidRoad : PySem.W.subIn K (.ref qInvalidRoad) (.type "BaseException") = some true)
    (tcInvalidRoad : PySem.W.typeIn K (.ref qInvalidRoad) = some (.type "type"))
    (hdInvalidRoad : PySem.W.hasDictIn K qInvalidRoad = true)
    (clInvalidRoad : PySem.W.isClsIn K qInvalidRoad = true)
    (haInvalidRoad : PySem.W.findIn K (.ref qInvalidRoad) "__class__" = some (some (.builtin "object.__class__")))
    (hmInvalidRoad : PySem.W.mroIn K qInvalidRoad (.type "object") = some true)
    (iaInvalidRoad : PySem.W.isClsIn K qInvalidRoad = true) (taInvalidRoad : PySem.W.typeIn K (.ref qInvalidRoad) = some (.type "type"))
    (iaInvalidFraction : PySem.W.isClsIn K qInvalidFraction = true) (taInvalidFraction : PySem.W.typeIn K (.ref qInvalidFraction) = some (.type "type"))
    (iaInvalidMap : PySem.W.isClsIn K qInvalidMap = true) (taInvalidMap : PySem.W.typeIn K (.ref qInvalidMap) = some (.type "type"))
    (iaInvalidBook : PySem.W.isClsIn K qInvalidBook = true) (taInvalidBook : PySem.W.typeIn K (.ref qInvalidBook) = some (.type "type"))
    (iaRoadError : PySem.W.isClsIn K qRoadError = true) (taRoadError : PySem.W.typeIn K (.ref qRoadError) = some (.type "type"))
    (iaInvalidMachine : PySem.W.isClsIn K qInvalidMachine = true) (taInvalidMachine : PySem.W.typeIn K (.ref qInvalidMachine) = some (.type "type"))
    (iaInvalidSquare : PySem.W.isClsIn K qInvalidSquare = true) (taInvalidSquare : PySem.W.typeIn K (.ref qInvalidSquare) = some (.type "type"))
    (iaInvalidNumber : PySem.W.isClsIn K qInvalidNumber = true) (taInvalidNumber : PySem.W.typeIn K (.ref qInvalidNumber) = some (.type "type"))
    (iaInvalidTurn : PySem.W.isClsIn K qInvalidTurn = true) (taInvalidTurn : PySem.W.typeIn K (.ref qInvalidTurn) = some (.type "type"))
    (iaHasEnded : PySem.W.isClsIn K qHasEnded = true) (taHasEnded : PySem.W.typeIn K (.ref qHasEnded) = some (.type "type"))
    (iaNothingToUndo : PySem.W.isClsIn K qNothingToUndo = true) (taNothingToUndo : PySem.W.typeIn K (.ref qNothingToUndo) = some (.type "type"))
    (iaUnreadable : PySem.W.isClsIn K qUnreadable = true) (taUnreadable : PySem.W.typeIn K (.ref qUnreadable) = some (.type "type"))
    (beRoadError : PySem.W.subIn K (.ref qRoadError) (.type "BaseException") = some true)
    (ssInvalidMap : PySem.W.subIn K (.ref qInvalidMap) (.ref qInvalidMap) = some true)
    (sInvalidMap_InvalidRoad : PySem.W.subIn K (.ref qInvalidMap) (.ref qInvalidRoad) = some false)
    (sInvalidMap_InvalidFraction : PySem.W.subIn K (.ref qInvalidMap) (.ref qInvalidFraction) = some false)
    (sInvalidMap_InvalidBook : PySem.W.subIn K (.ref qInvalidMap) (.ref qInvalidBook) = some false)
    (sInvalidMap_RoadError : PySem.W.subIn K (.ref qInvalidMap) (.ref qRoadError) = some true)
    (sInvalidMap_ValueError : PySem.W.subIn K (.ref qInvalidMap) (.type "ValueError") = some true)
    (sInvalidMap_InvalidMachine : PySem.W.subIn K (.ref qInvalidMap) (.ref qInvalidMachine) = some false)
    (sInvalidMap_InvalidSquare : PySem.W.subIn K (.ref qInvalidMap) (.ref qInvalidSquare) = some false)
    (sInvalidMap_InvalidNumber : PySem.W.subIn K (.ref qInvalidMap) (.ref qInvalidNumber) = some false)
    (sInvalidMap_InvalidTurn : PySem.W.subIn K (.ref qInvalidMap) (.ref qInvalidTurn) = some false)
    (sInvalidMap_HasEnded : PySem.W.subIn K (.ref qInvalidMap) (.ref qHasEnded) = some false)
    (sInvalidMap_NothingToUndo : PySem.W.subIn K (.ref qInvalidMap) (.ref qNothingToUndo) = some false)
    (sInvalidMap_Unreadable : PySem.W.subIn K (.ref qInvalidMap) (.ref qUnreadable) = some false)
    (ssInvalidFraction : PySem.W.subIn K (.ref qInvalidFraction) (.ref qInvalidFraction) = some true)
    (sInvalidFraction_InvalidRoad : PySem.W.subIn K (.ref qInvalidFraction) (.ref qInvalidRoad) = some false)
    (sInvalidFraction_InvalidMap : PySem.W.subIn K (.ref qInvalidFraction) (.ref qInvalidMap) = some false)
    (sInvalidFraction_InvalidBook : PySem.W.subIn K (.ref qInvalidFraction) (.ref qInvalidBook) = some false)
    (sInvalidFraction_RoadError : PySem.W.subIn K (.ref qInvalidFraction) (.ref qRoadError) = some true)
    (sInvalidFraction_ValueError : PySem.W.subIn K (.ref qInvalidFraction) (.type "ValueError") = some true)
    (sInvalidFraction_InvalidMachine : PySem.W.subIn K (.ref qInvalidFraction) (.ref qInvalidMachine) = some false)
    (sInvalidFraction_InvalidSquare : PySem.W.subIn K (.ref qInvalidFraction) (.ref qInvalidSquare) = some false)
    (sInvalidFraction_InvalidNumber : PySem.W.subIn K (.ref qInvalidFraction) (.ref qInvalidNumber) = some false)
    (sInvalidFraction_InvalidTurn : PySem.W.subIn K (.ref qInvalidFraction) (.ref qInvalidTurn) = some false)
    (sInvalidFraction_HasEnded : PySem.W.subIn K (.ref qInvalidFraction) (.ref qHasEnded) = some false)
    (sInvalidFraction_NothingToUndo : PySem.W.subIn K (.ref qInvalidFraction) (.ref qNothingToUndo) = some false)
    (sInvalidFraction_Unreadable : PySem.W.subIn K (.ref qInvalidFraction) (.ref qUnreadable) = some false)
    (ssInvalidRoad : PySem.W.subIn K (.ref qInvalidRoad) (.ref qInvalidRoad) = some true)
    (sInvalidRoad_InvalidFraction : PySem.W.subIn K (.ref qInvalidRoad) (.ref qInvalidFraction) = some false)
    (sInvalidRoad_InvalidMap : PySem.W.subIn K (.ref qInvalidRoad) (.ref qInvalidMap) = some false)
    (sInvalidRoad_InvalidBook : PySem.W.subIn K (.ref qInvalidRoad) (.ref qInvalidBook) = some false)
    (sInvalidRoad_RoadError : PySem.W.subIn K (.ref qInvalidRoad) (.ref qRoadError) = some true)
    (sInvalidRoad_ValueError : PySem.W.subIn K (.ref qInvalidRoad) (.type "ValueError") = some true)
    (sInvalidRoad_InvalidMachine : PySem.W.subIn K (.ref qInvalidRoad) (.ref qInvalidMachine) = some false)
    (sInvalidRoad_InvalidSquare : PySem.W.subIn K (.ref qInvalidRoad) (.ref qInvalidSquare) = some false)
    (sInvalidRoad_InvalidNumber : PySem.W.subIn K (.ref qInvalidRoad) (.ref qInvalidNumber) = some false)
    (sInvalidRoad_InvalidTurn : PySem.W.subIn K (.ref qInvalidRoad) (.ref qInvalidTurn) = some false)
    (sInvalidRoad_HasEnded : PySem.W.subIn K (.ref qInvalidRoad) (.ref qHasEnded) = some false)
    (sInvalidRoad_NothingToUndo : PySem.W.subIn K (.ref qInvalidRoad) (.ref qNothingToUndo) = some false)
    (sInvalidRoad_Unreadable : PySem.W.subIn K (.ref qInvalidRoad) (.ref qUnreadable) = some false)
    (z0 : PySem.W.nsIn K mainGlobals "max" = some none)
    (z1 : PySem.W.nsIn K mainGlobals "len" = some none)
    (z2 : PySem.W.nsIn K mainGlobals "int" = some none)
    (z3 : PySem.W.nsIn K mainGlobals "abs" = some none)
    (z4 : PySem.W.nsIn K mainGlobals "min" = some none)
    (z5 : PySem.W.nsIn K mainGlobals "tuple" = some none)
    (z6 : PySem.W.nsIn K mainGlobals "range" = some none)
    (z7 : PySem.W.nsIn K mainGlobals "isinstance" = some none)
    (z8 : PySem.W.nsIn K mainGlobals "ValueError" = some none)
    (z9 : PySem.W.nsIn K mainGlobals "repr" = some none)
    (z10 : PySem.W.nsIn K mainGlobals "enumerate" = some none)
    (z11 : PySem.W.nsIn K mainGlobals "list" = some none)
    (m0 : PySem.W.nsIn K mainGlobals "gcd" = some (some (.builtin "math.gcd")))
    (m1 : PySem.W.nsIn K mainGlobals "isqrt" = some (some (.builtin "math.isqrt")))
    : ∃ (T : Tx K mg) (kV dc pm cd ct : Value) (an : Option Addr), T.fd_law = PySem.W.fnOf "law" "law" (defArgs s_law) (defBody s_law) (defScope s_law) .none kV dc pm an cd ct := by
  refine ⟨{
    a__law_purse := f0, fd__law_purse := _, F__law_purse := fun_mk (st := s__law_purse) l0 c0 k0, g__law_purse := PySem.W.mg_of X G a0,
    a__law_rt_first_odd := f1, fd__law_rt_first_odd := _, F__law_rt_first_odd := fun_mk (st := s__law_rt_first_odd) l1 c1 k1, g__law_rt_first_odd := PySem.W.mg_of X G a1,
    a__law_rt_size := f2, fd__law_rt_size := _, F__law_rt_size := fun_mk (st := s__law_rt_size) l2 c2 k2, g__law_rt_size := PySem.W.mg_of X G a2,
    a__law_rt_shared := f3, fd__law_rt_shared := _, F__law_rt_shared := fun_mk (st := s__law_rt_shared) l3 c3 k3, g__law_rt_shared := PySem.W.mg_of X G a3,
    a__law_rt_is_map := f4, fd__law_rt_is_map := _, F__law_rt_is_map := fun_mk (st := s__law_rt_is_map) l4 c4 k4, g__law_rt_is_map := PySem.W.mg_of X G a4,
    a__law_rt_is_pair := f5, fd__law_rt_is_pair := _, F__law_rt_is_pair := fun_mk (st := s__law_rt_is_pair) l5 c5 k5, g__law_rt_is_pair := PySem.W.mg_of X G a5,
    a__law_due := f6, fd__law_due := _, F__law_due := fun_mk (st := s__law_due) l6 c6 k6, g__law_due := PySem.W.mg_of X G a6,
    a__law_coin := f7, fd__law_coin := _, F__law_coin := fun_mk (st := s__law_coin) l7 c7 k7, g__law_coin := PySem.W.mg_of X G a7,
    a__law_rt_low := f8, fd__law_rt_low := _, F__law_rt_low := fun_mk (st := s__law_rt_low) l8 c8 k8, g__law_rt_low := PySem.W.mg_of X G a8,
    a__law_rt_ends := f9, fd__law_rt_ends := _, F__law_rt_ends := fun_mk (st := s__law_rt_ends) l9 c9 k9, g__law_rt_ends := PySem.W.mg_of X G a9,
    a__law_rt_turns := f10, fd__law_rt_turns := _, F__law_rt_turns := fun_mk (st := s__law_rt_turns) l10 c10 k10, g__law_rt_turns := PySem.W.mg_of X G a10,
    a__law_rt_way := f11, fd__law_rt_way := _, F__law_rt_way := fun_mk (st := s__law_rt_way) l11 c11 k11, g__law_rt_way := PySem.W.mg_of X G a11,
    a__law_rt_times := f12, fd__law_rt_times := _, F__law_rt_times := fun_mk (st := s__law_rt_times) l12 c12 k12, g__law_rt_times := PySem.W.mg_of X G a12,
    a__law_rt_map := f13, fd__law_rt_map := _, F__law_rt_map := fun_mk (st := s__law_rt_map) l13 c13 k13, g__law_rt_map := PySem.W.mg_of X G a13,
    a__law_rt_odd_map := f14, fd__law_rt_odd_map := _, F__law_rt_odd_map := fun_mk (st := s__law_rt_odd_map) l14 c14 k14, g__law_rt_odd_map := PySem.W.mg_of X G a14,
    a__law_rt_worth := f15, fd__law_rt_worth := _, F__law_rt_worth := fun_mk (st := s__law_rt_worth) l15 c15 k15, g__law_rt_worth := PySem.W.mg_of X G a15,
    a__law_rt_fraction := f16, fd__law_rt_fraction := _, F__law_rt_fraction := fun_mk (st := s__law_rt_fraction) l16 c16 k16, g__law_rt_fraction := PySem.W.mg_of X G a16,
    a__law_rt_odd_pair := f17, fd__law_rt_odd_pair := _, F__law_rt_odd_pair := fun_mk (st := s__law_rt_odd_pair) l17 c17 k17, g__law_rt_odd_pair := PySem.W.mg_of X G a17,
    a__law_rt_odd_way := f18, fd__law_rt_odd_way := _, F__law_rt_odd_way := fun_mk (st := s__law_rt_odd_way) l18 c18 k18, g__law_rt_odd_way := PySem.W.mg_of X G a18,
    a__law_rt_kind := f19, fd__law_rt_kind := _, F__law_rt_kind := fun_mk (st := s__law_rt_kind) l19 c19 k19, g__law_rt_kind := PySem.W.mg_of X G a19,
    a__law_rt_ring := f20, fd__law_rt_ring := _, F__law_rt_ring := fun_mk (st := s__law_rt_ring) l20 c20 k20, g__law_rt_ring := PySem.W.mg_of X G a20,
    a_is_undivided_map := f21, fd_is_undivided_map := _, F_is_undivided_map := fun_mk (st := s_is_undivided_map) l21 c21 k21, g_is_undivided_map := PySem.W.mg_of X G a21,
    a_is_map := f22, fd_is_map := _, F_is_map := fun_mk (st := s_is_map) l22 c22 k22, g_is_map := PySem.W.mg_of X G a22,
    a_check_map := f23, fd_check_map := _, F_check_map := fun_mk (st := s_check_map) l23 c23 k23, g_check_map := PySem.W.mg_of X G a23,
    a_list_of := f24, fd_list_of := _, F_list_of := fun_mk (st := s_list_of) l24 c24 k24, g_list_of := PySem.W.mg_of X G a24,
    a_fraction_above_zero := f25, fd_fraction_above_zero := _, F_fraction_above_zero := fun_mk (st := s_fraction_above_zero) l25 c25 k25, g_fraction_above_zero := PySem.W.mg_of X G a25,
    a_ring_of_root := f26, fd_ring_of_root := _, F_ring_of_root := fun_mk (st := s_ring_of_root) l26 c26 k26, g_ring_of_root := PySem.W.mg_of X G a26,
    a_fixed := f27, fd_fixed := _, F_fixed := fun_mk (st := s_fixed) l27 c27 k27, g_fixed := PySem.W.mg_of X G a27,
    a_size := f28, fd_size := _, F_size := fun_mk (st := s_size) l28 c28 k28, g_size := PySem.W.mg_of X G a28,
    a_is_fraction := f29, fd_is_fraction := _, F_is_fraction := fun_mk (st := s_is_fraction) l29 c29 k29, g_is_fraction := PySem.W.mg_of X G a29,
    a_check_fraction := f30, fd_check_fraction := _, F_check_fraction := fun_mk (st := s_check_fraction) l30 c30 k30, g_check_fraction := PySem.W.mg_of X G a30,
    a_sent := f31, fd_sent := _, F_sent := fun_mk (st := s_sent) l31 c31 k31, g_sent := PySem.W.mg_of X G a31,
    a_times := f32, fd_times := _, F_times := fun_mk (st := s_times) l32 c32 k32, g_times := PySem.W.mg_of X G a32,
    a_check_undivided_map := f33, fd_check_undivided_map := _, F_check_undivided_map := fun_mk (st := s_check_undivided_map) l33 c33 k33, g_check_undivided_map := PySem.W.mg_of X G a33,
    a_least_map := f34, fd_least_map := _, F_least_map := fun_mk (st := s_least_map) l34 c34 k34, g_least_map := PySem.W.mg_of X G a34,
    a_behind := f35, fd_behind := _, F_behind := fun_mk (st := s_behind) l35 c35 k35, g_behind := PySem.W.mg_of X G a35,
    a_turned := f36, fd_turned := _, F_turned := fun_mk (st := s_turned) l36 c36 k36, g_turned := PySem.W.mg_of X G a36,
    a_before := f37, fd_before := _, F_before := fun_mk (st := s_before) l37 c37 k37, g_before := PySem.W.mg_of X G a37,
    a_settled := f38, fd_settled := _, F_settled := fun_mk (st := s_settled) l38 c38 k38, g_settled := PySem.W.mg_of X G a38,
    a_road_of := f39, fd_road_of := _, F_road_of := fun_mk (st := s_road_of) l39 c39 k39, g_road_of := PySem.W.mg_of X G a39,
    a_rows_of_standings := f40, fd_rows_of_standings := _, F_rows_of_standings := fun_mk (st := s_rows_of_standings) l40 c40 k40, g_rows_of_standings := PySem.W.mg_of X G a40,
    a_matrix_of := f41, fd_matrix_of := _, F_matrix_of := fun_mk (st := s_matrix_of) l41 c41 k41, g_matrix_of := PySem.W.mg_of X G a41,
    a_standings_from := f42, fd_standings_from := _, F_standings_from := fun_mk (st := s_standings_from) l42 c42 k42, g_standings_from := PySem.W.mg_of X G a42,
    a_machine_of := f43, fd_machine_of := _, F_machine_of := fun_mk (st := s_machine_of) l43 c43 k43, g_machine_of := PySem.W.mg_of X G a43,
    a_standings := f44, fd_standings := _, F_standings := fun_mk (st := s_standings) l44 c44 k44, g_standings := PySem.W.mg_of X G a44,
    a_is_road := f45, fd_is_road := _, F_is_road := fun_mk (st := s_is_road) l45 c45 k45, g_is_road := PySem.W.mg_of X G a45,
    a_check_road := f46, fd_check_road := _, F_check_road := fun_mk (st := s_check_road) l46 c46 k46, g_check_road := PySem.W.mg_of X G a46,
    a_check_course := f47, fd_check_course := _, F_check_course := fun_mk (st := s_check_course) l47 c47 k47, g_check_course := PySem.W.mg_of X G a47,
    a_check_turning_course := f48, fd_check_turning_course := _, F_check_turning_course := fun_mk (st := s_check_turning_course) l48 c48 k48, g_check_turning_course := PySem.W.mg_of X G a48,
    a_course := f49, fd_course := _, F_course := fun_mk (st := s_course) l49 c49 k49, g_course := PySem.W.mg_of X G a49,
    a_course_sent := f50, fd_course_sent := _, F_course_sent := fun_mk (st := s_course_sent) l50 c50 k50, g_course_sent := PySem.W.mg_of X G a50,
    a__law_ask_named := f51, fd__law_ask_named := _, F__law_ask_named := fun_mk (st := s__law_ask_named) l51 c51 k51, g__law_ask_named := PySem.W.mg_of X G a51,
    a__law_ask := f52, fd__law_ask := _, F__law_ask := fun_mk (st := s__law_ask) l52 c52 k52, g__law_ask := PySem.W.mg_of X G a52,
    a__law_right := f53, fd__law_right := _, F__law_right := fun_mk (st := s__law_right) l53 c53 k53, g__law_right := PySem.W.mg_of X G a53,
    a_law := f54, fd_law := _, F_law := fun_mk (st := s_law) l54 c54 k54, g_law := PySem.W.mg_of X G a54,
    c_InvalidMap := qInvalidMap, g_InvalidMap := PySem.W.mg_of X G aCInvalidMap, n_InvalidMap := aCInvalidMap,
    c_InvalidFraction := qInvalidFraction, g_InvalidFraction := PySem.W.mg_of X G aCInvalidFraction, n_InvalidFraction := aCInvalidFraction,
    c_InvalidRoad := qInvalidRoad, g_InvalidRoad := PySem.W.mg_of X G aCInvalidRoad, n_InvalidRoad := aCInvalidRoad,
    c_RoadError := qRoadError, g_RoadError := PySem.W.mg_of X G aCRoadError, n_RoadError := aCRoadError,
    c_InvalidBook := qInvalidBook, g_InvalidBook := PySem.W.mg_of X G aCInvalidBook, n_InvalidBook := aCInvalidBook,
    c_InvalidMachine := qInvalidMachine, g_InvalidMachine := PySem.W.mg_of X G aCInvalidMachine, n_InvalidMachine := aCInvalidMachine,
    c_InvalidSquare := qInvalidSquare, g_InvalidSquare := PySem.W.mg_of X G aCInvalidSquare, n_InvalidSquare := aCInvalidSquare,
    c_InvalidNumber := qInvalidNumber, g_InvalidNumber := PySem.W.mg_of X G aCInvalidNumber, n_InvalidNumber := aCInvalidNumber,
    c_InvalidTurn := qInvalidTurn, g_InvalidTurn := PySem.W.mg_of X G aCInvalidTurn, n_InvalidTurn := aCInvalidTurn,
    c_HasEnded := qHasEnded, g_HasEnded := PySem.W.mg_of X G aCHasEnded, n_HasEnded := aCHasEnded,
    c_NothingToUndo := qNothingToUndo, g_NothingToUndo := PySem.W.mg_of X G aCNothingToUndo, n_NothingToUndo := aCNothingToUndo,
    c_Unreadable := qUnreadable, g_Unreadable := PySem.W.mg_of X G aCUnreadable, n_Unreadable := aCUnreadable,
    a_reinit := fR, fd_reinit := _, F_reinit := fun_mk (st := s_reinit) lR cR kR,
    E_InvalidMap := { g := PySem.W.mg_of X G aCInvalidMap, ni := aCInvalidMap, ox := { cls := ⟨_, _, _, _, _, _, _, _, _, _, _, _, _, _, _, xLInvalidMap, by exact (show PySem.HandSPX.refsVE [.type "ValueError", .type "Exception", .type "BaseException", .type "object"] = true by decide +kernel)⟩, sa := saInvalidMap, exC := ecInvalidMap, tyC := tcInvalidMap, kC := kcInvalidMap }, ic := icInvalidMap, ti := tR, no := nvInvalidMap, xf := ⟨gaInvalidMap, ggInvalidMap, ecInvalidMap, hdInvalidMap⟩, cl := clInvalidMap, ha := haInvalidMap, hn := hn, ht := ht, hm := hmInvalidMap },
    E_InvalidFraction := { g := PySem.W.mg_of X G aCInvalidFraction, ni := aCInvalidFraction, ox := { cls := ⟨_, _, _, _, _, _, _, _, _, _, _, _, _, _, _, xLInvalidFraction, by exact (show PySem.HandSPX.refsVE [.type "ValueError", .type "Exception", .type "BaseException", .type "object"] = true by decide +kernel)⟩, sa := saInvalidFraction, exC := ecInvalidFraction, tyC := tcInvalidFraction, kC := kcInvalidFraction }, ic := icInvalidFraction, ti := tR, no := nvInvalidFraction, xf := ⟨gaInvalidFraction, ggInvalidFraction, ecInvalidFraction, hdInvalidFraction⟩, cl := clInvalidFraction, ha := haInvalidFraction, hn := hn, ht := ht, hm := hmInvalidFraction },
    E_InvalidRoad := { g := PySem.W.mg_of X G aCInvalidRoad, ni := aCInvalidRoad, ox := { cls := ⟨_, _, _, _, _, _, _, _, _, _, _, _, _, _, _, xLInvalidRoad, by exact (show PySem.HandSPX.refsVE [.type "ValueError", .type "Exception", .type "BaseException", .type "object"] = true by decide +kernel)⟩, sa := saInvalidRoad, exC := ecInvalidRoad, tyC := tcInvalidRoad, kC := kcInvalidRoad }, ic := icInvalidRoad, ti := tR, no := nvInvalidRoad, xf := ⟨gaInvalidRoad, ggInvalidRoad, ecInvalidRoad, hdInvalidRoad⟩, cl := clInvalidRoad, ha := haInvalidRoad, hn := hn, ht := ht, hm := hmInvalidRoad },
    k_InvalidMap_InvalidRoad := kit_not iaInvalidRoad taInvalidRoad sInvalidMap_InvalidRoad ssInvalidMap,
    k_InvalidMap_InvalidFraction := kit_not iaInvalidFraction taInvalidFraction sInvalidMap_InvalidFraction ssInvalidMap,
    k_InvalidMap_InvalidMap := kit_self _ _,
    k_InvalidMap_InvalidBook := kit_not iaInvalidBook taInvalidBook sInvalidMap_InvalidBook ssInvalidMap,
    k_InvalidMap_RoadError := kit_yes iaRoadError taRoadError sInvalidMap_RoadError,
    k_InvalidMap_ValueError := kit_typ sInvalidMap_ValueError (by decide +kernel),
    k_InvalidMap_InvalidMachine := kit_not iaInvalidMachine taInvalidMachine sInvalidMap_InvalidMachine ssInvalidMap,
    k_InvalidMap_InvalidSquare := kit_not iaInvalidSquare taInvalidSquare sInvalidMap_InvalidSquare ssInvalidMap,
    k_InvalidMap_InvalidNumber := kit_not iaInvalidNumber taInvalidNumber sInvalidMap_InvalidNumber ssInvalidMap,
    k_InvalidMap_InvalidTurn := kit_not iaInvalidTurn taInvalidTurn sInvalidMap_InvalidTurn ssInvalidMap,
    k_InvalidMap_HasEnded := kit_not iaHasEnded taHasEnded sInvalidMap_HasEnded ssInvalidMap,
    k_InvalidMap_NothingToUndo := kit_not iaNothingToUndo taNothingToUndo sInvalidMap_NothingToUndo ssInvalidMap,
    k_InvalidMap_Unreadable := kit_not iaUnreadable taUnreadable sInvalidMap_Unreadable ssInvalidMap,
    x_InvalidMap_RoadError := exm_yes beRoadError iaRoadError taRoadError sInvalidMap_RoadError,
    k_InvalidFraction_InvalidRoad := kit_not iaInvalidRoad taInvalidRoad sInvalidFraction_InvalidRoad ssInvalidFraction,
    k_InvalidFraction_InvalidFraction := kit_self _ _,
    k_InvalidFraction_InvalidMap := kit_not iaInvalidMap taInvalidMap sInvalidFraction_InvalidMap ssInvalidFraction,
    k_InvalidFraction_InvalidBook := kit_not iaInvalidBook taInvalidBook sInvalidFraction_InvalidBook ssInvalidFraction,
    k_InvalidFraction_RoadError := kit_yes iaRoadError taRoadError sInvalidFraction_RoadError,
    k_InvalidFraction_ValueError := kit_typ sInvalidFraction_ValueError (by decide +kernel),
    k_InvalidFraction_InvalidMachine := kit_not iaInvalidMachine taInvalidMachine sInvalidFraction_InvalidMachine ssInvalidFraction,
    k_InvalidFraction_InvalidSquare := kit_not iaInvalidSquare taInvalidSquare sInvalidFraction_InvalidSquare ssInvalidFraction,
    k_InvalidFraction_InvalidNumber := kit_not iaInvalidNumber taInvalidNumber sInvalidFraction_InvalidNumber ssInvalidFraction,
    k_InvalidFraction_InvalidTurn := kit_not iaInvalidTurn taInvalidTurn sInvalidFraction_InvalidTurn ssInvalidFraction,
    k_InvalidFraction_HasEnded := kit_not iaHasEnded taHasEnded sInvalidFraction_HasEnded ssInvalidFraction,
    k_InvalidFraction_NothingToUndo := kit_not iaNothingToUndo taNothingToUndo sInvalidFraction_NothingToUndo ssInvalidFraction,
    k_InvalidFraction_Unreadable := kit_not iaUnreadable taUnreadable sInvalidFraction_Unreadable ssInvalidFraction,
    x_InvalidFraction_RoadError := exm_yes beRoadError iaRoadError taRoadError sInvalidFraction_RoadError,
    k_InvalidRoad_InvalidRoad := kit_self _ _,
    k_InvalidRoad_InvalidFraction := kit_not iaInvalidFraction taInvalidFraction sInvalidRoad_InvalidFraction ssInvalidRoad,
    k_InvalidRoad_InvalidMap := kit_not iaInvalidMap taInvalidMap sInvalidRoad_InvalidMap ssInvalidRoad,
    k_InvalidRoad_InvalidBook := kit_not iaInvalidBook taInvalidBook sInvalidRoad_InvalidBook ssInvalidRoad,
    k_InvalidRoad_RoadError := kit_yes iaRoadError taRoadError sInvalidRoad_RoadError,
    k_InvalidRoad_ValueError := kit_typ sInvalidRoad_ValueError (by decide +kernel),
    k_InvalidRoad_InvalidMachine := kit_not iaInvalidMachine taInvalidMachine sInvalidRoad_InvalidMachine ssInvalidRoad,
    k_InvalidRoad_InvalidSquare := kit_not iaInvalidSquare taInvalidSquare sInvalidRoad_InvalidSquare ssInvalidRoad,
    k_InvalidRoad_InvalidNumber := kit_not iaInvalidNumber taInvalidNumber sInvalidRoad_InvalidNumber ssInvalidRoad,
    k_InvalidRoad_InvalidTurn := kit_not iaInvalidTurn taInvalidTurn sInvalidRoad_InvalidTurn ssInvalidRoad,
    k_InvalidRoad_HasEnded := kit_not iaHasEnded taHasEnded sInvalidRoad_HasEnded ssInvalidRoad,
    k_InvalidRoad_NothingToUndo := kit_not iaNothingToUndo taNothingToUndo sInvalidRoad_NothingToUndo ssInvalidRoad,
    k_InvalidRoad_Unreadable := kit_not iaUnreadable taUnreadable sInvalidRoad_Unreadable ssInvalidRoad,
    x_InvalidRoad_RoadError := exm_yes beRoadError iaRoadError taRoadError sInvalidRoad_RoadError,
    z_max := PySem.W.mg_none_of X G z0, z_len := PySem.W.mg_none_of X G z1, z_int := PySem.W.mg_none_of X G z2, z_abs := PySem.W.mg_none_of X G z3, z_min := PySem.W.mg_none_of X G z4, z_tuple := PySem.W.mg_none_of X G z5, z_range := PySem.W.mg_none_of X G z6, z_isinstance := PySem.W.mg_none_of X G z7, z_ValueError := PySem.W.mg_none_of X G z8, z_repr := PySem.W.mg_none_of X G z9, z_enumerate := PySem.W.mg_none_of X G z10, z_list := PySem.W.mg_none_of X G z11, m_gcd := PySem.W.mg_of X G m0, m_isqrt := PySem.W.mg_of X G m1
    }, _, _, _, _, _, _, rfl⟩
theorem law_F {l : PySem.W.OpenLaw} (el : l.prog = PySem.Challenge.pw_leftroads_k46_no_maps) {w : World} {K : PySem.W.Frag} {mg : Str → Option Value} {fa : Addr} (hfa : mg "law" = some (.ref fa))
    (h : ∃ (T : Tx K mg) (kV dc pm cd ct : Value) (an : Option Addr), T.fd_law = PySem.W.fnOf "law" "law" (defArgs s_law) (defBody s_law) (defScope s_law) .none kV dc pm an cd ct) :
    ∃ fd : FuncData, (∀ (s : Shared) (v : Value), BindsTo s fd ⟨[v], []⟩ [("script", v)]) ∧ ∀ base : Heap, K.In base → base.Ns mainGlobals mg → FnG l.prog w K mg base CX0 9 fa fd ["script"] (sp_law K) := by
  obtain ⟨T, kV, dc, pm, cd, ct, an, e⟩ := h
  have z := hfa.symm.trans T.g_law
  cases z
  refine ⟨T.fd_law, fun s v => ?_, fun base _ _ => ok_law T⟩
  rw [e]
  exact .of_eq rfl
end Lr
open PySem PySem.W PyProof.Rows
set_option maxHeartbeats 0 in
theorem PySem.Challenge.cw_leftroads_k46_no_maps_holds : PySem.Challenge.rw_leftroads_k46_no_maps.Holds := by
  w_on; o_law; k_head; (case hw => w_witness2)
  k_fill
  refine Lr.walk_ofG (l := PySem.Challenge.rw_leftroads_k46_no_maps) (n := 63) (k := 9) (x := "script") (sp := fun w => Lr.sp_law _) rfl (by decide) rfl ⟨rfl, by decide, by decide⟩ (fun w h Y => PySem.W.kIn_of Y) ?F (fun _ _ a ns hl hb hS ho => Lr.law_in (n := 0) hl hb hS ho)
  case F =>
    intro w mg fa h KX G hmg
    refine' Lr.law_F rfl hmg (Lr.mk_tx KX G ?a0 ?l0 ?c0 ?k0 ?a1 ?l1 ?c1 ?k1 ?a2 ?l2 ?c2 ?k2 ?a3 ?l3 ?c3 ?k3 ?a4 ?l4 ?c4 ?k4 ?a5 ?l5 ?c5 ?k5 ?a6 ?l6 ?c6 ?k6 ?a7 ?l7 ?c7 ?k7 ?a8 ?l8 ?c8 ?k8 ?a9 ?l9 ?c9 ?k9 ?a10 ?l10 ?c10 ?k10 ?a11 ?l11 ?c11 ?k11 ?a12 ?l12 ?c12 ?k12 ?a13 ?l13 ?c13 ?k13 ?a14 ?l14 ?c14 ?k14 ?a15 ?l15 ?c15 ?k15 ?a16 ?l16 ?c16 ?k16 ?a17 ?l17 ?c17 ?k17 ?a18 ?l18 ?c18 ?k18 ?a19 ?l19 ?c19 ?k19 ?a20 ?l20 ?c20 ?k20 ?a21 ?l21 ?c21 ?k21 ?a22 ?l22 ?c22 ?k22 ?a23 ?l23 ?c23 ?k23 ?a24 ?l24 ?c24 ?k24 ?a25 ?l25 ?c25 ?k25 ?a26 ?l26 ?c26 ?k26 ?a27 ?l27 ?c27 ?k27 ?a28 ?l28 ?c28 ?k28 ?a29 ?l29 ?c29 ?k29 ?a30 ?l30 ?c30 ?k30 ?a31 ?l31 ?c31 ?k31 ?a32 ?l32 ?c32 ?k32 ?a33 ?l33 ?c33 ?k33 ?a34 ?l34 ?c34 ?k34 ?a35 ?l35 ?c35 ?k35 ?a36 ?l36 ?c36 ?k36 ?a37 ?l37 ?c37 ?k37 ?a38 ?l38 ?c38 ?k38 ?a39 ?l39 ?c39 ?k39 ?a40 ?l40 ?c40 ?k40 ?a41 ?l41 ?c41 ?k41 ?a42 ?l42 ?c42 ?k42 ?a43 ?l43 ?c43 ?k43 ?a44 ?l44 ?c44 ?k44 ?a45 ?l45 ?c45 ?k45 ?a46 ?l46 ?c46 ?k46 ?a47 ?l47 ?c47 ?k47 ?a48 ?l48 ?c48 ?k48 ?a49 ?l49 ?c49 ?k49 ?a50 ?l50 ?c50 ?k50 ?a51 ?l51 ?c51 ?k51 ?a52 ?l52 ?c52 ?k52 ?a53 ?l53 ?c53 ?k53 ?a54 ?l54 ?c54 ?k54 ?aCInvalidMap ?aCInvalidFraction ?aCInvalidRoad ?aCRoadError ?aCInvalidBook ?aCInvalidMachine ?aCInvalidSquare ?aCInvalidNumber ?aCInvalidTurn ?aCHasEnded ?aCNothingToUndo ?aCUnreadable ?xLInvalidMap ?saInvalidMap ?gaInvalidMap ?ggInvalidMap ?nvInvalidMap ?icInvalidMap ?kcInvalidMap ?ecInvalidMap ?tcInvalidMap ?hdInvalidMap ?clInvalidMap ?haInvalidMap ?hmInvalidMap ?tR ?lR ?cR ?kR ?hn ?ht ?xLInvalidFraction ?saInvalidFraction ?gaInvalidFraction ?ggInvalidFraction ?nvInvalidFraction ?icInvalidFraction ?kcInvalidFraction ?ecInvalidFraction ?tcInvalidFraction ?hdInvalidFraction ?clInvalidFraction ?haInvalidFraction ?hmInvalidFraction ?xLInvalidRoad ?saInvalidRoad ?gaInvalidRoad ?ggInvalidRoad ?nvInvalidRoad ?icInvalidRoad ?kcInvalidRoad ?ecInvalidRoad ?tcInvalidRoad ?hdInvalidRoad ?clInvalidRoad ?haInvalidRoad ?hmInvalidRoad ?iaInvalidRoad ?taInvalidRoad ?iaInvalidFraction ?taInvalidFraction ?iaInvalidMap ?taInvalidMap ?iaInvalidBook ?taInvalidBook ?iaRoadError ?taRoadError ?iaInvalidMachine ?taInvalidMachine ?iaInvalidSquare ?taInvalidSquare ?iaInvalidNumber ?taInvalidNumber ?iaInvalidTurn ?taInvalidTurn ?iaHasEnded ?taHasEnded ?iaNothingToUndo ?taNothingToUndo ?iaUnreadable ?taUnreadable ?beRoadError ?ssInvalidMap ?sInvalidMap_InvalidRoad ?sInvalidMap_InvalidFraction ?sInvalidMap_InvalidBook ?sInvalidMap_RoadError ?sInvalidMap_ValueError ?sInvalidMap_InvalidMachine ?sInvalidMap_InvalidSquare ?sInvalidMap_InvalidNumber ?sInvalidMap_InvalidTurn ?sInvalidMap_HasEnded ?sInvalidMap_NothingToUndo ?sInvalidMap_Unreadable ?ssInvalidFraction ?sInvalidFraction_InvalidRoad ?sInvalidFraction_InvalidMap ?sInvalidFraction_InvalidBook ?sInvalidFraction_RoadError ?sInvalidFraction_ValueError ?sInvalidFraction_InvalidMachine ?sInvalidFraction_InvalidSquare ?sInvalidFraction_InvalidNumber ?sInvalidFraction_InvalidTurn ?sInvalidFraction_HasEnded ?sInvalidFraction_NothingToUndo ?sInvalidFraction_Unreadable ?ssInvalidRoad ?sInvalidRoad_InvalidFraction ?sInvalidRoad_InvalidMap ?sInvalidRoad_InvalidBook ?sInvalidRoad_RoadError ?sInvalidRoad_ValueError ?sInvalidRoad_InvalidMachine ?sInvalidRoad_InvalidSquare ?sInvalidRoad_InvalidNumber ?sInvalidRoad_InvalidTurn ?sInvalidRoad_HasEnded ?sInvalidRoad_NothingToUndo ?sInvalidRoad_Unreadable ?z0 ?z1 ?z2 ?z3 ?z4 ?z5 ?z6 ?z7 ?z8 ?z9 ?z10 ?z11 ?m0 ?m1)
    (case a0 => k_is)
    (case l0 => k_is)
    (case c0 => k_is)
    (case k0 => k_is)
    (case a1 => k_is)
    (case l1 => k_is)
    (case c1 => k_is)
    (case k1 => k_is)
    (case a2 => k_is)
    (case l2 => k_is)
    (case c2 => k_is)
    (case k2 => k_is)
    (case a3 => k_is)
    (case l3 => k_is)
    (case c3 => k_is)
    (case k3 => k_is)
    (case a4 => k_is)
    (case l4 => k_is)
    (case c4 => k_is)
    (case k4 => k_is)
    (case a5 => k_is)
    (case l5 => k_is)
    (case c5 => k_is)
    (case k5 => k_is)
    (case a6 => k_is)
    (case l6 => k_is)
    (case c6 => k_is)
    (case k6 => k_is)
    (case a7 => k_is)
    (case l7 => k_is)
    (case c7 => k_is)
    (case k7 => k_is)
    (case a8 => k_is)
    (case l8 => k_is)
    (case c8 => k_is)
    (case k8 => k_is)
    (case a9 => k_is)
    (case l9 => k_is)
    (case c9 => k_is)
    (case k9 => k_is)
    (case a10 => k_is)
    (case l10 => k_is)
    (case c10 => k_is)
    (case k10 => k_is)
    (case a11 => k_is)
    (case l11 => k_is)
    (case c11 => k_is)
    (case k11 => k_is)
    (case a12 => k_is)
    (case l12 => k_is)
    (case c12 => k_is)
    (case k12 => k_is)
    (case a13 => k_is)
    (case l13 => k_is)
    (case c13 => k_is)
    (case k13 => k_is)
    (case a14 => k_is)
    (case l14 => k_is)
    (case c14 => k_is)
    (case k14 => k_is)
    (case a15 => k_is)
    (case l15 => k_is)
    (case c15 => k_is)
    (case k15 => k_is)
    (case a16 => k_is)
    (case l16 => k_is)
    (case c16 => k_is)
    (case k16 => k_is)
    (case a17 => k_is)
    (case l17 => k_is)
    (case c17 => k_is)
    (case k17 => k_is)
    (case a18 => k_is)
    (case l18 => k_is)
    (case c18 => k_is)
    (case k18 => k_is)
    (case a19 => k_is)
    (case l19 => k_is)
    (case c19 => k_is)
    (case k19 => k_is)
    (case a20 => k_is)
    (case l20 => k_is)
    (case c20 => k_is)
    (case k20 => k_is)
    (case a21 => k_is)
    (case l21 => k_is)
    (case c21 => k_is)
    (case k21 => k_is)
    (case a22 => k_is)
    (case l22 => k_is)
    (case c22 => k_is)
    (case k22 => k_is)
    (case a23 => k_is)
    (case l23 => k_is)
    (case c23 => k_is)
    (case k23 => k_is)
    (case a24 => k_is)
    (case l24 => k_is)
    (case c24 => k_is)
    (case k24 => k_is)
    (case a25 => k_is)
    (case l25 => k_is)
    (case c25 => k_is)
    (case k25 => k_is)
    (case a26 => k_is)
    (case l26 => k_is)
    (case c26 => k_is)
    (case k26 => k_is)
    (case a27 => k_is)
    (case l27 => k_is)
    (case c27 => k_is)
    (case k27 => k_is)
    (case a28 => k_is)
    (case l28 => k_is)
    (case c28 => k_is)
    (case k28 => k_is)
    (case a29 => k_is)
    (case l29 => k_is)
    (case c29 => k_is)
    (case k29 => k_is)
    (case a30 => k_is)
    (case l30 => k_is)
    (case c30 => k_is)
    (case k30 => k_is)
    (case a31 => k_is)
    (case l31 => k_is)
    (case c31 => k_is)
    (case k31 => k_is)
    (case a32 => k_is)
    (case l32 => k_is)
    (case c32 => k_is)
    (case k32 => k_is)
    (case a33 => k_is)
    (case l33 => k_is)
    (case c33 => k_is)
    (case k33 => k_is)
    (case a34 => k_is)
    (case l34 => k_is)
    (case c34 => k_is)
    (case k34 => k_is)
    (case a35 => k_is)
    (case l35 => k_is)
    (case c35 => k_is)
    (case k35 => k_is)
    (case a36 => k_is)
    (case l36 => k_is)
    (case c36 => k_is)
    (case k36 => k_is)
    (case a37 => k_is)
    (case l37 => k_is)
    (case c37 => k_is)
    (case k37 => k_is)
    (case a38 => k_is)
    (case l38 => k_is)
    (case c38 => k_is)
    (case k38 => k_is)
    (case a39 => k_is)
    (case l39 => k_is)
    (case c39 => k_is)
    (case k39 => k_is)
    (case a40 => k_is)
    (case l40 => k_is)
    (case c40 => k_is)
    (case k40 => k_is)
    (case a41 => k_is)
    (case l41 => k_is)
    (case c41 => k_is)
    (case k41 => k_is)
    (case a42 => k_is)
    (case l42 => k_is)
    (case c42 => k_is)
    (case k42 => k_is)
    (case a43 => k_is)
    (case l43 => k_is)
    (case c43 => k_is)
    (case k43 => k_is)
    (case a44 => k_is)
    (case l44 => k_is)
    (case c44 => k_is)
    (case k44 => k_is)
    (case a45 => k_is)
    (case l45 => k_is)
    (case c45 => k_is)
    (case k45 => k_is)
    (case a46 => k_is)
    (case l46 => k_is)
    (case c46 => k_is)
    (case k46 => k_is)
    (case a47 => k_is)
    (case l47 => k_is)
    (case c47 => k_is)
    (case k47 => k_is)
    (case a48 => k_is)
    (case l48 => k_is)
    (case c48 => k_is)
    (case k48 => k_is)
    (case a49 => k_is)
    (case l49 => k_is)
    (case c49 => k_is)
    (case k49 => k_is)
    (case a50 => k_is)
    (case l50 => k_is)
    (case c50 => k_is)
    (case k50 => k_is)
    (case a51 => k_is)
    (case l51 => k_is)
    (case c51 => k_is)
    (case k51 => k_is)
    (case a52 => k_is)
    (case l52 => k_is)
    (case c52 => k_is)
    (case k52 => k_is)
    (case a53 => k_is)
    (case l53 => k_is)
    (case c53 => k_is)
    (case k53 => k_is)
    (case a54 => k_is)
    (case l54 => k_is)
    (case c54 => k_is)
    (case k54 => k_is)
    (case aCInvalidMap => k_is)
    (case aCInvalidFraction => k_is)
    (case aCInvalidRoad => k_is)
    (case aCRoadError => k_is)
    (case aCInvalidBook => k_is)
    (case aCInvalidMachine => k_is)
    (case aCInvalidSquare => k_is)
    (case aCInvalidNumber => k_is)
    (case aCInvalidTurn => k_is)
    (case aCHasEnded => k_is)
    (case aCNothingToUndo => k_is)
    (case aCUnreadable => k_is)
    (case xLInvalidMap => k_is)
    (case saInvalidMap => k_is)
    (case gaInvalidMap => k_is)
    (case ggInvalidMap => k_is)
    (case nvInvalidMap => k_is)
    (case icInvalidMap => k_is)
    (case kcInvalidMap => k_is)
    (case ecInvalidMap => k_is)
    (case tcInvalidMap => k_is)
    (case hdInvalidMap => k_is)
    (case clInvalidMap => k_is)
    (case haInvalidMap => k_is)
    (case hmInvalidMap => k_is)
    (case tR => k_is)
    (case lR => k_is)
    (case cR => k_is)
    (case kR => k_is)
    (case hn => k_is)
    (case ht => k_is)
    (case xLInvalidFraction => k_is)
    (case saInvalidFraction => k_is)
    (case gaInvalidFraction => k_is)
    (case ggInvalidFraction => k_is)
    (case nvInvalidFraction => k_is)
    (case icInvalidFraction => k_is)
    (case kcInvalidFraction => k_is)
    (case ecInvalidFraction => k_is)
    (case tcInvalidFraction => k_is)
    (case hdInvalidFraction => k_is)
    (case clInvalidFraction => k_is)
    (case haInvalidFraction => k_is)
    (case hmInvalidFraction => k_is)
    (case xLInvalidRoad => k_is)
    (case saInvalidRoad => k_is)
    (case gaInvalidRoad => k_is)
    (case ggInvalidRoad => k_is)
    (case nvInvalidRoad => k_is)
    (case icInvalidRoad => k_is)
    (case kcInvalidRoad => k_is)
    (case ecInvalidRoad => k_is)
    (case tcInvalidRoad => k_is)
    (case hdInvalidRoad => k_is)
    (case clInvalidRoad => k_is)
    (case haInvalidRoad => k_is)
    (case hmInvalidRoad => k_is)
    (case iaInvalidRoad => k_is)
    (case taInvalidRoad => k_is)
    (case iaInvalidFraction => k_is)
    (case taInvalidFraction => k_is)
    (case iaInvalidMap => k_is)
    (case taInvalidMap => k_is)
    (case iaInvalidBook => k_is)
    (case taInvalidBook => k_is)
    (case iaRoadError => k_is)
    (case taRoadError => k_is)
    (case iaInvalidMachine => k_is)
    (case taInvalidMachine => k_is)
    (case iaInvalidSquare => k_is)
    (case taInvalidSquare => k_is)
    (case iaInvalidNumber => k_is)
    (case taInvalidNumber => k_is)
    (case iaInvalidTurn => k_is)
    (case taInvalidTurn => k_is)
    (case iaHasEnded => k_is)
    (case taHasEnded => k_is)
    (case iaNothingToUndo => k_is)
    (case taNothingToUndo => k_is)
    (case iaUnreadable => k_is)
    (case taUnreadable => k_is)
    (case beRoadError => k_is)
    (case ssInvalidMap => k_is)
    (case sInvalidMap_InvalidRoad => k_is)
    (case sInvalidMap_InvalidFraction => k_is)
    (case sInvalidMap_InvalidBook => k_is)
    (case sInvalidMap_RoadError => k_is)
    (case sInvalidMap_ValueError => k_is)
    (case sInvalidMap_InvalidMachine => k_is)
    (case sInvalidMap_InvalidSquare => k_is)
    (case sInvalidMap_InvalidNumber => k_is)
    (case sInvalidMap_InvalidTurn => k_is)
    (case sInvalidMap_HasEnded => k_is)
    (case sInvalidMap_NothingToUndo => k_is)
    (case sInvalidMap_Unreadable => k_is)
    (case ssInvalidFraction => k_is)
    (case sInvalidFraction_InvalidRoad => k_is)
    (case sInvalidFraction_InvalidMap => k_is)
    (case sInvalidFraction_InvalidBook => k_is)
    (case sInvalidFraction_RoadError => k_is)
    (case sInvalidFraction_ValueError => k_is)
    (case sInvalidFraction_InvalidMachine => k_is)
    (case sInvalidFraction_InvalidSquare => k_is)
    (case sInvalidFraction_InvalidNumber => k_is)
    (case sInvalidFraction_InvalidTurn => k_is)
    (case sInvalidFraction_HasEnded => k_is)
    (case sInvalidFraction_NothingToUndo => k_is)
    (case sInvalidFraction_Unreadable => k_is)
    (case ssInvalidRoad => k_is)
    (case sInvalidRoad_InvalidFraction => k_is)
    (case sInvalidRoad_InvalidMap => k_is)
    (case sInvalidRoad_InvalidBook => k_is)
    (case sInvalidRoad_RoadError => k_is)
    (case sInvalidRoad_ValueError => k_is)
    (case sInvalidRoad_InvalidMachine => k_is)
    (case sInvalidRoad_InvalidSquare => k_is)
    (case sInvalidRoad_InvalidNumber => k_is)
    (case sInvalidRoad_InvalidTurn => k_is)
    (case sInvalidRoad_HasEnded => k_is)
    (case sInvalidRoad_NothingToUndo => k_is)
    (case sInvalidRoad_Unreadable => k_is)
    (case z0 => k_is)
    (case z1 => k_is)
    (case z2 => k_is)
    (case z3 => k_is)
    (case z4 => k_is)
    (case z5 => k_is)
    (case z6 => k_is)
    (case z7 => k_is)
    (case z8 => k_is)
    (case z9 => k_is)
    (case z10 => k_is)
    (case z11 => k_is)
    (case m0 => k_is)
    (case m1 => k_is)
