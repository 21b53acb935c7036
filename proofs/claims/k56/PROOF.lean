import PyProof.Rows.All
import Wide.All
import OpenK.AllK
import Wide.FinOn
import HandS.ForMost
import HandS.EndBits
import HandS.Wide
import HandS.RaiseMore
import HandS.Walk
import HandS.Style
import HandS.IsInst
import KE.DataMinMax
import HandS.Gcd
import PyProof.MaxThree
import PyProof.StrOps2
import PyProof.StrLawsFrom
import HandS.StrMore
import HandS.WideBits
import HandS.Deep
import HandS.Dict
import HandS.Flt
import HandS.ForExc
import HandS.ExcInit
import HandS.ExcField
import KE.KExcIs
import KE.KMathG
import Flt.RightSqrt
import HandS.Small
import HandS.SortRule
import HandS.TupSets
import KE.GoesEnum
import HandS.DictTup
import HandS.DictComp
import HandS.Conv
import HandS.Replace
import PySem.Challenge.RW_leftroads_k56_roots_of_squares
set_option Elab.async false
set_option linter.all false
set_option maxRecDepth 100000
set_option maxHeartbeats 8000000
/-! Calls where no repr is under way. -/
namespace Lr
open PySem PySem.Spec PyProof.Rows L2
section
variable {P : Program} {w : World} {K : PySem.W.Frag} {mg : Str → Option Value} {base : Heap}
/-- a def that keeps its promise where no repr is under way -/
structure FnG (P : Program) (w : World) (K : PySem.W.Frag) (mg : Str → Option Value) (base : Heap) (CX : CXT) (k : Nat) (f : Addr) (fd : FuncData) (ps : List Str) (sp : Sp) : Prop where
  many : ∀ vs H Q E, sp vs H Q E → vs.length = ps.length
  goes : ∀ (A : Around) (up : List Env) (s : Shared) (H : Hp) (as : Args) (us : List Value) (vs : List V) (Q : VK) (E : XK), A.guards = some [] → Room k A → Env0 P w K mg base A up s H →
    BindsTo s fd as (ps.zip us) → Vals vs us → sp vs H Q E → codeAny (model P w) A (.call (.ref f) as) (CR CX up P w H s Q E) s
theorem FnG.of {CX : CXT} {k : Nat} {f : Addr} {fd : FuncData} {ps : List Str} {sp : Sp} (F : FnOk P w K mg base CX k f fd ps sp) : FnG P w K mg base CX k f fd ps sp :=
  ⟨F.len, fun A up s H as us vs Q E _ => F.run A up s H as us vs Q E⟩
theorem FnG.up {CX : CXT} {j k : Nat} {f : Addr} {fd : FuncData} {ps : List Str} {sp : Sp} (F : FnG P w K mg base CX j f fd ps sp) (l : j ≤ k) : FnG P w K mg base CX k f fd ps sp :=
  ⟨F.many, fun A up s H as us vs Q E g r => F.goes A up s H as us vs Q E g (r.mono l)⟩
theorem FnG.wk {CX : CXT} {k : Nat} {f : Addr} {fd : FuncData} {ps : List Str} {sp sp' : Sp} (F : FnG P w K mg base CX k f fd ps sp) (i : ∀ vs H Q E, sp' vs H Q E → sp vs H Q E) : FnG P w K mg base CX k f fd ps sp' :=
  ⟨fun vs H Q E z => F.many vs H Q E (i _ _ _ _ z), fun A up s H as us vs Q E g r e b v z => F.goes A up s H as us vs Q E g r e b v (i _ _ _ _ z)⟩
/-- a def by its body, as F.ok says, with the guards told -/
theorem okGX {CX : CXT} {x qual : Str} {st : Stmt} {f : Addr} {fd : FuncData} {N ps : List Str} {k : Nat} {sp : Sp} (F : Fun K x qual st f fd) (S : FnScope N ps (defScope st)) (many : ∀ vs H Q E, sp vs H Q E → vs.length = ps.length)
    (body : ∀ (cdv : Value) (A : Around) (up : List Env) (s : Shared) (H : Hp) (vs : List V) (Q : VK) (E : XK), A.guards = some [] → Room k (A.deeper (envOfC qual (defScope st) s.heap.objs.size f cdv)) → sp vs H Q E →
      ∃ t, PSs (cxOf CX P w K mg base N qual (defScope st) f cdv A up s H E) (defBody st) t ∧ t { nx := fun _ H' => Q .non H', rt := Q } (start N vs) H) : FnG P w K mg base CX (k + 1) f fd ps sp := by
  obtain ⟨oc, od, kV, doc, pm, an, cdv, ct, osl, rfl, lk, hcd⟩ := F.ex
  refine ⟨many, fun A up s H as us vs Q E hG hr e0 hb rv hsp => ?_⟩
  have mn := many _ _ _ _ hsp
  have inK : K.In s.heap := e0.mod.kin.keeps fun b o z => (e0.bs b o z).1
  have nl : s.heap.NoLimit := e0.mod.nolimit.keeps fun b o z => (e0.bs b o z).1
  refine codeAny_call_function hr.depth (inK _ _ lk) rfl S.co
    S.gen rfl (PySem.W.codeRec_of inK hcd) (hb _ _ _ _ ?_)
  refine wpAny_newFunctionEnv_cells S.kind (fun ⟨n, v⟩ hy => ?_) fun ev he s1 x => ?_
  · rcases S.par n (List.of_mem_zip hy).1 with z | z
    · exact .inl z
    · exact .inr ⟨z, PySem.W.cellsFrom_some _ _ _ (.inl z)⟩
  · subst he
    refine ⟨nl.keeps x.toInCall.keep, codeAny_func ?_⟩
    obtain ⟨t, ht, hq⟩ := body cdv A up s H vs Q E hG (hr.deeper _) hsp
    have I := inv_start (CX := CX) (qual := qual) (f := f) (cd := cdv) (E := E) S hr.hd e0 mn rv x
    refine wpAny_mono (ht.run [] s1 (start N vs) H _ I hq) (fun fl s' hs => ?_) fun _ _ z => z
    cases fl with
    | ret u =>
      obtain ⟨v, σ', H', J, r1, q⟩ := hs
      exact ⟨v, H', J.os, J.bare, J.base, J.hok, r1, q⟩
    | next =>
      obtain ⟨σ', H', J, q⟩ := hs
      exact ⟨.non, H', J.os, J.bare, J.base, J.hok, rfl, q⟩
    | brk =>
      obtain ⟨_, _, _, q⟩ := hs
      exact q.elim
    | cont =>
      obtain ⟨_, _, _, q⟩ := hs
      exact q.elim
/-- .. of a def that no error leaves -/
theorem okG {x qual : Str} {st : Stmt} {f : Addr} {fd : FuncData} {N ps : List Str} {k : Nat} {sp : Sp} (F : Fun K x qual st f fd) (S : FnScope N ps (defScope st)) (many : ∀ vs H Q E, sp vs H Q E → vs.length = ps.length)
    (body : ∀ (cdv : Value) (A : Around) (up : List Env) (s : Shared) (H : Hp) (vs : List V) (Q : VK) (E : XK), A.guards = some [] → Room k (A.deeper (envOfC qual (defScope st) s.heap.objs.size f cdv)) → sp vs H Q E →
      ∃ t, PSs (cxOf CX0 P w K mg base N qual (defScope st) f cdv A up s H E).nox (defBody st) t ∧ t { nx := fun _ H' => Q .non H', rt := Q } (start N vs) H) : FnG P w K mg base CX0 (k + 1) f fd ps sp :=
  okGX F S many fun cdv A up s H vs Q E g hr z => by
    obtain ⟨t, ht, hq⟩ := body cdv A up s H vs Q E g hr z
    exact ⟨t, ht.nox, hq⟩
end
section
variable {X : Cx} {CX : CXT} {k : Nat} {f : Addr} {fd : FuncData} {ps : List Str} {sp : Sp} {E : XK} {x : Str} {p pos : Pos} {e : Expr} {es : List Expr} {t : TA}
theorem goes_fn {pins : List (Addr × Obj)} {σ : L2.St} {H : Hp} {s : Shared} {Q : VK} {us : List Value} {vs : List V} (F : FnG X.prog X.w X.K X.mg X.base CX k f fd ps sp) (hG : X.A.guards = some []) (hr : Room k X.A) (hb : Binds X.K fd ps []) (hx : Passes CX X E)
    (I : Inv X pins σ H s) (r : Vals vs us) (h : sp vs H Q E) : wpAny (model X.prog X.w) X.A (call (.ref f) us) (EP X pins σ Q) X.xe s := by
  have ln : us.length = ps.length := by
    rw [← r.length]
    exact F.many _ _ _ _ h
  have bt : BindsTo s fd ⟨us, []⟩ (ps.zip us) := by
    have z := hb s us I.kIn (by rw [List.append_nil]; exact ln)
    rw [List.append_nil] at z
    exact z
  refine wpAny_call (codeAny_mono (F.goes X.A X.stack s H ⟨us, []⟩ us vs Q E hG hr I.env0 bt r h) fun rs s' z => ?_)
  match rs, z with
  | .error er, z => exact hx pins σ H s er s' I z
  | .ok (.ret u), z => exact I.after z
/-- f(e, ..) of such a def -/
theorem pe_callG (F : FnG X.prog X.w X.K X.mg X.base CX k f fd ps sp) (hG : X.A.guards = some []) (hr : Room k X.A) (hg : Gl X x) (hm : X.mg x = some (.ref f)) (hk : PySem.W.keepIn X.K (.ref f) = true) (hb : Binds X.K fd ps []) (hx : Passes CX X E)
    (ha : PA X (e :: es) t) (hdb : (x == ("__debug__" : Str)) = false := by decide) (he : starEach (e :: es) X.env = (false, eval e X.env) :: starEach es X.env := by rfl) (hpl : (backTo pos (starEach es X.env)).any (·.1) = false := by rfl) :
    PE X (.Call (.Name x p) (e :: es) [] pos) (tCall sp [] E t) := by
  refine ⟨fun pins s σ H Q I h => ?_⟩
  refine wpAny_Call_Name_kw (ld_glob I hg hm ?_ hdb)
  refine PySem.W.callWith_K (h₀ := X.base) I.ok.mod.kin hk (thn (ha.run pos pins s σ H _ I h) fun us s1 z => ?_) he hpl
  obtain ⟨vs, H1, I1, r1, q⟩ := z
  rw [List.append_nil] at q
  exact ⟨I1.kIn, goes_fn F hG hr hb hx I1 r1 q⟩
end
section
/-- the law's call, from its promise: what stood ahead of it is tracked nowhere but for the script -/
theorem enterG {P : Program} {w : World} {K : PySem.W.Frag} {mg mb : Str → Option Value} {k : Nat} {fa a : Addr} {fd : FuncData} {x : Str} {sp : Sp} {s : Shared} {vs : List Value} {ns : List Int}
    (inK : K.In s.heap) (hm : s.heap.Ns mainGlobals mg) (hb : s.heap.Ns builtinsNs mb) (hbb : ∀ x : Str, x ≠ "__name__" → mb x = bootBuiltins x) (nl : s.heap.NoLimit) (hgen : s.gens = #[])
    (hobj : s.heap.get? a = some { cls := .type "list", data := .seq vs.toArray }) (hi : IntsAre vs ns) (hl : ns.length ≤ sizeLine) (hr : Room k callerA)
    (F : ∀ base : Heap, K.In base → base.Ns mainGlobals mg → FnG P w K mg base CX0 k fa fd [x] sp) (bd : ∀ (s : Shared) (u : Value), BindsTo s fd ⟨[u], []⟩ [(x, u)])
    (hsp : ∀ H : Hp, SqL K H a (ns.map V.int) → (∀ b, b ≠ a → H b = none) → sp [.ref a] H (fun v _ => v = .bl true) fun _ _ _ => False) :
    codeAny (model P w) callerA (.call (.ref fa) ⟨[.ref a], []⟩) (fun r s' => r = .ok (.ret (.bool true)) ∧ OldK s.heap s'.heap ∧ s'.os = s.os ∧ AllBare s'.gens) s := by
  have rv := vals_ints hi
  have ln := hi.length
  -- H tracks at most the script
  have go : ∀ H : Hp, (H = (fun _ => none) ∨ H a = some (.frz { cls := .type "list", data := .seq vs.toArray } (.lst (ns.map V.int))) ∧ K.lookup a = none ∧ ∀ b, b ≠ a → H b = none) → SqL K H a (ns.map V.int) →
      codeAny (model P w) callerA (.call (.ref fa) ⟨[.ref a], []⟩) (fun r s' => r = .ok (.ret (.bool true)) ∧ OldK s.heap s'.heap ∧ s'.os = s.os ∧ AllBare s'.gens) s := by
    intro H hH hS
    have only : ∀ b, b ≠ a → H b = none := fun b nb => by
      rcases hH with z | z
      · rw [z]
      · exact z.2.2 b nb
    have held : ∀ b u, H b = some u → b = a ∧ u = .frz { cls := .type "list", data := .seq vs.toArray } (.lst (ns.map V.int)) ∧ K.lookup a = none := fun b u z => by
      by_cases nb : b = a
      · refine ⟨nb, ?_⟩
        rw [nb] at z
        rcases hH with y | y
        · rw [y] at z
          cases z
        · rw [y.1] at z
          exact ⟨(Option.some.inj z).symm, y.2.1⟩
      · rw [only b nb] at z
        cases z
    have hok : HOk P w H s.heap := fun b u z => by
      obtain ⟨eb, eu, _⟩ := held b u z
      rw [eb, eu]
      exact ⟨hobj, by rw [List.length_map]; exact hl, vs, _, rv, hobj⟩
    -- a dict is not the script
    have dn : ∀ {b : Addr} {m : Str → Option Value}, s.heap.Ns b m → (hidT s.heap H).Ns b m := fun {b m} ⟨o, es, ep, ho, hd, more⟩ => by
      refine ⟨o, es, ep, hidT_get ho ?_, hd, more⟩
      refine only b fun eb => ?_
      rw [eb, hobj] at ho
      rw [← Option.some.inj ho] at hd
      exact nomatch hd
    have inB : K.In (hidT s.heap H) := fun b o z => hidT_get (inK b o z) (by
      cases q : H b with
      | none => rfl
      | some u =>
        obtain ⟨eb, _, nk⟩ := held b u q
        rw [eb, nk] at z
        cases z)
    obtain ⟨mc, n1, n2⟩ := nl
    have e0 : Env0 P w K mg (hidT s.heap H) callerA [] s H := {
      frames := rfl
      mod := ⟨inB, dn hm, ⟨mb, dn hb, hbb⟩, ⟨mc, dn n1, n2⟩⟩
      bs := fun b o z => of_hidT z
      bsz := Nat.le_of_eq (hidT_size _ _)
      funs := trivial
      frf := fun b z => absurd z List.not_mem_nil
      hok := hok
      bare := .of_eq hgen }
    refine codeAny_mono ((F _ inB (dn hm)).goes callerA [] s H _ [.ref a] [.ref a] _ (fun _ _ _ => False) rfl hr e0 (bd s (.ref a)) (.cons rfl .nil) (hsp H hS only)) fun r s' z => ?_
    match r, z with
    | .error _, z => exact z.elim
    | .ok (.ret u), z =>
      obtain ⟨v, H', os, bare, un, hok', r1, q⟩ := z
      cases (show v = V.bl true from q)
      cases (show u = Value.bool true from r1)
      refine ⟨rfl, OldK.of_keep fun b o ho => ?_, os, bare⟩
      cases q : H b with
      | none => exact un.keep b o ho q List.not_mem_nil List.not_mem_nil
      | some u =>
        obtain ⟨eb, eu, _⟩ := held b u q
        rw [eu] at q
        have z1 : s.heap.get? b = some _ := (hok b _ q).1
        have z2 : s'.heap.get? b = some _ := (hok' b _ (un.frzs b _ _ q)).1
        rw [z2, ← z1]
        exact ho
  cases hk : K.lookup a with
  | some o =>
    have z := inK a o hk
    rw [hobj] at z
    cases z
    exact go (fun _ => none) (.inl rfl) (.inr ⟨_, vs.toArray, _, hk, rfl, rfl, rfl, by rw [List.size_toArray, ln]; exact hl, by simpa using rv⟩)
  | none =>
    refine go (fun b => if b = a then some (.frz { cls := .type "list", data := .seq vs.toArray } (.lst (ns.map V.int))) else none) (.inr ⟨if_pos rfl, hk, fun b nb => if_neg nb⟩) (.inl (.inr ⟨_, if_pos rfl⟩))
/-- the goal that k_head leaves -/
theorem walk_ofG {l : PySem.W.OpenLaw} {n k : Nat} {q : Program} {loose : List Str} {XP : (Str → Option Value) → Heap → Prop} {YP : World → Heap → Prop} {d : DefRec} {K : Params → PySem.W.Frag} {sp : World → Sp} {x : Str}
    (hn : l.most = some n) (hn2 : n ≤ sizeLine) (hdf : d.params.defaults = []) (hr : Room k callerA) (hY : ∀ (w : World) (h : Heap), YP w h → (K w.params).In h)
    (F : ∀ (w : World) (mg : Str → Option Value) (fa : Addr) (h : Heap), (K w.params).In h → h.Ns mainGlobals mg → mg d.name = some (.ref fa) →
      ∃ fd : FuncData, (∀ (s : Shared) (u : Value), BindsTo s fd ⟨[u], []⟩ [(x, u)]) ∧ ∀ base : Heap, (K w.params).In base → base.Ns mainGlobals mg → FnG l.prog w (K w.params) mg base CX0 k fa fd [x] (sp w))
    (hsp : ∀ (w : World) (H : Hp) (a : Addr) (ns : List Int), ns.length ≤ n → (∀ z ∈ ns, Builtin.Int.intBits z ≤ 1048576) → SqL (K w.params) H a (ns.map V.int) → (∀ b, b ≠ a → H b = none) → sp w [.ref a] H (fun v _ => v = .bl true) fun _ _ _ => False) :
    PySem.W.WalkO q loose XP YP l.row.toRowW d [] (fun f vs => PySem.call f vs) := by
  refine Att.attach_callB hn hdf fun w s₀ s mg mb fa o pm cd doc a vs ns G Y ho hd hcd hmg hobj hi hlen hbits hg => ?_
  have inK := hY w _ Y
  obtain ⟨fd, bd, hF⟩ := F w mg fa _ inK G.T.g hmg
  exact enterG inK G.T.g G.T.b G.T.builtins G.T.nolimit hg hobj hi (Nat.le_trans hlen hn2) hr hF bd fun H hS only => hsp w H a ns hlen hbits hS only
end
end Lr

namespace Lr
open PySem PySem.Spec PyProof.Rows L2
/-! repr of data -/
/-- what repr writes out within the lines -/
structure Shw (d : PyData) : Prop where
  sh : d.showable = true
  nd : d.hasDict = false
  dp : d.depth ≤ 60
  lv : d.leavesShort 2000 = true
  bk : d.bulk ≤ 8000
theorem Shw.fits {d : PyData} (h : Shw d) : d.shown.length ≤ sizeLine := by
  have z := PyData.shown_le_bulk 2000 (by decide) d h.lv
  have y := h.bk
  have e : sizeLine = 16777216 := by decide
  omega
/-- repr(x), nothing being written out at the time -/
def rRepr (K : PySem.W.Frag) : List V → Hp → VK → Prop := fun xs H Q => ∃ v d, xs = [v] ∧ Dp K H v d ∧ Shw d ∧ Q (.str d.shown) H
section
variable {X : Cx}
theorem call_repr {k : Nat} (hG : X.A.guards = some []) (hr : Room k X.A) : CallR X (.builtin "repr") (rRepr X.K) := by
  intro pins s σ H xs us Q I r h
  obtain ⟨v, d, rfl, hd, hs, q⟩ := h
  obtain ⟨u, rfl, hu⟩ := vals1 r
  have un := hr.units
  obtain ⟨as, rd⟩ := Dp.reads I d v u hd hu
  have far : ∀ (a : Addr), u = .ref a → wpAny (model X.prog X.w) X.A (call (.builtin "repr") [u]) (EP X pins σ Q) X.xe s := fun a ea => by
    rw [ea] at rd ⊢
    exact repr_of_reads' rd hs.sh (PyData.noDict_hsm hs.nd) hG (by have := hs.dp; omega) (fun _ _ z => z) (fun h' u tk hk => ⟨.str d.shown, H, I.kept (t' := tk) hk, ⟨u, rfl⟩, q⟩) hs.fits
  cases hd with
  | non =>
    cases (show u = Value.none from hu)
    exact PySem.P.repr_of_none ⟨.str _, H, I.tok _, ⟨_, rfl⟩, q⟩
  | bl b =>
    cases (show u = Value.bool b from hu)
    exact PySem.P.repr_of_bool ⟨.str _, H, I.tok _, ⟨_, rfl⟩, q⟩
  | int i =>
    obtain ⟨t, e⟩ := (show ∃ t, u = Value.int i t from hu)
    cases e
    exact PySem.P.repr_of_int (of_decide_eq_true hs.sh) ⟨.str _, H, I.tok _, ⟨_, rfl⟩, q⟩
  | str x =>
    obtain ⟨t, e⟩ := (show ∃ t, u = Value.str x t from hu)
    cases e
    exact PySem.P.repr_of_str ⟨.str _, H, I.tok _, ⟨_, rfl⟩, q⟩ hs.fits
  | lst hl ha => exact far _ hu
  | tup hl ha => exact far _ hu
end
/-! forms -/
/-- an int below 2 ^ 1900 -/
def Sml (i : Int) : Prop := i.natAbs < 2 ^ 1900
theorem Sml.lg {i : Int} (h : Sml i) : i.natAbs.log2 < 1920 := Nat.lt_trans (PySem.Flt.log2_lt_of (k := 1900) (by decide) h) (by decide)
theorem Sml.tx {i : Int} (h : Sml i) : (PyData.int i).shown.length ≤ 2000 := by
  have z := int_text_length_le (k := 1920) (by decide) h.lg
  show (Str.ofString (toString i)).length ≤ 2000
  rw [PySem.ofString_length]
  omega
def intsD (l : List Int) : List PyData := l.map PyData.int
theorem ints_ok : ∀ {l : List Int}, (∀ i ∈ l, Sml i) → PyData.showableAll (intsD l) = true ∧ PyData.hasDictAll (intsD l) = false ∧ PyData.leavesShortAll 2000 (intsD l) = true ∧ PyData.bulkAll (intsD l) = l.length ∧ PyData.depthAll (intsD l) ≤ 1
  | [], _ => ⟨rfl, rfl, rfl, rfl, Nat.zero_le _⟩
  | i :: l, h => by
    obtain ⟨h1, h2, h3, h4, h5⟩ := ints_ok (l := l) fun j hj => h j (List.mem_cons_of_mem _ hj)
    have hi := h i List.mem_cons_self
    refine ⟨?_, ?_, ?_, ?_, ?_⟩
    · show (decide (i.natAbs.log2 < 1920) && PyData.showableAll (intsD l)) = true
      rw [decide_eq_true hi.lg, h1]
      rfl
    · show (false || PyData.hasDictAll (intsD l)) = false
      rw [h2]
      rfl
    · show (decide ((PyData.int i).shown.length ≤ 2000) && PyData.leavesShortAll 2000 (intsD l)) = true
      rw [decide_eq_true hi.tx, h3]
      rfl
    · show 0 + 1 + PyData.bulkAll (intsD l) = l.length + 1
      rw [h4]
      omega
    · have e : PyData.depthAll (intsD (i :: l)) = max (PyData.depth (.int i)) (PyData.depthAll (intsD l)) := rfl
      have e0 : PyData.depth (.int i) ≤ 1 := by show (0 : Nat) ≤ 1; omega
      rw [e]
      omega
/-- a tuple of intsD -/
def tupD (l : List Int) : PyData := .tuple (intsD l)
theorem shw_int {i : Int} (h : Sml i) : Shw (.int i) := ⟨decide_eq_true h.lg, rfl, (by show (0 : Nat) ≤ 60; omega), decide_eq_true h.tx, Nat.zero_le _⟩
theorem shw_tup {l : List Int} (h : ∀ i ∈ l, Sml i) (hl : l.length ≤ 8000) : Shw (tupD l) := by
  obtain ⟨h1, h2, h3, h4, h5⟩ := ints_ok h
  refine ⟨h1, h2, ?_, h3, ?_⟩
  · have e : PyData.depth (tupD l) ≤ PyData.depthAll (intsD l) + 1 := by
      first | exact Nat.le_refl _ | exact Nat.le_of_eq (Nat.add_comm _ _)
    omega
  · have e : PyData.bulk (tupD l) = PyData.bulkAll (intsD l) := rfl
    rw [e, h4]
    exact hl
theorem dp_ints {K : PySem.W.Frag} {H : Hp} : ∀ l : List Int, DpAll K H (l.map V.int) (intsD l)
  | [] => .nil
  | i :: l => .cons (.int i) (dp_ints l)
theorem dp_tup {K : PySem.W.Frag} {H : Hp} {a : Addr} {l : List Int} (h : SqT K H a (l.map V.int)) : Dp K H (.ref a) (tupD l) := .tup h (dp_ints l)
end Lr

namespace Lr
open PySem PySem.Spec PyProof.Rows L2
/-! operators on ints of any size that is met here -/
def Cml (i j : Int) : Prop := CMul i j ∨ CMulW i j
def Cpw (i j : Int) : Prop := 0 ≤ j ∧ (Builtin.Int.intBits i : Int) * j ≤ 2 ^ 27
def Cfd (i j : Int) : Prop := CDivN i j ∨ CDivW i j
theorem cml_l {i j : Int} (h : i.natAbs < 2 ^ 64) : Cml i j := .inl (.inl ⟨by omega, by omega⟩)
theorem cml_r {i j : Int} (h : j.natAbs < 2 ^ 64) : Cml i j := .inl (.inr ⟨by omega, by omega⟩)
theorem cml_w {i j : Int} (a b : Nat) (ha : i.natAbs < 2 ^ a) (hb : j.natAbs < 2 ^ b) (h : a + b ≤ 900000 := by decide) : Cml i j := by
  refine .inr (wide_mul (a := a + 1) (b := b + 1) (Nat.lt_of_lt_of_le ha (Nat.pow_le_pow_right (by decide) (by omega))) (Nat.lt_of_lt_of_le hb (Nat.pow_le_pow_right (by decide) (by omega))) (by omega) (by omega) (by omega))
theorem cml_s {i j : Int} (ha : Sml i) (hb : Sml j) : Cml i j := cml_w 1900 1900 ha hb
theorem bits_le {i : Int} {k : Nat} (h : i.natAbs < 2 ^ k) : Builtin.Int.intBits i ≤ k := by
  unfold Builtin.Int.intBits
  split
  · omega
  · rename_i hn
    have h0 : i.natAbs ≠ 0 := by
      intro z
      have : i = 0 := by omega
      simp [this] at hn
    have := (Nat.log2_lt h0).mpr h
    omega
theorem cpw {i j : Int} (k : Nat) (h : i.natAbs < 2 ^ k) (h0 : 0 ≤ j) (hj : (k : Int) * j ≤ 2 ^ 27) : Cpw i j := by
  refine ⟨h0, Int.le_trans (Int.mul_le_mul_of_nonneg_right ?_ h0) hj⟩
  have := bits_le h
  omega
section
variable {X : Cx}
theorem op_mulL : OpR X (binaryOp .Mult) (rI Cml fun i j => .int (i * j)) := opI fun _ _ _ _ _ _ _ hc q => mul_int q (by
  rcases hc with h | h
  · exact h.ok
  · exact h.ok)
theorem op_powL : OpR X (binaryOp .Pow) (rI Cpw fun i j => .int (i ^ j.toNat)) := opI fun _ _ _ _ _ _ _ hc q => pow_int hc.1 hc.2 q
theorem op_fdivL : OpR X (binaryOp .FloorDiv) (rI Cfd fun i j => .int (i.fdiv j)) := by
  intro pins s σ H x y v u Q I rx ry h
  obtain ⟨i, j, ex, ey, hc, q⟩ := h
  rcases hc with hc | hc
  · exact op_fdivN pins s σ H x y v u Q I rx ry ⟨i, j, ex, ey, hc, q⟩
  · have h0 : (0 : Int) < j := hc.1
    exact op_fdivW pins s σ H x y v u Q I rx ry ⟨i, j, ex, ey, hc, by
      show Q (.int (i / j)) H
      rw [← Int.fdiv_eq_ediv_of_nonneg i (by omega)]
      exact q⟩
end
/-! a call by names alone -/
section
variable {X : Cx} {CX : CXT} {k : Nat} {f : Addr} {fd : FuncData} {ps ks : List Str} {sp : Sp} {E : XK} {x : Str} {p pos : Pos} {kws : List Keyword} {tk : TA} {g : List Value → List Value → List Value} {gV : List V → List V → List V}
theorem pe_callK0 (F : FnOk X.prog X.w X.K X.mg X.base CX k f fd ps sp) (hr : Room k X.A) (hg : Gl X x) (hm : X.mg x = some (.ref f)) (hk : PySem.W.keepIn X.K (.ref f) = true) (hb : KBinds X.K fd ps ks g gV) (hx : Passes CX X E) (hkw : PK X kws tk)
    (hall : (backToKw pos (keywordEach kws X.env)).all (·.1.isSome) = true := by rfl) (hks : (backToKw pos (keywordEach kws X.env)).filterMap (·.1) = ks := by rfl) (hdb : (x == ("__debug__" : Str)) = false := by decide)
    (hpl : ((backTo pos (starEach [] X.env)).any (·.1) || (backToKw pos (keywordEach kws X.env)).any (·.1.isNone)) = false := by rfl) :
    PE X (.Call (.Name x p) [] kws pos) (tCallK sp gV E tNil tk) := by
  refine ⟨fun pins s σ H Q I h => ?_⟩
  refine wpAny_Call_Name_kw (ld_glob I hg hm ?_ hdb)
  refine PySem.W.callWith_KW0 (h₀ := X.base) I.ok.mod.kin hk hall (thn (hkw.run pos pins s σ H _ I h) fun ws s2 z => ?_) hpl
  obtain ⟨zs, H2, I2, rz, q2⟩ := z
  refine ⟨I2.kIn, ?_⟩
  rw [hks]
  exact run_fnk (us := []) (vs := []) F hr hb hx I2 .nil rz q2
end
/-! roads as texts -/
/-- the sign of a turn: L (false), R (true) -/
def sg (b : Bool) : Nat := if b then 82 else 76
def rd (w : List Bool) : Str := ⟨(w.map sg).toArray⟩
theorem rd_cps (w : List Bool) : (rd w).cps.toList = w.map sg := by simp [rd]
theorem rd_len (w : List Bool) : (rd w).length = w.length := by
  show (w.map sg).toArray.size = w.length
  simp
theorem str_ext {x y : Str} (h : x.cps.toList = y.cps.toList) : x = y := by
  obtain ⟨a⟩ := x
  obtain ⟨b⟩ := y
  have e : a = b := Array.toList_inj.mp h
  rw [e]
theorem app_list (x y : Str) : (x ++ y).cps.toList = x.cps.toList ++ y.cps.toList := by
  show (x.cps ++ y.cps).toList = _
  simp
theorem rd_app (u v : List Bool) : rd u ++ rd v = rd (u ++ v) := str_ext (by rw [app_list, rd_cps, rd_cps, rd_cps, List.map_append])
theorem rd_nil : rd [] = ("" : Str) := by decide +kernel
theorem rd_L : rd [false] = ("L" : Str) := by decide +kernel
theorem rd_R : rd [true] = ("R" : Str) := by decide +kernel
theorem sg_inj {a b : Bool} (h : sg a = sg b) : a = b := by
  cases a <;> cases b <;> first | rfl | exact absurd h (by decide)
theorem rd_inj {u v : List Bool} (h : rd u = rd v) : u = v := by
  have e : u.map sg = v.map sg := by rw [← rd_cps, ← rd_cps, h]
  exact List.map_inj_right (fun a b => sg_inj) |>.mp e
/-! the purse of the draws -/
/-- the purse at a, n draws at most so far -/
def Pu (H : Hp) (a : Addr) (n : Nat) : Prop := ∃ p0 p1 p2 : Int, H a = some (.lst [.int p0, .int p1, .int p2]) ∧ 0 ≤ p0 ∧ 0 ≤ p1 ∧ p1 < 2 ^ 80 ∧ 0 ≤ p2 ∧ p2 ≤ n
theorem Pu.le {H : Hp} {a : Addr} {n m : Nat} (h : Pu H a n) (l : n ≤ m) : Pu H a m := by
  obtain ⟨p0, p1, p2, h1, h2, h3, h4, h5, h6⟩ := h
  exact ⟨p0, p1, p2, h1, h2, h3, h4, h5, by omega⟩
/-- all that was tracked but for a is as it was -/
def Kp (a : Addr) (H H' : Hp) : Prop := ∀ b o, b ≠ a → H b = some o → H' b = some o
theorem Kp.refl (a : Addr) (H : Hp) : Kp a H H := fun _ _ _ h => h
theorem Kp.trans {a : Addr} {H H1 H2 : Hp} (x : Kp a H H1) (y : Kp a H1 H2) : Kp a H H2 := fun b o n h => y b o n (x b o n h)
theorem Kp.of {a : Addr} {H H' : Hp} (h : Same H H') : Kp a H H' := fun b o _ z => h b o z
theorem Kp.upd (a : Addr) (H : Hp) (o : HO) : Kp a H (upd H a o) := fun b u n h => by rw [upd_ne n]; exact h
theorem Kp.new {a : Addr} {H H' : Hp} {p : Addr} {o : HO} (x : Kp a H H') (h : H' p = none) : Kp a H (L2.upd H' p o) := fun b u n z => by
  rw [upd_ne (ne_of_none (x b u n z) h)]
  exact x b u n z
theorem Pu.same {H H' : Hp} {a : Addr} {n : Nat} (h : Pu H a n) (s : Same H H') : Pu H' a n := by
  obtain ⟨p0, p1, p2, h1, h2⟩ := h
  exact ⟨p0, p1, p2, s _ _ h1, h2⟩
theorem _root_.L2.Same.new {H H' : Hp} {p : Addr} {o : HO} (s : Same H H') (h : H' p = none) : Same H (L2.upd H' p o) := fun b u z => by
  rw [upd_ne (ne_of_none (s b u z) h)]
  exact s b u z
theorem Pu.new {H : Hp} {a p : Addr} {o : HO} {n : Nat} (h : Pu H a n) (hp : H p = none) : Pu (L2.upd H p o) a n := h.same ((L2.Same.refl H).new hp)
theorem Pu.ne {H : Hp} {a p : Addr} {n : Nat} (h : Pu H a n) (hp : H p = none) : a ≠ p := by
  obtain ⟨_, _, _, h1, _⟩ := h
  exact ne_of_none h1 hp
theorem sz {n : Nat} (h : n ≤ 1000000) : n ≤ sizeLine := Nat.le_trans h (by decide)
theorem tup_same {H H' : Hp} {K : PySem.W.Frag} {a : Addr} {xs : List V} (s : Same H H') (h : SqT K H a xs) : SqT K H' a xs := by
  rcases h with (h | ⟨o, h⟩) | h
  · exact .inl (.inl (s _ _ h))
  · exact .inl (.inr ⟨o, s _ _ h⟩)
  · exact .inr h
theorem Kp.tup {H H' : Hp} {a b : Addr} {xs : List V} (x : Kp a H H') (n : b ≠ a) (h : H b = some (.tup xs)) : H' b = some (.tup xs) := x b _ n h
theorem Kp.free {H H' : Hp} {a p : Addr} {n : Nat} (k : Kp a H H') (hp : Pu H' a n) (np : H' p = none) : H p = none := by
  cases e : H p with
  | none => rfl
  | some o =>
    have ne : p ≠ a := (hp.ne np).symm
    rw [k p o ne e] at np
    cases np
end Lr

set_option exponentiation.threshold 5000
namespace Lr
open PySem PySem.Spec PyProof.Rows L2
/-! readings whose ways meet -/
theorem if_val {t : TT} {ta tb : TE} {σ : L2.St} {H : Hp} {Q : VK} (c : Bool) (v : V) (ht : ∀ R : Bool → Hp → Prop, R c H → t σ H R) (h1 : c = true → ∀ R : VK, R v H → ta σ H R) (h2 : c = false → ∀ R : VK, R v H → tb σ H R) (q : Q v H) : tIf t ta tb σ H Q := by
  refine ht _ ?_
  cases c with
  | true => exact iteT (h1 rfl Q q)
  | false => exact iteF (h2 rfl Q q)
/-- .. where either way ends with what P says -/
theorem if_ends {t : TT} {ta tb : TE} {σ : L2.St} {H : Hp} {Q : VK} (P : V → Hp → Prop) (c : Bool) (ht : ∀ R : Bool → Hp → Prop, R c H → t σ H R) (h1 : c = true → ∀ R : VK, (∀ v H', P v H' → R v H') → ta σ H R) (h2 : c = false → ∀ R : VK, (∀ v H', P v H' → R v H') → tb σ H R)
    (q : ∀ v H', P v H' → Q v H') : tIf t ta tb σ H Q := by
  refine ht _ ?_
  cases c with
  | true => exact iteT (h1 rfl Q q)
  | false => exact iteF (h2 rfl Q q)
/-- an if whose ways meet -/
theorem if_meets {t : TT} {ta tb : TS} {D : Ends} {σ : L2.St} {H : Hp} (P : L2.St → Hp → Prop) (c : Bool) (ht : ∀ R : Bool → Hp → Prop, R c H → t σ H R) (h1 : c = true → ∀ N : L2.St → Hp → Prop, (∀ σ' H', P σ' H' → N σ' H') → ta { D with nx := N } σ H)
    (h2 : c = false → ∀ N : L2.St → Hp → Prop, (∀ σ' H', P σ' H' → N σ' H') → tb { D with nx := N } σ H) (q : ∀ σ' H', P σ' H' → D.nx σ' H') : tIfS t ta tb D σ H := by
  refine ht _ ?_
  cases c with
  | true => exact iteT (h1 rfl D.nx q)
  | false => exact iteF (h2 rfl D.nx q)
/-- two ways that meet, behind the test -/
theorem meet {c : Bool} {ta tb : TS} {D : Ends} {σ : L2.St} {H : Hp} (P : L2.St → Hp → Prop) (h1 : c = true → ∀ N : L2.St → Hp → Prop, (∀ σ' H', P σ' H' → N σ' H') → ta { D with nx := N } σ H)
    (h2 : c = false → ∀ N : L2.St → Hp → Prop, (∀ σ' H', P σ' H' → N σ' H') → tb { D with nx := N } σ H) (q : ∀ σ' H', P σ' H' → D.nx σ' H') : if c = true then ta D σ H else tb D σ H := by
  cases c with
  | true => exact iteT (h1 rfl D.nx q)
  | false => exact iteF (h2 rfl D.nx q)
/-! text lemmas -/
theorem nat_of {i : Int} (h : 0 ≤ i) : ∃ n : Nat, i = (n : Int) := ⟨i.toNat, by omega⟩
/-! the turns that a draw puts behind a road -/
def wayMenu : List V := [.str "L", .str "R", .str "LL", .str "RR", .str "LR", .str "RRRRR", .str "LLLLLLL"]
theorem wayMenu_at {r : Int} (h0 : 0 ≤ r) (h1 : r < 7) : ∃ u : List Bool, u.length ≤ 7 ∧ atI wayMenu r = some (.str (rd u)) := by
  have c : r = 0 ∨ r = 1 ∨ r = 2 ∨ r = 3 ∨ r = 4 ∨ r = 5 ∨ r = 6 := by omega
  rcases c with rfl | rfl | rfl | rfl | rfl | rfl | rfl
  · exact ⟨[false], by decide, by decide +kernel⟩
  · exact ⟨[true], by decide, by decide +kernel⟩
  · exact ⟨[false, false], by decide, by decide +kernel⟩
  · exact ⟨[true, true], by decide, by decide +kernel⟩
  · exact ⟨[false, true], by decide, by decide +kernel⟩
  · exact ⟨[true, true, true, true, true], by decide, by decide +kernel⟩
  · exact ⟨[false, false, false, false, false, false, false], by decide, by decide +kernel⟩
theorem rd_app_len {u v : List Bool} (h : u.length + v.length ≤ 1000000) : (rd u).length + (rd v).length ≤ sizeLine := by
  rw [rd_len, rd_len]
  exact sz h
/-! slices -/
theorem cut_rd (w : List Bool) (lo hi : Option Int) : cutS (rd w) lo hi = rd ((w.drop (HT.sIx w.length 0 lo)).take (HT.sIx w.length w.length hi - HT.sIx w.length 0 lo)) := by
  refine str_ext ?_
  rw [rd_cps]
  unfold cutS
  rw [rd_len, rd_cps]
  simp [List.map_take, List.map_drop]
theorem cut_take (w : List Bool) (t : Nat) : cutS (rd w) none (some (t : Int)) = rd (w.take t) := by
  rw [cut_rd, HT.sIx_none, HT.sIx_nat, List.drop_zero, Nat.sub_zero]
  by_cases h : t ≤ w.length
  · rw [Nat.min_eq_left h]
  · rw [Nat.min_eq_right (by omega), List.take_of_length_le (Nat.le_refl _), List.take_of_length_le (by omega)]
theorem cut_drop (w : List Bool) (t : Nat) : cutS (rd w) (some (t : Int)) none = rd (w.drop t) := by
  rw [cut_rd, HT.sIx_none, HT.sIx_nat]
  by_cases h : t ≤ w.length
  · rw [Nat.min_eq_left h, List.take_of_length_le (by rw [List.length_drop]; omega)]
  · rw [Nat.min_eq_right (by omega), List.drop_of_length_le (Nat.le_refl _), List.drop_of_length_le (by omega), List.take_nil]
theorem cut_mid (w : List Bool) (s t : Nat) : cutS (rd w) (some (s : Int)) (some (t : Int)) = rd ((w.take t).drop s) := by
  rw [cut_rd, HT.sIx_nat, HT.sIx_nat, List.drop_take]
  by_cases h : s ≤ w.length
  · rw [Nat.min_eq_left h]
    by_cases h2 : t ≤ w.length
    · rw [Nat.min_eq_left h2]
    · rw [Nat.min_eq_right (by omega), List.take_of_length_le (by rw [List.length_drop]; omega), List.take_of_length_le (by rw [List.length_drop]; omega)]
  · rw [Nat.min_eq_right (show w.length ≤ s by omega), List.drop_of_length_le (Nat.le_refl _), List.drop_of_length_le (show w.length ≤ s by omega), List.take_nil, List.take_nil]
theorem cut_most (w : List Bool) : cutS (rd w) none (some (-1)) = rd w.dropLast := by
  have e : HT.sIx w.length w.length (some (-1)) = w.length - 1 := by
    show (if (-1 : Int) < 0 then ((-1 : Int) + (w.length : Int)).toNat else min (-1 : Int).toNat w.length) = w.length - 1
    rw [if_pos (by decide)]
    omega
  rw [cut_rd, HT.sIx_none, e, List.drop_zero, Nat.sub_zero, List.dropLast_eq_take]
/-! a road walked turn by turn -/
theorem for_rd {w : List Bool} {g : TG} {tb : TS} {D : Ends} {σ : L2.St} {H : Hp} (Pv : List Bool → L2.St → Hp → Prop) (h0 : Pv [] σ H)
    (hs : ∀ pre t post σ H, w = pre ++ t :: post → Pv pre σ H → g (.str (rd [t])) σ H fun σ2 H2 => tb { D with nx := Pv (pre ++ [t]), ct := Pv (pre ++ [t]), bk := D.nx } σ2 H2) (hd : ∀ σ H, Pv w σ H → D.nx σ H) :
    ∃ W : Nat → Nat → L2.St → Hp → Prop, (∃ m, W 0 m σ H) ∧ ∀ i m σ H, W i m σ H →
      ((Its (rd w)).stop i H ∧ D.nx σ H) ∨ ((Its (rd w)).go i H ∧ ∃ N : L2.St → Hp → Prop, (∀ σ' H', N σ' H' → ∃ m', m' < m ∧ W (i + 1) m' σ' H') ∧ ∀ x H', (Its (rd w)).yld i H x H' → g x σ H' fun σ2 H2 => tb { D with nx := N, ct := N, bk := D.nx } σ2 H2) := by
  have es : (rd w).cps.size = w.length := rd_len w
  refine for_it walk_str (fun i σ H => Pv (w.take i) σ H) h0 (fun _ _ _ _ _ => trivial) ?_ ?_
  · rintro i x σ H H' hi p ⟨rfl, c, hc, rfl⟩
    have hi' : i < w.length := by omega
    have ec : c = sg w[i] := by
      have e1 : (rd w).cps.toList[i]? = some c := by rw [Array.getElem?_toList]; exact hc
      rw [rd_cps, List.getElem?_map, List.getElem?_eq_getElem hi'] at e1
      exact (Option.some.inj e1).symm
    have e2 : (⟨#[c]⟩ : Str) = rd [w[i]] := by rw [ec]; rfl
    have z := hs (w.take i) w[i] (w.drop (i + 1)) σ H' (by rw [List.getElem_cons_drop, List.take_append_drop]) p
    rw [e2]
    rw [List.take_append_getElem] at z
    exact z
  · intro σ H p
    rw [es, List.take_length] at p
    exact hd σ H p
theorem eq_L (t : Bool) : decide (V.str (rd [t]) = V.str ("L" : Str)) = !t := by cases t <;> decide +kernel
theorem eq_R (t : Bool) : decide (V.str (rd [t]) = V.str ("R" : Str)) = t := by cases t <;> decide +kernel
/-! counting signs -/
theorem count_L (w : List Bool) : Txt.count (rd w) ("L" : Str) + Txt.count (rd w) ("R" : Str) = (w.length : Int) := by
  have eL : ("L" : Str) = ⟨#[76]⟩ := by decide +kernel
  have eR : ("R" : Str) = ⟨#[82]⟩ := by decide +kernel
  rw [eL, eR, count_cnt, count_cnt, rd_cps]
  induction w with
  | nil => rfl
  | cons t w ih =>
    rw [List.map_cons, cnt_cons, cnt_cons, List.length_cons]
    have e : ((if sg t = 76 then 1 else 0 : Int)) + (if sg t = 82 then 1 else 0) = 1 := by cases t <;> decide
    omega
/-! menus of ints -/
theorem menu_at {l : List Int} {r : Int} (h0 : 0 ≤ r) (h1 : r < l.length) : ∃ t, t ∈ l ∧ atI (l.map V.int) r = some (.int t) := by
  obtain ⟨j, rfl⟩ := nat_of h0
  have hj : j < l.length := by omega
  exact ⟨l[j], List.getElem_mem hj, atI_nat (by rw [List.getElem?_map, List.getElem?_eq_getElem hj]; rfl)⟩
theorem same_kp {p : Addr} {H0 H1 H2 : Hp} (s : Same H0 H1) (n : H0 p = none) (k : Kp p H1 H2) : Same H0 H2 := fun b o h => k b o (ne_of_none h n) (s b o h)
theorem bl2 {b : Bool} {A B : Prop} (h1 : b = true → A) (h2 : b = false → B) : if b = true then A else B := by
  cases b with
  | true => exact iteT (h1 rfl)
  | false => exact iteF (h2 rfl)
/-! a turn exchanged, by a dict -/
def flipKs : List (Key × V) := [(.inr "L", .str "R"), (.inr "R", .str "L"), (.inr "", .str "")]
theorem flip_at {u : List Bool} (h : u.length ≤ 1) : valV (mergeK [] flipKs) (.inr (rd u)) = some (.str (rd (u.map not))) := by
  match u, h with
  | [], _ => decide +kernel
  | [false], _ => decide +kernel
  | [true], _ => decide +kernel
theorem shw_i {i : Int} (h : i.natAbs < 2 ^ 1900) : Shw (.int i) := shw_int h
theorem law_i {m C : Int} {i : Nat} (hi : i < (if (if m < C then m else C) > 1 then (if m < C then m else C) else 1 : Int).toNat) (h1 : 1 ≤ C) (h2 : C ≤ 63) : i < 63 := by
  revert hi
  split <;> split <;> omega
end Lr

set_option exponentiation.threshold 5000
namespace Lr
theorem snoc_ind {α : Type} {P : List α → Prop} (h0 : P []) (h1 : ∀ l x, P l → P (l ++ [x])) (l : List α) : P l := by
  have key : ∀ (n : Nat) (l : List α), l.length = n → P l := by
    intro n
    induction n with
    | zero =>
      intro l hl
      rw [List.length_eq_zero_iff.mp hl]
      exact h0
    | succ n ih =>
      intro l hl
      have hne : l ≠ [] := by
        intro z
        rw [z] at hl
        cases hl
      rw [← List.dropLast_concat_getLast hne]
      exact h1 _ _ (ih _ (by rw [List.length_dropLast]; omega))
  exact key _ l rfl
/-! tuples of four ints that are put one behind the other -/
@[ext] structure M4 where
  (a b c d : Int)
def M4.mul (m n : M4) : M4 := ⟨m.a * n.a + m.b * n.c, m.a * n.b + m.b * n.d, m.c * n.a + m.d * n.c, m.c * n.b + m.d * n.d⟩
def M4.one : M4 := ⟨1, 0, 0, 1⟩
def turnM (m : M4) (t : Bool) : M4 := if t then ⟨m.a, m.a + m.b, m.c, m.c + m.d⟩ else ⟨m.a + m.b, m.b, m.c + m.d, m.d⟩
def mat (w : List Bool) : M4 := w.foldl turnM M4.one
theorem mat_snoc (w : List Bool) (t : Bool) : mat (w ++ [t]) = turnM (mat w) t := by
  unfold mat
  rw [List.foldl_append]
  rfl
theorem turnM_mul (m : M4) (t : Bool) : turnM m t = m.mul (mat [t]) := by
  cases t
  · show (⟨m.a + m.b, m.b, m.c + m.d, m.d⟩ : M4) = ⟨m.a * (1 + 0) + m.b * (0 + 1), m.a * 0 + m.b * 1, m.c * (1 + 0) + m.d * (0 + 1), m.c * 0 + m.d * 1⟩
    ext <;> simp
  · show (⟨m.a, m.a + m.b, m.c, m.c + m.d⟩ : M4) = ⟨m.a * 1 + m.b * 0, m.a * (1 + 0) + m.b * (0 + 1), m.c * 1 + m.d * 0, m.c * (1 + 0) + m.d * (0 + 1)⟩
    ext <;> simp
theorem M4.mul_assoc (x y z : M4) : (x.mul y).mul z = x.mul (y.mul z) := by
  unfold M4.mul
  ext <;> simp [Int.add_mul, Int.mul_add, Int.mul_assoc] <;> omega
theorem M4.mul_one (x : M4) : x.mul M4.one = x := by
  unfold M4.mul M4.one
  ext <;> simp
theorem M4.one_mul (x : M4) : M4.one.mul x = x := by
  unfold M4.mul M4.one
  ext <;> simp
theorem mat_app (u v : List Bool) : mat (u ++ v) = (mat u).mul (mat v) := by
  induction v using snoc_ind with
  | h0 =>
    rw [List.append_nil]
    exact (M4.mul_one _).symm
  | h1 l x ih => rw [← List.append_assoc, mat_snoc, mat_snoc, ih, turnM_mul, turnM_mul (mat l), M4.mul_assoc]
def M4.det (m : M4) : Int := m.a * m.d - m.b * m.c
theorem M4.det_mul (x y : M4) : (x.mul y).det = x.det * y.det := by
  unfold M4.mul M4.det
  simp only [Int.add_mul, Int.mul_add, Int.sub_mul, Int.mul_sub]
  have e1 : x.a * y.a * (x.c * y.b) = x.a * y.b * (x.c * y.a) := by simp [Int.mul_comm, Int.mul_assoc, Int.mul_left_comm]
  have e2 : x.b * y.c * (x.d * y.d) = x.b * y.d * (x.d * y.c) := by simp [Int.mul_comm, Int.mul_assoc, Int.mul_left_comm]
  have e3 : x.a * y.a * (x.d * y.d) = x.a * x.d * (y.a * y.d) := by simp [Int.mul_comm, Int.mul_assoc, Int.mul_left_comm]
  have e4 : x.b * y.c * (x.c * y.b) = x.b * x.c * (y.b * y.c) := by simp [Int.mul_comm, Int.mul_assoc, Int.mul_left_comm]
  have e5 : x.a * y.b * (x.d * y.c) = x.a * x.d * (y.b * y.c) := by simp [Int.mul_comm, Int.mul_assoc, Int.mul_left_comm]
  have e6 : x.b * y.d * (x.c * y.a) = x.b * x.c * (y.a * y.d) := by simp [Int.mul_comm, Int.mul_assoc, Int.mul_left_comm]
  omega
theorem mat_det (w : List Bool) : (mat w).det = 1 := by
  induction w using snoc_ind with
  | h0 => rfl
  | h1 l x ih =>
    rw [mat_app, M4.det_mul, ih]
    cases x <;> rfl
/-- what a road's integers keep -/
structure Nn (m : M4) : Prop where
  a : 0 ≤ m.a
  b : 0 ≤ m.b
  c : 0 ≤ m.c
  d : 0 ≤ m.d
theorem turnM_nn {m : M4} (h : Nn m) (t : Bool) : Nn (turnM m t) := by
  obtain ⟨a, b, c, d⟩ := h
  cases t
  · exact ⟨by show 0 ≤ m.a + m.b; omega, b, by show 0 ≤ m.c + m.d; omega, d⟩
  · exact ⟨a, by show 0 ≤ m.a + m.b; omega, c, by show 0 ≤ m.c + m.d; omega⟩
theorem mat_nn (w : List Bool) : Nn (mat w) := by
  induction w using snoc_ind with
  | h0 => exact ⟨by decide, by decide, by decide, by decide⟩
  | h1 l x ih =>
    rw [mat_snoc]
    exact turnM_nn ih x
/-- how great they may be -/
theorem mat_le (w : List Bool) : (mat w).a + (mat w).b ≤ 2 ^ w.length ∧ (mat w).c + (mat w).d ≤ 2 ^ w.length := by
  induction w using snoc_ind with
  | h0 => exact ⟨by decide, by decide⟩
  | h1 l x ih =>
    have n := mat_nn l
    obtain ⟨a, b, c, d⟩ := n
    rw [mat_snoc, List.length_append]
    have e : (2 : Int) ^ (l.length + [x].length) = 2 ^ l.length * 2 := Int.pow_succ ..
    rw [e]
    cases x
    · show (mat l).a + (mat l).b + (mat l).b ≤ _ ∧ (mat l).c + (mat l).d + (mat l).d ≤ _
      omega
    · show (mat l).a + ((mat l).a + (mat l).b) ≤ _ ∧ (mat l).c + ((mat l).c + (mat l).d) ≤ _
      omega
/-- the fraction of a road -/
def wa (w : List Bool) : Int := (mat w).a + (mat w).b
def wb (w : List Bool) : Int := (mat w).c + (mat w).d
theorem up_R (w : List Bool) : wa (true :: w) = wa w + wb w ∧ wb (true :: w) = wb w := by
  have e : mat (true :: w) = (mat [true]).mul (mat w) := mat_app [true] w
  unfold wa wb
  rw [e]
  show (1 : Int) * (mat w).a + (1 + 0) * (mat w).c + (1 * (mat w).b + (1 + 0) * (mat w).d) = _ ∧ (0 : Int) * (mat w).a + (0 + 1) * (mat w).c + (0 * (mat w).b + (0 + 1) * (mat w).d) = _
  omega
theorem up_L (w : List Bool) : wa (false :: w) = wa w ∧ wb (false :: w) = wa w + wb w := by
  have e : mat (false :: w) = (mat [false]).mul (mat w) := mat_app [false] w
  unfold wa wb
  rw [e]
  show (1 + 0 : Int) * (mat w).a + 0 * (mat w).c + ((1 + 0) * (mat w).b + 0 * (mat w).d) = _ ∧ (0 + 1 : Int) * (mat w).a + 1 * (mat w).c + ((0 + 1) * (mat w).b + 1 * (mat w).d) = _
  omega
theorem pow_lt {n k : Nat} (h : n ≤ k) : (2 : Int) ^ n ≤ 2 ^ k := by
  have := Nat.pow_le_pow_right (show 0 < 2 by decide) h
  have e : ∀ m : Nat, (2 : Int) ^ m = ((2 ^ m : Nat) : Int) := fun m => by simp
  rw [e, e]
  exact Int.ofNat_le.mpr this
theorem up_pos (w : List Bool) : 1 ≤ wa w ∧ 1 ≤ wb w := by
  have n := mat_nn w
  have d := mat_det w
  obtain ⟨a, b, c, e⟩ := n
  unfold M4.det at d
  show 1 ≤ (mat w).a + (mat w).b ∧ 1 ≤ (mat w).c + (mat w).d
  constructor
  · by_cases h : (mat w).a = 0
    · by_cases h2 : (mat w).b = 0
      · rw [h, h2] at d
        simp at d
      · omega
    · omega
  · by_cases h : (mat w).c = 0
    · by_cases h2 : (mat w).d = 0
      · rw [h, h2] at d
        simp at d
      · omega
    · omega
theorem nat_pow_cast (k : Nat) : (2 : Int) ^ k = ((2 ^ k : Nat) : Int) := by simp
/-- the fraction of a road of at most k turns -/
theorem up_lt {w : List Bool} {k : Nat} (h : w.length ≤ k) : (wa w).natAbs ≤ 2 ^ k ∧ (wb w).natAbs ≤ 2 ^ k := by
  obtain ⟨h1, h2⟩ := mat_le w
  obtain ⟨p1, p2⟩ := up_pos w
  have h3 := pow_lt h
  rw [nat_pow_cast k] at h3
  have p1 : 1 ≤ (mat w).a + (mat w).b := p1
  have p2 : 1 ≤ (mat w).c + (mat w).d := p2
  show ((mat w).a + (mat w).b).natAbs ≤ 2 ^ k ∧ ((mat w).c + (mat w).d).natAbs ≤ 2 ^ k
  omega
open L2 in
theorem up_sml {w : List Bool} (h : w.length ≤ 1800) : Sml (wa w) ∧ Sml (wb w) := by
  obtain ⟨h1, h2⟩ := up_lt h
  have e : (2 : Nat) ^ 1800 < 2 ^ 1900 := Nat.pow_lt_pow_right (by decide) (by decide)
  exact ⟨Nat.lt_of_le_of_lt h1 e, Nat.lt_of_le_of_lt h2 e⟩
/-- a pair of small ints is written out -/
theorem shw2 {i j : Int} (h1 : Sml i) (h2 : Sml j) : Shw (tupD [i, j]) := shw_tup (fun x hx => by
  rcases List.mem_cons.mp hx with rfl | hx
  · exact h1
  · rcases List.mem_cons.mp hx with rfl | hx
    · exact h2
    · exact absurd hx List.not_mem_nil) (by show 2 ≤ 8000; decide)
end Lr

set_option exponentiation.threshold 5000
namespace Lr
open PySem PySem.Spec PyProof.Rows L2
/-! min of four ints -/
section
variable {prog : Program} {w : World} {A : Around} {E : Value → Shared → Prop} {s : Shared}
theorem args_min4 (a b c d : Value) : argsOk "min" ⟨[a, b, c, d], []⟩ := by
  unfold argsOk
  kernel_rfl
theorem min_four {a b c d : Int} {t1 t2 t3 t4 : Tok} {Q : Value → Shared → Prop} (hh : A.handled = none)
    (h : ∀ h' tk m t, (∀ x o, s.heap.get? x = some o → h'.get? x = some o) → m ∈ [a, b, c, d] → (∀ y ∈ [a, b, c, d], m ≤ y) → Q (.int m t) { s with heap := h', toks := tk }) :
    wpAny (model prog w) A (call (.builtin "min") [.int a t1, .int b t2, .int c t3, .int d t4]) Q E s := by
  have nm : (toString "min" ++ toString ".loop" : String) = "min.loop" := by decide
  refine call_function_tree F.kind_min F.plain_min
    F.entry_min (args_min4 _ _ _ _) ?_
  show wpAny _ A.in1 (Builtin.Builtins.bindParams "min" ["key", "default"] 0 ⟨[], []⟩
    >>= _) _ _ s
  refine wpAny_bind (wpAny_of_eq
    (show Builtin.Builtins.bindParams "min" ["key", "default"] 0 ⟨[], []⟩ = pure [Option.none, Option.none] from rfl) ?_)
  show wpAny _ A.in1 (newTuple [.int a t1, .int b t2, .int c t3, .int d t4] >>= _) _ _ s
  refine wpAny_bind (wpAny_newObj_type ?_)
  generalize hxs : (#[(a, t1), (b, t2), (c, t3), (d, t4)] : Array (Int × Tok)) = xs
  have exs : (#[.int a t1, .int b t2, .int c t3, .int d t4] : Array Value) = intItems xs := by
    rw [← hxs]
    simp [intItems]
  have enum : numsOf (intItems xs).toList = [a, b, c, d] := by
    rw [nums_intItems, ← hxs]
    rfl
  have size4 : xs.size = 4 := by
    rw [← hxs]
    rfl
  show wpAny _ _ (pyIter (.ref s.heap.objs.size) >>= _) _ _ { s with heap := s.heap.push { cls := .type "tuple", data := .seq #[.int a t1, .int b t2, .int c t3, .int d t4] } }
  rw [exs]
  generalize e1 : s.heap.push { cls := .type "tuple", data := .seq (intItems xs) } = g1
  have hT : g1.IsTuple s.heap.objs.size (intItems xs) := by
    rw [← e1]
    exact ⟨_, Heap.get?_push_size _ rfl, rfl, 0, rfl⟩
  have old1 : ∀ x o, s.heap.get? x = some o → g1.get? x = some o := fun x o z => by
    rw [← e1]
    exact Heap.get?_push_of_some _ z
  have n1 : g1.objs.size = s.heap.objs.size + 1 := by
    rw [← e1]
    exact Heap.size_push ..
  refine wpAny_bind (wpAny_pyIter_tuple hT ?_)
  show wpAny _ _ (_ >>= _) _ _ { s with heap := g1.push { cls := .type "tuple_iterator", data := .fields #[.ref s.heap.objs.size, .int 0 0] } }
  generalize e2 : g1.push { cls := .type "tuple_iterator", data := .fields #[.ref s.heap.objs.size, .int 0 0] } = g2
  have old2 : ∀ x o, g1.get? x = some o → g2.get? x = some o := fun x o z => by
    rw [← e2]
    exact Heap.get?_push_of_some _ z
  have n2 : g2.objs.size = s.heap.objs.size + 2 := by
    rw [← e2, Heap.size_push, n1]
  have hI : g2.IsTupleIter g1.objs.size s.heap.objs.size 0 := by
    rw [← e2]
    exact ⟨_, Heap.get?_push_size _ rfl, rfl, rfl⟩
  have hT2 : g2.IsTuple s.heap.objs.size (intItems xs) := by
    rw [← e2]
    exact hT.push _
  refine wpAny_bind (wpAny_newObj_type ?_)
  have W := Walks.tuple (prog := prog) (w := w) (A := A.in1) hh g1.objs.size s.heap.objs.size (by rw [n1]; exact Nat.ne_of_lt (Nat.lt_succ_self _)) (intItems xs)
  have fresh : g2.objs.size ∉ [g1.objs.size, s.heap.objs.size] := fun z => by
    rcases List.mem_cons.mp z with z | z
    · have z : (g2.objs.size : Nat) = (g1.objs.size : Nat) := z
      omega
    · rcases List.mem_cons.mp z with z | z
      · have z : (g2.objs.size : Nat) = (s.heap.objs.size : Nat) := z
        omega
      · exact absurd z List.not_mem_nil
  have is4 : (intItems xs).size = 4 := by simp [intItems, size4]
  rw [nm]
  refine wpAny_pure ⟨plainId_quiet F.plain_min_loop _, codeAny_min_loop_first W _ (CmpOf.ints_lt (numAt xs) (fun _ _ => intItems_at)) g2.objs.size fresh (by omega)
    (W.frame _ _ _ ⟨hI, hT2⟩ fun x _ o z => Heap.get?_push_of_some _ z) (Heap.get?_push_size _ rfl) fun v h' tk hP hk => ?_⟩
  obtain ⟨t, rfl⟩ := intItems_at hP
  obtain ⟨z1, z2⟩ := argBest_lt (numAt xs) (xs.size - 1)
  have e3 : (intItems xs).size - 1 = xs.size - 1 := by rw [is4, size4]
  rw [e3]
  have mem : ∀ j, j < 4 → numAt xs j ∈ [a, b, c, d] := fun j hj => by
    rw [← enum, nums_intItems, numAt_eq]
    exact PySem.getD_mem (by rw [List.length_map, Array.length_toList]; omega)
  refine h h' tk _ t (fun x o z => ?_) (mem _ (by omega)) fun y hy => ?_
  · have lt : (x : Nat) < (s.heap.objs.size : Nat) := Heap.lt_size z
    refine hk x o (fun z2 => ?_) (Nat.ne_of_lt (Nat.lt_of_lt_of_le lt (by rw [n2]; exact Nat.le_add_right _ _))) (Heap.get?_push_of_some _ (old2 _ _ (old1 _ _ z)))
    rcases List.mem_cons.mp z2 with z2 | z2
    · exact absurd z2 (Nat.ne_of_lt (Nat.lt_of_lt_of_le lt (by rw [n1]; exact Nat.le_add_right _ _)))
    · exact absurd z2 List.not_mem_nil
  · rw [← enum, nums_intItems] at hy
    obtain ⟨j, hj, rfl⟩ := mem_getD hy
    rw [List.length_map, Array.length_toList] at hj
    rw [← numAt_eq]
    exact z2 j (by omega)
end
section
variable {X : Cx}
/-- min(a, b, c, d) -/
def rMin4 : List V → Hp → VK → Prop := fun vs H Q => ∃ a b c d : Int, vs = [.int a, .int b, .int c, .int d] ∧ ∀ m : Int, m ∈ [a, b, c, d] → (∀ y ∈ [a, b, c, d], m ≤ y) → Q (.int m) H
theorem cr_minN (hc : X.calm = true) : CallR X (.builtin "min") rMin4 := by
  intro pins s σ H vs us Q I r h
  obtain ⟨a, b, c, d, rfl, q⟩ := h
  cases r with
  | cons r1 r => cases r with
    | cons r2 r => cases r with
      | cons r3 r => cases r with
        | cons r4 r =>
          cases r
          obtain ⟨t1, rfl⟩ := r1
          obtain ⟨t2, rfl⟩ := r2
          obtain ⟨t3, rfl⟩ := r3
          obtain ⟨t4, rfl⟩ := r4
          exact min_four (I.ok.hd hc) fun h' tk m t hk h1 h2 => ⟨.int m, H, I.kept (t' := tk) hk, ⟨t, rfl⟩, q m h1 h2⟩
/-- max(t), min(t) of a tuple of ints -/
def rMaxT (K : PySem.W.Frag) : List V → Hp → VK → Prop := fun vs H Q => ∃ (a : Addr) (n : Int) (ns : List Int), vs = [.ref a] ∧ SqT K H a ((n :: ns).map V.int) ∧ ns.length ≤ 100 ∧ ∀ m : Int, m ∈ n :: ns → (∀ y ∈ n :: ns, y ≤ m) → Q (.int m) H
def rMinT (K : PySem.W.Frag) : List V → Hp → VK → Prop := fun vs H Q => ∃ (a : Addr) (n : Int) (ns : List Int), vs = [.ref a] ∧ SqT K H a ((n :: ns).map V.int) ∧ ns.length ≤ 100 ∧ ∀ m : Int, m ∈ n :: ns → (∀ y ∈ n :: ns, m ≤ y) → Q (.int m) H
theorem fold_max : ∀ (ns : List Int) (n : Int), ns.foldl max n ∈ n :: ns ∧ ∀ y ∈ n :: ns, y ≤ ns.foldl max n
  | [], n => ⟨List.mem_cons_self, fun y hy => by
      rcases List.mem_cons.mp hy with rfl | hy
      · exact Int.le_refl _
      · exact absurd hy List.not_mem_nil⟩
  | x :: ns, n => by
    obtain ⟨h1, h2⟩ := fold_max ns (max n x)
    have hm := h2 (max n x) List.mem_cons_self
    refine ⟨?_, fun y hy => ?_⟩
    · rcases List.mem_cons.mp h1 with h1 | h1
      · show ns.foldl max (max n x) ∈ n :: x :: ns
        rw [h1]
        by_cases h : n ≤ x
        · rw [Int.max_eq_right h]
          exact List.mem_cons_of_mem _ List.mem_cons_self
        · rw [Int.max_eq_left (by omega)]
          exact List.mem_cons_self
      · exact List.mem_cons_of_mem _ (List.mem_cons_of_mem _ h1)
    · show y ≤ ns.foldl max (max n x)
      rcases List.mem_cons.mp hy with rfl | hy
      · omega
      · rcases List.mem_cons.mp hy with rfl | hy
        · omega
        · exact h2 y (List.mem_cons_of_mem _ hy)
theorem fold_min : ∀ (ns : List Int) (n : Int), ns.foldl min n ∈ n :: ns ∧ ∀ y ∈ n :: ns, ns.foldl min n ≤ y
  | [], n => ⟨List.mem_cons_self, fun y hy => by
      rcases List.mem_cons.mp hy with rfl | hy
      · exact Int.le_refl _
      · exact absurd hy List.not_mem_nil⟩
  | x :: ns, n => by
    obtain ⟨h1, h2⟩ := fold_min ns (min n x)
    have hm := h2 (min n x) List.mem_cons_self
    refine ⟨?_, fun y hy => ?_⟩
    · rcases List.mem_cons.mp h1 with h1 | h1
      · show ns.foldl min (min n x) ∈ n :: x :: ns
        rw [h1]
        by_cases h : n ≤ x
        · rw [Int.min_eq_left h]
          exact List.mem_cons_self
        · rw [Int.min_eq_right (by omega)]
          exact List.mem_cons_of_mem _ List.mem_cons_self
      · exact List.mem_cons_of_mem _ (List.mem_cons_of_mem _ h1)
    · show ns.foldl min (min n x) ≤ y
      rcases List.mem_cons.mp hy with rfl | hy
      · omega
      · rcases List.mem_cons.mp hy with rfl | hy
        · omega
        · exact h2 y (List.mem_cons_of_mem _ hy)
theorem reads_ints {h : Heap} : ∀ {ns : List Int} {us : List Value}, Vals (ns.map V.int) us → ReadsAll h us (ns.map PyData.int) []
  | [], _, r => by
    cases r
    exact .nil
  | n :: ns, _, r => by
    cases r with
    | cons r1 r2 =>
      obtain ⟨t, rfl⟩ := r1
      exact .cons (as := []) (.int n t) (reads_ints r2)
theorem alike_ints (ns : List Int) : PySem.W.AlikeAll (ns.map PyData.int) := by
  refine ⟨fun x hx y hy => ?_, fun x hx => ?_⟩
  · obtain ⟨a, _, rfl⟩ := List.mem_map.mp hx
    obtain ⟨b, _, rfl⟩ := List.mem_map.mp hy
    simp [PySem.W.alike]
  · obtain ⟨a, _, rfl⟩ := List.mem_map.mp hx
    exact fun z => nomatch z
theorem cr_maxT {k : Nat} (hr : Room k X.A) : CallR X (.builtin "max") (rMaxT X.K) := by
  intro pins s σ H vs us Q I r h
  obtain ⟨a, n, ns, rfl, hs, hl, q⟩ := h
  rw [Vals.ref1 r]
  obtain ⟨its, rv, ht, _⟩ := I.tuple hs
  have un := hr.units
  have dp : PyData.depthAll ((n :: ns).map PyData.int) ≤ 0 := by
    generalize n :: ns = l
    induction l with
    | nil => exact Nat.le_refl _
    | cons x l ih =>
      show max 0 (PyData.depthAll (l.map PyData.int)) ≤ 0
      omega
  refine PySem.W.max_tuple_data (x := .int n) (xs := ns.map PyData.int) (as := []) hr.hd (let ⟨o, h1, h2, j, h3⟩ := ht; ⟨o, h1, h2, j, h3⟩) (reads_ints (ns := n :: ns) rv) (alike_ints (n :: ns)) (by
    have : PyData.depthAll (PyData.int n :: ns.map PyData.int) ≤ 0 := dp
    omega) fun i v h' tk bs hv rd hk => ?_
  rw [PySem.W.maxD_ints] at rd
  cases rd
  exact ⟨.int _, H, I.kept (t' := tk) hk, ⟨_, rfl⟩, q _ (fold_max ns n).1 (fold_max ns n).2⟩
theorem cr_minT {k : Nat} (hr : Room k X.A) : CallR X (.builtin "min") (rMinT X.K) := by
  intro pins s σ H vs us Q I r h
  obtain ⟨a, n, ns, rfl, hs, hl, q⟩ := h
  rw [Vals.ref1 r]
  obtain ⟨its, rv, ht, _⟩ := I.tuple hs
  have un := hr.units
  have dp : PyData.depthAll ((n :: ns).map PyData.int) ≤ 0 := by
    generalize n :: ns = l
    induction l with
    | nil => exact Nat.le_refl _
    | cons x l ih =>
      show max 0 (PyData.depthAll (l.map PyData.int)) ≤ 0
      omega
  refine PySem.W.min_tuple_data (x := .int n) (xs := ns.map PyData.int) (as := []) hr.hd (let ⟨o, h1, h2, j, h3⟩ := ht; ⟨o, h1, h2, j, h3⟩) (reads_ints (ns := n :: ns) rv) (alike_ints (n :: ns)) (by
    have : PyData.depthAll (PyData.int n :: ns.map PyData.int) ≤ 0 := dp
    omega) fun i v h' tk bs hv rd hk => ?_
  rw [PySem.W.minD_ints] at rd
  cases rd
  exact ⟨.int _, H, I.kept (t' := tk) hk, ⟨_, rfl⟩, q _ (fold_min ns n).1 (fold_min ns n).2⟩
/-- math.gcd of any ints that are met here -/
def rGcdN : List V → Hp → VK → Prop := fun vs H Q => (∃ a b : Int, vs = [.int a, .int b] ∧ Q (.int ((Nat.gcd a.natAbs b.natAbs : Nat) : Int)) H) ∨
  (∃ a b c : Int, vs = [.int a, .int b, .int c] ∧ Q (.int ((Nat.gcd (Nat.gcd a.natAbs b.natAbs) c.natAbs : Nat) : Int)) H) ∨
  ∃ a b c d : Int, vs = [.int a, .int b, .int c, .int d] ∧ Q (.int ((Nat.gcd (Nat.gcd (Nat.gcd a.natAbs b.natAbs) c.natAbs) d.natAbs : Nat) : Int)) H
theorem args_gcd3 (a b c : Value) : argsOk "math.gcd" ⟨[a, b, c], []⟩ := by
  unfold argsOk
  kernel_rfl
theorem args_gcd4 (a b c d : Value) : argsOk "math.gcd" ⟨[a, b, c, d], []⟩ := by
  unfold argsOk
  kernel_rfl
theorem run_gcd3 (a b c : Int) (t u x : Tok) : Gives (Builtin.«math.gcd» ⟨[.int a t, .int b u, .int c x], []⟩) (.int ((((Nat.gcd 0 a.natAbs).gcd b.natAbs).gcd c.natAbs : Nat) : Int)) :=
  .of_wp fun M A E s Q h => by
    obtain ⟨hp, g, d, tk, os⟩ := s
    wp_walk
    exact ⟨_, rfl, h⟩
theorem run_gcd4 (a b c d : Int) (t u x y : Tok) : Gives (Builtin.«math.gcd» ⟨[.int a t, .int b u, .int c x, .int d y], []⟩) (.int (((((Nat.gcd 0 a.natAbs).gcd b.natAbs).gcd c.natAbs).gcd d.natAbs : Nat) : Int)) :=
  .of_wp fun M A E s Q h => by
    obtain ⟨hp, g, d, tk, os⟩ := s
    wp_walk
    exact ⟨_, rfl, h⟩
theorem cr_gcdN : CallR X (.builtin "math.gcd") rGcdN := by
  intro pins s σ H vs us Q I r h
  rcases h with ⟨a, b, rfl, q⟩ | ⟨a, b, c, rfl, q⟩ | ⟨a, b, c, d, rfl, q⟩
  · obtain ⟨t, u, rfl⟩ := Vals.int2 r
    exact PySem.W.mg_gcd fun _ => ⟨.int _, H, I.tok _, ⟨_, rfl⟩, q⟩
  · cases r with
    | cons r1 r => cases r with
      | cons r2 r => cases r with
        | cons r3 r =>
          cases r
          obtain ⟨t1, rfl⟩ := r1
          obtain ⟨t2, rfl⟩ := r2
          obtain ⟨t3, rfl⟩ := r3
          have g := run_gcd3 a b c t1 t2 t3
          rw [Nat.gcd_zero_left] at g
          exact call_function_meets PySem.W.MGF.kind_gcd PySem.W.MGF.plain_gcd PySem.W.MGF.entry_gcd (args_gcd3 _ _ _) g.meets ⟨.int _, H, I.tok _, ⟨_, rfl⟩, q⟩
  · cases r with
    | cons r1 r => cases r with
      | cons r2 r => cases r with
        | cons r3 r => cases r with
          | cons r4 r =>
            cases r
            obtain ⟨t1, rfl⟩ := r1
            obtain ⟨t2, rfl⟩ := r2
            obtain ⟨t3, rfl⟩ := r3
            obtain ⟨t4, rfl⟩ := r4
            have g := run_gcd4 a b c d t1 t2 t3 t4
            rw [Nat.gcd_zero_left] at g
            exact call_function_meets PySem.W.MGF.kind_gcd PySem.W.MGF.plain_gcd PySem.W.MGF.entry_gcd (args_gcd4 _ _ _ _) g.meets ⟨.int _, H, I.tok _, ⟨_, rfl⟩, q⟩
/-- text * int -/
theorem rep_list (z : Array Nat) (n : Nat) : ((List.replicate n z).foldl (· ++ ·) #[]).toList = (List.replicate n z.toList).flatten := by
  have key : ∀ (n : Nat) (acc : Array Nat), ((List.replicate n z).foldl (· ++ ·) acc).toList = acc.toList ++ (List.replicate n z.toList).flatten := by
    intro n
    induction n with
    | zero => intro acc; simp
    | succ n ih =>
      intro acc
      rw [List.replicate_succ, List.foldl_cons, ih, List.replicate_succ, List.flatten_cons]
      simp
  rw [key]
  simp
def repT (z : Str) (n : Int) : Str := ⟨((List.replicate n.toNat z.cps.toList).flatten).toArray⟩
theorem repT_len (z : Str) (n : Int) : (repT z n).length = z.length * n.toNat := by
  show ((List.replicate n.toNat z.cps.toList).flatten).toArray.size = z.cps.size * n.toNat
  simp [List.length_flatten, Nat.mul_comm]
theorem op_mulS : OpR X (binaryOp .Mult) (fun x y H Q => ∃ (z : Str) (n : Int), x = .str z ∧ y = .int n ∧ z.length ≤ 10000 ∧ -1000 ≤ n ∧ n ≤ 1000 ∧ Q (.str (repT z n)) H) := by
  intro pins s σ H x y v u Q I rx ry h
  obtain ⟨z, n, rfl, rfl, hz, n0, n1, q⟩ := h
  obtain ⟨t, rfl⟩ := rx
  obtain ⟨t2, rfl⟩ := ry
  refine PySem.P.mul_str (by rw [decide_eq_false (by omega), decide_eq_false (by omega)]; rfl) (fun h1 _ => ?_) (fun h1 _ => ?_) ?_
  · have : (2 ^ 63 - 1 : Int) / n ≥ 10000 := by
      have e1 : (10000 : Int) * n ≤ 2 ^ 63 - 1 := by omega
      exact (Int.le_ediv_iff_mul_le (by omega)).mpr e1
    have hz' : ((z.length : Nat) : Int) ≤ 10000 := by omega
    omega
  · have : z.length * n.toNat ≤ 10000 * 1000 := Nat.mul_le_mul hz (by omega)
    unfold PySem.Builtin.Str.tooLong
    exact decide_eq_false (by have e : sizeLine = 16777216 := by decide
                              omega)
  · by_cases h1 : n < 1
    · rw [if_pos h1]
      have e : repT z n = Str.empty := by
        have : n.toNat = 0 := by omega
        unfold repT
        rw [this]
        rfl
      rw [e] at q
      exact ⟨by decide, ⟨.str _, H, I.tok _, ⟨_, rfl⟩, q⟩⟩
    · rw [if_neg h1]
      by_cases h2 : (n == 1 || z.length == 0) = true
      · rw [if_pos h2]
        have e : repT z n = z := by
          refine str_ext ?_
          show ((List.replicate n.toNat z.cps.toList).flatten).toArray.toList = z.cps.toList
          rw [List.toList_toArray]
          rcases Bool.or_eq_true_iff.mp h2 with h3 | h3
          · have : n = 1 := by simpa using h3
            rw [this]
            simp
          · have h4 : z.length = 0 := by simpa using h3
            have h5 : z.cps.toList = [] := by
              rw [← List.length_eq_zero_iff]
              exact h4
            rw [h5]
            simp
        rw [e] at q
        exact ⟨.str _, H, I, ⟨_, rfl⟩, q⟩
      · rw [if_neg h2]
        have e : (⟨(List.replicate n.toNat z.cps).foldl (· ++ ·) #[]⟩ : Str) = repT z n := by
          refine str_ext ?_
          show ((List.replicate n.toNat z.cps).foldl (· ++ ·) #[]).toList = ((List.replicate n.toNat z.cps.toList).flatten).toArray.toList
          rw [rep_list, List.toList_toArray]
        rw [e]
        refine ⟨?_, ⟨.str _, H, I.tok _, ⟨_, rfl⟩, q⟩⟩
        rw [repT_len]
        have : z.length * n.toNat ≤ 10000 * 1000 := Nat.mul_le_mul hz (by omega)
        have e : sizeLine = 16777216 := by decide
        omega
end
/-- a road again and again -/
def repR (w : List Bool) (n : Nat) : List Bool := (List.replicate n w).flatten
theorem rep_rd (w : List Bool) (n : Int) : repT (rd w) n = rd (repR w n.toNat) := by
  refine str_ext ?_
  show ((List.replicate n.toNat (rd w).cps.toList).flatten).toArray.toList = _
  rw [List.toList_toArray, rd_cps, rd_cps]
  unfold repR
  generalize n.toNat = k
  induction k with
  | zero => rfl
  | succ k ih => rw [List.replicate_succ, List.replicate_succ, List.flatten_cons, List.flatten_cons, List.map_append, ih]
theorem repR_len (w : List Bool) (n : Nat) : (repR w n).length = n * w.length := by
  unfold repR
  simp
/-- texts of roads, one behind the other -/
theorem join_rd (ls : List (List Bool)) : Txt.join ("" : Str) (ls.map rd) = rd ls.flatten := by
  refine str_ext ?_
  show (PySem.Builtin.Str.glued ("" : Str) (ls.map rd)).cps.toList = _
  unfold PySem.Builtin.Str.glued
  have key : ∀ (l : List (List Bool)) (acc : Array Nat), ((l.map rd).foldl (fun acc p => acc ++ ("" : Str).cps ++ p.cps) acc).toList = acc.toList ++ l.flatten.map sg := by
    intro l
    induction l with
    | nil => intro acc; simp
    | cons x l ih =>
      intro acc
      rw [List.map_cons, List.foldl_cons, ih]
      have e : (("" : Str)).cps = #[] := by decide +kernel
      rw [e]
      have e2 : (rd x).cps.toList = x.map sg := rd_cps x
      simp [e2]
  cases ls with
  | nil =>
    rw [rd_cps]
    decide +kernel
  | cons x l =>
    show (((x :: l).map rd).drop 1 |>.foldl (fun acc p => acc ++ ("" : Str).cps ++ p.cps) (rd x).cps).toList = _
    rw [List.map_cons, List.drop_succ_cons, List.drop_zero, key, rd_cps, rd_cps, List.flatten_cons, List.map_append]
theorem join_room {ls : List (List Bool)} (h : ls.flatten.length ≤ 1000000) : ((ls.map rd).map (·.length)).sum + (ls.map rd).length * ("" : Str).length ≤ 16777216 := by
  have e : (("" : Str)).length = 0 := by decide +kernel
  have e2 : ((ls.map rd).map (·.length)).sum = ls.flatten.length := by
    rw [List.length_flatten, List.map_map]
    congr 1
    exact List.map_congr_left fun w _ => rd_len w
  rw [e, e2]
  omega
end Lr

set_option exponentiation.threshold 5000
namespace Lr
open PySem PySem.Spec PyProof.Rows L2
theorem eqv_ints : ∀ l m : List Int, PyData.eqvAll (intsD l) (intsD m) = decide (l = m)
  | [], [] => rfl
  | [], y :: m => rfl
  | x :: l, [] => rfl
  | x :: l, y :: m => by
    show ((x == y) && PyData.eqvAll (intsD l) (intsD m)) = _
    rw [eqv_ints l m]
    by_cases h : x = y
    · subst h
      simp
    · simp [h]
theorem eqv_tup (l m : List Int) : PyData.eqv (tupD l) (tupD m) = decide (l = m) := eqv_ints l m
theorem lay_ints : ∀ l : List Int, PyData.canLayAll0 (intsD l) = true
  | [] => rfl
  | x :: l => lay_ints l
theorem depth0_ints : ∀ l : List Int, PyData.depthAll (intsD l) = 0
  | [] => rfl
  | x :: l => by
    show max 0 (PyData.depthAll (intsD l)) = 0
    rw [depth0_ints l]
    rfl
theorem shaped_tup (l : List Int) : SeqAt.shaped (tupD l) = true := by
  have e : PyData.depth (tupD l) ≤ 64 := by
    show PyData.depthAll (intsD l) + 1 ≤ 64
    rw [depth0_ints]
    decide
  show (PyData.canLayAll0 (intsD l) && decide (PyData.depth (tupD l) ≤ 64)) = true
  rw [lay_ints, decide_eq_true e]
  rfl
/-- the fraction of a road is the fraction of its rest, sent by what is ahead -/
theorem wa_app (u v : List Bool) : wa (u ++ v) = (mat u).a * wa v + (mat u).b * wb v ∧ wb (u ++ v) = (mat u).c * wa v + (mat u).d * wb v := by
  unfold wa wb
  rw [mat_app]
  unfold M4.mul
  simp only [Int.mul_add]
  omega
theorem wa_diff (u v : List Bool) : wa (u ++ v) * wb u - wa u * wb (u ++ v) = wa v - wb v := by
  obtain ⟨e1, e2⟩ := wa_app u v
  have d := mat_det u
  rw [e1, e2]
  have e3 : wb u = (mat u).c + (mat u).d := rfl
  have e4 : wa u = (mat u).a + (mat u).b := rfl
  rw [e3, e4]
  unfold M4.det at d
  generalize (mat u).a = a at *
  generalize (mat u).b = b at *
  generalize (mat u).c = c at *
  generalize (mat u).d = e at *
  generalize wa v = x at *
  generalize wb v = y at *
  have f1 : (a * x + b * y) * (c + e) - (a + b) * (c * x + e * y) = (a * e - b * c) * x - (a * e - b * c) * y := by
    simp only [Int.add_mul, Int.mul_add, Int.sub_mul, Int.mul_sub]
    have g1 : a * x * c = a * (c * x) := by rw [Int.mul_assoc, Int.mul_comm x c]
    have g2 : a * x * e = a * e * x := by rw [Int.mul_assoc, Int.mul_comm x e, Int.mul_assoc]
    have g3 : b * y * c = b * c * y := by rw [Int.mul_assoc, Int.mul_comm y c, Int.mul_assoc]
    have g4 : b * y * e = b * (e * y) := by rw [Int.mul_assoc, Int.mul_comm y e]
    have g5 : b * (c * x) = b * c * x := by rw [Int.mul_assoc]
    have g6 : a * (e * y) = a * e * y := by rw [Int.mul_assoc]
    rw [g1, g2, g3, g4, g5, g6]
    omega
  rw [f1, d]
  omega
theorem wa_cons (t : Bool) (v : List Bool) : wa (t :: v) = (if t then wa v + wb v else wa v) ∧ wb (t :: v) = (if t then wb v else wa v + wb v) := by
  cases t
  · exact up_L v
  · exact up_R v
/-- the sign of what is left -/
theorem rest_R {v : List Bool} : wa v > wb v ↔ ∃ r, v = true :: r := by
  match v with
  | [] => exact ⟨fun h => absurd h (by decide), fun ⟨r, z⟩ => nomatch z⟩
  | false :: r =>
    obtain ⟨h1, h2⟩ := up_L r
    obtain ⟨p1, p2⟩ := up_pos r
    exact ⟨fun h => by omega, fun ⟨r, z⟩ => by cases z⟩
  | true :: r =>
    obtain ⟨h1, h2⟩ := up_R r
    obtain ⟨p1, p2⟩ := up_pos r
    exact ⟨fun _ => ⟨r, rfl⟩, fun _ => by omega⟩
theorem rest_nil {v : List Bool} : wa v = wb v ↔ v = [] := by
  match v with
  | [] => exact ⟨fun _ => rfl, fun _ => rfl⟩
  | false :: r =>
    obtain ⟨h1, h2⟩ := up_L r
    obtain ⟨p1, p2⟩ := up_pos r
    exact ⟨fun h => by omega, fun z => nomatch z⟩
  | true :: r =>
    obtain ⟨h1, h2⟩ := up_R r
    obtain ⟨p1, p2⟩ := up_pos r
    exact ⟨fun h => by omega, fun z => nomatch z⟩
/-- unlike roads tell unlike fractions -/
theorem wa_inj : ∀ {u v : List Bool}, wa u = wa v → wb u = wb v → u = v
  | [], v, h1, h2 => by
    have : wa v = wb v := by rw [← h1, ← h2]; rfl
    exact (rest_nil.mp this).symm
  | a :: u, [], h1, h2 => by
    have : wa (a :: u) = wb (a :: u) := by rw [h1, h2]; rfl
    exact rest_nil.mp this
  | a :: u, b :: v, h1, h2 => by
    obtain ⟨p1, p2⟩ := up_pos u
    obtain ⟨q1, q2⟩ := up_pos v
    obtain ⟨e1, e2⟩ := wa_cons a u
    obtain ⟨f1, f2⟩ := wa_cons b v
    rw [e1, f1] at h1
    rw [e2, f2] at h2
    cases a <;> cases b <;> simp at h1 h2
    · rw [wa_inj h1 (by omega)]
    · omega
    · omega
    · rw [wa_inj (by omega) h2]
/-- how many turns R are ahead of what is left -/
theorem runs_R (v : List Bool) : ∃ r, v = List.replicate ((wa v - 1) / wb v).toNat true ++ r ∧ wa r = wa v - ((wa v - 1) / wb v) * wb v ∧ wb r = wb v := by
  induction v with
  | nil => exact ⟨[], rfl, rfl, rfl⟩
  | cons t v ih =>
    obtain ⟨p1, p2⟩ := up_pos v
    cases t with
    | false =>
      obtain ⟨h1, h2⟩ := up_L v
      have e : (wa (false :: v) - 1) / wb (false :: v) = 0 := by
        rw [h1, h2]
        exact Int.ediv_eq_zero_of_lt (by omega) (by omega)
      rw [e]
      exact ⟨false :: v, rfl, by omega, rfl⟩
    | true =>
      obtain ⟨h1, h2⟩ := up_R v
      obtain ⟨r, er, e1, e2⟩ := ih
      have e : (wa (true :: v) - 1) / wb (true :: v) = (wa v - 1) / wb v + 1 := by
        rw [h1, h2, show wa v + wb v - 1 = (wa v - 1) + 1 * wb v by omega, Int.add_mul_ediv_right _ _ (by omega)]
      have n : 0 ≤ (wa v - 1) / wb v := Int.ediv_nonneg (by omega) (by omega)
      have en : ((wa v - 1) / wb v + 1).toNat = ((wa v - 1) / wb v).toNat + 1 := by omega
      rw [e, en]
      refine ⟨r, ?_, ?_, by rw [e2, h2]⟩
      · rw [List.replicate_succ, List.cons_append, ← er]
      · rw [e1, h1, h2, Int.add_mul]
        omega
theorem runs_L (v : List Bool) : ∃ r, v = List.replicate ((wb v - 1) / wa v).toNat false ++ r ∧ wb r = wb v - ((wb v - 1) / wa v) * wa v ∧ wa r = wa v := by
  induction v with
  | nil => exact ⟨[], rfl, rfl, rfl⟩
  | cons t v ih =>
    obtain ⟨p1, p2⟩ := up_pos v
    cases t with
    | true =>
      obtain ⟨h1, h2⟩ := up_R v
      have e : (wb (true :: v) - 1) / wa (true :: v) = 0 := by
        rw [h1, h2]
        exact Int.ediv_eq_zero_of_lt (by omega) (by omega)
      rw [e]
      exact ⟨true :: v, rfl, by omega, rfl⟩
    | false =>
      obtain ⟨h1, h2⟩ := up_L v
      obtain ⟨r, er, e1, e2⟩ := ih
      have e : (wb (false :: v) - 1) / wa (false :: v) = (wb v - 1) / wa v + 1 := by
        rw [h1, h2, show wa v + wb v - 1 = (wb v - 1) + 1 * wa v by omega, Int.add_mul_ediv_right _ _ (by omega)]
      have n : 0 ≤ (wb v - 1) / wa v := Int.ediv_nonneg (by omega) (by omega)
      have en : ((wb v - 1) / wa v + 1).toNat = ((wb v - 1) / wa v).toNat + 1 := by omega
      rw [e, en]
      refine ⟨r, ?_, ?_, by rw [e2, h1]⟩
      · rw [List.replicate_succ, List.cons_append, ← er]
      · rw [e1, h1, h2, Int.add_mul]
        omega
/-- what has no common divisor -/
theorem road_gcd (w : List Bool) : Nat.gcd (wa w).natAbs (wb w).natAbs = 1 := by
  have key : ∀ d : Nat, d ∣ (wa w).natAbs → d ∣ (wb w).natAbs → d = 1 := by
    induction w with
    | nil => intro d h _; exact Nat.dvd_one.mp h
    | cons t v ih =>
      intro d h1 h2
      obtain ⟨p1, p2⟩ := up_pos v
      obtain ⟨e1, e2⟩ := wa_cons t v
      have g1 : (d : Int) ∣ wa (t :: v) := Int.ofNat_dvd_left.mpr h1
      have g2 : (d : Int) ∣ wb (t :: v) := Int.ofNat_dvd_left.mpr h2
      rw [e1] at g1
      rw [e2] at g2
      cases t
      · simp at g1 g2
        have g3 : (d : Int) ∣ wb v := (Int.dvd_add_right g1).mp g2
        exact ih d (Int.ofNat_dvd_left.mp g1) (Int.ofNat_dvd_left.mp g3)
      · simp at g1 g2
        have g3 : (d : Int) ∣ wa v := (Int.dvd_add_left g2).mp g1
        exact ih d (Int.ofNat_dvd_left.mp g3) (Int.ofNat_dvd_left.mp g2)
  exact key _ (Nat.gcd_dvd_left _ _) (Nat.gcd_dvd_right _ _)
end Lr

set_option exponentiation.threshold 5000
namespace Lr
open PySem PySem.Spec PyProof.Rows L2
/-! what may be a list or a tuple -/
def Sq (K : PySem.W.Frag) (H : Hp) (a : Addr) (xs : List V) : Prop := SqL K H a xs ∨ SqT K H a xs
theorem Sq.same {K : PySem.W.Frag} {H H' : Hp} {a : Addr} {xs : List V} (h : Sq K H a xs) (s : Same H H') : Sq K H' a xs := h.elim (fun z => .inl (s.seq z)) fun z => .inr (tup_same s z)
theorem seq_ix {K : PySem.W.Frag} {H : Hp} {a : Addr} {xs : List V} {i : Int} {v : V} {Q : VK} (h : Sq K H a xs) (e : atI xs i = some v) (q : Q v H) : rIx K (.ref a) (.int i) H Q :=
  h.elim (fun z => .inl ⟨a, xs, i, v, rfl, rfl, z, e, q⟩) fun z => .inr (.inl ⟨a, xs, i, v, rfl, rfl, z, e, q⟩)
/-- the walk over it -/
def IsWalk (K : PySem.W.Frag) (H : Hp) (a : Addr) (xs : List V) (J : It) : Prop := (SqL K H a xs ∧ J = Itl K a) ∨ (SqT K H a xs ∧ J = Itt K a)
def iSeq (K : PySem.W.Frag) (tl : TE) : TI := fun σ H R => tl σ H fun x H1 => ∃ a xs, x = .ref a ∧ Sq K H1 a xs ∧ ∀ J, IsWalk K H1 a xs J → R J H1
theorem pi_seq {X : Cx} {tg l : Expr} {tl : TE} (hl : PE X l tl) : PI X tg l (iSeq X.K tl) := by
  refine ⟨fun pins s σ H R I h => ?_⟩
  refine thn (hl.run pins s σ H _ I h) fun v s1 z => ?_
  obtain ⟨x, H1, I1, r1, a, xs, rfl, hs, q⟩ := z
  cases r1
  rcases hs with hs | hs
  · obtain ⟨its, rv, p, _⟩ := I1.list hs
    refine wpAny_pyIter_list p.isList ⟨s1.heap.objs.size, [s1.heap.objs.size], _, _, H1, rfl, I1.kept (t' := s1.toks) fun b o e => Heap.get?_push_of_some _ e, turn_list a _, ⟨_, Heap.get?_push_size _ rfl, rfl, rfl⟩, fun b hb => ?_, q _ (.inl ⟨hs, rfl⟩)⟩
    rw [List.mem_singleton.mp hb]
    exact I1.fpOk (Nat.le_refl _) (I1.hok.fresh (Nat.le_refl _))
  · obtain ⟨its, rv, p, _⟩ := I1.tuple hs
    refine wpAny_pyIter_tuple (show s1.heap.IsTuple a its.toArray from p) ⟨s1.heap.objs.size, [s1.heap.objs.size], _, _, H1, rfl, I1.kept (t' := s1.toks) fun b o e => Heap.get?_push_of_some _ e, turn_tuple a _, ⟨_, Heap.get?_push_size _ rfl, rfl, rfl⟩, fun b hb => ?_, q _ (.inr ⟨hs, rfl⟩)⟩
    rw [List.mem_singleton.mp hb]
    exact I1.fpOk (Nat.le_refl _) (I1.hok.fresh (Nat.le_refl _))
theorem IsWalk.walk {K : PySem.W.Frag} {H : Hp} {a : Addr} {xs : List V} {J : It} (h : IsWalk K H a xs J) : Walk J xs.length (fun H' => Same H H') (YAt xs) := by
  rcases h with ⟨h, rfl⟩ | ⟨h, rfl⟩
  · exact walk_list.mono (fun H' s => s.seq h) fun _ _ _ _ _ _ z => z
  · exact walk_tup.mono (fun H' s => tup_same s h) fun _ _ _ _ _ _ z => z
/-- the greatest common divisor of a list -/
def gl (l : List Int) : Nat := l.foldl (fun g x => Nat.gcd g x.natAbs) 0
theorem gl_snoc (l : List Int) (x : Int) : gl (l ++ [x]) = Nat.gcd (gl l) x.natAbs := by
  unfold gl
  rw [List.foldl_append]
  rfl
theorem gl_dvd (l : List Int) : ∀ x ∈ l, ((gl l : Nat) : Int) ∣ x := by
  induction l using snoc_ind with
  | h0 => exact fun x hx => absurd hx List.not_mem_nil
  | h1 l y ih =>
    intro x hx
    rw [gl_snoc]
    rcases List.mem_append.mp hx with hx | hx
    · exact Int.dvd_trans (Int.natCast_dvd_natCast.mpr (Nat.gcd_dvd_left _ _)) (ih x hx)
    · rw [List.mem_singleton.mp hx]
      exact Int.ofNat_dvd_left.mpr (Nat.gcd_dvd_right _ _)
theorem gl_of_dvd (l : List Int) (d : Nat) (h : ∀ x ∈ l, (d : Int) ∣ x) : d ∣ gl l := by
  induction l using snoc_ind with
  | h0 => exact Nat.dvd_zero d
  | h1 l y ih =>
    rw [gl_snoc]
    exact Nat.dvd_gcd (ih fun x hx => h x (List.mem_append_left _ hx)) (Int.ofNat_dvd_left.mp (h y (List.mem_append_right _ List.mem_cons_self)))
theorem gl_pos {l : List Int} {x : Int} (hx : x ∈ l) (h0 : x ≠ 0) : 0 < gl l := by
  refine Nat.pos_of_ne_zero fun z => ?_
  have := gl_dvd l x hx
  rw [z] at this
  exact h0 (Int.zero_dvd.mp this)
theorem gl_le {l : List Int} {x : Int} (hx : x ∈ l) (h0 : x ≠ 0) : gl l ≤ x.natAbs := Nat.le_of_dvd (Int.natAbs_pos.mpr h0) (Int.ofNat_dvd_left.mp (gl_dvd l x hx))
/-- divided by it -/
def lowl (l : List Int) : List Int := l.map fun x => x / (gl l : Int)
end Lr

set_option exponentiation.threshold 5000
namespace Lr
open PySem PySem.Spec PyProof.Rows L2
/-! bounds -/
def Bd (k : Nat) (x : Int) : Prop := x.natAbs < 2 ^ k
theorem Bd.up {j k : Nat} {x : Int} (h : Bd j x) (l : j ≤ k) : Bd k x := Nat.lt_of_lt_of_le h (Nat.pow_le_pow_right (by decide) l)
theorem Bd.mul {j k : Nat} {x y : Int} (h1 : Bd j x) (h2 : Bd k y) : Bd (j + k) (x * y) := wide_lt h1 h2
theorem Bd.add {k : Nat} {x y : Int} (h1 : Bd k x) (h2 : Bd k y) : Bd (k + 1) (x + y) := by
  unfold Bd at *
  rw [Nat.pow_succ]
  omega
theorem Bd.sub {k : Nat} {x y : Int} (h1 : Bd k x) (h2 : Bd k y) : Bd (k + 1) (x - y) := by
  unfold Bd at *
  rw [Nat.pow_succ]
  omega
theorem Bd.sml {k : Nat} {x : Int} (h : Bd k x) (l : k ≤ 1900 := by decide) : Sml x := Bd.up h l
theorem Bd.ml {j k : Nat} {x y : Int} (h1 : Bd j x) (h2 : Bd k y) (l1 : j ≤ 1900 := by decide) (l2 : k ≤ 1900 := by decide) : Cml x y := cml_s (h1.sml l1) (h2.sml l2)
theorem bd_le {k : Nat} {x : Int} (h0 : 0 ≤ x) (h : x < 2 ^ k) : Bd k x := by
  unfold Bd
  rw [nat_pow_cast] at h
  omega
theorem Bd.dv {k : Nat} {x y : Int} (h : Bd k x) (hy : 0 < y) : Bd k (x / y) := by
  unfold Bd at *
  have : (x / y).natAbs ≤ x.natAbs := by
    have h1 := Int.natAbs_ediv_le_natAbs x y
    exact h1
  omega
/-! maps -/
def M4.l (m : M4) : List Int := [m.a, m.b, m.c, m.d]
structure Mp (m : M4) : Prop where
  nn : Nn m
  dt : m.det ≠ 0
  gd : gl m.l = 1
def M4.low (m : M4) : M4 := ⟨m.a / (gl m.l : Int), m.b / (gl m.l : Int), m.c / (gl m.l : Int), m.d / (gl m.l : Int)⟩
theorem low_l (m : M4) : m.low.l = lowl m.l := rfl
theorem lowl_gl {l : List Int} (h : 0 < gl l) : gl (lowl l) = 1 := by
  have key : ∀ x ∈ lowl l, ((gl (lowl l) : Nat) : Int) ∣ x := gl_dvd _
  have d2 : gl (lowl l) * gl l ∣ gl l := by
    refine gl_of_dvd l _ fun x hx => ?_
    have h1 := key (x / (gl l : Int)) (List.mem_map.mpr ⟨x, hx, rfl⟩)
    have h2 := gl_dvd l x hx
    have e : x = x / (gl l : Int) * (gl l : Int) := (Int.ediv_mul_cancel h2).symm
    rw [e, Int.natCast_mul]
    exact Int.mul_dvd_mul h1 (Int.dvd_refl _)
  have le := Nat.le_of_dvd h d2
  have p : 0 < gl (lowl l) := by
    refine Nat.pos_of_ne_zero fun z => ?_
    rw [z, Nat.zero_mul] at d2
    have := Nat.eq_zero_of_zero_dvd d2
    omega
  have : gl (lowl l) * gl l ≤ 1 * gl l := by omega
  have := Nat.le_of_mul_le_mul_right this h
  omega
theorem det_pos_gl {m : M4} (h : m.det ≠ 0) : 0 < gl m.l := by
  refine Nat.pos_of_ne_zero fun z => h ?_
  have key : ∀ x ∈ m.l, x = 0 := fun x hx => by
    have := gl_dvd m.l x hx
    rw [z] at this
    exact Int.zero_dvd.mp this
  have ha : m.a = 0 := key _ (by simp [M4.l])
  have hb : m.b = 0 := key _ (by simp [M4.l])
  unfold M4.det
  rw [ha, hb]
  simp
theorem low_det {m : M4} (h : m.det ≠ 0) : m.det = (gl m.l : Int) * (gl m.l : Int) * m.low.det := by
  have g := fun x hx => gl_dvd m.l x hx
  have ea := Int.mul_ediv_cancel' (g m.a (by simp [M4.l]))
  have eb := Int.mul_ediv_cancel' (g m.b (by simp [M4.l]))
  have ec := Int.mul_ediv_cancel' (g m.c (by simp [M4.l]))
  have ed := Int.mul_ediv_cancel' (g m.d (by simp [M4.l]))
  unfold M4.det M4.low
  show m.a * m.d - m.b * m.c = _ * (m.a / (gl m.l : Int) * (m.d / (gl m.l : Int)) - m.b / (gl m.l : Int) * (m.c / (gl m.l : Int)))
  generalize (gl m.l : Int) = k at *
  generalize m.a / k = a at *
  generalize m.b / k = b at *
  generalize m.c / k = c at *
  generalize m.d / k = d at *
  rw [← ea, ← eb, ← ec, ← ed, Int.mul_sub]
  have e1 : k * a * (k * d) = k * k * (a * d) := by simp [Int.mul_comm, Int.mul_assoc, Int.mul_left_comm]
  have e2 : k * b * (k * c) = k * k * (b * c) := by simp [Int.mul_comm, Int.mul_assoc, Int.mul_left_comm]
  rw [e1, e2]
theorem low_nn {m : M4} (h : Nn m) : Nn m.low := ⟨Int.ediv_nonneg h.a (Int.natCast_nonneg _), Int.ediv_nonneg h.b (Int.natCast_nonneg _), Int.ediv_nonneg h.c (Int.natCast_nonneg _), Int.ediv_nonneg h.d (Int.natCast_nonneg _)⟩
theorem low_mp {m : M4} (h : Nn m) (hd : m.det ≠ 0) : Mp m.low := by
  refine ⟨low_nn h, fun z => hd ?_, ?_⟩
  · rw [low_det hd, z, Int.mul_zero]
  · rw [low_l]
    exact lowl_gl (det_pos_gl hd)
theorem low_det_le {m : M4} (hd : m.det ≠ 0) : m.low.det.natAbs ≤ m.det.natAbs := by
  have g := det_pos_gl hd
  have e := congrArg Int.natAbs (low_det hd)
  rw [Int.natAbs_mul, Int.natAbs_mul, Int.natAbs_natCast] at e
  rw [e]
  have : 1 ≤ gl m.l * gl m.l := Nat.mul_pos g g
  exact Nat.le_mul_of_pos_left _ this
theorem div_le {x : Int} {k : Nat} (h : 0 ≤ x) : x / (k : Int) ≤ x := by
  by_cases h0 : k = 0
  · rw [h0]
    simpa using h
  · exact Int.ediv_le_self _ h
/-- great integers bounded by n -/
structure Le (n : Int) (m : M4) : Prop where
  a : m.a ≤ n
  b : m.b ≤ n
  c : m.c ≤ n
  d : m.d ≤ n
theorem low_le {m : M4} {n : Int} (h : Nn m) (l : Le n m) : Le n m.low :=
  ⟨Int.le_trans (div_le h.a) l.a, Int.le_trans (div_le h.b) l.b, Int.le_trans (div_le h.c) l.c, Int.le_trans (div_le h.d) l.d⟩
theorem mul_nn {m n : M4} (h : Nn m) (k : Nn n) : Nn (m.mul n) :=
  ⟨Int.add_nonneg (Int.mul_nonneg h.a k.a) (Int.mul_nonneg h.b k.c), Int.add_nonneg (Int.mul_nonneg h.a k.b) (Int.mul_nonneg h.b k.d),
    Int.add_nonneg (Int.mul_nonneg h.c k.a) (Int.mul_nonneg h.d k.c), Int.add_nonneg (Int.mul_nonneg h.c k.b) (Int.mul_nonneg h.d k.d)⟩
/-- a map that is in lowest terms stays -/
theorem Mp.low {m : M4} (h : Mp m) : m.low = m := by
  unfold M4.low
  rw [h.gd]
  simp
end Lr

set_option exponentiation.threshold 5000
namespace Lr
open PySem PySem.Spec PyProof.Rows L2
/-! draws in a row, by a comprehension -/
def Cs (H2 : Hp) (a D : Addr) (m : Nat) (t : Int) (i : Nat) (H3 : Hp) : Prop :=
  ∃ xs : List Int, xs.length = i ∧ (∀ x ∈ xs, 0 ≤ x ∧ x < t) ∧ H3 D = some (.lst (xs.map V.int)) ∧ Pu H3 a (m + i) ∧ Kp a H2 H3
theorem cs_start {H2 : Hp} {a D : Addr} {m : Nat} {t : Int} (hD : H2 D = none) (hp : Pu H2 a m) : Cs H2 a D m t 0 (upd H2 D (.lst [])) :=
  ⟨[], rfl, fun x hx => absurd hx List.not_mem_nil, upd_same, hp.new hD, (Kp.refl a H2).new hD⟩
theorem Pu.upd {H : Hp} {a p : Addr} {o : HO} {n : Nat} (h : Pu H a n) (ne : a ≠ p) : Pu (L2.upd H p o) a n := by
  obtain ⟨p0, p1, p2, h1, h2⟩ := h
  exact ⟨p0, p1, p2, by rw [upd_ne ne]; exact h1, h2⟩
theorem Kp.upd' {a : Addr} {H H' : Hp} {p : Addr} {o : HO} (x : Kp a H H') (h : H p = none) : Kp a H (L2.upd H' p o) := fun b u n z => by
  rw [upd_ne (ne_of_none z h)]
  exact x b u n z
theorem cs_step {H2 H3 H4 : Hp} {a D : Addr} {m i : Nat} {t r : Int} (h : Cs H2 a D m t i H3) (hi : i ≤ 1000) (hD : H2 D = none) (hp : Pu H2 a m) (hp4 : Pu H4 a (m + i + 1)) (k : Kp a H3 H4) (r0 : 0 ≤ r) (r1 : r < t) :
    ∃ acc, H4 D = some (.lst acc) ∧ acc.length < sizeLine ∧ Cs H2 a D m t (i + 1) (upd H4 D (.lst (acc ++ [.int r]))) := by
  obtain ⟨xs, hl, hx, e, p3, k3⟩ := h
  have ne : D ≠ a := fun z => hp.ne hD z.symm
  refine ⟨xs.map V.int, k D _ ne e, ?_, xs ++ [r], by rw [List.length_append, hl]; rfl, ?_, ?_, hp4.upd ne.symm, (k3.trans k).upd' hD⟩
  · rw [List.length_map, hl]
    exact Nat.lt_of_le_of_lt hi (by decide)
  · intro x hx'
    rcases List.mem_append.mp hx' with z | z
    · exact hx x z
    · rw [List.mem_singleton.mp z]
      exact ⟨r0, r1⟩
  · rw [upd_same, List.map_append]
    rfl
theorem Cs.pu {H2 H3 : Hp} {a D : Addr} {m i : Nat} {t : Int} (h : Cs H2 a D m t i H3) : Pu H3 a (m + i) := by
  obtain ⟨xs, _, _, _, p, _⟩ := h
  exact p
theorem cs_four {H2 H3 : Hp} {a D : Addr} {m : Nat} {t : Int} (h : Cs H2 a D m t 4 H3) : ∃ q : M4, Nn q ∧ Le (t - 1) q ∧ H3 D = some (.lst (q.l.map V.int)) ∧ Pu H3 a (m + 4) ∧ Kp a H2 H3 := by
  obtain ⟨xs, hl, hx, e, p3, k3⟩ := h
  match xs, hl with
  | [x, y, z, w], _ =>
    have hx1 := hx x (by simp)
    have hx2 := hx y (by simp)
    have hx3 := hx z (by simp)
    have hx4 := hx w (by simp)
    exact ⟨⟨x, y, z, w⟩, ⟨hx1.1, hx2.1, hx3.1, hx4.1⟩, ⟨by show x ≤ _; omega, by show y ≤ _; omega, by show z ≤ _; omega, by show w ≤ _; omega⟩, e, p3, k3⟩
/-- a map of bounded integers, bounded by bits -/
theorem bd4 {m : M4} {n : Int} {k : Nat} (h : Nn m) (l : Le n m) (hn : n < 2 ^ k) : ∀ i ∈ m.l, Bd k i := by
  intro i hi
  have g : ∀ x, 0 ≤ x → x ≤ n → Bd k x := fun x x0 x1 => bd_le x0 (by omega)
  simp only [M4.l, List.mem_cons, List.not_mem_nil, or_false] at hi
  rcases hi with rfl | rfl | rfl | rfl
  · exact g _ h.a l.a
  · exact g _ h.b l.b
  · exact g _ h.c l.c
  · exact g _ h.d l.d
theorem bd_gl {l : List Int} {k : Nat} {x : Int} (hx : x ∈ l) (h0 : x ≠ 0) (h : Bd k x) : Bd k (gl l : Nat) := by
  unfold Bd at *
  have := gl_le hx h0
  rw [Int.natAbs_natCast]
  omega
theorem det_gl {m : M4} {k : Nat} (h : m.det ≠ 0) (hb : ∀ i ∈ m.l, Bd k i) : Bd k (gl m.l : Nat) := by
  have key : m.a ≠ 0 ∨ m.b ≠ 0 := by
    by_cases ha : m.a = 0
    · by_cases hb : m.b = 0
      · exfalso
        apply h
        unfold M4.det
        rw [ha, hb]
        simp
      · exact .inr hb
    · exact .inl ha
  rcases key with g | g
  · exact bd_gl (x := m.a) (by simp [M4.l]) g (hb _ (by simp [M4.l]))
  · exact bd_gl (x := m.b) (by simp [M4.l]) g (hb _ (by simp [M4.l]))
end Lr
namespace Lr
open PySem PySem.Spec PyProof.Rows L2
theorem bd_mat {w : List Bool} {k : Nat} (h : w.length ≤ k) : ∀ i ∈ (mat w).l, Bd (k + 1) i := by
  obtain ⟨h1, h2⟩ := mat_le w
  have h3 := pow_lt h
  have n := mat_nn w
  obtain ⟨a, b, c, d⟩ := n
  have e : (2 : Int) ^ (k + 1) = 2 ^ k * 2 := Int.pow_succ ..
  have p : (0 : Int) < 2 ^ k := Int.pow_pos (by decide)
  intro i hi
  have g : ∀ x, 0 ≤ x → x ≤ 2 ^ k → Bd (k + 1) x := fun x x0 x1 => bd_le x0 (by omega)
  simp only [M4.l, List.mem_cons, List.not_mem_nil, or_false] at hi
  rcases hi with rfl | rfl | rfl | rfl
  · exact g _ a (by omega)
  · exact g _ b (by omega)
  · exact g _ c (by omega)
  · exact g _ d (by omega)
end Lr
namespace Lr
open PySem PySem.Spec PyProof.Rows L2
/-- two ways of an expression that meet, behind the test -/
theorem meetE {c : Bool} {ta tb : TE} {σ : L2.St} {H : Hp} {Q : VK} (P : V → Hp → Prop) (h1 : c = true → ∀ R : VK, (∀ v H', P v H' → R v H') → ta σ H R)
    (h2 : c = false → ∀ R : VK, (∀ v H', P v H' → R v H') → tb σ H R) (q : ∀ v H', P v H' → Q v H') : if c = true then ta σ H Q else tb σ H Q := by
  cases c with
  | true => exact iteT (h1 rfl Q q)
  | false => exact iteF (h2 rfl Q q)
end Lr

set_option exponentiation.threshold 5000
namespace Lr
open PySem PySem.Spec PyProof.Rows L2
theorem gl2 (x y : Int) : gl [x, y] = Nat.gcd x.natAbs y.natAbs := by
  show Nat.gcd (Nat.gcd 0 x.natAbs) y.natAbs = _
  rw [Nat.gcd_zero_left]
/-- what is a multiple of a pair without a common divisor -/
theorem scale_low {g e P R X Y : Int} (hg : 0 < g) (he : 0 < e) (eP : g * P = e * X) (eR : g * R = e * Y) (xy : Nat.gcd X.natAbs Y.natAbs = 1) : lowl [P, R] = [X, Y] := by
  have k1 : g.natAbs * gl [P, R] = e.natAbs := by
    rw [gl2, ← Nat.gcd_mul_left, ← Int.natAbs_mul, ← Int.natAbs_mul, eP, eR, Int.natAbs_mul, Int.natAbs_mul, Nat.gcd_mul_left, xy, Nat.mul_one]
  have k2 : g * (gl [P, R] : Int) = e := by
    have := congrArg (Nat.cast (R := Int)) k1
    rw [Int.natCast_mul, Int.natAbs_of_nonneg (by omega), Int.natAbs_of_nonneg (by omega)] at this
    exact this
  have kp : (gl [P, R] : Int) ≠ 0 := by
    intro z
    rw [z] at k2
    omega
  have e1 : P = (gl [P, R] : Int) * X := Int.eq_of_mul_eq_mul_left (show g ≠ 0 by omega) (by rw [eP, ← Int.mul_assoc, k2])
  have e2 : R = (gl [P, R] : Int) * Y := Int.eq_of_mul_eq_mul_left (show g ≠ 0 by omega) (by rw [eR, ← Int.mul_assoc, k2])
  have f1 : P / (gl [P, R] : Int) = X := by
    conv => lhs; lhs; rw [e1]
    exact Int.mul_ediv_cancel_left _ kp
  have f2 : R / (gl [P, R] : Int) = Y := by
    conv => lhs; lhs; rw [e2]
    exact Int.mul_ediv_cancel_left _ kp
  show [P / (gl [P, R] : Int), R / (gl [P, R] : Int)] = [X, Y]
  rw [f1, f2]
/-- the two integers of what is sent back -/
def bU (m : M4) (x y : Int) : Int := m.d * x - m.b * y
def bV (m : M4) (x y : Int) : Int := m.a * y - m.c * x
theorem back_a (m : M4) (x y : Int) : m.a * bU m x y + m.b * bV m x y = m.det * x := by
  unfold bU bV M4.det
  rw [Int.mul_sub, Int.mul_sub, Int.sub_mul]
  have e1 : m.a * (m.d * x) = m.a * m.d * x := by rw [Int.mul_assoc]
  have e2 : m.a * (m.b * y) = m.b * (m.a * y) := by rw [Int.mul_left_comm]
  have e3 : m.b * (m.c * x) = m.b * m.c * x := by rw [Int.mul_assoc]
  omega
theorem back_c (m : M4) (x y : Int) : m.c * bU m x y + m.d * bV m x y = m.det * y := by
  unfold bU bV M4.det
  rw [Int.mul_sub, Int.mul_sub, Int.sub_mul]
  have e1 : m.c * (m.d * x) = m.d * (m.c * x) := by rw [Int.mul_left_comm]
  have e2 : m.c * (m.b * y) = m.b * m.c * y := by rw [Int.mul_left_comm, Int.mul_assoc]
  have e3 : m.d * (m.a * y) = m.a * m.d * y := by rw [Int.mul_left_comm, Int.mul_assoc]
  omega
theorem mul_sign {u v : Int} (h : 0 < u * v) : (0 < u ∧ 0 < v) ∨ (u < 0 ∧ v < 0) := by
  rcases Int.lt_trichotomy u 0 with hu | hu | hu
  · rcases Int.lt_trichotomy v 0 with hv | hv | hv
    · exact .inr ⟨hu, hv⟩
    · rw [hv] at h
      simp at h
    · have := Int.mul_neg_of_neg_of_pos hu hv
      omega
  · rw [hu] at h
    simp at h
  · rcases Int.lt_trichotomy v 0 with hv | hv | hv
    · have := Int.mul_neg_of_pos_of_neg hu hv
      omega
    · rw [hv] at h
      simp at h
    · exact .inl ⟨hu, hv⟩
/-- the signs of both, by the size -/
theorem back_sign {m : M4} (n : Nn m) {x y : Int} (hx : 1 ≤ x) (h : 0 < bU m x y * bV m x y) : (0 < m.det → 0 < bU m x y ∧ 0 < bV m x y) ∧ (m.det < 0 → bU m x y < 0 ∧ bV m x y < 0) := by
  have e := back_a m x y
  constructor
  · intro d
    rcases mul_sign h with g | g
    · exact g
    · exfalso
      have h1 := Int.mul_nonneg n.a (show 0 ≤ -bU m x y by omega)
      have h2 := Int.mul_nonneg n.b (show 0 ≤ -bV m x y by omega)
      rw [Int.mul_neg] at h1 h2
      have h3 := Int.mul_pos d (show 0 < x by omega)
      omega
  · intro d
    rcases mul_sign h with g | g
    · exfalso
      have h1 := Int.mul_nonneg n.a (show 0 ≤ bU m x y by omega)
      have h2 := Int.mul_nonneg n.b (show 0 ≤ bV m x y by omega)
      have h3 := Int.mul_neg_of_neg_of_pos d (show 0 < x by omega)
      omega
    · exact g
theorem nat_bU {m : M4} (n : Nn m) (hd : m.det ≠ 0) {x y : Int} (hx : 1 ≤ x) (h : 0 < bU m x y * bV m x y) :
    m.a * ((bU m x y).natAbs : Int) + m.b * ((bV m x y).natAbs : Int) = (m.det.natAbs : Int) * x ∧ m.c * ((bU m x y).natAbs : Int) + m.d * ((bV m x y).natAbs : Int) = (m.det.natAbs : Int) * y := by
  obtain ⟨s1, s2⟩ := back_sign n hx h
  have ea := back_a m x y
  have ec := back_c m x y
  rcases Int.lt_trichotomy m.det 0 with d | d | d
  · obtain ⟨u, v⟩ := s2 d
    rw [show ((bU m x y).natAbs : Int) = -bU m x y by omega, show ((bV m x y).natAbs : Int) = -bV m x y by omega, show (m.det.natAbs : Int) = -m.det by omega]
    simp only [Int.mul_neg, Int.neg_mul]
    omega
  · exact absurd d hd
  · obtain ⟨u, v⟩ := s1 d
    rw [show ((bU m x y).natAbs : Int) = bU m x y by omega, show ((bV m x y).natAbs : Int) = bV m x y by omega, show (m.det.natAbs : Int) = m.det by omega]
    exact ⟨ea, ec⟩
/-- what is sent back is sent there -/
theorem back_low {m : M4} (n : Nn m) (hd : m.det ≠ 0) {x y : Int} (hx : 1 ≤ x) (hy : 1 ≤ y) (xy : Nat.gcd x.natAbs y.natAbs = 1) (h : 0 < bU m x y * bV m x y) :
    ∃ u v : Int, lowl [((bU m x y).natAbs : Int), ((bV m x y).natAbs : Int)] = [u, v] ∧ 1 ≤ u ∧ 1 ≤ v ∧ gl [u, v] = 1 ∧ u ≤ ((bU m x y).natAbs : Int) ∧ v ≤ ((bV m x y).natAbs : Int) ∧ lowl [m.a * u + m.b * v, m.c * u + m.d * v] = [x, y] := by
  obtain ⟨e1, e2⟩ := nat_bU n hd hx h
  have h0 : bU m x y ≠ 0 ∧ bV m x y ≠ 0 := by
    constructor <;> intro z <;> rw [z] at h <;> simp at h
  generalize hU : ((bU m x y).natAbs : Int) = U at *
  generalize hV : ((bV m x y).natAbs : Int) = W at *
  have U0 : 0 < U := by omega
  have W0 : 0 < W := by omega
  have gp : 0 < gl [U, W] := gl_pos (x := U) List.mem_cons_self (by omega)
  have d1 : ((gl [U, W] : Nat) : Int) ∣ U := gl_dvd _ _ List.mem_cons_self
  have d2 : ((gl [U, W] : Nat) : Int) ∣ W := gl_dvd _ _ (List.mem_cons_of_mem _ List.mem_cons_self)
  have q1 := Int.mul_ediv_cancel' d1
  have q2 := Int.mul_ediv_cancel' d2
  have el : lowl [U, W] = [U / (gl [U, W] : Int), W / (gl [U, W] : Int)] := rfl
  have eg := lowl_gl gp
  rw [el] at eg
  have l1 := div_le (k := gl [U, W]) (show 0 ≤ U by omega)
  have l2 := div_le (k := gl [U, W]) (show 0 ≤ W by omega)
  refine ⟨_, _, el, ?_, ?_, eg, l1, l2, ?_⟩
  · by_cases z : U / (gl [U, W] : Int) ≤ 0
    · have := Int.ediv_nonneg (show 0 ≤ U by omega) (Int.natCast_nonneg (gl [U, W]))
      have : U / (gl [U, W] : Int) = 0 := by omega
      rw [this] at q1
      omega
    · omega
  · by_cases z : W / (gl [U, W] : Int) ≤ 0
    · have := Int.ediv_nonneg (show 0 ≤ W by omega) (Int.natCast_nonneg (gl [U, W]))
      have : W / (gl [U, W] : Int) = 0 := by omega
      rw [this] at q2
      omega
    · omega
  · refine scale_low (g := (gl [U, W] : Int)) (e := (m.det.natAbs : Int)) (by omega) (by omega) ?_ ?_ xy
    · rw [← e1, Int.mul_add, ← Int.mul_assoc, ← Int.mul_assoc, Int.mul_comm _ m.a, Int.mul_comm _ m.b, Int.mul_assoc, Int.mul_assoc, q1, q2]
    · rw [← e2, Int.mul_add, ← Int.mul_assoc, ← Int.mul_assoc, Int.mul_comm _ m.c, Int.mul_comm _ m.d, Int.mul_assoc, Int.mul_assoc, q1, q2]
end Lr
namespace Lr
open PySem PySem.Spec PyProof.Rows L2
theorem fact_pos {m : M4} (n : Nn m) (d : 0 < m.det) {x y : Int} (hx : 1 ≤ x) : (m.b * y < x * m.d ∧ x * m.c < m.a * y) ↔ 0 < bU m x y * bV m x y := by
  rw [Int.mul_comm x m.d, Int.mul_comm x m.c]
  constructor
  · rintro ⟨h1, h2⟩
    exact Int.mul_pos (show 0 < m.d * x - m.b * y by omega) (show 0 < m.a * y - m.c * x by omega)
  · intro h
    obtain ⟨h1, h2⟩ := (back_sign n hx h).1 d
    have h1 : 0 < m.d * x - m.b * y := h1
    have h2 : 0 < m.a * y - m.c * x := h2
    omega
theorem fact_neg {m : M4} (n : Nn m) (d : m.det < 0) {x y : Int} (hx : 1 ≤ x) : (m.a * y < x * m.c ∧ x * m.d < m.b * y) ↔ 0 < bU m x y * bV m x y := by
  rw [Int.mul_comm x m.d, Int.mul_comm x m.c]
  constructor
  · rintro ⟨h1, h2⟩
    have := Int.mul_pos (show 0 < -(m.d * x - m.b * y) by omega) (show 0 < -(m.a * y - m.c * x) by omega)
    rw [Int.neg_mul_neg] at this
    exact this
  · intro h
    obtain ⟨h1, h2⟩ := (back_sign n hx h).2 d
    have h1 : m.d * x - m.b * y < 0 := h1
    have h2 : m.a * y - m.c * x < 0 := h2
    omega
theorem shw_non : Shw PyData.none := ⟨rfl, rfl, by show (0 : Nat) ≤ 60; omega, rfl, Nat.zero_le _⟩
theorem Bd.le' {k : Nat} {x y : Int} (h : Bd k y) (l : x.natAbs ≤ y.natAbs) : Bd k x := Nat.lt_of_le_of_lt l h
end Lr
namespace Lr
open PySem PySem.Spec PyProof.Rows L2
theorem map_pos {m : M4} (n : Nn m) (d : m.det ≠ 0) {x y : Int} (hx : 1 ≤ x) (hy : 1 ≤ y) : 0 < m.a * x + m.b * y ∧ 0 < m.c * x + m.d * y := by
  unfold M4.det at d
  have ax := Int.mul_nonneg n.a (show 0 ≤ x by omega)
  have bx := Int.mul_nonneg n.b (show 0 ≤ y by omega)
  have cx := Int.mul_nonneg n.c (show 0 ≤ x by omega)
  have dx := Int.mul_nonneg n.d (show 0 ≤ y by omega)
  have pz : ∀ {u v : Int}, u * v = 0 → 1 ≤ v → u = 0 := fun h k => by
    rcases Int.mul_eq_zero.mp h with z | z
    · exact z
    · omega
  constructor
  · by_cases z : m.a * x + m.b * y = 0
    · exfalso
      apply d
      rw [pz (show m.a * x = 0 by omega) hx, pz (show m.b * y = 0 by omega) hy]
      simp
    · omega
  · by_cases z : m.c * x + m.d * y = 0
    · exfalso
      apply d
      rw [pz (show m.c * x = 0 by omega) hx, pz (show m.d * y = 0 by omega) hy]
      simp
    · omega
theorem iteNN {c A B : Prop} [Decidable c] (hc : ¬ c) (h : A) : if (!decide c) = true then A else B := by
  rw [decide_eq_false hc]
  exact iteT h
end Lr
namespace Lr
open PySem PySem.Spec PyProof.Rows L2
/-- a pair above 0, divided by what divides both -/
theorem low_two {P R : Int} (hP : 0 < P) (hR : 0 < R) : ∃ u v : Int, lowl [P, R] = [u, v] ∧ 1 ≤ u ∧ 1 ≤ v ∧ Nat.gcd u.natAbs v.natAbs = 1 ∧ u ≤ P ∧ v ≤ R ∧ (gl [P, R] : Int) * u = P ∧ (gl [P, R] : Int) * v = R ∧ 0 < gl [P, R] := by
  have gp : 0 < gl [P, R] := gl_pos (x := P) List.mem_cons_self (by omega)
  have d1 : ((gl [P, R] : Nat) : Int) ∣ P := gl_dvd _ _ List.mem_cons_self
  have d2 : ((gl [P, R] : Nat) : Int) ∣ R := gl_dvd _ _ (List.mem_cons_of_mem _ List.mem_cons_self)
  have q1 := Int.mul_ediv_cancel' d1
  have q2 := Int.mul_ediv_cancel' d2
  have el : lowl [P, R] = [P / (gl [P, R] : Int), R / (gl [P, R] : Int)] := rfl
  have eg := lowl_gl gp
  rw [el, gl2] at eg
  have l1 := div_le (k := gl [P, R]) (show 0 ≤ P by omega)
  have l2 := div_le (k := gl [P, R]) (show 0 ≤ R by omega)
  refine ⟨_, _, el, ?_, ?_, eg, l1, l2, q1, q2, gp⟩
  · by_cases z : P / (gl [P, R] : Int) ≤ 0
    · have := Int.ediv_nonneg (show 0 ≤ P by omega) (Int.natCast_nonneg (gl [P, R]))
      have : P / (gl [P, R] : Int) = 0 := by omega
      rw [this] at q1
      omega
    · omega
  · by_cases z : R / (gl [P, R] : Int) ≤ 0
    · have := Int.ediv_nonneg (show 0 ≤ R by omega) (Int.natCast_nonneg (gl [P, R]))
      have : R / (gl [P, R] : Int) = 0 := by omega
      rw [this] at q2
      omega
    · omega
/-- what is sent is sent back -/
theorem sent_back {m : M4} (hd : m.det ≠ 0) {x y u v g : Int} (hx : 1 ≤ x) (hy : 1 ≤ y) (xy : Nat.gcd x.natAbs y.natAbs = 1) (hg : 0 < g) (eu : g * u = m.a * x + m.b * y) (ev : g * v = m.c * x + m.d * y) :
    0 < bU m u v * bV m u v ∧ lowl [((bU m u v).natAbs : Int), ((bV m u v).natAbs : Int)] = [x, y] := by
  have e1 : g * bU m u v = m.det * x := by
    unfold bU M4.det
    rw [Int.mul_sub, Int.mul_left_comm, eu, Int.mul_left_comm g m.b, ev, Int.mul_add, Int.mul_add, Int.sub_mul]
    have h1 : m.d * (m.a * x) = m.a * m.d * x := by rw [Int.mul_left_comm, Int.mul_assoc]
    have h2 : m.d * (m.b * y) = m.b * (m.d * y) := by rw [Int.mul_left_comm]
    have h3 : m.b * (m.c * x) = m.b * m.c * x := by rw [Int.mul_assoc]
    omega
  have e2 : g * bV m u v = m.det * y := by
    unfold bV M4.det
    rw [Int.mul_sub, Int.mul_left_comm, ev, Int.mul_left_comm g m.c, eu, Int.mul_add, Int.mul_add, Int.sub_mul]
    have h1 : m.a * (m.c * x) = m.c * (m.a * x) := by rw [Int.mul_left_comm]
    have h2 : m.a * (m.d * y) = m.a * m.d * y := by rw [Int.mul_assoc]
    have h3 : m.c * (m.b * y) = m.b * m.c * y := by rw [Int.mul_left_comm, Int.mul_assoc]
    omega
  have f1 : g * ((bU m u v).natAbs : Int) = (m.det.natAbs : Int) * x := by
    have := congrArg (fun z : Int => (z.natAbs : Int)) e1
    simp only [Int.natAbs_mul, Int.natCast_mul] at this
    rw [show ((g.natAbs : Nat) : Int) = g by omega, show ((x.natAbs : Nat) : Int) = x by omega] at this
    exact this
  have f2 : g * ((bV m u v).natAbs : Int) = (m.det.natAbs : Int) * y := by
    have := congrArg (fun z : Int => (z.natAbs : Int)) e2
    simp only [Int.natAbs_mul, Int.natCast_mul] at this
    rw [show ((g.natAbs : Nat) : Int) = g by omega, show ((y.natAbs : Nat) : Int) = y by omega] at this
    exact this
  refine ⟨?_, scale_low hg (by omega) f1 f2 xy⟩
  have p : g * bU m u v * (g * bV m u v) = m.det * m.det * (x * y) := by
    rw [e1, e2]
    simp [Int.mul_comm, Int.mul_assoc, Int.mul_left_comm]
  have q : g * bU m u v * (g * bV m u v) = g * g * (bU m u v * bV m u v) := by simp [Int.mul_comm, Int.mul_assoc, Int.mul_left_comm]
  have dd : 0 < m.det * m.det := by
    rcases Int.lt_trichotomy m.det 0 with d | d | d
    · exact Int.mul_pos_of_neg_of_neg d d
    · exact absurd d hd
    · exact Int.mul_pos d d
  have pos : 0 < m.det * m.det * (x * y) := Int.mul_pos dd (Int.mul_pos (by omega) (by omega))
  rw [← p, q] at pos
  have gg : 0 < g * g := Int.mul_pos hg hg
  refine Int.not_le.mp fun z => ?_
  have := Int.mul_nonneg (Int.le_of_lt gg) (show 0 ≤ -(bU m u v * bV m u v) by omega)
  rw [Int.mul_neg] at this
  omega
end Lr
namespace Lr
open PySem PySem.Spec PyProof.Rows L2
/-- a pair of ints from 0 on -/
def Pr (H : Hp) (v : V) : Prop := ∃ (q : Addr) (s t : Int), v = .ref q ∧ H q = some (.tup [.int s, .int t]) ∧ 0 ≤ s ∧ 0 ≤ t ∧ Bd 30 s ∧ Bd 30 t
theorem tup_nea {H : Hp} {a p : Addr} {n : Nat} {xs : List V} (h : Pu H a n) (hp : H p = some (.tup xs)) : p ≠ a := by
  rintro rfl
  obtain ⟨_, _, _, h1, _⟩ := h
  rw [hp] at h1
  cases h1
theorem Pr.kp {H H' : Hp} {a : Addr} {n : Nat} {v : V} (h : Pr H v) (hp : Pu H a n) (k : Kp a H H') : Pr H' v := by
  obtain ⟨q, s, t, e, hq, r⟩ := h
  exact ⟨q, s, t, e, k _ _ (tup_nea hp hq) hq, r⟩
theorem Pr.same {H H' : Hp} {v : V} (h : Pr H v) (k : Same H H') : Pr H' v := by
  obtain ⟨q, s, t, e, hq, r⟩ := h
  exact ⟨q, s, t, e, k _ _ hq, r⟩
theorem far_bd {up far : Int} (u0 : 0 ≤ up) (u1 : up ≤ 1000000) (f0 : 1 ≤ far) (f1 : far ≤ 9) : 0 ≤ up * far ∧ Bd 30 (up * far) ∧ Bd 30 (up * far + 1) := by
  have h0 := Int.mul_nonneg u0 (show 0 ≤ far by omega)
  have h1 : up * far ≤ up * 9 := Int.mul_le_mul_of_nonneg_left f1 u0
  exact ⟨h0, bd_le h0 (by omega), bd_le (by omega) (by omega)⟩
end Lr
namespace Lr
open PySem PySem.Spec PyProof.Rows L2
theorem four_new {H : Hp} {q1 q2 q3 q4 L : Addr} {o1 o2 o3 o4 o5 : HO} (n1 : H q1 = none) (n2 : L2.upd H q1 o1 q2 = none) (n3 : L2.upd (L2.upd H q1 o1) q2 o2 q3 = none) (n4 : L2.upd (L2.upd (L2.upd H q1 o1) q2 o2) q3 o3 q4 = none)
    (n5 : L2.upd (L2.upd (L2.upd (L2.upd H q1 o1) q2 o2) q3 o3) q4 o4 L = none) :
    Same H (L2.upd (L2.upd (L2.upd (L2.upd (L2.upd H q1 o1) q2 o2) q3 o3) q4 o4) L o5) ∧ L2.upd (L2.upd (L2.upd (L2.upd (L2.upd H q1 o1) q2 o2) q3 o3) q4 o4) L o5 L = some o5 ∧
    L2.upd (L2.upd (L2.upd (L2.upd (L2.upd H q1 o1) q2 o2) q3 o3) q4 o4) L o5 q1 = some o1 ∧ L2.upd (L2.upd (L2.upd (L2.upd (L2.upd H q1 o1) q2 o2) q3 o3) q4 o4) L o5 q2 = some o2 ∧
    L2.upd (L2.upd (L2.upd (L2.upd (L2.upd H q1 o1) q2 o2) q3 o3) q4 o4) L o5 q3 = some o3 ∧ L2.upd (L2.upd (L2.upd (L2.upd (L2.upd H q1 o1) q2 o2) q3 o3) q4 o4) L o5 q4 = some o4 := by
  have s1 := (L2.Same.refl H).new (o := o1) n1
  have s2 := (L2.Same.refl _).new (o := o2) n2
  have s3 := (L2.Same.refl _).new (o := o3) n3
  have s4 := (L2.Same.refl _).new (o := o4) n4
  have s5 := (L2.Same.refl _).new (o := o5) n5
  exact ⟨(((s1.trans s2).trans s3).trans s4).trans s5, upd_same, s5 _ _ (s4 _ _ (s3 _ _ (s2 _ _ upd_same))), s5 _ _ (s4 _ _ (s3 _ _ upd_same)), s5 _ _ (s4 _ _ upd_same), s5 _ _ upd_same⟩
end Lr
namespace Lr
open PySem PySem.Spec PyProof.Rows L2
theorem ifI {x k : Int} {A B : Prop} (h1 : x = k → A) (h2 : x ≠ k → B) : if decide (V.int x = V.int k) = true then A else B := by
  by_cases h : x = k
  · rw [decide_eq_true (by rw [h])]
    exact iteT (h1 h)
  · rw [decide_eq_false (fun z => h (V.int.inj z))]
    exact iteF (h2 h)
end Lr
namespace Lr
open PySem PySem.Spec PyProof.Rows L2
/-- a map of integers to 10 ** 6 -/
def Tm (H : Hp) (v : V) (m : M4) : Prop := ∃ p : Addr, v = .ref p ∧ H p = some (.tup (m.l.map V.int)) ∧ Mp m ∧ Le 1000000 m
theorem Tm.kp {H H' : Hp} {a : Addr} {n : Nat} {v : V} {m : M4} (h : Tm H v m) (hp : Pu H a n) (k : Kp a H H') : Tm H' v m := by
  obtain ⟨q, e, hq, r⟩ := h
  exact ⟨q, e, k _ _ (tup_nea hp hq) hq, r⟩
theorem Tm.same {H H' : Hp} {v : V} {m : M4} (h : Tm H v m) (k : Same H H') : Tm H' v m := by
  obtain ⟨q, e, hq, r⟩ := h
  exact ⟨q, e, k _ _ hq, r⟩
theorem Tm.of {H : Hp} {p : Addr} {m : M4} (h : H p = some (.tup (m.l.map V.int))) (mp : Mp m) (ml : Le 1000000 m) : Tm H (.ref p) m := ⟨p, rfl, h, mp, ml⟩
theorem at_any {l : List V} {r : Int} (h0 : 0 ≤ r) (h1 : r < l.length) : ∃ v ∈ l, atI l r = some v := by
  obtain ⟨j, rfl⟩ := nat_of h0
  have hj : j < l.length := by omega
  exact ⟨l[j], List.getElem_mem hj, atI_nat (by rw [List.getElem?_eq_getElem hj])⟩
theorem low_bd {m : M4} {k : Nat} (hd : m.det ≠ 0) (h : ∀ i ∈ m.l, Bd k i) : ∀ i ∈ m.low.l, Bd k i := by
  have g := det_pos_gl hd
  intro i hi
  simp only [M4.l, M4.low, List.mem_cons, List.not_mem_nil, or_false] at hi
  have g' : (0 : Int) < (gl m.l : Int) := by omega
  rcases hi with rfl | rfl | rfl | rfl
  · exact (h m.a (by simp [M4.l])).dv g'
  · exact (h m.b (by simp [M4.l])).dv g'
  · exact (h m.c (by simp [M4.l])).dv g'
  · exact (h m.d (by simp [M4.l])).dv g'
/-- two pairs that tell one fraction -/
theorem low_same {g h P R P' R' : Int} (hg : 0 < g) (hh : 0 < h) (h0 : 0 < P') (h1 : 0 < R') (e1 : g * P = h * P') (e2 : g * R = h * R') : lowl [P, R] = lowl [P', R'] := by
  obtain ⟨u, v, el, _, _, uv, _, _, gu, gv, gp⟩ := low_two h0 h1
  rw [el]
  refine scale_low (g := g) (e := h * (gl [P', R'] : Int)) hg (Int.mul_pos hh (by omega)) ?_ ?_ uv
  · rw [e1, Int.mul_assoc, gu]
  · rw [e2, Int.mul_assoc, gv]
/-- low of a multiple of nothing -/
theorem low_unit {k : Int} (hk : 0 < k) : (M4.mk k 0 0 k).low = M4.one := by
  have e : gl (M4.mk k 0 0 k).l = k.natAbs := by
    show Nat.gcd (Nat.gcd (Nat.gcd (Nat.gcd 0 k.natAbs) (0 : Int).natAbs) (0 : Int).natAbs) k.natAbs = _
    simp
  have e2 : ((k.natAbs : Nat) : Int) = k := by omega
  unfold M4.low M4.one
  rw [e, e2]
  show M4.mk (k / k) (0 / k) (0 / k) (k / k) = _
  rw [Int.ediv_self (by omega), Int.zero_ediv]
theorem low_goal {m : M4} (hd : m.det ≠ 0) (x y : Int) : (gl m.l : Int) * (m.low.a * x + m.low.b * y) = m.a * x + m.b * y ∧ (gl m.l : Int) * (m.low.c * x + m.low.d * y) = m.c * x + m.d * y := by
  have g := fun x hx => gl_dvd m.l x hx
  have ea := Int.mul_ediv_cancel' (g m.a (by simp [M4.l]))
  have eb := Int.mul_ediv_cancel' (g m.b (by simp [M4.l]))
  have ec := Int.mul_ediv_cancel' (g m.c (by simp [M4.l]))
  have ed := Int.mul_ediv_cancel' (g m.d (by simp [M4.l]))
  constructor
  · show (gl m.l : Int) * (m.a / (gl m.l : Int) * x + m.b / (gl m.l : Int) * y) = _
    rw [Int.mul_add, ← Int.mul_assoc, ← Int.mul_assoc, ea, eb]
  · show (gl m.l : Int) * (m.c / (gl m.l : Int) * x + m.d / (gl m.l : Int) * y) = _
    rw [Int.mul_add, ← Int.mul_assoc, ← Int.mul_assoc, ec, ed]
theorem mul_goal (m n : M4) (x y : Int) : (m.mul n).a * x + (m.mul n).b * y = m.a * (n.a * x + n.b * y) + m.b * (n.c * x + n.d * y) ∧ (m.mul n).c * x + (m.mul n).d * y = m.c * (n.a * x + n.b * y) + m.d * (n.c * x + n.d * y) := by
  unfold M4.mul
  simp only [Int.add_mul, Int.mul_add, Int.mul_assoc]
  omega
end Lr
namespace Lr
open PySem PySem.Spec PyProof.Rows L2
theorem goal_goal {R m : M4} (dM : (R.mul m).det ≠ 0) {x y u v g' : Int} (hg : 0 < g') (gu : g' * u = m.a * x + m.b * y) (gv : g' * v = m.c * x + m.d * y) (z0 : 0 < R.a * u + R.b * v) (z1 : 0 < R.c * u + R.d * v) :
    lowl [(R.mul m).low.a * x + (R.mul m).low.b * y, (R.mul m).low.c * x + (R.mul m).low.d * y] = lowl [R.a * u + R.b * v, R.c * u + R.d * v] := by
  obtain ⟨g1, g2⟩ := low_goal dM x y
  obtain ⟨f1, f2⟩ := mul_goal R m x y
  refine low_same (g := (gl (R.mul m).l : Int)) (h := g') (by have := det_pos_gl dM; omega) hg z0 z1 ?_ ?_
  · rw [g1, f1, ← gu, ← gv, Int.mul_add, Int.mul_left_comm g' R.a u, Int.mul_left_comm g' R.b v]
  · rw [g2, f2, ← gu, ← gv, Int.mul_add, Int.mul_left_comm g' R.c u, Int.mul_left_comm g' R.d v]
end Lr
namespace Lr
open PySem PySem.Spec PyProof.Rows L2
theorem turn_A {m : M4} (h : Mp m) (hb : m.b = 0) (hc : m.c = 0) : ((M4.mk m.d 0 0 m.a).mul m).low = M4.one ∧ (m.mul (M4.mk m.d 0 0 m.a)).low = M4.one ∧ Mp (M4.mk m.d 0 0 m.a) ∧ m.a ≠ 0 := by
  obtain ⟨a, b, c, d⟩ := m
  obtain ⟨nn, dt, gd⟩ := h
  have hb : b = 0 := hb
  have hc : c = 0 := hc
  subst hb hc
  have a0 : 0 ≤ a := nn.a
  have d0 : 0 ≤ d := nn.d
  have dt : a * d - 0 * 0 ≠ 0 := dt
  have p : 0 < a * d := by
    have := Int.mul_nonneg a0 d0
    omega
  have q : 0 < d * a := by rw [Int.mul_comm]; exact p
  have e1 : (M4.mk d 0 0 a).mul (M4.mk a 0 0 d) = M4.mk (d * a) 0 0 (d * a) := by
    unfold M4.mul
    simp [Int.mul_comm]
  have e2 : (M4.mk a 0 0 d).mul (M4.mk d 0 0 a) = M4.mk (d * a) 0 0 (d * a) := by
    unfold M4.mul
    simp [Int.mul_comm]
  refine ⟨by show ((M4.mk d 0 0 a).mul (M4.mk a 0 0 d)).low = _; rw [e1, low_unit q], by show ((M4.mk a 0 0 d).mul (M4.mk d 0 0 a)).low = _; rw [e2, low_unit q], ⟨⟨d0, Int.le_refl 0, Int.le_refl 0, a0⟩, ?_, ?_⟩, ?_⟩
  · show d * a - 0 * 0 ≠ 0
    omega
  · have : Nat.gcd (Nat.gcd (Nat.gcd (Nat.gcd 0 a.natAbs) 0) 0) d.natAbs = 1 := gd
    show Nat.gcd (Nat.gcd (Nat.gcd (Nat.gcd 0 d.natAbs) 0) 0) a.natAbs = 1
    simp at this ⊢
    rw [Nat.gcd_comm]
    exact this
  · show a ≠ 0
    rintro rfl
    simp at p
theorem turn_B {m : M4} (h : Mp m) (ha : m.a = 0) (hd : m.d = 0) : ((M4.mk 0 m.b m.c 0).mul m).low = M4.one ∧ (m.mul (M4.mk 0 m.b m.c 0)).low = M4.one ∧ Mp (M4.mk 0 m.b m.c 0) ∧ m.b ≠ 0 := by
  obtain ⟨a, b, c, d⟩ := m
  have ha : a = 0 := ha
  have hd : d = 0 := hd
  subst ha hd
  have b0 : 0 ≤ b := h.nn.b
  have c0 : 0 ≤ c := h.nn.c
  have dt : 0 * 0 - b * c ≠ 0 := h.dt
  have p : 0 < b * c := by
    have := Int.mul_nonneg b0 c0
    omega
  have e1 : (M4.mk 0 b c 0).mul (M4.mk 0 b c 0) = M4.mk (b * c) 0 0 (b * c) := by
    unfold M4.mul
    simp [Int.mul_comm]
  refine ⟨by show ((M4.mk 0 b c 0).mul (M4.mk 0 b c 0)).low = _; rw [e1, low_unit p], by show ((M4.mk 0 b c 0).mul (M4.mk 0 b c 0)).low = _; rw [e1, low_unit p], h, ?_⟩
  show b ≠ 0
  rintro rfl
  simp at p
theorem mk_diag {u v : Int} (hu : 1 ≤ u) (hv : 1 ≤ v) : Nn (M4.mk u 0 0 v) ∧ (M4.mk u 0 0 v).det ≠ 0 ∧ Nn (M4.mk 0 u v 0) ∧ (M4.mk 0 u v 0).det ≠ 0 := by
  have p := Int.mul_pos (show 0 < u by omega) (show 0 < v by omega)
  refine ⟨⟨by show 0 ≤ u; omega, Int.le_refl 0, Int.le_refl 0, by show 0 ≤ v; omega⟩, ?_, ⟨Int.le_refl 0, by show 0 ≤ u; omega, by show 0 ≤ v; omega, Int.le_refl 0⟩, ?_⟩
  · show u * v - 0 * 0 ≠ 0
    omega
  · show 0 * 0 - u * v ≠ 0
    omega
end Lr

set_option exponentiation.threshold 5000
namespace Lr
open PySem PySem.Spec PyProof.Rows L2
/-! endless roads -/
/-- a road that is the same when so many turns are put behind it -/
def Per (w : List Bool) (p : Nat) : Prop := ∀ i, i < w.length → w[(i + p) % w.length]? = w[i]?
theorem per_len (w : List Bool) : Per w w.length := fun i hi => by
  rw [Nat.add_mod_right, Nat.mod_eq_of_lt hi]
theorem Per.at {w : List Bool} {p : Nat} (h : Per w p) (i : Nat) : w[(i + p) % w.length]? = w[i % w.length]? := by
  by_cases h0 : w.length = 0
  · rw [h0, Nat.mod_zero, Nat.mod_zero, List.getElem?_eq_none (by omega), List.getElem?_eq_none (by omega)]
  · have := h (i % w.length) (Nat.mod_lt _ (by omega))
    rw [Nat.mod_add_mod] at this
    exact this
theorem Per.sub {w : List Bool} {p r : Nat} (h : Per w p) (k : Per w (r + p)) : Per w r := fun i hi => by
  rw [← h.at (i + r), Nat.add_assoc, k i hi]
theorem Per.mul {w : List Bool} {p : Nat} (h : Per w p) (k : Nat) : Per w (k * p) := by
  induction k with
  | zero => exact fun i hi => by rw [Nat.zero_mul, Nat.add_zero, Nat.mod_eq_of_lt hi]
  | succ k ih => exact fun i hi => by rw [Nat.succ_mul, ← Nat.add_assoc, h.at, ih i hi]
/-- the least one -/
def Least (w : List Bool) (p : Nat) : Prop := 1 ≤ p ∧ p ≤ w.length ∧ Per w p ∧ ∀ k, 1 ≤ k → k < p → ¬ Per w k
theorem Least.dvd {w : List Bool} {p : Nat} (h : Least w p) : w.length % p = 0 := by
  obtain ⟨p1, pn, hp, hm⟩ := h
  by_cases z : w.length % p = 0
  · exact z
  · exfalso
    refine hm (w.length % p) (by omega) (Nat.mod_lt _ (by omega)) ?_
    have k := hp.mul (w.length / p)
    refine Per.sub k ?_
    rw [Nat.mul_comm, Nat.mod_add_div]
    exact per_len w
theorem Least.eq {w : List Bool} {p q : Nat} (h : Least w p) (k : Least w q) : p = q := by
  rcases Nat.lt_trichotomy p q with z | z | z
  · exact absurd h.2.2.1 (k.2.2.2 p h.1 z)
  · exact z
  · exact absurd k.2.2.1 (h.2.2.2 q k.1 z)
theorem repR_at {u : List Bool} {k i : Nat} (h : i < k * u.length) : (repR u k)[i]? = u[i % u.length]? := by
  induction k generalizing i with
  | zero => omega
  | succ k ih =>
    have e : repR u (k + 1) = u ++ repR u k := by
      unfold repR
      rw [List.replicate_succ, List.flatten_cons]
    rw [e]
    by_cases hi : i < u.length
    · rw [List.getElem?_append_left hi, Nat.mod_eq_of_lt hi]
    · rw [List.getElem?_append_right (by omega), ih (by rw [Nat.succ_mul] at h; omega), ← Nat.mod_eq_sub_mod (by omega)]
/-- where it comes round -/
theorem Per.low {w : List Bool} {p : Nat} (h : Per w p) (p1 : 1 ≤ p) (hp : p ≤ w.length) : ∀ i, i < w.length → w[i]? = (w.take p)[i % p]? := by
  intro i
  induction i using Nat.strongRecOn with
  | ind i ih =>
    intro hi
    by_cases z : i < p
    · rw [Nat.mod_eq_of_lt z, List.getElem?_take_of_lt z]
    · have e := h (i - p) (by omega)
      rw [show i - p + p = i by omega, Nat.mod_eq_of_lt hi] at e
      rw [e, ih (i - p) (by omega) (by omega), ← Nat.mod_eq_sub_mod (by omega)]
theorem per_rep {w : List Bool} {p : Nat} (p1 : 1 ≤ p) (hp : p ≤ w.length) : repR (w.take p) (w.length / p) = w ↔ Per w p ∧ w.length % p = 0 := by
  have tl : (w.take p).length = p := by rw [List.length_take]; omega
  constructor
  · intro e
    have el := congrArg List.length e
    rw [repR_len, tl] at el
    have m0 : w.length % p = 0 := by
      rw [← el]
      exact Nat.mul_mod_left _ _
    refine ⟨fun i hi => ?_, m0⟩
    have key : ∀ j, j < w.length → w[j]? = (w.take p)[j % p]? := fun j hj => by
      have := repR_at (u := w.take p) (k := w.length / p) (i := j) (by rw [tl, el]; exact hj)
      rw [e, tl] at this
      exact this
    have n0 : 0 < w.length := by omega
    rw [key _ (Nat.mod_lt _ n0), key _ hi]
    congr 1
    have d : p ∣ w.length := Nat.dvd_of_mod_eq_zero m0
    rw [Nat.mod_mod_of_dvd _ d, Nat.add_mod_right]
  · rintro ⟨h, m0⟩
    have el : w.length / p * p = w.length := Nat.div_mul_cancel (Nat.dvd_of_mod_eq_zero m0)
    refine List.ext_getElem? fun i => ?_
    by_cases hi : i < w.length
    · rw [repR_at (by rw [tl, el]; exact hi), tl, h.low p1 hp i hi]
    · rw [List.getElem?_eq_none (by rw [repR_len, tl, el]; omega), List.getElem?_eq_none (by omega)]
/-- what is told of an endless road at a place -/
def sq (f l : List Bool) (i : Nat) : Option Bool := if i < f.length then f[i]? else l[(i - f.length) % l.length]?
theorem sq_take (f l : List Bool) (hl : l ≠ []) {k i : Nat} (h : i < f.length + k) : (f ++ repR l k)[i]? = sq f l i := by
  unfold sq
  have l1 : 1 ≤ l.length := Nat.pos_of_ne_zero fun z => hl (List.length_eq_zero_iff.mp z)
  split
  · rename_i hi
    rw [List.getElem?_append_left hi]
  · rename_i hi
    rw [List.getElem?_append_right (by omega), repR_at]
    have : k * 1 ≤ k * l.length := Nat.mul_le_mul_left k l1
    omega
theorem sq_least {w : List Bool} {p : Nat} (h : Least w p) (f : List Bool) : sq f (w.take p) = sq f w := by
  have p1 := h.1
  have pn := h.2.1
  have tl : (w.take p).length = p := by rw [List.length_take]; omega
  funext i
  unfold sq
  split
  · rfl
  · have m := Nat.mod_lt (i - f.length) (show 0 < w.length by omega)
    rw [h.2.2.1.low p1 pn _ m, tl, Nat.mod_mod_of_dvd _ (Nat.dvd_of_mod_eq_zero h.dvd)]
/-! a turn of the road ahead that is one of the ring -/
def rr (l : List Bool) : List Bool := match l.getLast? with
  | none => []
  | some t => t :: l.dropLast
def stp (c : List Bool × List Bool) : List Bool × List Bool := if c.1.getLast? = c.2.getLast? then (c.1.dropLast, rr c.2) else c
theorem rr_len (l : List Bool) : (rr l).length = l.length := by
  unfold rr
  cases h : l.getLast? with
  | none => rw [List.getLast?_eq_none_iff.mp h]
  | some t =>
    have : l ≠ [] := fun z => by rw [z] at h; cases h
    have := List.length_pos_iff.mpr this
    simp [List.length_dropLast]
    omega
theorem last_ex {l : List Bool} {t : Bool} (h : l.getLast? = some t) : ∃ d, l = d ++ [t] := by
  have ne : l ≠ [] := fun z => by rw [z] at h; cases h
  have e := List.dropLast_concat_getLast ne
  rw [List.getLast?_eq_some_getLast ne] at h
  exact ⟨l.dropLast, by rw [← Option.some.inj h, e]⟩
theorem rr_snoc (d : List Bool) (t : Bool) : rr (d ++ [t]) = t :: d := by
  unfold rr
  simp
theorem rr_at {l : List Bool} {i : Nat} (hi : i < l.length) : (rr l)[i]? = l[(i + (l.length - 1)) % l.length]? := by
  cases h : l.getLast? with
  | none =>
    rw [List.getLast?_eq_none_iff.mp h] at hi
    exact absurd hi (Nat.not_lt_zero _)
  | some t =>
    obtain ⟨d, rfl⟩ := last_ex h
    rw [rr_snoc]
    have len : (d ++ [t]).length = d.length + 1 := by simp
    rw [len] at hi ⊢
    cases i with
    | zero =>
      rw [Nat.zero_add, Nat.mod_eq_of_lt (by omega), Nat.add_sub_cancel, List.getElem?_append_right (Nat.le_refl _), Nat.sub_self]
      rfl
    | succ i =>
      rw [show i + 1 + (d.length + 1 - 1) = i + (d.length + 1) by omega, Nat.add_mod_right, Nat.mod_eq_of_lt (by omega), List.getElem?_append_left (by omega)]
      rfl
theorem stp_snoc (f l : List Bool) (t : Bool) : stp (f ++ [t], l ++ [t]) = (f, t :: l) := by
  unfold stp
  simp [rr_snoc]
theorem sq_stp (c : List Bool × List Bool) : sq (stp c).1 (stp c).2 = sq c.1 c.2 := by
  obtain ⟨f, l⟩ := c
  by_cases h : f.getLast? = l.getLast?
  · cases hf : f.getLast? with
    | none =>
      have f0 := List.getLast?_eq_none_iff.mp hf
      have l0 := List.getLast?_eq_none_iff.mp (h.symm.trans hf)
      subst f0 l0
      rfl
    | some t =>
      obtain ⟨f, rfl⟩ := last_ex hf
      obtain ⟨l, rfl⟩ := last_ex (h.symm.trans hf)
      rw [stp_snoc]
      have lf : (f ++ [t]).length = f.length + 1 := by simp
      have ll : (l ++ [t]).length = l.length + 1 := by simp
      have lr : (t :: l).length = l.length + 1 := rfl
      funext i
      show (if i < f.length then f[i]? else (t :: l)[(i - f.length) % (t :: l).length]?) = if i < (f ++ [t]).length then (f ++ [t])[i]? else (l ++ [t])[(i - (f ++ [t]).length) % (l ++ [t]).length]?
      by_cases h1 : i < f.length
      · rw [if_pos h1, if_pos (by omega), List.getElem?_append_left h1]
      · rw [if_neg h1, ← rr_snoc, rr_len, rr_at (Nat.mod_lt _ (by omega)), ll, Nat.mod_add_mod]
        by_cases h2 : i < f.length + 1
        · have e : i = f.length := by omega
          rw [if_pos (by omega), e, Nat.sub_self, Nat.zero_add, Nat.mod_eq_of_lt (by omega), Nat.add_sub_cancel, List.getElem?_append_right (Nat.le_refl _), List.getElem?_append_right (Nat.le_refl _), Nat.sub_self, Nat.sub_self]
        · rw [if_neg (by omega), lf, show i - f.length + (l.length + 1 - 1) = i - (f.length + 1) + (l.length + 1) by omega, Nat.add_mod_right]
  · have e : stp (f, l) = (f, l) := by
      unfold stp
      rw [if_neg h]
    rw [e]
theorem per_rr {l : List Bool} {k : Nat} (h : Per (rr l) k) : Per l k := by
  intro i hi
  have n0 : 0 < l.length := by omega
  have e := h.at (i + 1)
  rw [rr_len] at e
  rw [rr_at (Nat.mod_lt _ n0), rr_at (Nat.mod_lt _ n0), Nat.mod_add_mod, Nat.mod_add_mod, show i + 1 + k + (l.length - 1) = i + k + l.length by omega, show i + 1 + (l.length - 1) = i + l.length by omega, Nat.add_mod_right, Nat.add_mod_right, Nat.mod_eq_of_lt hi] at e
  exact e
/-- a ring that comes round at no less than its length -/
def Prim (l : List Bool) : Prop := l ≠ [] ∧ ∀ k, 1 ≤ k → k < l.length → ¬ Per l k
theorem Prim.least {l : List Bool} (h : Prim l) : Least l l.length := ⟨Nat.pos_of_ne_zero fun z => h.1 (List.length_eq_zero_iff.mp z), Nat.le_refl _, per_len l, h.2⟩
theorem Prim.rr {l : List Bool} (h : Prim l) : Prim (rr l) := by
  refine ⟨fun z => h.1 ?_, fun k k1 k2 p => h.2 k k1 (by rw [rr_len] at k2; exact k2) (per_rr p)⟩
  have := rr_len l
  rw [z] at this
  exact List.length_eq_zero_iff.mp this.symm
theorem Least.prim {w : List Bool} {p : Nat} (h : Least w p) : Prim (w.take p) := by
  have p1 := h.1
  have pn := h.2.1
  have tl : (w.take p).length = p := by rw [List.length_take]; omega
  refine ⟨fun z => ?_, fun k k1 k2 q => h.2.2.2 k k1 (by omega) fun i hi => ?_⟩
  · rw [z] at tl
    simp at tl
    omega
  · have n0 : 0 < w.length := by omega
    rw [h.2.2.1.low p1 pn _ (Nat.mod_lt _ n0), h.2.2.1.low p1 pn _ hi, Nat.mod_mod_of_dvd _ (Nat.dvd_of_mod_eq_zero h.dvd)]
    have := q.at i
    rw [tl] at this
    exact this
theorem Prim.stp {c : List Bool × List Bool} (h : Prim c.2) : Prim (stp c).2 := by
  unfold Lr.stp
  split
  · exact h.rr
  · exact h
end Lr

set_option exponentiation.threshold 5000
namespace Lr
open PySem PySem.Spec PyProof.Rows L2
def its : Nat → List Bool × List Bool → List Bool × List Bool
  | 0, c => c
  | n + 1, c => stp (its n c)
theorem its_fix {c : List Bool × List Bool} {i : Nat} (h : stp (its i c) = its i c) : ∀ n, i ≤ n → its n c = its i c := by
  intro n hn
  induction n with
  | zero => rw [Nat.le_zero.mp hn]
  | succ n ih =>
    by_cases e : i = n + 1
    · rw [e]
    · show stp (its n c) = _
      rw [ih (by omega), h]
theorem stp_ne {c : List Bool × List Bool} (h : c.1.getLast? ≠ c.2.getLast?) : stp c = c := by
  unfold stp
  rw [if_neg h]
theorem stp_ring {c : List Bool × List Bool} (h : c.2 ≠ []) : (stp c).2 ≠ [] := by
  unfold stp
  split
  · intro z
    have := rr_len c.2
    have z : rr c.2 = [] := z
    rw [z] at this
    exact h (List.length_eq_zero_iff.mp this.symm)
  · exact h
theorem its_ring {c : List Bool × List Bool} (h : c.2 ≠ []) (n : Nat) : (its n c).2 ≠ [] := by
  induction n with
  | zero => exact h
  | succ n ih => exact stp_ring ih
theorem its_len {c : List Bool × List Bool} (n : Nat) : stp (its n c) = its n c ∨ (its n c).1.length + n = c.1.length := by
  induction n with
  | zero => exact .inr rfl
  | succ n ih =>
    show stp (stp (its n c)) = stp (its n c) ∨ (stp (its n c)).1.length + (n + 1) = c.1.length
    rcases ih with e | e
    · rw [e]
      exact .inl e
    · by_cases h : (its n c).1.getLast? = (its n c).2.getLast?
      · by_cases z : (its n c).1 = []
        · left
          have e2 : (its n c).2 = [] := by
            rw [z] at h
            exact List.getLast?_eq_none_iff.mp h.symm
          have e3 : its n c = ([], []) := Prod.ext z e2
          rw [e3]
          rfl
        · right
          have : (stp (its n c)).1 = (its n c).1.dropLast := by
            unfold stp
            rw [if_pos h]
          have p := List.length_pos_iff.mpr z
          rw [this, List.length_dropLast]
          omega
      · left
        rw [stp_ne h, stp_ne h]
theorem its_end {c : List Bool × List Bool} (h : c.2 ≠ []) : stp (its c.1.length c) = its c.1.length c := by
  rcases its_len (c := c) c.1.length with e | e
  · exact e
  · have z : (its c.1.length c).1 = [] := List.length_eq_zero_iff.mp (by omega)
    refine stp_ne ?_
    rw [z]
    intro k
    exact its_ring h _ (List.getLast?_eq_none_iff.mp k.symm)
theorem its_le (c : List Bool × List Bool) (n : Nat) : (its n c).1.length ≤ c.1.length ∧ (its n c).2.length = c.2.length := by
  induction n with
  | zero => exact ⟨Nat.le_refl _, rfl⟩
  | succ n ih =>
    show (stp (its n c)).1.length ≤ _ ∧ (stp (its n c)).2.length = _
    unfold stp
    split
    · rw [List.length_dropLast]
      exact ⟨by omega, by rw [rr_len]; exact ih.2⟩
    · exact ih
theorem its_sq (c : List Bool × List Bool) (n : Nat) : sq (its n c).1 (its n c).2 = sq c.1 c.2 := by
  induction n with
  | zero => rfl
  | succ n ih =>
    show sq (stp (its n c)).1 (stp (its n c)).2 = _
    rw [sq_stp, ih]
theorem its_prim {c : List Bool × List Bool} (h : Prim c.2) (n : Nat) : Prim (its n c).2 := by
  induction n with
  | zero => exact h
  | succ n ih => exact Prim.stp ih
/-- the least way of a course -/
def Lw (f w : List Bool) (c : List Bool × List Bool) : Prop := ∃ p, Least w p ∧ c = its f.length (f, w.take p)
theorem Lw.eq {f w : List Bool} {c d : List Bool × List Bool} (h : Lw f w c) (k : Lw f w d) : c = d := by
  obtain ⟨p, hp, rfl⟩ := h
  obtain ⟨q, hq, rfl⟩ := k
  rw [hp.eq hq]
theorem Lw.sq {f w : List Bool} {c : List Bool × List Bool} (h : Lw f w c) : sq c.1 c.2 = Lr.sq f w := by
  obtain ⟨p, hp, rfl⟩ := h
  rw [its_sq]
  exact sq_least hp f
theorem Lw.prim {f w : List Bool} {c : List Bool × List Bool} (h : Lw f w c) : Prim c.2 := by
  obtain ⟨p, hp, rfl⟩ := h
  exact its_prim hp.prim _
theorem Lw.fix {f w : List Bool} {c : List Bool × List Bool} (h : Lw f w c) : stp c = c := by
  obtain ⟨p, hp, rfl⟩ := h
  exact its_end (c := (f, w.take p)) hp.prim.1
theorem Lw.len {f w : List Bool} {c : List Bool × List Bool} (h : Lw f w c) : c.1.length ≤ f.length ∧ 1 ≤ c.2.length ∧ c.2.length ≤ w.length := by
  obtain ⟨p, hp, rfl⟩ := h
  obtain ⟨h1, h2⟩ := its_le (f, w.take p) f.length
  have p1 := hp.1
  have pn := hp.2.1
  have tl : (w.take p).length = p := by rw [List.length_take]; omega
  refine ⟨h1, ?_, ?_⟩
  · rw [h2]
    show 1 ≤ (w.take p).length
    omega
  · rw [h2]
    show (w.take p).length ≤ _
    omega
theorem Lw.self {f w : List Bool} {c : List Bool × List Bool} (h : Lw f w c) : Lw c.1 c.2 c := by
  refine ⟨c.2.length, h.prim.least, ?_⟩
  rw [List.take_length]
  exact (its_fix (i := 0) (c := (c.1, c.2)) h.fix c.1.length (Nat.zero_le _)).symm
/-! where a ring is found within two of them -/
theorem per_at {w : List Bool} {i : Nat} (hi : i ≤ w.length) : ((w ++ w).drop i).take w.length = w ↔ Per w i := by
  have key : ∀ j, j < w.length → (((w ++ w).drop i).take w.length)[j]? = w[(j + i) % w.length]? := fun j hj => by
    rw [List.getElem?_take_of_lt hj, List.getElem?_drop]
    by_cases h : i + j < w.length
    · rw [List.getElem?_append_left h, Nat.add_comm j i, Nat.mod_eq_of_lt h]
    · rw [List.getElem?_append_right (by omega), Nat.add_comm j i, Nat.mod_eq_sub_mod (by omega), Nat.mod_eq_of_lt (by omega)]
  constructor
  · intro e j hj
    rw [← key j hj, e]
  · intro h
    refine List.ext_getElem? fun j => ?_
    by_cases hj : j < w.length
    · rw [key j hj, h j hj]
    · rw [List.getElem?_eq_none (by rw [List.length_take]; omega), List.getElem?_eq_none (by omega)]
theorem at_per {w : List Bool} {i : Nat} : StrLaws.At (rd (w ++ w)) (rd w) (rd (w ++ w)).length i ↔ i ≤ w.length ∧ Per w i := by
  unfold StrLaws.At
  rw [rd_len, rd_len, List.length_append, StrLaws.subAt_eq, rd_cps, rd_cps, rd_len, ← List.map_drop, ← List.map_take]
  constructor
  · rintro ⟨h1, h2⟩
    refine ⟨by omega, (per_at (by omega)).mp ?_⟩
    exact List.map_inj_right (fun a b => sg_inj) |>.mp (eq_of_beq h2)
  · rintro ⟨h1, h2⟩
    refine ⟨by omega, ?_⟩
    rw [(per_at h1).mpr h2]
    exact beq_self_eq_true _
theorem find_ring {w : List Bool} (hw : w ≠ []) : ∃ p : Nat, Txt.find3 (rd (w ++ w)) (rd w) 1 = (p : Int) ∧ Least w p := by
  have n0 := List.length_pos_iff.mpr hw
  unfold Txt.find3
  have e : fromIndex (rd (w ++ w)).length 1 = 1 := rfl
  rw [e]
  rcases StrLaws.occ_head_from (rd (w ++ w)) (rd w) 1 1 (Nat.le_refl 1) with ⟨h0, hn⟩ | ⟨k, r, h0, hlo, hk, hn⟩
  · exact absurd (at_per.mpr ⟨Nat.le_refl _, per_len w⟩) (hn w.length n0)
  · rw [h0]
    obtain ⟨k1, k2⟩ := at_per.mp hk
    exact ⟨k, rfl, hlo, k1, k2, fun j j1 j2 h => hn j j1 j2 (at_per.mpr ⟨by omega, h⟩)⟩
/-! the last turn -/
def last1 (w : List Bool) : List Bool := match w.getLast? with
  | none => []
  | some t => [t]
theorem cut_last (w : List Bool) : cutS (rd w) (some (-1)) none = rd (last1 w) := by
  have e : HT.sIx w.length 0 (some (-1)) = w.length - 1 := by
    show (if (-1 : Int) < 0 then ((-1 : Int) + (w.length : Int)).toNat else min (-1 : Int).toNat w.length) = w.length - 1
    rw [if_pos (by decide)]
    omega
  rw [cut_rd, HT.sIx_none, e, List.take_of_length_le (by rw [List.length_drop]; omega)]
  congr 1
  unfold last1
  cases h : w.getLast? with
  | none =>
    rw [List.getLast?_eq_none_iff.mp h]
    rfl
  | some t =>
    obtain ⟨d, rfl⟩ := last_ex h
    simp
theorem last_eq {f l : List Bool} (hl : l ≠ []) : last1 f = last1 l ↔ f.getLast? = l.getLast? := by
  unfold last1
  cases h1 : l.getLast? with
  | none => exact absurd (List.getLast?_eq_none_iff.mp h1) hl
  | some t =>
    cases h2 : f.getLast? with
    | none => simp
    | some u => simp
theorem rr_last {l : List Bool} (hl : l ≠ []) : rr l = last1 l ++ l.dropLast := by
  unfold rr last1
  cases h1 : l.getLast? with
  | none => exact absurd (List.getLast?_eq_none_iff.mp h1) hl
  | some t => rfl
end Lr
namespace Lr
open PySem PySem.Spec PyProof.Rows L2
theorem at_last {w : List Bool} {t : Bool} (h : w.getLast? = some t) : atI (rd w).cps.toList (-1) = some (sg t) := by
  obtain ⟨d, rfl⟩ := last_ex h
  rw [rd_cps]
  unfold atI ixN
  rw [if_neg (by decide)]
  have len : ((d ++ [t]).map sg).length = d.length + 1 := by simp
  rw [len, if_pos (by omega)]
  show ((d ++ [t]).map sg)[((-1 : Int) + ((d.length + 1 : Nat) : Int)).toNat]? = _
  rw [show ((-1 : Int) + ((d.length + 1 : Nat) : Int)).toNat = d.length by omega]
  simp
theorem last_len {w : List Bool} {t : Bool} (h : w.getLast? = some t) : 1 ≤ w.length := by
  obtain ⟨d, rfl⟩ := last_ex h
  simp
theorem ifRd {u v : List Bool} {A B : Prop} (h1 : u = v → A) (h2 : u ≠ v → B) : if decide (V.str (rd u) = V.str (rd v)) = true then A else B := by
  by_cases h : u = v
  · rw [decide_eq_true (by rw [h])]
    exact iteT (h1 h)
  · rw [decide_eq_false (fun z => h (rd_inj (V.str.inj z)))]
    exact iteF (h2 h)
theorem ifRdN {u v : List Bool} {A B : Prop} (h1 : u ≠ v → A) (h2 : u = v → B) : if (!decide (V.str (rd u) = V.str (rd v))) = true then A else B := by
  by_cases h : u = v
  · rw [decide_eq_true (by rw [h])]
    exact iteF (h2 h)
  · rw [decide_eq_false (fun z => h (rd_inj (V.str.inj z)))]
    exact iteT (h1 h)
theorem ifNil {u : List Bool} {A B : Prop} (h1 : u = [] → A) (h2 : u ≠ [] → B) : if decide (V.str (rd u) = V.str ("" : Str)) = true then A else B := by
  rw [← rd_nil]
  exact ifRd h1 h2
theorem ifNilN {u : List Bool} {A B : Prop} (h1 : u ≠ [] → A) (h2 : u = [] → B) : if (!decide (V.str (rd u) = V.str ("" : Str))) = true then A else B := by
  rw [← rd_nil]
  exact ifRdN h1 h2
theorem least_ex {w : List Bool} (h : w ≠ []) : ∃ p, Least w p := by
  obtain ⟨p, _, l⟩ := find_ring h
  exact ⟨p, l⟩
/-- the text of a pair of roads -/
def pairD (f l : List Bool) : PyData := .tuple [.str (rd f), .str (rd l)]
theorem dp_pair {K : PySem.W.Frag} {H : Hp} {a : Addr} {f l : List Bool} (h : SqT K H a [.str (rd f), .str (rd l)]) : Dp K H (.ref a) (pairD f l) := .tup h (.cons (.str _) (.cons (.str _) .nil))
end Lr
namespace Lr
open PySem PySem.Spec PyProof.Rows L2
/-- an if statement as a whole, whose ways meet -/
theorem meetS {t : TT} {ta tb : TS} {D : Ends} {σ : L2.St} {H : Hp} (P : L2.St → Hp → Prop) (h : ∀ N : L2.St → Hp → Prop, (∀ σ' H', P σ' H' → N σ' H') → tIfS t ta tb { D with nx := N } σ H) (q : ∀ σ' H', P σ' H' → D.nx σ' H') : tIfS t ta tb D σ H := h D.nx q
theorem LR_at {r : Int} (h0 : 0 ≤ r) (h1 : r < 2) : ∃ t : Bool, atI ("LR" : Str).cps.toList r = some (sg t) := by
  have c : r = 0 ∨ r = 1 := by omega
  rcases c with rfl | rfl
  · exact ⟨false, by decide +kernel⟩
  · exact ⟨true, by decide +kernel⟩
end Lr
namespace Lr
open PySem PySem.Spec PyProof.Rows L2
theorem shw_rd {w : List Bool} (h : w.length ≤ 8000) : Shw (.str (rd w)) := by
  refine ⟨rfl, rfl, by show (0 : Nat) ≤ 60; omega, ?_, ?_⟩
  · show ((rd w).cps.toList.all fun c => decide (c < 16 ^ 8)) = true
    rw [rd_cps, List.all_map, List.all_eq_true]
    intro t _
    cases t <;> decide
  · show (rd w).cps.size ≤ 8000
    exact Nat.le_trans (Nat.le_of_eq (rd_len w)) h
theorem shw_pair {f l : List Bool} (h1 : f.length ≤ 3000) (h2 : l.length ≤ 3000) : Shw (pairD f l) := by
  have a := shw_rd (w := f) (by omega)
  have b := shw_rd (w := l) (by omega)
  refine ⟨rfl, rfl, ?_, ?_, ?_⟩
  · show max 0 (max 0 0) + 1 ≤ 60
    decide
  · show (PyData.leavesShort 2000 (.str (rd f)) && (PyData.leavesShort 2000 (.str (rd l)) && true)) = true
    rw [a.lv, b.lv]
    rfl
  · show (rd f).cps.size + 1 + ((rd l).cps.size + 1 + 0) ≤ 8000
    have e1 : (rd f).cps.size = f.length := rd_len f
    have e2 : (rd l).cps.size = l.length := rd_len l
    omega
/-- first turns -/
theorem take_sq {f l g m : List Bool} (hl : l ≠ []) (hm : m ≠ []) (e : sq f l = sq g m) (k : Nat) : (f ++ repR l k).take k = (g ++ repR m k).take k := by
  have len : ∀ (f l : List Bool), l ≠ [] → k ≤ (f ++ repR l k).length := fun f l hl => by
    have p := List.length_pos_iff.mpr hl
    rw [List.length_append, repR_len]
    have : k * 1 ≤ k * l.length := Nat.mul_le_mul_left k p
    omega
  refine List.ext_getElem? fun i => ?_
  by_cases hi : i < k
  · rw [List.getElem?_take_of_lt hi, List.getElem?_take_of_lt hi, sq_take f l hl (by omega), sq_take g m hm (by omega), e]
  · rw [List.getElem?_eq_none (by rw [List.length_take]; omega), List.getElem?_eq_none (by rw [List.length_take]; omega)]
end Lr

set_option exponentiation.threshold 5000
namespace Lr
open PySem PySem.Spec PyProof.Rows L2
/-- so many first turns -/
def ft (f l : List Bool) (n : Nat) : List Bool := (f ++ repR l n).take n
theorem sq_any {f l : List Bool} {r i : Nat} (h : i < f.length + r * l.length) : (f ++ repR l r)[i]? = sq f l i := by
  unfold sq
  split
  · rename_i hi
    rw [List.getElem?_append_left hi]
  · rename_i hi
    rw [List.getElem?_append_right (by omega), repR_at (by omega)]
theorem ft_any {f l : List Bool} {r n : Nat} (hl : l ≠ []) (h : n ≤ f.length + r * l.length) : (f ++ repR l r).take n = ft f l n := by
  have p := List.length_pos_iff.mpr hl
  have q : n * 1 ≤ n * l.length := Nat.mul_le_mul_left n p
  unfold ft
  refine List.ext_getElem? fun i => ?_
  by_cases hi : i < n
  · rw [List.getElem?_take_of_lt hi, List.getElem?_take_of_lt hi, sq_any (by omega), sq_any (by omega)]
  · rw [List.getElem?_eq_none (by rw [List.length_take]; omega), List.getElem?_eq_none (by rw [List.length_take]; omega)]
theorem ft_len {f l : List Bool} (hl : l ≠ []) (n : Nat) : (ft f l n).length = n := by
  have p := List.length_pos_iff.mpr hl
  have q : n * 1 ≤ n * l.length := Nat.mul_le_mul_left n p
  unfold ft
  rw [List.length_take, List.length_append, repR_len]
  omega
theorem ft_at {f l : List Bool} (hl : l ≠ []) {n i : Nat} (hi : i < n) : (ft f l n)[i]? = sq f l i := by
  have p := List.length_pos_iff.mpr hl
  have q : n * 1 ≤ n * l.length := Nat.mul_le_mul_left n p
  unfold ft
  rw [List.getElem?_take_of_lt hi, sq_any (by omega)]
theorem ft_take {f l : List Bool} (hl : l ≠ []) {n k : Nat} (h : n ≤ k) : (ft f l k).take n = ft f l n := by
  refine List.ext_getElem? fun i => ?_
  by_cases hi : i < n
  · rw [List.getElem?_take_of_lt hi, ft_at hl (by omega), ft_at hl hi]
  · rw [List.getElem?_eq_none (by rw [List.length_take]; omega), List.getElem?_eq_none (by rw [ft_len hl]; omega)]
theorem ft_eq {f l g m : List Bool} (hl : l ≠ []) (hm : m ≠ []) {n : Nat} : ft f l n = ft g m n ↔ ∀ i, i < n → sq f l i = sq g m i := by
  constructor
  · intro e i hi
    rw [← ft_at hl hi, e, ft_at hm hi]
  · intro h
    refine List.ext_getElem? fun i => ?_
    by_cases hi : i < n
    · rw [ft_at hl hi, ft_at hm hi, h i hi]
    · rw [List.getElem?_eq_none (by rw [ft_len hl]; omega), List.getElem?_eq_none (by rw [ft_len hm]; omega)]
theorem sq_per {f l : List Bool} (hl : l ≠ []) {i : Nat} (h : f.length ≤ i) : sq f l (i + l.length) = sq f l i := by
  unfold sq
  rw [if_neg (by omega), if_neg (by omega), show i + l.length - f.length = i - f.length + l.length by omega, Nat.add_mod_right]
/-- two rings that agree for as many turns as both have agree for ever -/
theorem agree_all {f l g m : List Bool} (hl : l ≠ []) (hm : m ≠ []) {M : Nat} (h1 : f.length ≤ M) (h2 : g.length ≤ M) (h : ∀ i, i < M + l.length + m.length → sq f l i = sq g m i) : ∀ i, sq f l i = sq g m i := by
  have p := List.length_pos_iff.mpr hl
  have q := List.length_pos_iff.mpr hm
  intro i
  induction i using Nat.strongRecOn with
  | ind i ih =>
    by_cases z : i < M + l.length + m.length
    · exact h i z
    · have e1 : sq f l i = sq f l (i - l.length) := by
        have := sq_per (f := f) hl (i := i - l.length) (by omega)
        rw [show i - l.length + l.length = i by omega] at this
        exact this
      have e2 : sq g m (i - l.length) = sq g m (i - l.length - m.length) := by
        have := sq_per (f := g) hm (i := i - l.length - m.length) (by omega)
        rw [show i - l.length - m.length + m.length = i - l.length by omega] at this
        exact this
      have e3 : sq f l (i - m.length) = sq f l (i - l.length - m.length) := by
        have := sq_per (f := f) hl (i := i - l.length - m.length) (by omega)
        rw [show i - l.length - m.length + l.length = i - m.length by omega] at this
        exact this
      have e4 : sq g m i = sq g m (i - m.length) := by
        have := sq_per (f := g) hm (i := i - m.length) (by omega)
        rw [show i - m.length + m.length = i by omega] at this
        exact this
      rw [e1, ih (i - l.length) (by omega), e2, ← ih (i - l.length - m.length) (by omega), ← e3, ih (i - m.length) (by omega), ← e4]
/-- the order of texts -/
def ltW (u v : List Bool) : Prop := u.map sg < v.map sg
instance (u v : List Bool) : Decidable (ltW u v) := inferInstanceAs (Decidable (u.map sg < v.map sg))
theorem lt_app {a b x y : List Nat} (h : a.length = b.length) (ne : a ≠ b) : a ++ x < b ++ y ↔ a < b := by
  induction a generalizing b with
  | nil =>
    cases b with
    | nil => exact absurd rfl ne
    | cons _ _ => cases h
  | cons c a ih =>
    cases b with
    | nil => cases h
    | cons d b =>
      have hl : a.length = b.length := Nat.succ.inj h
      rw [List.cons_append, List.cons_append, List.cons_lt_cons_iff, List.cons_lt_cons_iff]
      by_cases e : c = d
      · subst e
        have ne' : a ≠ b := fun z => ne (by rw [z])
        rw [ih hl ne']
      · constructor
        · rintro (z | z)
          · exact .inl z
          · exact absurd z.1 e
        · rintro (z | z)
          · exact .inl z
          · exact absurd z.1 e
theorem lt_irr (a : List Nat) : ¬ a < a := List.lt_irrefl a
theorem lt_asy {a b : List Nat} (h : a < b) : ¬ b < a := List.lt_asymm h
/-- the order of endless roads, by any number of turns that is enough -/
theorem ord_same {f l g m : List Bool} (hl : l ≠ []) (hm : m ≠ []) {M n k : Nat} (h1 : f.length ≤ M) (h2 : g.length ≤ M) (hn : M + l.length + m.length ≤ n) (hk : n ≤ k) : ltW (ft f l n) (ft g m n) ↔ ltW (ft f l k) (ft g m k) := by
  by_cases e : ft f l n = ft g m n
  · have all := agree_all hl hm h1 h2 fun i hi => (ft_eq hl hm).mp e i (by omega)
    have e2 : ft f l k = ft g m k := (ft_eq hl hm).mpr fun i _ => all i
    rw [e, e2]
    exact ⟨fun z => absurd z (lt_irr _), fun z => absurd z (lt_irr _)⟩
  · unfold ltW
    have d1 : ft f l k = ft f l n ++ (ft f l k).drop n := by rw [← ft_take hl hk, List.take_append_drop]
    have d2 : ft g m k = ft g m n ++ (ft g m k).drop n := by rw [← ft_take hm hk, List.take_append_drop]
    rw [d1, d2, List.map_append, List.map_append]
    refine (lt_app ?_ ?_).symm
    · rw [List.length_map, List.length_map, ft_len hl, ft_len hm]
    · intro z
      exact e (List.map_inj_right (fun a b => sg_inj) |>.mp z)
/-- -1, 0 or 1 -/
def ordW (u v : List Bool) : Int := if ltW u v then -1 else if ltW v u then 1 else 0
theorem ordW_int (u v : List Bool) : (if decide (ltW v u) = true then (1 : Int) else 0) - (if decide (ltW u v) = true then 1 else 0) = ordW u v := by
  unfold ordW
  by_cases h1 : ltW u v
  · have h2 : ¬ ltW v u := lt_asy h1
    rw [if_pos h1, decide_eq_true h1, decide_eq_false h2]
    rfl
  · rw [if_neg h1, decide_eq_false h1]
    by_cases h2 : ltW v u
    · rw [if_pos h2, decide_eq_true h2]
      rfl
    · rw [if_neg h2, decide_eq_false h2]
      rfl
theorem ordW_neg (u v : List Bool) : ordW v u = - ordW u v := by
  unfold ordW
  by_cases h1 : ltW u v
  · have h2 : ¬ ltW v u := lt_asy h1
    rw [if_pos h1, if_neg h2, if_pos h1]
    rfl
  · by_cases h2 : ltW v u
    · rw [if_pos h2, if_neg h1, if_pos h2]
    · rw [if_neg h2, if_neg h1, if_neg h1, if_neg h2]
      rfl
theorem ordW_sml (u v : List Bool) : Sml (ordW u v) := by
  unfold ordW
  split
  · show (1 : Nat) < 2 ^ 1900
    exact Nat.one_lt_two_pow (by decide)
  · split
    · show (1 : Nat) < 2 ^ 1900
      exact Nat.one_lt_two_pow (by decide)
    · exact Nat.pow_pos (by decide)
/-- both turns -/
def Both (w : List Bool) : Prop := false ∈ w ∧ true ∈ w
theorem in_rd {t : Bool} {w : List Bool} : sg t ∈ (rd w).cps.toList ↔ t ∈ w := by
  rw [rd_cps]
  constructor
  · intro h
    obtain ⟨u, hu, e⟩ := List.mem_map.mp h
    rw [sg_inj e] at hu
    exact hu
  · exact fun h => List.mem_map.mpr ⟨t, h, rfl⟩
theorem Both.ne {w : List Bool} (h : Both w) : w ≠ [] := fun z => by
  rw [z] at h
  exact absurd h.1 List.not_mem_nil
theorem str_L : ("L" : Str) = ⟨#[sg false]⟩ := by decide +kernel
theorem str_R : ("R" : Str) = ⟨#[sg true]⟩ := by decide +kernel
end Lr

set_option exponentiation.threshold 5000
namespace Lr
open PySem PySem.Spec PyProof.Rows L2
/-! squares of courses -/
def M4.adj (m : M4) : M4 := ⟨m.d, -m.b, -m.c, m.a⟩
/-- around the ring, moved to the beginning -/
def arnd (f w : List Bool) : M4 := ((mat f).mul (mat w)).mul (mat f).adj
/-- the three integers of a square, whatever divides them -/
structure T3 where
  (x y z : Int)
@[ext] theorem T3.ext' {s t : T3} (h1 : s.x = t.x) (h2 : s.y = t.y) (h3 : s.z = t.z) : s = t := by
  cases s; cases t; simp_all
def T3.l (t : T3) : List Int := [t.x, t.y, t.z]
def T3.sc (k : Int) (t : T3) : T3 := ⟨k * t.x, k * t.y, k * t.z⟩
def M4.tr3 (m : M4) : T3 := ⟨m.c, m.d - m.a, -m.b⟩
theorem adj_mul (m : M4) (h : m.det = 1) : m.adj.mul m = M4.one := by
  unfold M4.det at h
  unfold M4.adj M4.mul M4.one
  refine M4.ext ?_ ?_ ?_ ?_ <;> simp only [Int.neg_mul]
  · rw [Int.mul_comm m.d m.a]
    omega
  · rw [Int.mul_comm m.d m.b]
    omega
  · rw [Int.mul_comm m.c m.a]
    omega
  · rw [Int.mul_comm m.c m.b]
    omega
theorem mul_adj (m : M4) (h : m.det = 1) : m.mul m.adj = M4.one := by
  unfold M4.det at h
  unfold M4.adj M4.mul M4.one
  refine M4.ext ?_ ?_ ?_ ?_ <;> simp only [Int.mul_neg]
  · omega
  · rw [Int.mul_comm m.b m.a]
    omega
  · rw [Int.mul_comm m.d m.c]
    omega
  · rw [Int.mul_comm m.d m.a, Int.mul_comm m.c m.b]
    omega
theorem adj_prod (m n : M4) : (m.mul n).adj = n.adj.mul m.adj := by
  unfold M4.adj M4.mul
  refine M4.ext ?_ ?_ ?_ ?_ <;> simp only [Int.mul_neg, Int.neg_mul, Int.neg_neg]
  · rw [Int.mul_comm m.c n.b, Int.mul_comm m.d n.d]
    omega
  · rw [Int.mul_comm m.a n.b, Int.mul_comm m.b n.d]
    omega
  · rw [Int.mul_comm m.c n.a, Int.mul_comm m.d n.c]
    omega
  · rw [Int.mul_comm m.a n.a, Int.mul_comm m.b n.c]
    omega
def M4.tra (m : M4) : Int := m.a + m.d
theorem tra_comm (m n : M4) : (m.mul n).tra = (n.mul m).tra := by
  unfold M4.tra M4.mul
  show m.a * n.a + m.b * n.c + (m.c * n.b + m.d * n.d) = n.a * m.a + n.b * m.c + (n.c * m.b + n.d * m.d)
  rw [Int.mul_comm m.a, Int.mul_comm m.b, Int.mul_comm m.c, Int.mul_comm m.d]
  omega
theorem arnd_tra (f w : List Bool) : (arnd f w).tra = (mat w).tra := by
  unfold arnd
  rw [tra_comm, ← M4.mul_assoc, adj_mul _ (mat_det f), M4.one_mul]
theorem adj_det (m : M4) : m.adj.det = m.det := by
  unfold M4.adj M4.det
  simp only [Int.neg_mul_neg]
  rw [Int.mul_comm m.d, Int.mul_comm m.b]
theorem arnd_det (f w : List Bool) : (arnd f w).det = 1 := by
  unfold arnd
  rw [M4.det_mul, M4.det_mul, adj_det, mat_det, mat_det]
  rfl
/-- a turn of the ring that goes ahead -/
theorem arnd_on (f v : List Bool) (t : Bool) : arnd (f ++ [t]) (v ++ [t]) = arnd f (t :: v) := by
  unfold arnd
  rw [mat_app f [t], mat_app v [t], show t :: v = [t] ++ v from rfl, mat_app [t] v, adj_prod]
  generalize mat f = A
  generalize mat v = V
  have h := mat_det [t]
  generalize mat [t] = X at *
  calc ((A.mul X).mul (V.mul X)).mul (X.adj.mul A.adj) = ((A.mul (X.mul V)).mul (X.mul X.adj)).mul A.adj := by simp only [M4.mul_assoc]
    _ = (A.mul (X.mul V)).mul A.adj := by rw [mul_adj X h, M4.mul_one]
theorem arnd_twice (f w : List Bool) : arnd f (w ++ w) = (arnd f w).mul (arnd f w) := by
  unfold arnd
  rw [mat_app w w]
  have h := mat_det f
  generalize mat f = A at *
  generalize mat w = R
  calc (A.mul (R.mul R)).mul A.adj = ((A.mul R).mul (M4.one.mul R)).mul A.adj := by rw [M4.one_mul, M4.mul_assoc A R R]
    _ = ((A.mul R).mul ((A.adj.mul A).mul R)).mul A.adj := by rw [adj_mul A h]
    _ = ((A.mul R).mul A.adj).mul ((A.mul R).mul A.adj) := by simp only [M4.mul_assoc]
theorem arnd_ahead (u f w : List Bool) : arnd (u ++ f) w = ((mat u).mul (arnd f w)).mul (mat u).adj := by
  unfold arnd
  rw [mat_app, adj_prod]
  simp only [M4.mul_assoc]
theorem sq_tr3 (m : M4) : (m.mul m).tr3 = m.tr3.sc m.tra := by
  unfold M4.tr3 M4.mul T3.sc M4.tra
  refine T3.ext' ?_ ?_ ?_
  · show m.c * m.a + m.d * m.c = (m.a + m.d) * m.c
    rw [Int.add_mul, Int.mul_comm m.c m.a]
  · show m.c * m.b + m.d * m.d - (m.a * m.a + m.b * m.c) = (m.a + m.d) * (m.d - m.a)
    rw [Int.add_mul, Int.mul_sub, Int.mul_sub, Int.mul_comm m.c m.b, Int.mul_comm m.d m.a]
    omega
  · show -(m.a * m.b + m.b * m.d) = (m.a + m.d) * -m.b
    rw [Int.mul_neg, Int.add_mul, Int.mul_comm m.b m.d]
/-- more, less -/
theorem tr3_R (m : M4) : (((mat [true]).mul m).mul (mat [true]).adj).tr3 = ⟨m.tr3.x, m.tr3.y - 2 * m.tr3.x, m.tr3.x - m.tr3.y + m.tr3.z⟩ := by
  have e : mat [true] = ⟨1, 1, 0, 1⟩ := rfl
  rw [e]
  unfold M4.tr3 M4.mul M4.adj
  refine T3.ext' ?_ ?_ ?_ <;> simp <;> omega
theorem tr3_L (m : M4) : (((mat [false]).mul m).mul (mat [false]).adj).tr3 = ⟨m.tr3.x - m.tr3.y + m.tr3.z, m.tr3.y - 2 * m.tr3.z, m.tr3.z⟩ := by
  have e : mat [false] = ⟨1, 0, 1, 1⟩ := rfl
  rw [e]
  unfold M4.tr3 M4.mul M4.adj
  refine T3.ext' ?_ ?_ ?_ <;> simp <;> omega
/-- entries of a road with both turns -/
theorem mat_ge (w : List Bool) : 1 ≤ (mat w).a ∧ 1 ≤ (mat w).d ∧ (true ∈ w → 1 ≤ (mat w).b) ∧ (false ∈ w → 1 ≤ (mat w).c) := by
  induction w using snoc_ind with
  | h0 => exact ⟨by decide, by decide, fun h => absurd h List.not_mem_nil, fun h => absurd h List.not_mem_nil⟩
  | h1 l x ih =>
    obtain ⟨h1, h2, h3, h4⟩ := ih
    have nn := mat_nn l
    obtain ⟨n1, n2, n3, n4⟩ := nn
    rw [mat_snoc]
    cases x
    · refine ⟨by show 1 ≤ (mat l).a + (mat l).b; omega, h2, fun h => ?_, fun _ => by show 1 ≤ (mat l).c + (mat l).d; omega⟩
      simp at h
      exact h3 h
    · refine ⟨h1, by show 1 ≤ (mat l).c + (mat l).d; omega, fun _ => by show 1 ≤ (mat l).a + (mat l).b; omega, fun h => ?_⟩
      simp at h
      exact h4 h
theorem tra_both {w : List Bool} (h : Both w) : 3 ≤ (mat w).tra := by
  obtain ⟨h1, h2, h3, h4⟩ := mat_ge w
  have b := h3 h.2
  have c := h4 h.1
  have d := mat_det w
  unfold M4.det at d
  have p := Int.mul_pos (show 0 < (mat w).b by omega) (show 0 < (mat w).c by omega)
  unfold M4.tra
  by_cases z : (mat w).a + (mat w).d ≤ 2
  · have e1 : (mat w).a = 1 := by omega
    have e2 : (mat w).d = 1 := by omega
    rw [e1, e2] at d
    omega
  · omega
theorem arnd_ne {f w : List Bool} (h : Both w) : (arnd f w).tr3.x ≠ 0 := by
  intro z
  have z : (arnd f w).c = 0 := z
  have d := arnd_det f w
  have t := tra_both h
  rw [← arnd_tra f w] at t
  unfold M4.det at d
  unfold M4.tra at t
  rw [z, Int.mul_zero, Int.sub_zero] at d
  generalize (arnd f w).a = a at *
  generalize (arnd f w).d = e at *
  have u : a.natAbs * e.natAbs = 1 := by rw [← Int.natAbs_mul, d]; rfl
  have u1 := Nat.eq_one_of_mul_eq_one_right u
  have u2 := Nat.eq_one_of_mul_eq_one_left u
  omega
/-- the square without a common divisor, the first integer above 0 -/
def Nsq (t d : T3) : Prop := ∃ k : Int, k ≠ 0 ∧ t = d.sc k ∧ gl d.l = 1 ∧ 0 < d.x
theorem gl_sc (k : Int) (d : T3) : gl (d.sc k).l = k.natAbs * gl d.l := by
  show Nat.gcd (Nat.gcd (Nat.gcd 0 (k * d.x).natAbs) (k * d.y).natAbs) (k * d.z).natAbs = k.natAbs * Nat.gcd (Nat.gcd (Nat.gcd 0 d.x.natAbs) d.y.natAbs) d.z.natAbs
  simp only [Nat.gcd_zero_left, Int.natAbs_mul, Nat.gcd_mul_left]
theorem Nsq.eq {t d e : T3} (h : Nsq t d) (k : Nsq t e) : d = e := by
  obtain ⟨i, i0, hi, gi, pi⟩ := h
  obtain ⟨j, j0, hj, gj, pj⟩ := k
  have g := congrArg (fun z => gl (T3.l z)) (hi.symm.trans hj)
  simp only [gl_sc, gi, gj, Nat.mul_one] at g
  have ex : i * d.x = j * e.x := congrArg T3.x (hi.symm.trans hj)
  have ey : i * d.y = j * e.y := congrArg T3.y (hi.symm.trans hj)
  have ez : i * d.z = j * e.z := congrArg T3.z (hi.symm.trans hj)
  have ij : i = j := by
    rcases Int.natAbs_eq_natAbs_iff.mp g with z | z
    · exact z
    · exfalso
      rw [z, Int.neg_mul] at ex
      rcases Int.lt_trichotomy j 0 with s | s | s
      · have := Int.mul_neg_of_neg_of_pos s pi
        have := Int.mul_neg_of_neg_of_pos s pj
        omega
      · exact j0 s
      · have := Int.mul_pos s pi
        have := Int.mul_pos s pj
        omega
  subst ij
  exact T3.ext' (Int.eq_of_mul_eq_mul_left i0 ex) (Int.eq_of_mul_eq_mul_left i0 ey) (Int.eq_of_mul_eq_mul_left i0 ez)
theorem sc_sc (i j : Int) (d : T3) : (d.sc j).sc i = d.sc (i * j) := by
  unfold T3.sc
  simp only [Int.mul_assoc]
theorem Nsq.scale {t d : T3} {k : Int} (h : Nsq t d) (hk : k ≠ 0) : Nsq (t.sc k) d := by
  obtain ⟨i, i0, hi, gi, pi⟩ := h
  exact ⟨k * i, Int.mul_ne_zero hk i0, by rw [hi, sc_sc], gi, pi⟩
/-- unimodular changes of a square -/
def T3.up (t : T3) : T3 := ⟨t.x, t.y - 2 * t.x, t.x - t.y + t.z⟩
def T3.dn (t : T3) : T3 := ⟨t.x - t.y + t.z, t.y - 2 * t.z, t.z⟩
theorem up_dvd (t : T3) : gl t.up.l = gl t.l := by
  refine Nat.dvd_antisymm (gl_of_dvd _ _ fun x hx => ?_) (gl_of_dvd _ _ fun x hx => ?_)
  · have g := gl_dvd t.up.l
    have g1 : ((gl t.up.l : Nat) : Int) ∣ t.x := g t.x (by simp [T3.l, T3.up])
    have g2 : ((gl t.up.l : Nat) : Int) ∣ t.y - 2 * t.x := g _ (by simp [T3.l, T3.up])
    have g3 : ((gl t.up.l : Nat) : Int) ∣ t.x - t.y + t.z := g _ (by simp [T3.l, T3.up])
    have g4 : ((gl t.up.l : Nat) : Int) ∣ t.y := by
      have := Int.dvd_add g2 (Int.dvd_mul_of_dvd_right (b := 2) g1)
      rw [show t.y - 2 * t.x + 2 * t.x = t.y by omega] at this
      exact this
    have g5 : ((gl t.up.l : Nat) : Int) ∣ t.z := by
      have := Int.dvd_add (Int.dvd_sub g3 g1) g4
      rw [show t.x - t.y + t.z - t.x + t.y = t.z by omega] at this
      exact this
    simp only [T3.l, List.mem_cons, List.not_mem_nil, or_false] at hx
    rcases hx with rfl | rfl | rfl
    · exact g1
    · exact g4
    · exact g5
  · have g := gl_dvd t.l
    have g1 : ((gl t.l : Nat) : Int) ∣ t.x := g t.x (by simp [T3.l])
    have g2 : ((gl t.l : Nat) : Int) ∣ t.y := g t.y (by simp [T3.l])
    have g3 : ((gl t.l : Nat) : Int) ∣ t.z := g t.z (by simp [T3.l])
    simp only [T3.l, T3.up, List.mem_cons, List.not_mem_nil, or_false] at hx
    rcases hx with rfl | rfl | rfl
    · exact g1
    · exact Int.dvd_sub g2 (Int.dvd_mul_of_dvd_right g1)
    · exact Int.dvd_add (Int.dvd_sub g1 g2) g3
theorem rev_gl (t : T3) : gl (T3.mk t.z t.y t.x).l = gl t.l := by
  refine Nat.dvd_antisymm (gl_of_dvd _ _ fun x hx => gl_dvd _ x ?_) (gl_of_dvd _ _ fun x hx => gl_dvd _ x ?_)
  · simp only [T3.l, List.mem_cons, List.not_mem_nil, or_false] at hx ⊢
    rcases hx with rfl | rfl | rfl
    · exact .inr (.inr rfl)
    · exact .inr (.inl rfl)
    · exact .inl rfl
  · simp only [T3.l, List.mem_cons, List.not_mem_nil, or_false] at hx ⊢
    rcases hx with rfl | rfl | rfl
    · exact .inr (.inr rfl)
    · exact .inr (.inl rfl)
    · exact .inl rfl
theorem dn_dvd (t : T3) : gl t.dn.l = gl t.l := by
  have e : t.dn = T3.mk (T3.mk t.z t.y t.x).up.z (T3.mk t.z t.y t.x).up.y (T3.mk t.z t.y t.x).up.x := by
    unfold T3.dn T3.up
    refine T3.ext' ?_ rfl rfl
    show t.x - t.y + t.z = t.z - t.y + t.x
    omega
  rw [e, rev_gl, up_dvd, rev_gl]
/-- it is made by dividing -/
theorem nsq_div {t : T3} {s : Int} (hx : t.x ≠ 0) (hs : s = 1 ∧ 0 < t.x ∨ s = -1 ∧ t.x < 0) : Nsq t ⟨s * (t.x / (gl t.l : Int)), s * (t.y / (gl t.l : Int)), s * (t.z / (gl t.l : Int))⟩ := by
  have gp : 0 < gl t.l := gl_pos (x := t.x) (by simp [T3.l]) hx
  have d1 := Int.mul_ediv_cancel' (gl_dvd t.l t.x (by simp [T3.l]))
  have d2 := Int.mul_ediv_cancel' (gl_dvd t.l t.y (by simp [T3.l]))
  have d3 := Int.mul_ediv_cancel' (gl_dvd t.l t.z (by simp [T3.l]))
  have gg := lowl_gl gp
  have el : lowl t.l = (T3.mk (t.x / (gl t.l : Int)) (t.y / (gl t.l : Int)) (t.z / (gl t.l : Int))).l := rfl
  rw [el] at gg
  generalize t.x / (gl t.l : Int) = X at *
  generalize t.y / (gl t.l : Int) = Y at *
  generalize t.z / (gl t.l : Int) = Z at *
  have es : (T3.mk (s * X) (s * Y) (s * Z)) = (T3.mk X Y Z).sc s := rfl
  have sn : s.natAbs = 1 := by rcases hs with ⟨h, _⟩ | ⟨h, _⟩ <;> rw [h] <;> rfl
  have ss : s * s = 1 := by rcases hs with ⟨h, _⟩ | ⟨h, _⟩ <;> rw [h] <;> rfl
  refine ⟨s * (gl t.l : Int), ?_, ?_, ?_, ?_⟩
  · refine Int.mul_ne_zero ?_ (by omega)
    rcases hs with ⟨h, _⟩ | ⟨h, _⟩ <;> rw [h] <;> decide
  · rw [es, sc_sc]
    have e1 : s * (gl t.l : Int) * s = (gl t.l : Int) := by rw [Int.mul_comm s, Int.mul_assoc, ss, Int.mul_one]
    rw [e1]
    exact T3.ext' d1.symm d2.symm d3.symm
  · rw [es, gl_sc, sn, gg]
  · show 0 < s * X
    have gi : (0 : Int) < (gl t.l : Int) := by omega
    rcases hs with ⟨h, p⟩ | ⟨h, p⟩
    · rw [h, Int.one_mul]
      rw [← d1] at p
      refine Int.not_le.mp fun z => ?_
      have := Int.mul_nonneg (Int.le_of_lt gi) (show 0 ≤ -X by omega)
      rw [Int.mul_neg] at this
      omega
    · rw [h]
      rw [← d1] at p
      have : X < 0 := by
        refine Int.not_le.mp fun z => ?_
        have := Int.mul_nonneg (Int.le_of_lt gi) z
        omega
      omega
end Lr
namespace Lr
open PySem PySem.Spec PyProof.Rows L2
theorem nsq_sign {t e : T3} {k : Int} (hk : k ≠ 0) (ht : t = e.sc k) (ge : gl e.l = 1) (ex : e.x ≠ 0) : Nsq t (if e.x < 0 then e.sc (-1) else e) := by
  by_cases h : e.x < 0
  · rw [if_pos h]
    refine ⟨-k, by omega, ?_, by rw [gl_sc, ge]; rfl, ?_⟩
    · rw [sc_sc, ht, Int.neg_mul_neg, Int.mul_one]
    · show 0 < -1 * e.x
      omega
  · rw [if_neg h]
    exact ⟨k, hk, ht, ge, by omega⟩
theorem up_sc (k : Int) (d : T3) : (d.sc k).up = d.up.sc k := by
  unfold T3.up T3.sc
  refine T3.ext' rfl ?_ ?_
  · show k * d.y - 2 * (k * d.x) = k * (d.y - 2 * d.x)
    rw [Int.mul_sub, Int.mul_left_comm]
  · show k * d.x - k * d.y + k * d.z = k * (d.x - d.y + d.z)
    rw [Int.mul_add, Int.mul_sub]
theorem dn_sc (k : Int) (d : T3) : (d.sc k).dn = d.dn.sc k := by
  unfold T3.dn T3.sc
  refine T3.ext' ?_ ?_ rfl
  · show k * d.x - k * d.y + k * d.z = k * (d.x - d.y + d.z)
    rw [Int.mul_add, Int.mul_sub]
  · show k * d.y - 2 * (k * d.z) = k * (d.y - 2 * d.z)
    rw [Int.mul_sub, Int.mul_left_comm]
def sgn3 (e : T3) : T3 := if e.x < 0 then e.sc (-1) else e
/-- a turn R or L ahead -/
theorem nsq_R {f w : List Bool} {d : T3} (hb : Both w) (h : Nsq (arnd f w).tr3 d) : Nsq (arnd (true :: f) w).tr3 (sgn3 d.up) := by
  obtain ⟨k, k0, hk, gd, dx⟩ := h
  have e : (arnd (true :: f) w).tr3 = d.up.sc k := by
    rw [show true :: f = [true] ++ f from rfl, arnd_ahead, tr3_R, ← up_sc, ← hk]
    rfl
  refine nsq_sign k0 e (by rw [up_dvd, gd]) fun z => arnd_ne (f := true :: f) hb ?_
  rw [e]
  show k * d.up.x = 0
  rw [z, Int.mul_zero]
theorem nsq_L {f w : List Bool} {d : T3} (hb : Both w) (h : Nsq (arnd f w).tr3 d) : Nsq (arnd (false :: f) w).tr3 (sgn3 d.dn) := by
  obtain ⟨k, k0, hk, gd, dx⟩ := h
  have e : (arnd (false :: f) w).tr3 = d.dn.sc k := by
    rw [show false :: f = [false] ++ f from rfl, arnd_ahead, tr3_L, ← dn_sc, ← hk]
    rfl
  refine nsq_sign k0 e (by rw [dn_dvd, gd]) fun z => arnd_ne (f := false :: f) hb ?_
  rw [e]
  show k * d.dn.x = 0
  rw [z, Int.mul_zero]
theorem arnd_bd {f w : List Bool} (hf : f.length ≤ 70) (hw : w.length ≤ 20) : (∀ i ∈ (mat f).l, Bd 200 i) ∧ (∀ i ∈ (mat w).l, Bd 200 i) ∧ (∀ i ∈ ((mat f).mul (mat w)).l, Bd 200 i) ∧ (∀ i ∈ (mat f).adj.l, Bd 200 i) ∧ (∀ i ∈ (arnd f w).l, Bd 200 i) := by
  have b1 := bd_mat hf
  have b2 := bd_mat hw
  have mb : ∀ {m n : M4} {j k : Nat}, (∀ i ∈ m.l, Bd j i) → (∀ i ∈ n.l, Bd k i) → ∀ i ∈ (m.mul n).l, Bd (j + k + 1) i := fun {m n j k} hm hn i hi => by
    have ba := hm m.a (by simp [M4.l])
    have bb := hm m.b (by simp [M4.l])
    have bc := hm m.c (by simp [M4.l])
    have bd := hm m.d (by simp [M4.l])
    have ca := hn n.a (by simp [M4.l])
    have cb := hn n.b (by simp [M4.l])
    have cc := hn n.c (by simp [M4.l])
    have cd := hn n.d (by simp [M4.l])
    simp only [M4.l, M4.mul, List.mem_cons, List.not_mem_nil, or_false] at hi
    rcases hi with rfl | rfl | rfl | rfl
    · exact (ba.mul ca).add (bb.mul cc)
    · exact (ba.mul cb).add (bb.mul cd)
    · exact (bc.mul ca).add (bd.mul cc)
    · exact (bc.mul cb).add (bd.mul cd)
  have b3 := mb b1 b2
  have b4 : ∀ i ∈ (mat f).adj.l, Bd (70 + 1) i := fun i hi => by
    simp only [M4.l, M4.adj, List.mem_cons, List.not_mem_nil, or_false] at hi
    have ng : ∀ {x : Int}, Bd (70 + 1) x → Bd (70 + 1) (-x) := fun {x} h => by
      unfold Bd at *
      rw [Int.natAbs_neg]
      exact h
    rcases hi with rfl | rfl | rfl | rfl
    · exact b1 _ (by simp [M4.l])
    · exact ng (b1 _ (by simp [M4.l]))
    · exact ng (b1 _ (by simp [M4.l]))
    · exact b1 _ (by simp [M4.l])
  have b5 := mb b3 b4
  exact ⟨fun i hi => (b1 i hi).up (by decide), fun i hi => (b2 i hi).up (by decide), fun i hi => (b3 i hi).up (by decide), fun i hi => (b4 i hi).up (by decide), fun i hi => (b5 i hi).up (by decide)⟩
end Lr
namespace Lr
open PySem PySem.Spec PyProof.Rows L2
theorem arnd_gl (f w : List Bool) : gl (arnd f w).tr3.l = gl (mat w).tr3.l := by
  induction f with
  | nil =>
    have e : arnd [] w = mat w := by
      unfold arnd
      rw [show mat [] = M4.one from rfl, M4.one_mul, show M4.one.adj = M4.one from rfl, M4.mul_one]
    rw [e]
  | cons t f ih =>
    cases t
    · rw [show false :: f = [false] ++ f from rfl, arnd_ahead, tr3_L, ← ih]
      exact dn_dvd _
    · rw [show true :: f = [true] ++ f from rfl, arnd_ahead, tr3_R, ← ih]
      exact up_dvd _
theorem arnd_gl_lt {f w : List Bool} (hw : w.length ≤ 20) (hb : Both w) : gl (arnd f w).tr3.l < 2 ^ 22 := by
  rw [arnd_gl]
  have c := (mat_ge w).2.2.2 hb.1
  have le := gl_le (l := (mat w).tr3.l) (x := (mat w).c) (by simp [T3.l, M4.tr3]) (by omega)
  have b := bd_mat hw (mat w).c (by simp [M4.l])
  unfold Bd at b
  omega
theorem fdiv_neg_of {x g : Int} (h : g ∣ x) : x.fdiv (-g) = -1 * (x / g) := by
  rw [Int.fdiv_eq_ediv_of_dvd (Int.neg_dvd.mpr h), Int.ediv_neg]
  omega
end Lr
namespace Lr
open PySem PySem.Spec PyProof.Rows L2
theorem sq_on (f w : List Bool) (t : Bool) : sq (f ++ [t]) (w ++ [t]) = sq f (t :: w) := by
  have := sq_stp (f ++ [t], w ++ [t])
  rw [stp_snoc] at this
  exact this.symm
theorem sq_twice {f w : List Bool} (h : w ≠ []) : sq f (w ++ w) = sq f w := by
  have p := List.length_pos_iff.mpr h
  funext i
  unfold sq
  split
  · rfl
  · rw [List.length_append]
    have hm := Nat.mod_lt (i - f.length) (show 0 < w.length + w.length by omega)
    have e : (i - f.length) % (w.length + w.length) % w.length = (i - f.length) % w.length := Nat.mod_mod_of_dvd _ ⟨2, by omega⟩
    generalize (i - f.length) % (w.length + w.length) = k at *
    rw [← e]
    by_cases h1 : k < w.length
    · rw [List.getElem?_append_left h1, Nat.mod_eq_of_lt h1]
    · rw [List.getElem?_append_right (by omega), Nat.mod_eq_sub_mod (by omega), Nat.mod_eq_of_lt (by omega)]
/-- one course told in two ways -/
def Told (g m f w : List Bool) : Prop := sq g m = sq f w ∧ ∃ k : Int, 0 < k ∧ (arnd g m).tr3 = (arnd f w).tr3.sc k
theorem Told.refl (f w : List Bool) : Told f w f w := ⟨rfl, 1, by decide, by unfold T3.sc; simp only [Int.one_mul]⟩
theorem Told.on {g v f w : List Bool} {t : Bool} (h : Told g (t :: v) f w) : Told (g ++ [t]) (v ++ [t]) f w := by
  obtain ⟨e, k, k0, ek⟩ := h
  exact ⟨by rw [sq_on, e], k, k0, by rw [arnd_on, ek]⟩
theorem Told.twice {g m f w : List Bool} (h : Told g m f w) (b : Both m) : Told g (m ++ m) f w := by
  obtain ⟨e, k, k0, ek⟩ := h
  have t := tra_both b
  refine ⟨by rw [sq_twice b.ne, e], (mat m).tra * k, Int.mul_pos (by omega) k0, ?_⟩
  rw [arnd_twice, sq_tr3, arnd_tra, ek, sc_sc]
theorem Told.nsq {g m f w : List Bool} {d : T3} (h : Told g m f w) (n : Nsq (arnd f w).tr3 d) : Nsq (arnd g m).tr3 d := by
  obtain ⟨_, k, k0, ek⟩ := h
  rw [ek]
  exact n.scale (by omega)
end Lr
namespace Lr
open PySem PySem.Spec PyProof.Rows L2
theorem nsq_bd {t d : T3} {j : Nat} (h : Nsq t d) (b : ∀ i ∈ t.l, Bd j i) : ∀ i ∈ d.l, Bd j i := by
  obtain ⟨k, k0, hk, _, _⟩ := h
  have key : ∀ x : Int, Bd j (k * x) → Bd j x := fun x hx => by
    unfold Bd at *
    rw [Int.natAbs_mul] at hx
    have : 1 * x.natAbs ≤ k.natAbs * x.natAbs := Nat.mul_le_mul_right _ (by omega)
    omega
  rw [hk] at b
  intro i hi
  simp only [T3.l, List.mem_cons, List.not_mem_nil, or_false] at hi
  rcases hi with rfl | rfl | rfl
  · exact key _ (b _ (by simp [T3.l, T3.sc]))
  · exact key _ (b _ (by simp [T3.l, T3.sc]))
  · exact key _ (b _ (by simp [T3.l, T3.sc]))
theorem tr3_bd {m : M4} {k : Nat} (h : ∀ i ∈ m.l, Bd k i) : ∀ i ∈ m.tr3.l, Bd (k + 1) i := by
  intro i hi
  simp only [T3.l, M4.tr3, List.mem_cons, List.not_mem_nil, or_false] at hi
  rcases hi with rfl | rfl | rfl
  · exact (h _ (by simp [M4.l])).up (by omega)
  · exact (h _ (by simp [M4.l])).sub (h _ (by simp [M4.l]))
  · have := h m.b (by simp [M4.l])
    unfold Bd at *
    rw [Int.natAbs_neg, Nat.pow_succ]
    omega
theorem sgn_neg {e : T3} (h : e.x < 0) : (sgn3 e).l = [-e.x, -e.y, -e.z] := by
  unfold sgn3
  rw [if_pos h]
  show [-1 * e.x, -1 * e.y, -1 * e.z] = _
  simp only [Int.neg_mul, Int.one_mul]
theorem sgn_pos {e : T3} (h : ¬ e.x < 0) : (sgn3 e).l = e.l := by
  unfold sgn3
  rw [if_neg h]
end Lr

set_option exponentiation.threshold 5000
namespace Lr
open PySem PySem.Spec PyProof.Rows L2
/-! spreads -/
def T3.disc (t : T3) : Int := t.y * t.y - 4 * t.x * t.z
theorem disc_sc (k : Int) (d : T3) : (d.sc k).disc = k * k * d.disc := by
  show k * d.y * (k * d.y) - 4 * (k * d.x) * (k * d.z) = k * k * (d.y * d.y - 4 * d.x * d.z)
  rw [Int.mul_sub]
  congr 1
  · simp only [Int.mul_assoc, Int.mul_left_comm]
  · simp only [Int.mul_assoc, Int.mul_left_comm]
theorem disc_tr3 (m : M4) : m.tr3.disc = m.tra * m.tra - 4 * m.det := by
  unfold T3.disc M4.tr3 M4.tra M4.det
  show (m.d - m.a) * (m.d - m.a) - 4 * m.c * -m.b = (m.a + m.d) * (m.a + m.d) - 4 * (m.a * m.d - m.b * m.c)
  rw [Int.sub_mul, Int.mul_sub, Int.mul_sub, Int.add_mul, Int.mul_add, Int.mul_add, Int.mul_neg, Int.mul_assoc 4, Int.mul_comm m.c m.b, Int.mul_comm m.d m.a]
  omega
/-- the spread times what divides it -/
theorem disc_w {f w : List Bool} {d : T3} (n : Nsq (arnd f w).tr3 d) : (gl (mat w).tr3.l : Int) * (gl (mat w).tr3.l : Int) * d.disc = (mat w).tra * (mat w).tra - 4 := by
  obtain ⟨k, k0, hk, gd, _⟩ := n
  have g : gl (arnd f w).tr3.l = k.natAbs := by rw [hk, gl_sc, gd, Nat.mul_one]
  rw [arnd_gl] at g
  have e := congrArg T3.disc hk
  rw [disc_tr3, disc_sc, arnd_tra, arnd_det] at e
  rw [g, Int.natAbs_mul_self' k, ← e]
  omega
theorem disc_pos {f w : List Bool} {d : T3} (b : Both w) (n : Nsq (arnd f w).tr3 d) : 1 ≤ d.disc ∧ ∀ s : Int, s * s ≠ d.disc := by
  have e := disc_w n
  have t := tra_both b
  generalize (mat w).tra = T at *
  generalize (gl (mat w).tr3.l : Int) = g at *
  have T9 : 3 * T ≤ T * T := Int.mul_le_mul_of_nonneg_right t (by omega)
  have gg : 0 ≤ g * g := by
    rcases Int.le_total 0 g with h | h
    · exact Int.mul_nonneg h h
    · have := Int.mul_nonneg (show 0 ≤ -g by omega) (show 0 ≤ -g by omega)
      rw [Int.neg_mul_neg] at this
      exact this
  constructor
  · refine Int.not_lt.mp fun z => ?_
    have := Int.mul_nonneg gg (show 0 ≤ -d.disc by omega)
    rw [Int.mul_neg] at this
    omega
  · intro s hs
    rw [← hs] at e
    have e2 : (g * s) * (g * s) = T * T - 4 := by
      rw [← e]
      simp only [Int.mul_assoc, Int.mul_left_comm]
    obtain ⟨u, u0, hu⟩ : ∃ u : Int, 0 ≤ u ∧ u * u = T * T - 4 := by
      rcases Int.le_total 0 (g * s) with h | h
      · exact ⟨_, h, e2⟩
      · exact ⟨-(g * s), by omega, by rw [Int.neg_mul_neg]; exact e2⟩
    by_cases h : u ≤ T - 1
    · have h1 : u * u ≤ (T - 1) * (T - 1) := Int.mul_le_mul h h u0 (by omega)
      rw [Int.sub_mul, Int.mul_sub] at h1
      omega
    · have h1 : T * T ≤ u * u := Int.mul_le_mul (by omega) (by omega) (by omega) u0
      omega
/-- one ring, or rings of one trace and one divisor -/
theorem disc_same {f w g m : List Bool} {d e : T3} (b : Both w) (n : Nsq (arnd f w).tr3 d) (k : Nsq (arnd g m).tr3 e) (ht : (mat m).tra = (mat w).tra) (hg : gl (mat m).tr3.l = gl (mat w).tr3.l) : e.disc = d.disc := by
  have e1 := disc_w n
  have e2 := disc_w k
  rw [ht, hg, ← e1] at e2
  have t := tra_both b
  have T9 : 3 * (mat w).tra ≤ (mat w).tra * (mat w).tra := Int.mul_le_mul_of_nonneg_right t (by omega)
  refine Int.eq_of_mul_eq_mul_left ?_ e2
  intro z
  rw [z, Int.zero_mul] at e1
  omega
theorem ring_on (v : List Bool) (t : Bool) : (mat (v ++ [t])).tra = (mat (t :: v)).tra ∧ gl (mat (v ++ [t])).tr3.l = gl (mat (t :: v)).tr3.l := by
  have e : arnd [t] (v ++ [t]) = arnd [] (t :: v) := arnd_on [] v t
  have e1 := arnd_tra [t] (v ++ [t])
  have e2 := arnd_gl [t] (v ++ [t])
  rw [e] at e1 e2
  exact ⟨by rw [← e1, arnd_tra], by rw [← e2, arnd_gl]⟩
theorem mat_not (w : List Bool) : mat (w.map not) = ⟨(mat w).d, (mat w).c, (mat w).b, (mat w).a⟩ := by
  induction w using snoc_ind with
  | h0 => rfl
  | h1 l x ih =>
    rw [List.map_append]
    show mat (l.map not ++ [!x]) = _
    rw [mat_snoc, ih, mat_snoc]
    cases x
    · refine M4.ext rfl ?_ rfl ?_
      · show (mat l).d + (mat l).c = (mat l).c + (mat l).d
        omega
      · show (mat l).b + (mat l).a = (mat l).a + (mat l).b
        omega
    · refine M4.ext ?_ rfl ?_ rfl
      · show (mat l).d + (mat l).c = (mat l).c + (mat l).d
        omega
      · show (mat l).b + (mat l).a = (mat l).a + (mat l).b
        omega
theorem ring_not (w : List Bool) : (mat (w.map not)).tra = (mat w).tra ∧ gl (mat (w.map not)).tr3.l = gl (mat w).tr3.l := by
  rw [mat_not]
  constructor
  · show (mat w).d + (mat w).a = (mat w).a + (mat w).d
    omega
  · have e : (M4.mk (mat w).d (mat w).c (mat w).b (mat w).a).tr3 = (T3.mk (mat w).tr3.z (mat w).tr3.y (mat w).tr3.x).sc (-1) := by
      refine T3.ext' ?_ ?_ ?_
      · show (mat w).b = -1 * -(mat w).b
        omega
      · show (mat w).a - (mat w).d = -1 * ((mat w).d - (mat w).a)
        omega
      · show -(mat w).c = -1 * (mat w).c
        omega
    rw [e, gl_sc, rev_gl]
    exact Nat.one_mul _
theorem both_not {w : List Bool} (h : Both w) : Both (w.map not) := ⟨List.mem_map.mpr ⟨true, h.2, rfl⟩, List.mem_map.mpr ⟨false, h.1, rfl⟩⟩
theorem disc_bd {d : T3} {k : Nat} (h : ∀ i ∈ d.l, Bd k i) : Bd (2 * k + 4) d.disc := by
  have bx := h d.x (by simp [T3.l])
  have by' := h d.y (by simp [T3.l])
  have bz := h d.z (by simp [T3.l])
  have b4 : Bd (3 + k + k) (4 * d.x * d.z) := ((bd_le (k := 3) (by decide) (by decide)).mul bx).mul bz
  exact (((by'.mul by').up (by omega)).sub (b4.up (show 3 + k + k ≤ 2 * k + 3 by omega)) : Bd (2 * k + 3 + 1) _)
/-! a comprehension over a road -/
theorem lc_rd {w : List Bool} {g : TG} {tt : TT} {te : TE} {vs : List Nat} {σ : L2.St} {H1 : Hp} {D : Addr} {Qd : Hp → Prop} (Pv : Nat → Hp → Prop) (h0 : Pv 0 (L2.upd H1 D (.lst [])))
    (hs : ∀ i t H, w[i]? = some t → Pv i H → g (.str (rd [t])) (wipe σ vs) H fun σ2 H2 => wipe σ2 vs = wipe σ vs ∧ tt σ2 H2 fun b H3 =>
      if b = true then te σ2 H3 fun y H4 => ∃ acc, H4 D = some (.lst acc) ∧ acc.length < sizeLine ∧ Pv (i + 1) (L2.upd H4 D (.lst (acc ++ [y]))) else Pv (i + 1) H3) (hd : ∀ H, Pv w.length H → Qd H) :
    ∃ W : Nat → Nat → Hp → Prop, (∃ m, W 0 m (L2.upd H1 D (.lst []))) ∧ ∀ i m H, W i m H →
      ((Its (rd w)).stop i H ∧ Qd H) ∨ ((Its (rd w)).go i H ∧ ∃ Nx : Hp → Prop, (∀ H', Nx H' → ∃ m', m' < m ∧ W (i + 1) m' H') ∧ ∀ x H', (Its (rd w)).yld i H x H' → g x (wipe σ vs) H' fun σ2 H2 => wipe σ2 vs = wipe σ vs ∧ tt σ2 H2 fun b H3 =>
        if b = true then te σ2 H3 fun y H4 => ∃ acc, H4 D = some (.lst acc) ∧ acc.length < sizeLine ∧ Nx (L2.upd H4 D (.lst (acc ++ [y]))) else Nx H3) := by
  have es : (rd w).cps.size = w.length := rd_len w
  refine lc_it walk_str Pv h0 (fun _ _ _ _ => trivial) ?_ ?_
  · rintro i x H H' hi p ⟨rfl, c, hc, rfl⟩
    have hi' : i < w.length := by omega
    have ec : c = sg w[i] := by
      have e1 : (rd w).cps.toList[i]? = some c := by rw [Array.getElem?_toList]; exact hc
      rw [rd_cps, List.getElem?_map, List.getElem?_eq_getElem hi'] at e1
      exact (Option.some.inj e1).symm
    have e2 : (⟨#[c]⟩ : Str) = rd [w[i]] := by rw [ec]; rfl
    rw [e2]
    exact hs i w[i] H' (List.getElem?_eq_getElem hi') p
  · intro H p
    rw [es] at p
    exact hd H p
end Lr

set_option exponentiation.threshold 5000
namespace Lr
open PySem PySem.Spec PyProof.Rows L2
/-! what is sure of a map, and what is left of it -/
def bal (m : M4) : Prop := (m.a - m.c) * (m.b - m.d) < 0
def Stl (m : M4) (w : List Bool) (r : M4) : Prop := m = (mat w).mul r ∧ Nn r ∧ bal r
def M4.sum (m : M4) : Int := m.a + m.b + m.c + m.d
theorem mat_R : mat [true] = ⟨1, 1, 0, 1⟩ := rfl
theorem mat_L : mat [false] = ⟨1, 0, 1, 1⟩ := rfl
theorem mul_R (n : M4) : (mat [true]).mul n = ⟨n.a + n.c, n.b + n.d, n.c, n.d⟩ := by
  rw [mat_R]
  unfold M4.mul
  refine M4.ext ?_ ?_ ?_ ?_ <;> simp
theorem mul_L (n : M4) : (mat [false]).mul n = ⟨n.a, n.b, n.a + n.c, n.b + n.d⟩ := by
  rw [mat_L]
  unfold M4.mul
  refine M4.ext ?_ ?_ ?_ ?_ <;> simp
theorem cons_mul (t : Bool) (v : List Bool) (r : M4) : (mat (t :: v)).mul r = (mat [t]).mul ((mat v).mul r) := by
  rw [show t :: v = [t] ++ v from rfl, mat_app, M4.mul_assoc]
theorem nn_mul {m n : M4} (h : Nn m) (k : Nn n) : Nn (m.mul n) := by
  have := Int.mul_nonneg h.a k.a
  have := Int.mul_nonneg h.b k.c
  have := Int.mul_nonneg h.a k.b
  have := Int.mul_nonneg h.b k.d
  have := Int.mul_nonneg h.c k.a
  have := Int.mul_nonneg h.d k.c
  have := Int.mul_nonneg h.c k.b
  have := Int.mul_nonneg h.d k.d
  exact ⟨by show 0 ≤ m.a * n.a + m.b * n.c; omega, by show 0 ≤ m.a * n.b + m.b * n.d; omega, by show 0 ≤ m.c * n.a + m.d * n.c; omega, by show 0 ≤ m.c * n.b + m.d * n.d; omega⟩
theorem nn_adj {w : List Bool} {n : M4} : ((mat w).adj.mul ((mat w).mul n)) = n := by
  rw [← M4.mul_assoc, adj_mul _ (mat_det w), M4.one_mul]
theorem det_w (w : List Bool) (n : M4) : ((mat w).mul n).det = n.det := by
  rw [M4.det_mul, mat_det, Int.one_mul]
/-- both columns of a map are more than nothing -/
theorem col_pos {n : M4} (h : Nn n) (d : n.det ≠ 0) : 0 < n.a + n.c ∧ 0 < n.b + n.d ∧ 0 < n.a + n.b ∧ 0 < n.c + n.d := by
  obtain ⟨h1, h2, h3, h4⟩ := h
  unfold M4.det at d
  refine ⟨?_, ?_, ?_, ?_⟩ <;> refine Int.not_le.mp fun z => d ?_
  · rw [show n.a = 0 by omega, show n.c = 0 by omega]
    simp
  · rw [show n.b = 0 by omega, show n.d = 0 by omega]
    simp
  · rw [show n.a = 0 by omega, show n.b = 0 by omega]
    simp
  · rw [show n.c = 0 by omega, show n.d = 0 by omega]
    simp
/-- the next turn is sure, or none is -/
theorem next_sure {m : M4} (h : Nn m) (d : m.det ≠ 0) : (m.c ≤ m.a ∧ m.d ≤ m.b) ∨ (m.a ≤ m.c ∧ m.b ≤ m.d) ∨ bal m := by
  by_cases c1 : m.c ≤ m.a <;> by_cases c2 : m.d ≤ m.b
  · exact .inl ⟨c1, c2⟩
  · by_cases c3 : m.a ≤ m.c
    · exact .inr (.inl ⟨c3, by omega⟩)
    · exact .inr (.inr (Int.mul_neg_of_pos_of_neg (by omega) (by omega)))
  · by_cases c3 : m.b ≤ m.d
    · exact .inr (.inl ⟨by omega, c3⟩)
    · exact .inr (.inr (Int.mul_neg_of_neg_of_pos (by omega) (by omega)))
  · exact .inr (.inl ⟨by omega, by omega⟩)
theorem turn_nbal {t : Bool} {n : M4} (h : Nn n) : 0 ≤ (((mat [t]).mul n).a - ((mat [t]).mul n).c) * (((mat [t]).mul n).b - ((mat [t]).mul n).d) := by
  obtain ⟨h1, h2, h3, h4⟩ := h
  cases t
  · rw [mul_L]
    show 0 ≤ (n.a - (n.a + n.c)) * (n.b - (n.b + n.d))
    rw [show n.a - (n.a + n.c) = -n.c by omega, show n.b - (n.b + n.d) = -n.d by omega, Int.neg_mul_neg]
    exact Int.mul_nonneg h3 h4
  · rw [mul_R]
    show 0 ≤ (n.a + n.c - n.c) * (n.b + n.d - n.d)
    rw [show n.a + n.c - n.c = n.a by omega, show n.b + n.d - n.d = n.b by omega]
    exact Int.mul_nonneg h1 h2
theorem Stl.nil {m r : M4} (h : Stl m [] r) : m = r ∧ bal m := by
  obtain ⟨h1, h2, h3⟩ := h
  have e : m = r := by rw [h1]; exact M4.one_mul r
  exact ⟨e, by rw [e]; exact h3⟩
theorem Stl.tail {m r : M4} {t : Bool} {v : List Bool} (h : Stl m (t :: v) r) : m = (mat [t]).mul ((mat v).mul r) ∧ Stl ((mat v).mul r) v r ∧ Nn ((mat v).mul r) ∧ ¬ bal m := by
  obtain ⟨h1, h2, h3⟩ := h
  have e : m = (mat [t]).mul ((mat v).mul r) := by rw [h1, cons_mul]
  have n := nn_mul (mat_nn v) h2
  refine ⟨e, ⟨rfl, h2, h3⟩, n, fun b => ?_⟩
  unfold bal at b
  have := turn_nbal (t := t) n
  rw [← e] at this
  omega
theorem stl_one : ∀ {w v : List Bool} {m r s : M4}, m.det ≠ 0 → Stl m w r → Stl m v s → w = v ∧ r = s
  | [], [], m, r, s, d, h, k => ⟨rfl, by rw [← h.nil.1, ← k.nil.1]⟩
  | [], _ :: _, m, r, s, d, h, k => absurd h.nil.2 k.tail.2.2.2
  | _ :: _, [], m, r, s, d, h, k => absurd k.nil.2 h.tail.2.2.2
  | t :: w, u :: v, m, r, s, d, h, k => by
    obtain ⟨e1, h1, n1, _⟩ := h.tail
    obtain ⟨e2, k1, n2, _⟩ := k.tail
    have d1 : ((mat w).mul r).det ≠ 0 := by rw [e1, det_w] at d; exact d
    have d2 : ((mat v).mul s).det ≠ 0 := by rw [e2, det_w] at d; exact d
    have p1 := col_pos n1 d1
    have p2 := col_pos n2 d2
    have tu : t = u := by
      have e : (mat [t]).mul ((mat w).mul r) = (mat [u]).mul ((mat v).mul s) := by rw [← e1, ← e2]
      cases t <;> cases u
      · rfl
      · exfalso
        rw [mul_L, mul_R] at e
        have a := congrArg M4.a e
        have b := congrArg M4.b e
        have c := congrArg M4.c e
        have d := congrArg M4.d e
        simp only at a b c d
        have := n1.c
        have := n1.d
        have := n2.a
        have := n2.b
        omega
      · exfalso
        rw [mul_L, mul_R] at e
        have a := congrArg M4.a e
        have b := congrArg M4.b e
        have c := congrArg M4.c e
        have d := congrArg M4.d e
        simp only at a b c d
        have := n1.a
        have := n1.b
        have := n2.c
        have := n2.d
        omega
      · rfl
    subst tu
    have e : (mat w).mul r = (mat v).mul s := by
      rw [← nn_adj (w := [t]) (n := (mat w).mul r), ← e1, e2, nn_adj]
    obtain ⟨e3, e4⟩ := stl_one d1 h1 (by rw [e]; exact k1)
    exact ⟨by rw [e3], e4⟩
theorem stl_ex : ∀ (k : Nat) {m : M4}, Nn m → m.det ≠ 0 → m.sum ≤ k → ∃ w r, Stl m w r ∧ (w.length : Int) ≤ k
  | 0, m, h, d, hs => by
    have := col_pos h d
    unfold M4.sum at hs
    omega
  | k + 1, m, h, d, hs => by
    have p := col_pos h d
    rcases next_sure h d with c | c | c
    · have e : m = (mat [true]).mul ⟨m.a - m.c, m.b - m.d, m.c, m.d⟩ := by
        rw [mul_R]
        refine M4.ext ?_ ?_ rfl rfl
        · show m.a = m.a - m.c + m.c
          omega
        · show m.b = m.b - m.d + m.d
          omega
      have n1 : Nn ⟨m.a - m.c, m.b - m.d, m.c, m.d⟩ := ⟨by show 0 ≤ m.a - m.c; omega, by show 0 ≤ m.b - m.d; omega, h.c, h.d⟩
      have d1 : (M4.mk (m.a - m.c) (m.b - m.d) m.c m.d).det ≠ 0 := by
        have z := d
        rw [e, det_w] at z
        exact z
      obtain ⟨w, r, s, l⟩ := stl_ex k n1 d1 (by unfold M4.sum at *; show m.a - m.c + (m.b - m.d) + m.c + m.d ≤ k; omega)
      refine ⟨true :: w, r, ⟨?_, s.2⟩, by simp only [List.length_cons]; omega⟩
      rw [cons_mul, ← s.1]
      exact e
    · have e : m = (mat [false]).mul ⟨m.a, m.b, m.c - m.a, m.d - m.b⟩ := by
        rw [mul_L]
        refine M4.ext rfl rfl ?_ ?_
        · show m.c = m.a + (m.c - m.a)
          omega
        · show m.d = m.b + (m.d - m.b)
          omega
      have n1 : Nn ⟨m.a, m.b, m.c - m.a, m.d - m.b⟩ := ⟨h.a, h.b, by show 0 ≤ m.c - m.a; omega, by show 0 ≤ m.d - m.b; omega⟩
      have d1 : (M4.mk m.a m.b (m.c - m.a) (m.d - m.b)).det ≠ 0 := by
        have z := d
        rw [e, det_w] at z
        exact z
      obtain ⟨w, r, s, l⟩ := stl_ex k n1 d1 (by unfold M4.sum at *; show m.a + m.b + (m.c - m.a) + (m.d - m.b) ≤ k; omega)
      refine ⟨false :: w, r, ⟨?_, s.2⟩, by simp only [List.length_cons]; omega⟩
      rw [cons_mul, ← s.1]
      exact e
    · exact ⟨[], m, ⟨(M4.one_mul m).symm, h, c⟩, by show (0 : Int) ≤ _; omega⟩
/-- going on -/
theorem Stl.on {m r n s : M4} {w v : List Bool} (h : Stl m w r) (k : Stl (r.mul n) v s) : Stl (m.mul n) (w ++ v) s := by
  refine ⟨?_, k.2⟩
  rw [h.1, mat_app, M4.mul_assoc, k.1, M4.mul_assoc]
theorem Stl.det {m r : M4} {w : List Bool} (h : Stl m w r) : r.det = m.det := by rw [h.1, det_w]
/-- what is left is small -/
theorem bal_le {r : M4} (h : Nn r) (b : bal r) : r.a + r.b ≤ (r.det.natAbs : Int) ∧ r.c + r.d ≤ (r.det.natAbs : Int) := by
  obtain ⟨h1, h2, h3, h4⟩ := h
  unfold bal at b
  have key : (r.c < r.a ∧ r.b < r.d) ∨ (r.a < r.c ∧ r.d < r.b) := by
    rcases Int.lt_trichotomy r.a r.c with x | x | x
    · refine .inr ⟨x, Int.not_le.mp fun y => ?_⟩
      have := Int.mul_nonneg (show 0 ≤ r.c - r.a by omega) (show 0 ≤ r.d - r.b by omega)
      rw [show (r.c - r.a) * (r.d - r.b) = (r.a - r.c) * (r.b - r.d) by rw [← Int.neg_mul_neg]; congr 1 <;> omega] at this
      omega
    · rw [x, Int.sub_self, Int.zero_mul] at b
      omega
    · refine .inl ⟨x, Int.not_le.mp fun y => ?_⟩
      have := Int.mul_nonneg (show 0 ≤ r.a - r.c by omega) (show 0 ≤ r.b - r.d by omega)
      omega
  unfold M4.det
  rcases key with ⟨x, y⟩ | ⟨x, y⟩
  · have e1 : r.a * r.d - r.b * r.c = r.a + r.b + (r.a * (r.d - r.b - 1) + r.b * (r.a - r.c - 1)) := by
      simp only [Int.mul_sub, Int.mul_one]
      rw [Int.mul_comm r.b r.a]
      omega
    have e2 : r.a * r.d - r.b * r.c = r.c + r.d + (r.d * (r.a - r.c - 1) + r.c * (r.d - r.b - 1)) := by
      simp only [Int.mul_sub, Int.mul_one]
      rw [Int.mul_comm r.d r.a, Int.mul_comm r.d r.c, Int.mul_comm r.c r.b]
      omega
    have q1 := Int.mul_nonneg h1 (show 0 ≤ r.d - r.b - 1 by omega)
    have q2 := Int.mul_nonneg h2 (show 0 ≤ r.a - r.c - 1 by omega)
    have q3 := Int.mul_nonneg h4 (show 0 ≤ r.a - r.c - 1 by omega)
    have q4 := Int.mul_nonneg h3 (show 0 ≤ r.d - r.b - 1 by omega)
    generalize r.a * r.d - r.b * r.c = D at *
    omega
  · have e1 : r.b * r.c - r.a * r.d = r.a + r.b + (r.b * (r.c - r.a - 1) + r.a * (r.b - r.d - 1)) := by
      simp only [Int.mul_sub, Int.mul_one]
      rw [Int.mul_comm r.b r.a]
      omega
    have e2 : r.b * r.c - r.a * r.d = r.c + r.d + (r.c * (r.b - r.d - 1) + r.d * (r.c - r.a - 1)) := by
      simp only [Int.mul_sub, Int.mul_one]
      rw [Int.mul_comm r.c r.b, Int.mul_comm r.d r.a, Int.mul_comm r.d r.c]
      omega
    have q1 := Int.mul_nonneg h2 (show 0 ≤ r.c - r.a - 1 by omega)
    have q2 := Int.mul_nonneg h1 (show 0 ≤ r.b - r.d - 1 by omega)
    have q3 := Int.mul_nonneg h3 (show 0 ≤ r.b - r.d - 1 by omega)
    have q4 := Int.mul_nonneg h4 (show 0 ≤ r.c - r.a - 1 by omega)
    have e3 : r.a * r.d - r.b * r.c = -(r.b * r.c - r.a * r.d) := by omega
    rw [e3]
    generalize r.b * r.c - r.a * r.d = D at *
    omega
end Lr

set_option exponentiation.threshold 5000
namespace Lr
open PySem PySem.Spec PyProof.Rows L2
/-! steps to what is left, and bounds -/
theorem le_bd {k : Nat} {x B : Int} (h0 : 0 ≤ x) (h : x ≤ B) (b : Bd k B) : Bd k x := by
  unfold Bd at *
  omega
inductive StC (n : M4) (r : M4) : List Bool → Prop where
  | stop : bal n → n = r → StC n r []
  | right (v : List Bool) : ¬ bal n → n.c ≤ n.a → n.d ≤ n.b → n.c + n.d < n.a + n.b → Stl ⟨n.a - n.c, n.b - n.d, n.c, n.d⟩ v r → Nn ⟨n.a - n.c, n.b - n.d, n.c, n.d⟩ → (M4.mk (n.a - n.c) (n.b - n.d) n.c n.d).det = n.det → StC n r (true :: v)
  | left (v : List Bool) : ¬ bal n → n.a ≤ n.c → n.b ≤ n.d → n.a + n.b < n.c + n.d → Stl ⟨n.a, n.b, n.c - n.a, n.d - n.b⟩ v r → Nn ⟨n.a, n.b, n.c - n.a, n.d - n.b⟩ → (M4.mk n.a n.b (n.c - n.a) (n.d - n.b)).det = n.det → StC n r (false :: v)
theorem Stl.step {n r : M4} {w : List Bool} (d : n.det ≠ 0) (h : Stl n w r) : StC n r w := by
  cases w with
  | nil => exact .stop h.nil.2 h.nil.1
  | cons t v =>
    obtain ⟨e, s, nn, nb⟩ := h.tail
    have dd : ((mat v).mul r).det = n.det := by rw [e, det_w, det_w, det_w]
    have p := col_pos nn (by rw [dd]; exact d)
    generalize (mat v).mul r = k at *
    cases t
    · rw [mul_L] at e
      have ek : (⟨n.a, n.b, n.c - n.a, n.d - n.b⟩ : M4) = k := by
        rw [e]
        refine M4.ext rfl rfl ?_ ?_
        · show k.a + k.c - k.a = k.c
          omega
        · show k.b + k.d - k.b = k.d
          omega
      refine .left v nb ?_ ?_ ?_ (by rw [ek]; exact s) (by rw [ek]; exact nn) (by rw [ek]; exact dd)
      · rw [e]
        show k.a ≤ k.a + k.c
        have := nn.c
        omega
      · rw [e]
        show k.b ≤ k.b + k.d
        have := nn.d
        omega
      · rw [e]
        show k.a + k.b < k.a + k.c + (k.b + k.d)
        omega
    · rw [mul_R] at e
      have ek : (⟨n.a - n.c, n.b - n.d, n.c, n.d⟩ : M4) = k := by
        rw [e]
        refine M4.ext ?_ ?_ rfl rfl
        · show k.a + k.c - k.c = k.a
          omega
        · show k.b + k.d - k.d = k.b
          omega
      refine .right v nb ?_ ?_ ?_ (by rw [ek]; exact s) (by rw [ek]; exact nn) (by rw [ek]; exact dd)
      · rw [e]
        show k.c ≤ k.a + k.c
        have := nn.a
        omega
      · rw [e]
        show k.d ≤ k.b + k.d
        have := nn.b
        omega
      · rw [e]
        show k.c + k.d < k.a + k.c + (k.b + k.d)
        omega
/-- a column behind a road, beside the middle -/
theorem col_test {P : M4} (h : P.det = 1) (x y : Int) : (P.a * x + P.b * y) * (P.d + P.c) - (P.b + P.a) * (P.c * x + P.d * y) = x - y := by
  have e : (P.a * x + P.b * y) * (P.d + P.c) - (P.b + P.a) * (P.c * x + P.d * y) = (P.a * P.d - P.b * P.c) * (x - y) := by
    simp only [Int.add_mul, Int.mul_add, Int.sub_mul, Int.mul_sub]
    simp only [Int.mul_assoc, Int.mul_comm, Int.mul_left_comm]
    omega
  rw [e]
  have : P.a * P.d - P.b * P.c = 1 := h
  rw [this, Int.one_mul]
def M4.swp (m : M4) : M4 := ⟨m.b, m.a, m.d, m.c⟩
theorem swp_mul (m n : M4) : m.mul n.swp = (m.mul n).swp := rfl
theorem Nn.swp {m : M4} (h : Nn m) : Nn m.swp := ⟨h.b, h.a, h.d, h.c⟩
theorem swp_det (m : M4) : m.swp.det = -m.det := by
  show m.b * m.c - m.a * m.d = -(m.a * m.d - m.b * m.c)
  omega
theorem Stl.swp {m r : M4} {w : List Bool} (h : Stl m w r) : Stl m.swp w r.swp := by
  refine ⟨?_, h.2.1.swp, ?_⟩
  · rw [swp_mul, ← h.1]
  · have := h.2.2
    unfold bal at *
    show (r.b - r.d) * (r.a - r.c) < 0
    rw [Int.mul_comm]
    exact this
theorem Le.swp {B : Int} {m : M4} (h : Le B m) : Le B m.swp := ⟨h.b, h.a, h.d, h.c⟩
theorem stl_read {r : M4} (h : Nn r) (b : bal r) (d : r.det ≠ 0) (l : r.det.natAbs ≤ 12) (f : List Bool) : ∃ v s, Stl (r.mul (mat f)) v s ∧ v.length ≤ 48 * f.length := by
  induction f using snoc_ind with
  | h0 => exact ⟨[], r, ⟨by show r.mul M4.one = (mat []).mul r; rw [M4.mul_one]; exact (M4.one_mul r).symm, h, b⟩, Nat.le_refl _⟩
  | h1 f t ih =>
    obtain ⟨v, s, hs, hl⟩ := ih
    have ds : s.det = r.det := by rw [hs.det, M4.det_mul, mat_det, Int.mul_one]
    obtain ⟨q1, q2⟩ := bal_le hs.2.1 hs.2.2
    have n1 : Nn (s.mul (mat [t])) := nn_mul hs.2.1 (mat_nn _)
    have d1 : (s.mul (mat [t])).det ≠ 0 := by
      rw [M4.det_mul, mat_det, Int.mul_one, ds]
      exact d
    have sm : (s.mul (mat [t])).sum ≤ (48 : Nat) := by
      rw [← turnM_mul]
      rw [ds] at q1 q2
      obtain ⟨h1, h2, h3, h4⟩ := hs.2.1
      unfold M4.sum turnM
      cases t
      · show s.a + s.b + s.b + (s.c + s.d) + s.d ≤ _
        omega
      · show s.a + (s.a + s.b) + s.c + (s.c + s.d) ≤ _
        omega
    obtain ⟨v', s', hs', hl'⟩ := stl_ex 48 n1 d1 sm
    refine ⟨v ++ v', s', ?_, ?_⟩
    · rw [mat_app, ← M4.mul_assoc]
      exact hs.on hs'
    · rw [List.length_append, List.length_append]
      show _ ≤ 48 * (f.length + 1)
      omega
theorem stl_next {m : M4} (h : Nn m) (d : m.det ≠ 0) (l : m.det.natAbs ≤ 12) (le : Le 60 m) (f : List Bool) : ∃ v s, Stl (m.mul (mat f)) v s ∧ v.length ≤ 240 + 48 * f.length := by
  obtain ⟨w, r, hr, lr⟩ := stl_ex 240 h d (by obtain ⟨h1, h2, h3, h4⟩ := le; unfold M4.sum; omega)
  obtain ⟨v, s, hs, hl⟩ := stl_read hr.2.1 hr.2.2 (by rw [hr.det]; exact d) (by rw [hr.det]; exact l) f
  refine ⟨w ++ v, s, hr.on hs, ?_⟩
  rw [List.length_append]
  omega
/-- the middle of a road is no more than what a map behind it has -/
theorem mid_le {P n : M4} {B : Int} (hP : Nn P) (hn : Nn n) (d : n.det ≠ 0) (l : Le B (P.mul n)) : P.b + P.a ≤ 2 * B ∧ P.d + P.c ≤ 2 * B := by
  obtain ⟨_, _, p1, p2⟩ := col_pos hn d
  obtain ⟨la, lb, lc, ld⟩ := l
  have h1 : P.a * 1 ≤ P.a * (n.a + n.b) := Int.mul_le_mul_of_nonneg_left (by omega) hP.a
  have h2 : P.b * 1 ≤ P.b * (n.c + n.d) := Int.mul_le_mul_of_nonneg_left (by omega) hP.b
  have h3 : P.c * 1 ≤ P.c * (n.a + n.b) := Int.mul_le_mul_of_nonneg_left (by omega) hP.c
  have h4 : P.d * 1 ≤ P.d * (n.c + n.d) := Int.mul_le_mul_of_nonneg_left (by omega) hP.d
  rw [Int.mul_add] at h1 h2 h3 h4
  have la : P.a * n.a + P.b * n.c ≤ B := la
  have lb : P.a * n.b + P.b * n.d ≤ B := lb
  have lc : P.c * n.a + P.d * n.c ≤ B := lc
  have ld : P.c * n.b + P.d * n.d ≤ B := ld
  constructor <;> omega
theorem bal_pos {n : M4} (h : Nn n) (d : 0 < n.det) (b : bal n) : n.c < n.a ∧ n.b < n.d := by
  unfold bal at b
  unfold M4.det at d
  obtain ⟨h1, h2, h3, h4⟩ := h
  rcases Int.lt_trichotomy n.a n.c with x | x | x
  · exfalso
    have y : n.d < n.b := Int.not_le.mp fun y => by
      have := Int.mul_nonneg (show 0 ≤ n.c - n.a by omega) (show 0 ≤ n.d - n.b by omega)
      rw [show (n.c - n.a) * (n.d - n.b) = (n.a - n.c) * (n.b - n.d) by rw [← Int.neg_mul_neg]; congr 1 <;> omega] at this
      omega
    have k1 : n.a * n.d ≤ n.c * n.d := Int.mul_le_mul_of_nonneg_right (by omega) h4
    have k2 : n.c * n.d ≤ n.c * n.b := Int.mul_le_mul_of_nonneg_left (by omega) h3
    rw [Int.mul_comm n.c n.b] at k2
    omega
  · rw [x, Int.sub_self, Int.zero_mul] at b
    omega
  · refine ⟨x, Int.not_le.mp fun y => ?_⟩
    have := Int.mul_nonneg (show 0 ≤ n.a - n.c by omega) (show 0 ≤ n.b - n.d by omega)
    omega
theorem two_bd {k : Nat} {x B : Int} (h0 : 0 ≤ x) (h : x ≤ 2 * B) (b : Bd k B) : Bd (k + 1) x := by
  unfold Bd at *
  rw [Nat.pow_succ]
  omega
theorem turn_le {m : M4} {B : Int} {t : Bool} (h : Nn m) (l : Le B m) : Le (2 * B) (m.mul (mat [t])) := by
  rw [← turnM_mul]
  obtain ⟨a0, b0, c0, d0⟩ := h
  obtain ⟨a1, b1, c1, d1⟩ := l
  cases t
  · exact ⟨by show m.a + m.b ≤ _; omega, by show m.b ≤ _; omega, by show m.c + m.d ≤ _; omega, by show m.d ≤ _; omega⟩
  · exact ⟨by show m.a ≤ _; omega, by show m.a + m.b ≤ _; omega, by show m.c ≤ _; omega, by show m.c + m.d ≤ _; omega⟩
theorem bds_of {m : M4} {B : Int} {k : Nat} (h : Nn m) (l : Le B m) (b : Bd k B) : ∀ i ∈ m.l, Bd k i := by
  intro i hi
  have ba := le_bd h.a l.a b
  have bb := le_bd h.b l.b b
  have bc := le_bd h.c l.c b
  have bd := le_bd h.d l.d b
  unfold M4.l at hi
  simp only [List.mem_cons, List.not_mem_nil, or_false] at hi
  rcases hi with rfl | rfl | rfl | rfl <;> assumption
theorem Stl.le12 {m r : M4} {w : List Bool} (h : Stl m w r) (l : m.det.natAbs ≤ 12) : Le 12 r := by
  obtain ⟨q1, q2⟩ := bal_le h.2.1 h.2.2
  rw [h.det] at q1 q2
  obtain ⟨a0, b0, c0, d0⟩ := h.2.1
  exact ⟨by omega, by omega, by omega, by omega⟩
theorem Le.up {a b : Int} {m : M4} (h : Le a m) (l : a ≤ b) : Le b m := ⟨Int.le_trans h.a l, Int.le_trans h.b l, Int.le_trans h.c l, Int.le_trans h.d l⟩
theorem ifY {p : Prop} [Decidable p] {A B : Prop} (h : p) (a : A) : if decide p = true then A else B := by
  rw [if_pos (decide_eq_true h)]
  exact a
theorem ifN {p : Prop} [Decidable p] {A B : Prop} (h : ¬ p) (b : B) : if decide p = true then A else B := by
  rw [if_neg (fun z => h (of_decide_eq_true z))]
  exact b
end Lr

set_option exponentiation.threshold 5000
namespace Lr
open PySem PySem.Spec PyProof.Rows L2
/-! what a map makes of a course: the words and what is left, ring by ring -/
open Classical in
noncomputable def out (m : M4) : List Bool × M4 := if h : ∃ p : List Bool × M4, Stl m p.1 p.2 then choose h else ([], m)
theorem out_of {m r : M4} {w : List Bool} (d : m.det ≠ 0) (h : Stl m w r) : Stl m (out m).1 (out m).2 ∧ (out m).1 = w ∧ (out m).2 = r := by
  have ex : ∃ p : List Bool × M4, Stl m p.1 p.2 := ⟨(w, r), h⟩
  have e : out m = Classical.choose ex := by
    unfold out
    rw [dif_pos ex]
  have s := Classical.choose_spec ex
  rw [← e] at s
  exact ⟨s, stl_one d s h⟩
noncomputable def stR (m : M4) (f l : List Bool) : Nat → M4
  | 0 => (out (m.mul (mat f))).2
  | k + 1 => (out ((stR m f l k).mul (mat l))).2
noncomputable def stW (m : M4) (f l : List Bool) : Nat → List Bool
  | 0 => (out (m.mul (mat f))).1
  | k + 1 => (out ((stR m f l k).mul (mat l))).1
structure Okm (m : M4) : Prop where
  nn : Nn m
  d0 : m.det ≠ 0
  dt : m.det.natAbs ≤ 12
  le : Le 60 m
theorem det_mat (m : M4) (f : List Bool) : (m.mul (mat f)).det = m.det := by rw [M4.det_mul, mat_det, Int.mul_one]
theorem st_zero {m : M4} (o : Okm m) (f l : List Bool) : Stl (m.mul (mat f)) (stW m f l 0) (stR m f l 0) ∧ (stW m f l 0).length ≤ 240 + 48 * f.length := by
  obtain ⟨v, s, h, hl⟩ := stl_next o.nn o.d0 o.dt o.le f
  obtain ⟨h1, h2, h3⟩ := out_of (by rw [det_mat]; exact o.d0) h
  refine ⟨h1, ?_⟩
  show (out (m.mul (mat f))).1.length ≤ _
  rw [h2]
  exact hl
structure Okr (m r : M4) : Prop where
  nn : Nn r
  bl : bal r
  de : r.det = m.det
theorem st_all {m : M4} (o : Okm m) (f l : List Bool) : ∀ k, Okr m (stR m f l k)
  | 0 => by
    have h := (st_zero o f l).1
    exact ⟨h.2.1, h.2.2, by rw [h.det, det_mat]⟩
  | k + 1 => by
    have h := st_all o f l k
    obtain ⟨v, s, hs, hl⟩ := stl_read h.nn h.bl (by rw [h.de]; exact o.d0) (by rw [h.de]; exact o.dt) l
    obtain ⟨h1, h2, h3⟩ := out_of (by rw [det_mat, h.de]; exact o.d0) hs
    exact ⟨h1.2.1, h1.2.2, by show (out _).2.det = _; rw [h1.det, det_mat, h.de]⟩
theorem st_succ {m : M4} (o : Okm m) (f l : List Bool) (k : Nat) : Stl ((stR m f l k).mul (mat l)) (stW m f l (k + 1)) (stR m f l (k + 1)) ∧ (stW m f l (k + 1)).length ≤ 48 * l.length := by
  have h := st_all o f l k
  obtain ⟨v, s, hs, hl⟩ := stl_read h.nn h.bl (by rw [h.de]; exact o.d0) (by rw [h.de]; exact o.dt) l
  obtain ⟨h1, h2, h3⟩ := out_of (by rw [det_mat, h.de]; exact o.d0) hs
  refine ⟨h1, ?_⟩
  show (out ((stR m f l k).mul (mat l))).1.length ≤ _
  rw [h2]
  exact hl
theorem Okr.le {m r : M4} (h : Okr m r) (o : Okm m) : Le 12 r := by
  obtain ⟨q1, q2⟩ := bal_le h.nn h.bl
  have := o.dt
  rw [h.de] at q1 q2
  obtain ⟨a0, b0, c0, d0⟩ := h.nn
  exact ⟨by omega, by omega, by omega, by omega⟩
/-- so many words -/
noncomputable def wl (m : M4) (f l : List Bool) (k : Nat) : List (List Bool) := (List.range k).map (stW m f l)
theorem wl_succ (m : M4) (f l : List Bool) (k : Nat) : wl m f l (k + 1) = wl m f l k ++ [stW m f l k] := by
  unfold wl
  rw [List.range_succ, List.map_append]
  rfl
theorem wl_len (m : M4) (f l : List Bool) (k : Nat) : (wl m f l k).length = k := by
  unfold wl
  rw [List.length_map, List.length_range]
theorem wl_take (m : M4) (f l : List Bool) {j k : Nat} (h : j ≤ k) : (wl m f l k).take j = wl m f l j := by
  unfold wl
  rw [← List.map_take, List.take_range, Nat.min_eq_left h]
theorem wl_size {m : M4} (o : Okm m) (f l : List Bool) : ∀ k, (wl m f l (k + 1)).flatten.length ≤ 240 + 48 * f.length + k * (48 * l.length)
  | 0 => by
    have := (st_zero o f l).2
    rw [wl_succ]
    simp [wl]
    omega
  | k + 1 => by
    have h1 := wl_size o f l k
    have h2 := (st_succ o f l k).2
    rw [wl_succ, List.flatten_append, List.length_append, show [stW m f l (k + 1)].flatten = stW m f l (k + 1) by simp]
    have e : (k + 1) * (48 * l.length) = k * (48 * l.length) + 48 * l.length := Nat.succ_mul _ _
    omega
theorem wl_stl {m : M4} (o : Okm m) (f l : List Bool) : ∀ k, Stl (m.mul (mat (f ++ repR l k))) (wl m f l (k + 1)).flatten (stR m f l k)
  | 0 => by
    have := (st_zero o f l).1
    have e : f ++ repR l 0 = f := List.append_nil f
    have e2 : (wl m f l 1).flatten = stW m f l 0 := by
      show ([] ++ [stW m f l 0]).flatten = _
      simp
    rw [e, e2]
    exact this
  | k + 1 => by
    have h1 := wl_stl o f l k
    have h2 := (st_succ o f l k).1
    have e : f ++ repR l (k + 1) = (f ++ repR l k) ++ l := by
      unfold repR
      rw [List.replicate_succ', List.flatten_append, List.append_assoc]
      simp
    have e2 : (wl m f l (k + 1 + 1)).flatten = (wl m f l (k + 1)).flatten ++ stW m f l (k + 1) := by
      rw [wl_succ, List.flatten_append]
      simp
    rw [e, e2, mat_app, ← M4.mul_assoc]
    exact h1.on h2
/-! what is left comes again -/
def codes : List (Nat × Nat × Nat) := ((List.range 12).flatMap fun x => (List.range 12).flatMap fun y => (List.range 12).map fun z => (x, y, z)).filter fun t => decide (t.1 + t.2.1 + t.2.2 ≤ 11)
theorem codes_len : codes.length = 364 := by decide +kernel
theorem mem_codes {x y z : Nat} (h : x + y + z ≤ 11) : (x, y, z) ∈ codes := by
  unfold codes
  rw [List.mem_filter]
  refine ⟨?_, decide_eq_true h⟩
  rw [List.mem_flatMap]
  refine ⟨x, List.mem_range.mpr (by omega), ?_⟩
  rw [List.mem_flatMap]
  refine ⟨y, List.mem_range.mpr (by omega), ?_⟩
  rw [List.mem_map]
  exact ⟨z, List.mem_range.mpr (by omega), rfl⟩
def code (r : M4) : Nat × Nat × Nat := ((r.a - r.c - 1).toNat, r.b.toNat, r.c.toNat)
theorem code_le {r : M4} (n : Nn r) (b : bal r) (d : 0 < r.det) (l : r.det ≤ 12) : code r ∈ codes := by
  obtain ⟨h1, h2⟩ := bal_pos n d b
  obtain ⟨a0, b0, c0, d0⟩ := n
  refine mem_codes ?_
  have e : r.det = r.c * (r.d - r.b) + (r.a - r.c) * r.b + (r.a - r.c) * (r.d - r.b) := by
    unfold M4.det
    simp only [Int.mul_sub, Int.sub_mul]
    rw [Int.mul_comm r.b r.c]
    omega
  have k1 : r.c * 1 ≤ r.c * (r.d - r.b) := Int.mul_le_mul_of_nonneg_left (by omega) c0
  have k2 : 1 * r.b ≤ (r.a - r.c) * r.b := Int.mul_le_mul_of_nonneg_right (by omega) b0
  have k3 : (r.a - r.c) * 1 ≤ (r.a - r.c) * (r.d - r.b) := Int.mul_le_mul_of_nonneg_left (by omega) (by omega)
  rw [Int.mul_one] at k1 k3
  rw [Int.one_mul] at k2
  omega
theorem code_one {r s : M4} (n : Nn r) (b : bal r) (n' : Nn s) (b' : bal s) (d : 0 < r.det) (e : r.det = s.det) (h : code r = code s) : r = s := by
  obtain ⟨h1, h2⟩ := bal_pos n d b
  obtain ⟨h3, h4⟩ := bal_pos n' (by omega) b'
  obtain ⟨a0, b0, c0, d0⟩ := n
  obtain ⟨a1, b1, c1, d1⟩ := n'
  have e1 := congrArg Prod.fst h
  have e2 := congrArg (fun t => t.2.1) h
  have e3 := congrArg (fun t => t.2.2) h
  have e1 : (r.a - r.c - 1).toNat = (s.a - s.c - 1).toNat := e1
  have e2 : r.b.toNat = s.b.toNat := e2
  have e3 : r.c.toNat = s.c.toNat := e3
  have eb : r.b = s.b := by omega
  have ec : r.c = s.c := by omega
  have ea : r.a = s.a := by omega
  refine M4.ext ea eb ec ?_
  unfold M4.det at e
  rw [ea, eb, ec] at e
  have : s.a * r.d = s.a * s.d := by omega
  exact Int.eq_of_mul_eq_mul_left (by omega) this
theorem st_rep_pos {R : Nat → M4} {D : Int} (h : ∀ k, Nn (R k) ∧ bal (R k) ∧ (R k).det = D) (d : 0 < D) (l : D ≤ 12) : ∃ n, n ≤ 364 ∧ ∃ j, j < n ∧ R n = R j := by
  refine Classical.byContradiction fun z => ?_
  have nd : ((List.range 365).map fun k => code (R k)).Nodup := by
    rw [List.Nodup, List.pairwise_map]
    refine (List.nodup_range (n := 365)).imp_of_mem fun {a b} ha hb ne e => ?_
    have ha := List.mem_range.mp ha
    have hb := List.mem_range.mp hb
    have e := code_one (h a).1 (h a).2.1 (h b).1 (h b).2.1 (by rw [(h a).2.2]; exact d) (by rw [(h a).2.2, (h b).2.2]) e
    rcases Nat.lt_or_gt_of_ne ne with x | x
    · exact z ⟨b, by omega, a, x, e.symm⟩
    · exact z ⟨a, by omega, b, x, e⟩
  have := List.Nodup.length_le_of_subset nd (l₂ := codes) (fun x hx => by
    obtain ⟨k, _, rfl⟩ := List.mem_map.mp hx
    exact code_le (h k).1 (h k).2.1 (by rw [(h k).2.2]; exact d) (by rw [(h k).2.2]; exact l))
  rw [List.length_map, List.length_range, codes_len] at this
  omega
theorem swp_swp (m : M4) : m.swp.swp = m := rfl
theorem st_rep {m : M4} (o : Okm m) (f l : List Bool) : ∃ n, n ≤ 364 ∧ ∃ j, j < n ∧ stR m f l n = stR m f l j := by
  have d0 := o.d0
  have dt := o.dt
  by_cases d : 0 < m.det
  · exact st_rep_pos (R := stR m f l) (D := m.det) (fun k => ⟨(st_all o f l k).nn, (st_all o f l k).bl, (st_all o f l k).de⟩) d (by omega)
  · obtain ⟨n, hn, j, hj, e⟩ := st_rep_pos (R := fun k => (stR m f l k).swp) (D := -m.det) (fun k => by
      have h := st_all o f l k
      refine ⟨h.nn.swp, ?_, by rw [swp_det, h.de]⟩
      have := h.bl
      unfold bal at *
      show ((stR m f l k).b - (stR m f l k).d) * ((stR m f l k).a - (stR m f l k).c) < 0
      rw [Int.mul_comm]
      exact this) (by omega) (by omega)
    refine ⟨n, hn, j, hj, ?_⟩
    rw [← swp_swp (stR m f l n), ← swp_swp (stR m f l j)]
    exact congrArg M4.swp e
theorem first_ex {p : Nat → Prop} (h : ∃ n, p n) : ∃ n, p n ∧ ∀ k, k < n → ¬ p k := by
  obtain ⟨n, hn⟩ := h
  induction n using Nat.strongRecOn with
  | ind n ih =>
    by_cases z : ∃ k, k < n ∧ p k
    · obtain ⟨k, hk, pk⟩ := z
      exact ih k hk pk
    · exact ⟨n, hn, fun k hk pk => z ⟨k, hk, pk⟩⟩
/-- where what is left comes again for the first time -/
structure Fst (R : Nat → M4) (n j : Nat) : Prop where
  lt : j < n
  eq : R n = R j
  no : ∀ b, b < n → ∀ a, a < b → R b ≠ R a
theorem fst_ex {m : M4} (o : Okm m) (f l : List Bool) : ∃ n j, n ≤ 364 ∧ Fst (stR m f l) n j := by
  obtain ⟨k, hk, j0, hj0, e0⟩ := st_rep o f l
  obtain ⟨n, ⟨j, hj, e⟩, no⟩ := first_ex (p := fun n => ∃ j, j < n ∧ stR m f l n = stR m f l j) ⟨k, j0, hj0, e0⟩
  refine ⟨n, j, ?_, hj, e, fun b hb a ha z => no b hb ⟨a, ha, z⟩⟩
  refine Nat.le_trans (Nat.not_lt.mp fun z => no k z ⟨j0, hj0, e0⟩) hk
theorem wl_drop {m : M4} {f l : List Bool} {j n : Nat} (h : j < n) : (wl m f l (j + 1)).flatten ++ ((wl m f l (n + 1)).drop (j + 1)).flatten = (wl m f l (n + 1)).flatten := by
  rw [← List.flatten_append]
  congr 1
  rw [← wl_take m f l (show j + 1 ≤ n + 1 by omega), List.take_append_drop]
/-! the same for a course told otherwise -/
theorem mul_cancel {x y : M4} (d : x.det ≠ 0) (h : x.mul y = x) : y.b = 0 := by
  have e1 := congrArg M4.b h
  have e2 := congrArg M4.d h
  have e1 : x.a * y.b + x.b * y.d = x.b := e1
  have e2 : x.c * y.b + x.d * y.d = x.d := e2
  unfold M4.det at d
  have k : (x.a * x.d - x.b * x.c) * y.b = x.d * (x.a * y.b + x.b * y.d) - x.b * (x.c * y.b + x.d * y.d) := by
    simp only [Int.mul_add, Int.sub_mul]
    simp only [Int.mul_assoc, Int.mul_comm, Int.mul_left_comm]
    omega
  rw [e1, e2, Int.mul_comm x.d x.b, Int.sub_self] at k
  rcases Int.mul_eq_zero.mp k with z | z
  · exact absurd z d
  · exact z
theorem ring_ne {m : M4} (o : Okm m) {f l : List Bool} (bl : true ∈ l) {n j : Nat} (h : Fst (stR m f l) n j) : ((wl m f l (n + 1)).drop (j + 1)).flatten ≠ [] := by
  intro z
  have h1 := wl_stl o f l n
  have h2 := wl_stl o f l j
  have e := wl_drop (m := m) (f := f) (l := l) h.lt
  rw [z, List.append_nil] at e
  rw [← e, h.eq] at h1
  have e3 : m.mul (mat (f ++ repR l n)) = m.mul (mat (f ++ repR l j)) := by rw [h1.1, ← h2.1]
  obtain ⟨k, rfl⟩ : ∃ k, n = j + (k + 1) := ⟨n - j - 1, by have := h.lt; omega⟩
  have e4 : f ++ repR l (j + (k + 1)) = (f ++ repR l j) ++ repR l (k + 1) := by
    unfold repR
    rw [← List.replicate_append_replicate, List.flatten_append, List.append_assoc]
  rw [e4, mat_app, ← M4.mul_assoc] at e3
  have b0 := mul_cancel (by rw [det_mat]; exact o.d0) e3
  have := (mat_ge (repR l (k + 1))).2.2.1 (by
    unfold repR
    rw [List.replicate_succ, List.flatten_cons]
    exact List.mem_append_left _ bl)
  omega
/-- words go on -/
theorem stl_pre {m : M4} (o : Okm m) {u v : List Bool} {w x : List Bool} {r s : M4} (h : Stl (m.mul (mat u)) w r) (k : Stl (m.mul (mat (u ++ v))) x s) : ∃ y, x = w ++ y := by
  have d : r.det = m.det := by rw [h.det, det_mat]
  obtain ⟨y, t, ht, _⟩ := stl_read h.2.1 h.2.2 (by rw [d]; exact o.d0) (by rw [d]; exact o.dt) v
  have := h.on ht
  rw [M4.mul_assoc, ← mat_app] at this
  exact ⟨y, (stl_one (by rw [det_mat]; exact o.d0) k this).1⟩
/-- the ring goes round -/
theorem rg_on {m : M4} (o : Okm m) {f l : List Bool} {n j : Nat} (h : Fst (stR m f l) n j) : ∀ a, Stl (m.mul (mat (f ++ repR l (j + a * (n - j))))) ((wl m f l (j + 1)).flatten ++ repR ((wl m f l (n + 1)).drop (j + 1)).flatten a) (stR m f l j)
  | 0 => by
    rw [Nat.zero_mul]
    show Stl (m.mul (mat (f ++ repR l j))) ((wl m f l (j + 1)).flatten ++ []) _
    rw [List.append_nil]
    exact wl_stl o f l j
  | a + 1 => by
    have ih := rg_on o h a
    have h1 := wl_stl o f l n
    have h2 := wl_stl o f l j
    rw [h.eq, ← wl_drop h.lt] at h1
    obtain ⟨k, rfl⟩ : ∃ k, n = j + k := ⟨n - j, by have := h.lt; omega⟩
    rw [show j + k - j = k by omega] at ih ⊢
    have e4 : f ++ repR l (j + k) = (f ++ repR l j) ++ repR l k := by
      unfold repR
      rw [← List.replicate_append_replicate, List.flatten_append, List.append_assoc]
    have e5 : f ++ repR l (j + (a + 1) * k) = (f ++ repR l (j + a * k)) ++ repR l k := by
      unfold repR
      rw [Nat.succ_mul, ← Nat.add_assoc, ← List.replicate_append_replicate, List.flatten_append, List.append_assoc]
    rw [e4, mat_app, ← M4.mul_assoc] at h1
    have st : Stl ((stR m f l j).mul (mat (repR l k))) ((wl m f l (j + k + 1)).drop (j + 1)).flatten (stR m f l j) := by
      refine ⟨?_, h1.2⟩
      have e6 := h1.1
      rw [h2.1, mat_app, M4.mul_assoc, M4.mul_assoc] at e6
      have e7 := congrArg (fun x => (mat (wl m f l (j + 1)).flatten).adj.mul x) e6
      simp only [nn_adj] at e7
      exact e7
    rw [e5, mat_app, ← M4.mul_assoc]
    have e8 : repR ((wl m f l (j + k + 1)).drop (j + 1)).flatten (a + 1) = repR ((wl m f l (j + k + 1)).drop (j + 1)).flatten a ++ ((wl m f l (j + k + 1)).drop (j + 1)).flatten := by
      unfold repR
      rw [List.replicate_succ', List.flatten_append]
      simp
    rw [e8, ← List.append_assoc]
    exact ih.on st
theorem units65 {k : Nat} {A : Around} (h : Room k A) : A.units + 65 < cLine := by
  have := h.un
  omega
end Lr

set_option exponentiation.threshold 5000
namespace Lr
open PySem PySem.Spec PyProof.Rows L2
/-! one endless road has one least way -/
theorem per_of {c d : List Bool × List Bool} (hc : c.2 ≠ []) (hd : d.2 ≠ []) (e : sq c.1 c.2 = sq d.1 d.2) : Per c.2 d.2.length := by
  have p1 := List.length_pos_iff.mpr hc
  intro i hi
  have M1 : d.1.length * 1 ≤ d.1.length * c.2.length := Nat.mul_le_mul_left _ p1
  have e1 : sq c.1 c.2 (c.1.length + i + d.1.length * c.2.length) = c.2[i]? := by
    unfold sq
    rw [if_neg (by omega), show c.1.length + i + d.1.length * c.2.length - c.1.length = i + d.1.length * c.2.length by omega, Nat.add_mul_mod_self_right, Nat.mod_eq_of_lt hi]
  have e2 : sq c.1 c.2 (c.1.length + i + d.1.length * c.2.length + d.2.length) = c.2[(i + d.2.length) % c.2.length]? := by
    unfold sq
    rw [if_neg (by omega), show c.1.length + i + d.1.length * c.2.length + d.2.length - c.1.length = i + d.2.length + d.1.length * c.2.length by omega, Nat.add_mul_mod_self_right]
  rw [← e2, ← e1, e]
  exact sq_per hd (by omega)
theorem prim_dvd {c d : List Bool × List Bool} (hc : Prim c.2) (hd : Prim d.2) (e : sq c.1 c.2 = sq d.1 d.2) : c.2.length ∣ d.2.length := by
  have p := per_of hc.1 hd.1 e
  have p1 := List.length_pos_iff.mpr hc.1
  have k : Per c.2 (d.2.length % c.2.length) := by
    refine Per.sub ((per_len c.2).mul (d.2.length / c.2.length)) ?_
    rw [Nat.mul_comm, Nat.mod_add_div]
    exact p
  refine Nat.dvd_of_mod_eq_zero ?_
  by_cases z : 1 ≤ d.2.length % c.2.length
  · exact absurd k (hc.2 _ z (Nat.mod_lt _ p1))
  · omega
theorem front_le {c d : List Bool × List Bool} (hc : c.2 ≠ []) (hd : d.2 ≠ []) (l : c.2.length = d.2.length) (fd : stp d = d) (e : sq c.1 c.2 = sq d.1 d.2) : d.1.length ≤ c.1.length := by
  refine Nat.not_lt.mp fun z => ?_
  have p1 := List.length_pos_iff.mpr hd
  have e1 : sq d.1 d.2 (d.1.length - 1) = d.1.getLast? := by
    unfold sq
    rw [if_pos (by omega), List.getLast?_eq_getElem?]
  have e2 : sq d.1 d.2 (d.1.length - 1 + c.2.length) = d.2.getLast? := by
    unfold sq
    rw [if_neg (by omega), List.getLast?_eq_getElem?, show d.1.length - 1 + c.2.length - d.1.length = d.2.length - 1 by omega, Nat.mod_eq_of_lt (by omega)]
  have e3 := sq_per (f := c.1) hc (i := d.1.length - 1) (by omega)
  rw [e, e1, e2] at e3
  have e4 : stp d = (d.1.dropLast, rr d.2) := by
    unfold stp
    rw [if_pos e3.symm]
  rw [fd] at e4
  have e5 := congrArg (fun x => x.1.length) e4
  simp only [List.length_dropLast] at e5
  omega
theorem sq_one {c d : List Bool × List Bool} (hc : Prim c.2) (hd : Prim d.2) (fc : stp c = c) (fd : stp d = d) (e : sq c.1 c.2 = sq d.1 d.2) : c = d := by
  have l : c.2.length = d.2.length := Nat.dvd_antisymm (prim_dvd hc hd e) (prim_dvd hd hc e.symm)
  have p1 := List.length_pos_iff.mpr hc.1
  have h1 := front_le hc.1 hd.1 l fd e
  have h2 := front_le hd.1 hc.1 l.symm fc e.symm
  have l1 : c.1.length = d.1.length := by omega
  have e1 : c.1 = d.1 := by
    refine List.ext_getElem? fun i => ?_
    by_cases hi : i < c.1.length
    · have z := congrFun e i
      unfold sq at z
      rw [if_pos hi, if_pos (by omega)] at z
      exact z
    · rw [List.getElem?_eq_none (by omega), List.getElem?_eq_none (by omega)]
  have e2 : c.2 = d.2 := by
    refine List.ext_getElem? fun i => ?_
    by_cases hi : i < c.2.length
    · have z := congrFun e (c.1.length + i)
      unfold sq at z
      rw [if_neg (by omega), if_neg (by omega), show c.1.length + i - c.1.length = i by omega, show c.1.length + i - d.1.length = i by omega, Nat.mod_eq_of_lt hi, Nat.mod_eq_of_lt (by omega)] at z
      exact z
    · rw [List.getElem?_eq_none (by omega), List.getElem?_eq_none (by omega)]
  exact Prod.ext e1 e2
theorem Lw.same {f l g k : List Bool} {c d : List Bool × List Bool} (e : Lr.sq f l = Lr.sq g k) (h : Lw f l c) (h' : Lw g k d) : c = d :=
  sq_one h.prim h'.prim h.fix h'.fix (by rw [h.sq, h'.sq, e])
theorem ft_pre {f l : List Bool} (hl : l ≠ []) {A N : Nat} (h : (f ++ repR l A).length ≤ N) : ∃ v, ft f l N = (f ++ repR l A) ++ v := by
  refine ⟨(ft f l N).drop (f ++ repR l A).length, ?_⟩
  have e : (ft f l N).take (f ++ repR l A).length = f ++ repR l A := by
    rw [ft_take hl h, ← ft_any (r := A) hl (by rw [List.length_append, repR_len]; exact Nat.le_refl _), List.take_length]
  have z := (List.take_append_drop (f ++ repR l A).length (ft f l N)).symm
  rw [e] at z
  exact z
theorem told_sq {m : M4} (o : Okm m) {f l g k : List Bool} (bl : true ∈ l) (bk : true ∈ k) (e : sq f l = sq g k) {n j n' j' : Nat} (h : Fst (stR m f l) n j) (h' : Fst (stR m g k) n' j') :
    sq (wl m f l (j + 1)).flatten ((wl m f l (n + 1)).drop (j + 1)).flatten = sq (wl m g k (j' + 1)).flatten ((wl m g k (n' + 1)).drop (j' + 1)).flatten := by
  have r1 := ring_ne o bl h
  have r2 := ring_ne o bk h'
  have q1 := List.length_pos_iff.mpr r1
  have q2 := List.length_pos_iff.mpr r2
  have hl : l ≠ [] := List.ne_nil_of_mem bl
  have hk : k ≠ [] := List.ne_nil_of_mem bk
  funext i
  have s1 := rg_on o h (i + 1)
  have s2 := rg_on o h' (i + 1)
  have g1 : i < (wl m f l (j + 1)).flatten.length + (i + 1) * ((wl m f l (n + 1)).drop (j + 1)).flatten.length := by
    have : (i + 1) * 1 ≤ (i + 1) * ((wl m f l (n + 1)).drop (j + 1)).flatten.length := Nat.mul_le_mul_left _ q1
    omega
  have g2 : i < (wl m g k (j' + 1)).flatten.length + (i + 1) * ((wl m g k (n' + 1)).drop (j' + 1)).flatten.length := by
    have : (i + 1) * 1 ≤ (i + 1) * ((wl m g k (n' + 1)).drop (j' + 1)).flatten.length := Nat.mul_le_mul_left _ q2
    omega
  rw [← sq_any g1, ← sq_any g2]
  have g1' : i < ((wl m f l (j + 1)).flatten ++ repR ((wl m f l (n + 1)).drop (j + 1)).flatten (i + 1)).length := by
    rw [List.length_append, repR_len]
    exact g1
  have g2' : i < ((wl m g k (j' + 1)).flatten ++ repR ((wl m g k (n' + 1)).drop (j' + 1)).flatten (i + 1)).length := by
    rw [List.length_append, repR_len]
    exact g2
  generalize (wl m f l (j + 1)).flatten ++ repR ((wl m f l (n + 1)).drop (j + 1)).flatten (i + 1) = W at *
  generalize (wl m g k (j' + 1)).flatten ++ repR ((wl m g k (n' + 1)).drop (j' + 1)).flatten (i + 1) = W' at *
  generalize j + (i + 1) * (n - j) = A at *
  generalize j' + (i + 1) * (n' - j') = A' at *
  obtain ⟨v, hv⟩ := ft_pre (f := f) hl (A := A) (N := (f ++ repR l A).length + (g ++ repR k A').length) (by omega)
  obtain ⟨v', hv'⟩ := ft_pre (f := g) hk (A := A') (N := (f ++ repR l A).length + (g ++ repR k A').length) (by omega)
  have ee : ft f l ((f ++ repR l A).length + (g ++ repR k A').length) = ft g k ((f ++ repR l A).length + (g ++ repR k A').length) := (ft_eq hl hk).mpr fun i _ => congrFun e i
  obtain ⟨x, s, hx, _⟩ := stl_next o.nn o.d0 o.dt o.le (ft f l ((f ++ repR l A).length + (g ++ repR k A').length))
  have hx' := hx
  rw [hv] at hx
  rw [ee, hv'] at hx'
  obtain ⟨y, ey⟩ := stl_pre o s1 hx
  obtain ⟨y', ey'⟩ := stl_pre o s2 hx'
  have t1 : x[i]? = W[i]? := by rw [ey, List.getElem?_append_left g1']
  have t2 : x[i]? = W'[i]? := by rw [ey', List.getElem?_append_left g2']
  rw [← t1, t2]
section
variable {X : Cx}
theorem op_mulB : OpR X (binaryOp .Mult) (fun x y H Q => ∃ (z : Str) (n : Int), x = .str z ∧ y = .int n ∧ z.length ≤ 1000000 ∧ 0 ≤ n ∧ n ≤ 1000000 ∧ z.length * n.toNat ≤ 1000000 ∧ Q (.str (repT z n)) H) := by
  intro pins s σ H x y v u Q I rx ry h
  obtain ⟨z, n, rfl, rfl, hz, n0, n1, hp, q⟩ := h
  obtain ⟨t, rfl⟩ := rx
  obtain ⟨t2, rfl⟩ := ry
  refine PySem.P.mul_str (by rw [decide_eq_false (by omega), decide_eq_false (by omega)]; rfl) (fun h1 _ => ?_) (fun h1 _ => ?_) ?_
  · have : (2 ^ 63 - 1 : Int) / n ≥ 1000000 := by
      have e1 : (1000000 : Int) * n ≤ 2 ^ 63 - 1 := by omega
      exact (Int.le_ediv_iff_mul_le (by omega)).mpr e1
    have hz' : ((z.length : Nat) : Int) ≤ 1000000 := by omega
    omega
  · have := hp
    unfold PySem.Builtin.Str.tooLong
    exact decide_eq_false (by have e : sizeLine = 16777216 := by decide
                              omega)
  · by_cases h1 : n < 1
    · rw [if_pos h1]
      have e : repT z n = Str.empty := by
        have : n.toNat = 0 := by omega
        unfold repT
        rw [this]
        rfl
      rw [e] at q
      exact ⟨by decide, ⟨.str _, H, I.tok _, ⟨_, rfl⟩, q⟩⟩
    · rw [if_neg h1]
      by_cases h2 : (n == 1 || z.length == 0) = true
      · rw [if_pos h2]
        have e : repT z n = z := by
          refine str_ext ?_
          show ((List.replicate n.toNat z.cps.toList).flatten).toArray.toList = z.cps.toList
          rw [List.toList_toArray]
          rcases Bool.or_eq_true_iff.mp h2 with h3 | h3
          · have : n = 1 := by simpa using h3
            rw [this]
            simp
          · have h4 : z.length = 0 := by simpa using h3
            have h5 : z.cps.toList = [] := by
              rw [← List.length_eq_zero_iff]
              exact h4
            rw [h5]
            simp
        rw [e] at q
        exact ⟨.str _, H, I, ⟨_, rfl⟩, q⟩
      · rw [if_neg h2]
        have e : (⟨(List.replicate n.toNat z.cps).foldl (· ++ ·) #[]⟩ : Str) = repT z n := by
          refine str_ext ?_
          show ((List.replicate n.toNat z.cps).foldl (· ++ ·) #[]).toList = ((List.replicate n.toNat z.cps.toList).flatten).toArray.toList
          rw [rep_list, List.toList_toArray]
        rw [e]
        refine ⟨?_, ⟨.str _, H, I.tok _, ⟨_, rfl⟩, q⟩⟩
        rw [repT_len]
        have := hp
        have e : sizeLine = 16777216 := by decide
        omega
end
end Lr

set_option exponentiation.threshold 5000
namespace Lr
open PySem PySem.Spec PyProof.Rows L2
/-! ways that meet behind a test, an expression -/
theorem testM {t : TT} {σ : L2.St} {H : Hp} {R : Bool → Hp → Prop} (c : Bool) (P : Hp → Prop) (h : ∀ R' : Bool → Hp → Prop, (∀ H3, P H3 → R' c H3) → t σ H R') (k : ∀ H3, P H3 → R c H3) : t σ H R := h R k
theorem exprM {t : TE} {σ : L2.St} {H : Hp} {R : VK} (P : V → Hp → Prop) (h : ∀ R' : VK, (∀ v H3, P v H3 → R' v H3) → t σ H R') (k : ∀ v H3, P v H3 → R v H3) : t σ H R := h R k
theorem stmtM {t : TS} {D : Ends} {σ : L2.St} {H : Hp} (P : L2.St → Hp → Prop) (h : ∀ N : L2.St → Hp → Prop, (∀ σ' H', P σ' H' → N σ' H') → t { D with nx := N } σ H) (q : ∀ σ' H', P σ' H' → D.nx σ' H') : t D σ H := h D.nx q
theorem valM {P : V → Hp → Prop} {x y : V} {H : Hp} (e : x = y) (h : P y H) : P x H := by
  rw [e]
  exact h
theorem mulB {x y a b : Int} (x0 : 0 ≤ x) (x1 : x ≤ a) (y0 : 0 ≤ y) (y1 : y ≤ b) : 0 ≤ x * y ∧ x * y ≤ a * b := ⟨Int.mul_nonneg x0 y0, Int.mul_le_mul x1 y1 y0 (Int.le_trans x0 x1)⟩
end Lr

set_option exponentiation.threshold 5000
namespace Lr
/-! forms that are read on, turn by turn -/
def T3.go (t : T3) (b : Bool) : T3 := if b then ⟨t.x, 2 * t.x + t.y, t.x + t.y + t.z⟩ else ⟨t.x + t.y + t.z, t.y + 2 * t.z, t.z⟩
def T3.act (t : T3) (m : M4) : T3 := ⟨t.x * m.a * m.a + t.y * m.a * m.c + t.z * m.c * m.c, 2 * t.x * m.a * m.b + t.y * (m.a * m.d + m.b * m.c) + 2 * t.z * m.c * m.d, t.x * m.b * m.b + t.y * m.b * m.d + t.z * m.d * m.d⟩
def T3.gos (t : T3) (w : List Bool) : T3 := w.foldl T3.go t
theorem act_one (t : T3) : t.act M4.one = t := by
  obtain ⟨x, y, z⟩ := t
  simp only [T3.act, M4.one]
  congr 1 <;> grind
theorem act_mul (t : T3) (m n : M4) : t.act (m.mul n) = (t.act m).act n := by
  obtain ⟨x, y, z⟩ := t
  simp only [T3.act, M4.mul]
  congr 1 <;> grind
theorem act_turn (t : T3) (b : Bool) : t.act (mat [b]) = t.go b := by
  obtain ⟨x, y, z⟩ := t
  cases b
  · rw [mat_L]
    simp only [T3.act, T3.go, Bool.false_eq_true, if_false]
    congr 1 <;> grind
  · rw [mat_R]
    simp only [T3.act, T3.go, if_true]
    congr 1 <;> grind
theorem gos_snoc (t : T3) (w : List Bool) (b : Bool) : t.gos (w ++ [b]) = (t.gos w).go b := by
  unfold T3.gos
  rw [List.foldl_append]
  rfl
theorem gos_act (t : T3) (w : List Bool) : t.gos w = t.act (mat w) := by
  induction w using snoc_ind with
  | h0 => exact (act_one t).symm
  | h1 w b ih => rw [gos_snoc, ih, mat_app, act_mul, act_turn]
theorem gos_app (t : T3) (u v : List Bool) : t.gos (u ++ v) = (t.gos u).gos v := by
  unfold T3.gos
  rw [List.foldl_append]
theorem act_disc (t : T3) (m : M4) (h : m.det = 1) : (t.act m).disc = t.disc := by
  obtain ⟨x, y, z⟩ := t
  unfold M4.det at h
  simp only [T3.act, T3.disc]
  grind
theorem gos_disc (t : T3) (w : List Bool) : (t.gos w).disc = t.disc := by rw [gos_act, act_disc _ _ (mat_det w)]
theorem go_disc (t : T3) (b : Bool) : (t.go b).disc = t.disc := by
  have h := gos_disc t [b]
  exact h
/-- what a map of size 1 leaves a form, is its own form but for a factor -/
theorem act_fix {t : T3} {m : M4} (h : m.det = 1) (e : t.act m = t) : m.tr3.sc t.x = t.sc m.c := by
  obtain ⟨x, y, z⟩ := t
  obtain ⟨p, q, r, s⟩ := m
  unfold M4.det at h
  simp only [T3.act, T3.mk.injEq] at e
  obtain ⟨e1, e2, e3⟩ := e
  simp only [T3.sc, M4.tr3]
  congr 1 <;> grind
theorem act_own {m : M4} (h : m.det = 1) : m.tr3.act m = m.tr3 := by
  obtain ⟨p, q, r, s⟩ := m
  unfold M4.det at h
  simp only [T3.act, M4.tr3]
  congr 1 <;> grind
theorem act_sc (k : Int) (t : T3) (m : M4) : (t.sc k).act m = (t.act m).sc k := by
  obtain ⟨x, y, z⟩ := t
  simp only [T3.act, T3.sc]
  congr 1 <;> grind
theorem sc_inj {k : Int} (hk : k ≠ 0) {s t : T3} (h : s.sc k = t.sc k) : s = t := by
  obtain ⟨x, y, z⟩ := s
  obtain ⟨u, v, w⟩ := t
  simp only [T3.sc, T3.mk.injEq] at h
  obtain ⟨h1, h2, h3⟩ := h
  rw [Int.mul_eq_mul_left_iff hk] at h1 h2 h3
  rw [h1, h2, h3]
theorem act_keep {t : T3} {m : M4} (h : m.det = 1) {k l : Int} (hl : l ≠ 0) (e : m.tr3.sc k = t.sc l) : t.act m = t := by
  have z := act_own h
  have y : (t.act m).sc l = t.sc l := by rw [← act_sc, ← e, act_sc, z]
  exact sc_inj hl y
/-- a map again and again -/
def M4.pw (m : M4) : Nat → M4
  | 0 => M4.one
  | n + 1 => (M4.pw m n).mul m
theorem mat_rep (u : List Bool) (n : Nat) : mat (repR u n) = (mat u).pw n := by
  induction n with
  | zero => rfl
  | succ n ih =>
    have e : repR u (n + 1) = repR u n ++ u := by
      unfold repR
      rw [List.replicate_succ', List.flatten_append]
      simp
    rw [e, mat_app, ih]
    rfl
theorem pw_lin {m : M4} (h : m.det = 1) (n : Nat) : ∃ α β : Int, m.pw n = ⟨α * m.a + β, α * m.b, α * m.c, α * m.d + β⟩ := by
  induction n with
  | zero => exact ⟨0, 1, by simp [M4.pw, M4.one]⟩
  | succ n ih =>
    obtain ⟨α, β, e⟩ := ih
    refine ⟨α * m.tra + β, -α, ?_⟩
    show (m.pw n).mul m = _
    rw [e]
    unfold M4.det at h
    simp only [M4.mul, M4.tra]
    congr 1 <;> grind
theorem pw_tr3 {m : M4} (h : m.det = 1) (n : Nat) : ∃ α : Int, (m.pw n).tr3 = m.tr3.sc α := by
  obtain ⟨α, β, e⟩ := pw_lin h n
  refine ⟨α, ?_⟩
  rw [e]
  simp only [M4.tr3, T3.sc]
  congr 1 <;> grind
/-- a form that is met -/
structure Met (D : Int) (t : T3) : Prop where
  x : 0 < t.x
  z : t.z < 0
  d : t.disc = D
def T3.at1 (t : T3) : Int := t.x + t.y + t.z
def T3.nx (t : T3) : Bool := decide (t.at1 < 0)
def T3.st (t : T3) : T3 := t.go t.nx
theorem Met.ne {D : Int} {t : T3} (h : Met D t) (ns : ∀ s : Int, s * s ≠ D) : t.at1 ≠ 0 := fun e => by
  have hd := h.d
  unfold T3.disc at hd
  unfold T3.at1 at e
  refine ns (t.x - t.z) ?_
  grind
theorem Met.step {D : Int} {t : T3} (h : Met D t) (ns : ∀ s : Int, s * s ≠ D) : Met D t.st := by
  have n := h.ne ns
  have hx := h.x
  have hz := h.z
  refine ⟨?_, ?_, by unfold T3.st; rw [go_disc, h.d]⟩
  · unfold T3.st T3.nx T3.go
    by_cases c : t.at1 < 0
    · rw [decide_eq_true c]
      exact hx
    · rw [decide_eq_false c]
      show 0 < t.x + t.y + t.z
      unfold T3.at1 at c n
      omega
  · unfold T3.st T3.nx T3.go
    by_cases c : t.at1 < 0
    · rw [decide_eq_true c]
      show t.x + t.y + t.z < 0
      exact c
    · rw [decide_eq_false c]
      exact hz
theorem Met.inj {D : Int} {s t : T3} (hs : Met D s) (ht : Met D t) (e : s.st = t.st) : s = t := by
  have key : ∀ {t : T3}, Met D t → (t.nx = true → t.st.x - t.st.y + t.st.z < 0) ∧ (t.nx = false → 0 < t.st.x - t.st.y + t.st.z) := fun {t} h => by
    have hx := h.x
    have hz := h.z
    unfold T3.st
    constructor
    · intro c
      rw [c]
      show t.x - (2 * t.x + t.y) + (t.x + t.y + t.z) < 0
      omega
    · intro c
      rw [c]
      show 0 < t.x + t.y + t.z - (t.y + 2 * t.z) + t.z
      omega
  obtain ⟨s1, s2⟩ := key hs
  obtain ⟨t1, t2⟩ := key ht
  have en : s.nx = t.nx := by
    cases a : s.nx <;> cases b : t.nx
    · rfl
    · have := s2 a
      have := t1 b
      rw [e] at *
      omega
    · have := s1 a
      have := t2 b
      rw [e] at *
      omega
    · rfl
  unfold T3.st at e
  rw [en] at e
  obtain ⟨a, b, c⟩ := s
  obtain ⟨a', b', c'⟩ := t
  cases z : T3.nx ⟨a', b', c'⟩ <;> rw [z] at e <;> simp only [T3.go, Bool.false_eq_true, if_true, if_false, T3.mk.injEq] at e <;> obtain ⟨e1, e2, e3⟩ := e <;> congr 1 <;> omega
/-- the turns that are met, and the form behind them -/
def T3.way (t : T3) : Nat → List Bool
  | 0 => []
  | n + 1 => t.way n ++ [(t.gos (t.way n)).nx]
theorem way_len (t : T3) (n : Nat) : (t.way n).length = n := by
  induction n with
  | zero => rfl
  | succ n ih =>
    show (t.way n ++ [_]).length = _
    rw [List.length_append, ih]
    rfl
theorem way_st (t : T3) (n : Nat) : t.gos (t.way (n + 1)) = (t.gos (t.way n)).st := by
  show t.gos (t.way n ++ [_]) = _
  rw [gos_snoc]
  rfl
theorem way_take (t : T3) {j n : Nat} (h : j ≤ n) : (t.way n).take j = t.way j := by
  induction n with
  | zero =>
    have : j = 0 := by omega
    subst this
    rfl
  | succ n ih =>
    show (t.way n ++ [_]).take j = _
    by_cases c : j ≤ n
    · rw [List.take_append_of_le_length (by rw [way_len]; exact c), ih c]
    · have : j = n + 1 := by omega
      subst this
      rw [List.take_of_length_le (by rw [List.length_append, way_len]; simp)]
      rfl
theorem way_met {D : Int} {t : T3} (h : Met D t) (ns : ∀ s : Int, s * s ≠ D) (n : Nat) : Met D (t.gos (t.way n)) := by
  induction n with
  | zero => exact h
  | succ n ih =>
    rw [way_st]
    exact ih.step ns
theorem way_back {D : Int} {t : T3} (h : Met D t) (ns : ∀ s : Int, s * s ≠ D) {i k : Nat} (e : t.gos (t.way (i + k)) = t.gos (t.way i)) : t.gos (t.way k) = t := by
  induction i with
  | zero =>
    rw [Nat.zero_add] at e
    exact e
  | succ i ih =>
    refine ih ((way_met h ns _).inj (way_met h ns _) ?_)
    rw [← way_st, ← way_st, ← e]
    congr 2
    omega
end Lr

set_option exponentiation.threshold 5000
namespace Lr
/-! forms come again: there are but so many -/
def fcode (S : Nat) (t : T3) : Nat := ((t.y + S).toNat * 2 + (if t.x ≤ -t.z then 0 else 1)) * (S + 1) + (if t.x ≤ -t.z then t.x else -t.z).toNat
theorem Met.bds {D : Int} {t : T3} {S : Nat} (h : Met D t) (hS : D < (S + 1) * (S + 1)) : -(S : Int) ≤ t.y ∧ t.y ≤ S ∧ (if t.x ≤ -t.z then t.x else -t.z) ≤ S ∧ 0 < (if t.x ≤ -t.z then t.x else -t.z) := by
  have hx := h.x
  have hz := h.z
  have hd := h.d
  unfold T3.disc at hd
  have p : 0 < t.x * (-t.z) := Int.mul_pos hx (by omega)
  have ey : t.y * t.y = D - 4 * (t.x * (-t.z)) := by grind
  have y1 : ¬ (S + 1 : Int) ≤ t.y := fun c => by
    have := Int.mul_le_mul c c (by omega) (by omega)
    omega
  have y2 : ¬ t.y ≤ -(S + 1 : Int) := fun c => by
    have c : (S + 1 : Int) ≤ -t.y := by omega
    have := Int.mul_le_mul c c (by omega) (by omega)
    rw [Int.neg_mul_neg] at this
    omega
  refine ⟨by omega, by omega, ?_, by split <;> omega⟩
  have yy : 0 ≤ t.y * t.y := by
    rcases Int.le_total 0 t.y with c | c
    · exact Int.mul_nonneg c c
    · rw [← Int.neg_mul_neg]
      exact Int.mul_nonneg (by omega) (by omega)
  refine Int.not_lt.mp fun c => ?_
  have a1 : (S + 1 : Int) ≤ t.x := by split at c <;> omega
  have a2 : (S + 1 : Int) ≤ -t.z := by split at c <;> omega
  have := Int.mul_le_mul a1 a2 (by omega) (by omega)
  omega
theorem Met.code_lt {D : Int} {t : T3} {S : Nat} (h : Met D t) (hS : D < (S + 1) * (S + 1)) : fcode S t < (2 * S + 1) * 2 * (S + 1) := by
  obtain ⟨y1, y2, m1, m2⟩ := h.bds hS
  unfold fcode
  generalize (if t.x ≤ -t.z then t.x else -t.z) = m at m1 m2
  have e : (t.y + S).toNat ≤ 2 * S := by omega
  have e2 : (if t.x ≤ -t.z then 0 else 1 : Nat) ≤ 1 := by split <;> omega
  have e3 : m.toNat < S + 1 := by omega
  have : ((t.y + S).toNat * 2 + (if t.x ≤ -t.z then 0 else 1)) * (S + 1) ≤ (4 * S + 1) * (S + 1) := Nat.mul_le_mul_right _ (by omega)
  have : (2 * S + 1) * 2 * (S + 1) = (4 * S + 1) * (S + 1) + (S + 1) := by grind
  omega
theorem Met.code_inj {D : Int} {s t : T3} {S : Nat} (hs : Met D s) (ht : Met D t) (hS : D < (S + 1) * (S + 1)) (e : fcode S s = fcode S t) : s = t := by
  obtain ⟨y1, y2, m1, m2⟩ := hs.bds hS
  obtain ⟨y3, y4, m3, m4⟩ := ht.bds hS
  have ds := hs.d
  have dt := ht.d
  have sx := hs.x
  have tx := ht.x
  have sz := hs.z
  have tz := ht.z
  unfold fcode at e
  unfold T3.disc at ds dt
  have lo : ∀ {a b c d : Nat}, c < S + 1 → d < S + 1 → a * (S + 1) + c = b * (S + 1) + d → a = b ∧ c = d := fun {a b c d} h1 h2 h => by
    have z1 : (a * (S + 1) + c) / (S + 1) = a := by rw [Nat.mul_comm, Nat.mul_add_div (by omega), Nat.div_eq_of_lt h1, Nat.add_zero]
    have z2 : (b * (S + 1) + d) / (S + 1) = b := by rw [Nat.mul_comm, Nat.mul_add_div (by omega), Nat.div_eq_of_lt h2, Nat.add_zero]
    have : a = b := by rw [← z1, ← z2, h]
    subst this
    exact ⟨rfl, by omega⟩
  obtain ⟨e1, e2⟩ := lo (by omega) (by omega) e
  have ey : s.y = t.y := by
    split at e1 <;> split at e1 <;> omega
  have exz : s.x * s.z = t.x * t.z := by rw [ey] at ds; grind
  have goal : s.x = t.x ∧ s.z = t.z := by
    by_cases c : s.x ≤ -s.z
    · have c' : t.x ≤ -t.z := by
        rw [if_pos c] at e1
        split at e1
        · assumption
        · omega
      rw [if_pos c, if_pos c'] at e2
      rw [if_pos c] at m2
      rw [if_pos c'] at m4
      have : s.x = t.x := by omega
      rw [this] at exz
      exact ⟨this, (Int.mul_eq_mul_left_iff (by omega)).mp exz⟩
    · have c' : ¬ t.x ≤ -t.z := by
        rw [if_neg c] at e1
        split at e1
        · omega
        · assumption
      rw [if_neg c, if_neg c'] at e2
      have : s.z = t.z := by omega
      rw [this] at exz
      exact ⟨(Int.mul_eq_mul_right_iff (by omega)).mp exz, this⟩
  obtain ⟨a, b, c⟩ := s
  obtain ⟨a', b', c'⟩ := t
  simp only at goal ey
  rw [goal.1, goal.2, ey]
/-- the first time that a form comes again -/
structure Ret (t : T3) (n : Nat) : Prop where
  pos : 1 ≤ n
  eq : t.gos (t.way n) = t
  no : ∀ k, 1 ≤ k → k < n → t.gos (t.way k) ≠ t
theorem ret_ex {D : Int} {t : T3} {S : Nat} (h : Met D t) (ns : ∀ s : Int, s * s ≠ D) (hS : D < (S + 1) * (S + 1)) : ∃ n, n ≤ (2 * S + 1) * 2 * (S + 1) ∧ Ret t n := by
  generalize hB : (2 * S + 1) * 2 * (S + 1) = B
  have ex : ∃ n, 1 ≤ n ∧ n ≤ B ∧ t.gos (t.way n) = t := by
    refine Classical.byContradiction fun no => ?_
    have nd : ((List.range (B + 1)).map fun i => fcode S (t.gos (t.way i))).Nodup := by
      rw [List.Nodup, List.pairwise_map]
      refine List.pairwise_lt_range.imp_of_mem fun {a b} ha hb lt ne => no ?_
      have z := (way_met h ns a).code_inj (way_met h ns b) hS ne
      refine ⟨b - a, by omega, by have := List.mem_range.mp hb; omega, way_back h ns (i := a) ?_⟩
      rw [show a + (b - a) = b by omega]
      exact z.symm
    have z := List.Nodup.length_le_of_subset nd (l₂ := List.range B) (fun x hx => by
      obtain ⟨k, hk, rfl⟩ := List.mem_map.mp hx
      have := (way_met h ns k).code_lt hS
      exact List.mem_range.mpr (by omega))
    rw [List.length_map, List.length_range, List.length_range] at z
    omega
  obtain ⟨n, ⟨n1, nB, e⟩, mn⟩ := first_ex (p := fun n => 1 ≤ n ∧ n ≤ B ∧ t.gos (t.way n) = t) ex
  exact ⟨n, nB, n1, e, fun k k1 kn z => mn k kn ⟨k1, by omega, z⟩⟩
theorem Ret.ne {t : T3} {n : Nat} (h : Ret t n) : t.way n ≠ [] := fun z => by
  have e := way_len t n
  rw [z] at e
  have := h.pos
  have : (0 : Nat) = n := e
  omega
theorem Ret.both {D : Int} {t : T3} {n : Nat} (m : Met D t) (h : Ret t n) : Both (t.way n) := by
  have e := act_fix (mat_det (t.way n)) (by rw [← gos_act]; exact h.eq)
  have hx := m.x
  have hz := m.z
  obtain ⟨g1, g2, g3, g4⟩ := mat_ge (t.way n)
  simp only [T3.sc, M4.tr3, T3.mk.injEq] at e
  obtain ⟨e1, e2, e3⟩ := e
  have one : false ∈ t.way n ∨ true ∈ t.way n := by
    cases c : t.way n with
    | nil => exact absurd c h.ne
    | cons b r =>
      cases b
      · exact .inl List.mem_cons_self
      · exact .inr List.mem_cons_self
  have f1 : false ∈ t.way n → true ∈ t.way n := fun f => Classical.byContradiction fun c => by
    have hc := g4 f
    have hb : (mat (t.way n)).b = 0 := by
      have : ∀ w : List Bool, ¬ true ∈ w → (mat w).b = 0 := by
        intro w
        induction w using snoc_ind with
        | h0 => intro _; rfl
        | h1 w b ih =>
          intro hn
          rw [mat_snoc]
          cases b
          · exact ih fun z => hn (List.mem_append_left _ z)
          · exact absurd (List.mem_append_right _ List.mem_cons_self) hn
      exact this _ c
    rw [hb] at e3
    have : (mat (t.way n)).c * t.z = 0 := by omega
    rcases Int.mul_eq_zero.mp this with z | z <;> omega
  have f2 : true ∈ t.way n → false ∈ t.way n := fun f => Classical.byContradiction fun c => by
    have hb := g3 f
    have hc : (mat (t.way n)).c = 0 := by
      have : ∀ w : List Bool, ¬ false ∈ w → (mat w).c = 0 := by
        intro w
        induction w using snoc_ind with
        | h0 => intro _; rfl
        | h1 w b ih =>
          intro hn
          rw [mat_snoc]
          cases b
          · exact absurd (List.mem_append_right _ List.mem_cons_self) hn
          · exact ih fun z => hn (List.mem_append_left _ z)
      exact this _ c
    rw [hc, Int.zero_mul] at e3
    rcases Int.mul_eq_zero.mp e3 with z | z <;> omega
  rcases one with z | z
  · exact ⟨z, f1 z⟩
  · exact ⟨f2 z, z⟩
theorem Ret.prim {D : Int} {t : T3} {n : Nat} (m : Met D t) (h : Ret t n) : Prim (t.way n) := by
  refine ⟨h.ne, fun k k1 kl hp => ?_⟩
  rw [way_len] at kl
  obtain ⟨p, hl⟩ := least_ex h.ne
  have pk : p ≤ k := Nat.not_lt.mp fun z => hl.2.2.2 k k1 z hp
  have e := (per_rep hl.1 hl.2.1).mpr ⟨hl.2.2.1, hl.dvd⟩
  rw [way_take t (by omega)] at e
  have b := h.both m
  have c1 := (mat_ge (t.way n)).2.2.2 b.1
  have f := act_fix (mat_det (t.way n)) (by rw [← gos_act]; exact h.eq)
  obtain ⟨α, hα⟩ := pw_tr3 (mat_det (t.way p)) ((t.way n).length / p)
  rw [← mat_rep, e] at hα
  rw [hα, sc_sc] at f
  refine h.no p hl.1 (by omega) ?_
  rw [gos_act]
  exact act_keep (mat_det _) (by omega) f
def T3.lw (t : T3) : T3 := ⟨t.x / (gl t.l : Int), t.y / (gl t.l : Int), t.z / (gl t.l : Int)⟩
theorem lw_l (t : T3) : t.lw.l = lowl t.l := rfl
theorem lw_nsq {t : T3} (h : 0 < t.x) : Nsq t t.lw := by
  have z := nsq_div (t := t) (s := 1) (by omega) (.inl ⟨rfl, h⟩)
  simp only [Int.one_mul] at z
  exact z
theorem Ret.nsq {D : Int} {t : T3} {n : Nat} (m : Met D t) (h : Ret t n) : Nsq (arnd [] (t.way n)).tr3 t.lw := by
  have e : arnd [] (t.way n) = mat (t.way n) := by
    show ((M4.one.mul (mat (t.way n))).mul M4.one.adj) = _
    rw [M4.one_mul]
    show (mat (t.way n)).mul M4.one = _
    exact M4.mul_one _
  have b := h.both m
  have c1 := (mat_ge (t.way n)).2.2.2 b.1
  have f := act_fix (mat_det (t.way n)) (by rw [← gos_act]; exact h.eq)
  rw [e]
  have own : (mat (t.way n)).tr3.x ≠ 0 := by
    show (mat (t.way n)).c ≠ 0
    omega
  have hx := m.x
  have d := nsq_div (t := (mat (t.way n)).tr3) (s := 1) own (.inl ⟨rfl, by show 0 < (mat (t.way n)).c; omega⟩)
  have d1 := d.scale (k := t.x) (by omega)
  have d2 := (lw_nsq hx).scale (k := (mat (t.way n)).c) (by omega)
  rw [f] at d1
  rw [← d1.eq d2]
  exact d
end Lr

set_option exponentiation.threshold 5000
namespace Lr
/-! how many forms of a number to 18000 there are at most -/
def dvs (n : Nat) : List Nat := (List.range 68).filter fun k => k != 0 && n % k == 0
theorem dvs_all : (List.range 4501).all (fun n => n == 0 || Nat.ble (dvs n).length 27) = true := by decide +kernel
theorem dvs_len {n : Nat} (h0 : 0 < n) (h : n ≤ 4500) : (dvs n).length ≤ 27 := by
  have z := List.all_eq_true.mp dvs_all n (List.mem_range.mpr (by omega))
  rcases Bool.or_eq_true_iff.mp z with y | y
  · have : n = 0 := by simpa using y
    omega
  · exact Nat.le_of_ble_eq_true y
def fcs (D : Int) : List (Nat × Nat × Nat) := (List.range 269).flatMap fun (i : Nat) => if (D - ((i : Int) - 134) * ((i : Int) - 134)) % 4 = 0 ∧ 0 < D - ((i : Int) - 134) * ((i : Int) - 134) then (dvs ((D - ((i : Int) - 134) * ((i : Int) - 134)) / 4).toNat).flatMap fun k => [(i, k, 0), (i, k, 1)] else []
theorem sum_le {α : Type} {f g : α → Nat} : ∀ {l : List α}, (∀ x ∈ l, f x ≤ g x) → (l.map f).sum ≤ (l.map g).sum
  | [], _ => Nat.le_refl _
  | x :: l, h => by
    have a := h x List.mem_cons_self
    have b := sum_le (l := l) fun y hy => h y (List.mem_cons_of_mem _ hy)
    rw [List.map_cons, List.map_cons, List.sum_cons, List.sum_cons]
    exact Nat.add_le_add a b
theorem two_len (l : List Nat) (i : Nat) : (l.flatMap fun k => [(i, k, 0), (i, k, 1)]).length = 2 * l.length := by
  induction l with
  | nil => rfl
  | cons x l ih =>
    rw [List.flatMap_cons, List.length_append, ih]
    simp only [List.length_cons, List.length_nil]
    omega
theorem fcs_len {D : Int} (h : D ≤ 18000) : (fcs D).length ≤ 7290 := by
  unfold fcs
  rw [List.length_flatMap]
  have key : ∀ r : Nat, D % 2 = (r : Nat) → ∀ i ∈ List.range 269, (if (D - ((i : Int) - 134) * ((i : Int) - 134)) % 4 = 0 ∧ 0 < D - ((i : Int) - 134) * ((i : Int) - 134) then (dvs ((D - ((i : Int) - 134) * ((i : Int) - 134)) / 4).toNat).flatMap fun k => [(i, k, 0), (i, k, 1)] else []).length ≤ if i % 2 = r then 54 else 0 := by
    intro r hr i hi
    by_cases c : (D - ((i : Int) - 134) * ((i : Int) - 134)) % 4 = 0 ∧ 0 < D - ((i : Int) - 134) * ((i : Int) - 134)
    · rw [if_pos c, two_len]
      obtain ⟨c1, c2⟩ := c
      have sq : 0 ≤ ((i : Int) - 134) * ((i : Int) - 134) := by
        rcases Int.le_total 0 ((i : Int) - 134) with c | c
        · exact Int.mul_nonneg c c
        · rw [← Int.neg_mul_neg]
          exact Int.mul_nonneg (by omega) (by omega)
      have par : (((i : Int) - 134) * ((i : Int) - 134)) % 2 = (i : Int) % 2 := by
        rcases Int.emod_two_eq i with z | z
        · obtain ⟨j, hj⟩ : ∃ j, (i : Int) - 134 = 2 * j := ⟨((i : Int) - 134) / 2, by omega⟩
          rw [hj, Int.mul_assoc, Int.mul_emod_right]
          omega
        · obtain ⟨j, hj⟩ : ∃ j, (i : Int) - 134 = 2 * j + 1 := ⟨((i : Int) - 134) / 2, by omega⟩
          rw [hj]
          have : (2 * j + 1) * (2 * j + 1) = 2 * (j * (2 * j) + 2 * j) + 1 := by grind
          omega
      generalize ((i : Int) - 134) * ((i : Int) - 134) = y at *
      rw [if_pos (by omega)]
      have := dvs_len (n := ((D - y) / 4).toNat) (by omega) (by omega)
      omega
    · rw [if_neg c]
      exact Nat.zero_le _
  rcases Int.emod_two_eq D with z | z
  · refine Nat.le_trans (sum_le (key 0 z)) ?_
    decide +kernel
  · refine Nat.le_trans (sum_le (key 1 z)) ?_
    decide +kernel
def fcode2 (t : T3) : Nat × Nat × Nat := ((t.y + 134).toNat, (if t.x ≤ -t.z then t.x else -t.z).toNat, if t.x ≤ -t.z then 0 else 1)
theorem Met.code2 {D : Int} {t : T3} (h : Met D t) (hD : D ≤ 18000) : fcode2 t ∈ fcs D := by
  obtain ⟨y1, y2, m1, m2⟩ := h.bds (S := 134) (by omega)
  have hx := h.x
  have hz := h.z
  have hd := h.d
  unfold T3.disc at hd
  have p : 0 < t.x * (-t.z) := Int.mul_pos hx (by omega)
  have mul_le : (if t.x ≤ -t.z then t.x else -t.z) * (if t.x ≤ -t.z then t.x else -t.z) ≤ t.x * (-t.z) := by
    split
    · exact Int.mul_le_mul_of_nonneg_left (by assumption) (by omega)
    · exact Int.mul_le_mul_of_nonneg_right (by omega) (by omega)
  have e4 : D - t.y * t.y = 4 * (t.x * (-t.z)) := by grind
  have yy : 0 ≤ t.y * t.y := by
    rcases Int.le_total 0 t.y with c | c
    · exact Int.mul_nonneg c c
    · rw [← Int.neg_mul_neg]
      exact Int.mul_nonneg (by omega) (by omega)
  have m67 : (if t.x ≤ -t.z then t.x else -t.z) ≤ 67 := by
    generalize (if t.x ≤ -t.z then t.x else -t.z) = m at *
    refine Int.not_lt.mp fun c => ?_
    have := Int.mul_le_mul (show (68 : Int) ≤ m by omega) (show (68 : Int) ≤ m by omega) (by omega) (by omega)
    omega
  have dv : ∃ k : Nat, (t.x * (-t.z)) = (if t.x ≤ -t.z then t.x else -t.z) * (k : Int) := by
    split
    · exact ⟨(-t.z).toNat, by rw [Int.toNat_of_nonneg (by omega)]⟩
    · exact ⟨t.x.toNat, by rw [Int.toNat_of_nonneg (by omega), Int.mul_comm]⟩
  have ei : (((t.y + 134).toNat : Nat) : Int) - 134 = t.y := by omega
  unfold fcs fcode2
  refine List.mem_flatMap.mpr ⟨(t.y + 134).toNat, List.mem_range.mpr (by omega), ?_⟩
  rw [ei, if_pos ⟨by omega, by omega⟩]
  have e5 : ((D - t.y * t.y) / 4).toNat = (t.x * (-t.z)).toNat := by omega
  rw [e5]
  generalize (if t.x ≤ -t.z then t.x else -t.z) = m at *
  obtain ⟨k, hk⟩ := dv
  refine List.mem_flatMap.mpr ⟨m.toNat, ?_, ?_⟩
  · unfold dvs
    refine List.mem_filter.mpr ⟨List.mem_range.mpr (by omega), ?_⟩
    have en : (t.x * (-t.z)).toNat = m.toNat * k := by
      rw [hk]
      obtain ⟨j, ej⟩ : ∃ j : Nat, m = (j : Int) := ⟨m.toNat, by omega⟩
      rw [ej, ← Int.natCast_mul, Int.toNat_natCast, Int.toNat_natCast]
    rw [en, Nat.mul_mod_right]
    have : (m.toNat != 0) = true := by
      have : m.toNat ≠ 0 := by omega
      simpa using this
    rw [this]
    rfl
  · split
    · exact List.mem_cons_self
    · exact List.mem_cons_of_mem _ List.mem_cons_self
theorem Met.code2_inj {D : Int} {s t : T3} (hs : Met D s) (ht : Met D t) (hD : D ≤ 18000) (e : fcode2 s = fcode2 t) : s = t := by
  refine hs.code_inj ht (S := 134) (by omega) ?_
  obtain ⟨y1, y2, m1, m2⟩ := hs.bds (S := 134) (by omega)
  obtain ⟨y3, y4, m3, m4⟩ := ht.bds (S := 134) (by omega)
  unfold fcode2 at e
  simp only [Prod.mk.injEq] at e
  obtain ⟨e1, e2, e3⟩ := e
  unfold fcode
  rw [e2, e3]
  have : (s.y + (134 : Nat)).toNat = (t.y + (134 : Nat)).toNat := by omega
  rw [this]
theorem ret_ex2 {D : Int} {t : T3} (h : Met D t) (ns : ∀ s : Int, s * s ≠ D) (hD : D ≤ 18000) : ∃ n, n ≤ 7290 ∧ Ret t n := by
  have ex : ∃ n, 1 ≤ n ∧ n ≤ 7290 ∧ t.gos (t.way n) = t := by
    refine Classical.byContradiction fun no => ?_
    have nd : ((List.range 7291).map fun i => fcode2 (t.gos (t.way i))).Nodup := by
      rw [List.Nodup, List.pairwise_map]
      refine List.pairwise_lt_range.imp_of_mem fun {a b} ha hb lt ne => no ?_
      have z := (way_met h ns a).code2_inj (way_met h ns b) hD ne
      refine ⟨b - a, by omega, by have := List.mem_range.mp hb; omega, way_back h ns (i := a) ?_⟩
      rw [show a + (b - a) = b by omega]
      exact z.symm
    have z := List.Nodup.length_le_of_subset nd (l₂ := fcs D) (fun x hx => by
      obtain ⟨k, hk, rfl⟩ := List.mem_map.mp hx
      exact (way_met h ns k).code2 hD)
    have := fcs_len hD
    rw [List.length_map, List.length_range] at z
    omega
  obtain ⟨n, ⟨n1, nB, e⟩, mn⟩ := first_ex (p := fun n => 1 ≤ n ∧ n ≤ 7290 ∧ t.gos (t.way n) = t) ex
  exact ⟨n, nB, n1, e, fun k k1 kn z => mn k kn ⟨k1, by omega, z⟩⟩
end Lr

namespace Lr
open PySem PySem.Spec PyProof.Rows L2
/-! errors: raised, caught and kept, asked for their class and value -/
/-- a caught error at a: of the class at C, its own dict at d -/
def ExV (C d a : Addr) : HO := .ext fun h => ∃ (oe : Obj) (vs : Array Value), h.get? a = some oe ∧ Zc (.ref C) (some d) oe ∧ oe.data = .fields vs
theorem exV_ok {P : Program} {w : World} {H : Hp} {h : Heap} {C d a : Addr} {oe : Obj} {vs : Array Value} (e : h.get? a = some oe) (z : Zc (.ref C) (some d) oe) (f : oe.data = .fields vs) : ObjOk P w H h a (ExV C d a) :=
  ⟨⟨oe, vs, e, z, f⟩, ⟨oe, e⟩, fun _ _ ⟨o, v, y, r⟩ k => ⟨o, v, k o y, r⟩⟩
theorem exV_at {P : Program} {w : World} {H : Hp} {h : Heap} {C d a : Addr} (hok : HOk P w H h) (e : H a = some (ExV C d a)) : ∃ (oe : Obj) (vs : Array Value), h.get? a = some oe ∧ Zc (.ref C) (some d) oe ∧ oe.data = .fields vs := by
  have x : ObjOk P w H h a (ExV C d a) := hok a _ e
  exact x.1
section
variable {X : Cx} {pins : List (Addr × Obj)} {σ : L2.St} {H : Hp} {s : Shared}
/-- an object that stands, is no frame's, and was not there at the entry, may be tracked as a caught error -/
theorem trackE {C d a : Addr} {oe : Obj} {vs : Array Value} (I : Inv X pins σ H s) (e : s.heap.get? a = some oe) (z : Zc (.ref C) (some d) oe) (f : oe.data = .fields vs) (na : H a = none) (n0 : X.s_0.heap.get? a = none)
    (nl : a ≠ X.env.locals) (np : ∀ p ∈ X.pn ++ pins, p.1 ≠ a) : Inv X pins σ (upd H a (ExV C d a)) s := by
  have nn : ∀ {b : Addr} {o : HO}, H b = some o → b ≠ a := fun {b o} q y => by
    rw [y, na] at q
    cases q
  refine ⟨I.ok, I.os, I.bare, ⟨I.base.keep, I.base.slot, fun b o y1 y2 y3 => ?_, I.base.there, fun b xs y => ?_, fun b o u y => ?_, fun b ps y => ?_⟩, I.loc, I.cell, ?_, fun x c y => ?_, fun p hp => ?_, fun b o y => ?_, I.len⟩
  · rw [upd_ne (fun y => by rw [y, n0] at y1; cases y1)]
    exact I.base.free b o y1 y2 y3
  · have q := I.base.tups b xs y
    rw [upd_ne (nn q)]
    exact q
  · have q := I.base.frzs b o u y
    rw [upd_ne (nn q)]
    exact q
  · obtain ⟨m, q⟩ := I.base.tbls b ps y
    exact ⟨m, by rw [upd_ne (nn q)]; exact q⟩
  · rw [upd_ne (Ne.symm nl)]
    exact I.free
  · have nc : c ≠ a := fun q => by
      obtain ⟨v, o, y1, y2⟩ := I.cell x c y
      rw [q, e] at y1
      cases y1
      rw [f] at y2
      cases y2
    rw [upd_ne nc]
    exact I.freeC x c y
  · obtain ⟨y1, y2, y3⟩ := I.pin p hp
    exact ⟨y1, by rw [upd_ne (np p hp)]; exact y2, y3⟩
  · by_cases q : b = a
    · subst q
      rw [upd_same] at y
      cases y
      exact exV_ok e z f
    · rw [upd_ne q] at y
      refine (I.hok b o y).stay (fun c u _ r => r) (fun c r => ?_) fun c xs r => ?_
      · rw [upd_ne (nn r)]
        exact r
      · rw [upd_ne (nn r)]
        exact r
end
/-- what 'except x as n: n is kept' wishes of an error of the body; slot i is n's -/
def wAsK (K : PySem.W.Frag) (c : Value) (i : Nat) (ts : Addr → Value → Option Addr → TS) (D : Ends) : WX := fun cls d σ H =>
  PySem.W.exmOne K cls c = some true ∧ ∃ C dd : Addr, cls = .ref C ∧ d = some dd ∧ ∀ a, H a = none →
    ts a cls d { nx := fun σ' H' => D.nx (σ'.set i none) (upd H' a (ExV C dd a)), rt := fun _ _ => False, bk := fun _ _ => False, ct := fun _ _ => False } (σ.set i (some (.ref a))) H
section
variable {X : Cx} {x n : Str} {c : Value} {i : Nat} {body suite : List Stmt} {b₀ : Stmt} {np pos pos' : Pos} {tb : WX → TS} {ts : Addr → Value → Option Addr → TS}
theorem ps_tryK (h1 : X.stack = X.env :: X.outer) (h2 : X.env.frame = some X.env.locals) (h3 : X.ex = []) (nd : X.N.Nodup) (hi : X.N[i]? = some n) (lo : X.env.kindOf n = some .local) (hc : Names X x c)
    (B1 : ∀ (W : WX) (pn : List (Addr × Obj)) (xe : Value → Shared → Prop), Takes (X.tr pn xe) W → PassesOwn (model X.prog X.w) X.A X.env xe → PSs (X.tr pn xe) body (tb W))
    (S1 : ∀ (a : Addr) (oe : Obj) (cls : Value) (d : Option Addr) (pn : List (Addr × Obj)), Zc cls d oe → (∃ vs, oe.data = .fields vs) → PSs (X.suite a ((a, oe) :: pn)) (b₀ :: suite) (ts a cls d)) :
    PS X (.Try body [.ExceptHandler (some (.Name x np)) (some n) (b₀ :: suite) pos'] [] [] pos) (fun D σ H => tb (wAsK X.K c i ts D) D σ H) := by
  constructor
  intro pins s σ H D I h
  have ok := I.ok
  have frames : X.A.frames = some (X.env :: X.outer) := by
    rw [ok.frames, h1]
  refine wpAny_Try_except ?_
  have T0 := B1 (wAsK X.K c i ts D) (X.pn ++ pins) (fun e s₁ => wpAny (model X.prog X.w) X.A (noteFrame e X.env)
    (fun _ s₂ => wpAny (model X.prog X.w) X.A (setFlight e none) (fun _ s₃ => wpAny (model X.prog X.w) X.A
      (handleBy e X.env [.ExceptHandler (some (.Name x np)) (some n) (b₀ :: suite) pos']) (SP X pins D) X.xe s₃) X.xe s₂) X.xe s₁)
    (fun u s' y => ?_) PassesOwn.looking
  · refine wpAny_mono (T0.run [] s σ H D (I.toTry _) h) (fun f s1 y => ?_) fun e s1 y => y
    cases f with
    | next =>
      obtain ⟨σ1, H1, J, q⟩ := y
      exact wpAny_execs_nil ⟨σ1, H1, J.ofTry ok, q⟩
    | brk =>
      obtain ⟨σ1, H1, J, q⟩ := y
      exact ⟨σ1, H1, J.ofTry ok, q⟩
    | cont =>
      obtain ⟨σ1, H1, J, q⟩ := y
      exact ⟨σ1, H1, J.ofTry ok, q⟩
    | ret u =>
      obtain ⟨v, σ1, H1, J, r, q⟩ := y
      exact ⟨v, σ1, H1, J.ofTry ok, r, q⟩
  · obtain ⟨a, B, sI, pins1, σ1, H1, cls, d, eu, J0, nb, up, sky, na, eos, bare, te, C, dd, ecl, ed, yes⟩ := y
    subst eu
    have J : Inv X pins σ1 H1 sI := J0.ofTry ok
    have sky1 : Sky B (X.env :: X.outer) a (Zc cls d) X.env.locals s'.heap := by
      rw [← h1]
      exact sky
    show wpAny (model X.prog X.w) X.A (noteFrame (.ref a) X.env) _ _ _
    refine Sky.land Zc.steady frames h2 sky1 fun h3' fl3 up3 => ?_
    have J3 : Inv X pins σ1 H1 { s' with heap := h3' } := J.landed nb fl3.1 (up.trans up3) eos bare
    obtain ⟨oe3, vs3, he3, hz3, hd3⟩ := fl3.there
    have nfr : a ∉ frs (X.env :: X.outer) := fun hm => by
      obtain ⟨_, o', e', hnf⟩ := fl3.2.2.1.mem hm
      rw [he3] at e'
      cases e'
      exact hnf _ hd3
    have nL : a ≠ X.env.locals := fun q => nfr (List.mem_filterMap.mpr ⟨X.env, List.mem_cons_self, by rw [h2, q]⟩)
    have nF : a ∉ X.fs := fun hm => by
      obtain ⟨e, he, q⟩ := List.mem_filterMap.mp hm
      exact nfr (List.mem_filterMap.mpr ⟨e, List.mem_cons_of_mem _ he, q⟩)
    -- it was not there ahead of the try
    have nI : sI.heap.get? a = none := by
      cases e : sI.heap.get? a with
      | none => rfl
      | some o =>
        have q := nb a o e (by rw [h1]; exact nfr)
        rw [fl3.2.1] at q
        cases q
    have n0 : X.s_0.heap.get? a = none := by
      cases e : X.s_0.heap.get? a with
      | none => rfl
      | some o =>
        obtain ⟨o', q⟩ := I.base.there a o e (by rw [h3]; exact List.not_mem_nil)
        obtain ⟨o2, q2⟩ := J.base.there a o e (by rw [h3]; exact List.not_mem_nil)
        rw [nI] at q2
        cases q2
    have npn : ∀ p ∈ X.pn ++ pins, p.1 ≠ a := fun p hp q => by
      have y := (J.pin p hp).1
      rw [q, nI] at y
      cases y
    have S3 := J3.suite he3 hd3 na nL nF
    refine wpAny_handleBy_cons (codeAny_handlers_test ?_) (by intro q; cases q)
    have LT : PySem.W.Looks (model X.prog X.w) h3' (typeOf (.ref a)) cls := fun A Q E s k q => wpAny_typeOf_ref (k _ _ he3) (by rw [hz3.1]; exact q)
    have LM := PySem.W.exm_one (M := model X.prog X.w) (J3.kIn) LT te
    have test : ∀ {Q : Value → Shared → Prop} {E : Value → Shared → Prop}, Q c { s' with heap := h3' } →
        wpAny (model X.prog X.w) (X.A.mark (some (.ref a))) (eval (.Name x np) X.env) Q E { s' with heap := h3' } := fun {Q E} q => by
      obtain ⟨hg, hdbg, hm | ⟨hm, hv, hnn⟩⟩ := hc
      · exact ld_glob (X := X.suite a ((a, oe3) :: (X.pn ++ pins))) S3 hg hm q hdbg
      · exact ld_blt (X := X.suite a ((a, oe3) :: (X.pn ++ pins))) S3 hg hm hv q hnn hdbg
    refine test (LM.here ?_)
    refine codeAny_handlers_suite_as ?_
    refine HandSPX.lands_againZ fl3 fun h4 fl4 up4 => ?_
    have J4 : Inv X pins σ1 H1 { s' with heap := h4 } := J.landed nb fl4.1 ((up.trans up3).trans up4) eos bare
    obtain ⟨oe4, vs4, he4, hz4, hd4⟩ := fl4.there
    have S4 := J4.suite he4 hd4 na nL nF
    refine store_ok (X := X.suite a ((a, oe4) :: (X.pn ++ pins))) (v := .ref a) S4 nd hi (.inl lo) rfl (fun s5 S5 => ?_) (.inr lo)
    refine wpAny_mono ((S1 a oe4 cls d (X.pn ++ pins) hz4 ⟨_, hd4⟩).run [] s5 _ H1 _ S5 (yes a na)) (fun f s6 y => ?_) (fun _ _ y => False.elim y)
    cases f with
    | next =>
      obtain ⟨σ6, H6, S6, q6⟩ := y
      obtain ⟨g6, n6, _⟩ := S6.pin (a, oe4) (List.mem_append_left _ List.mem_cons_self)
      have U6 := S6.unsuite ok
      have K6 : Inv X pins σ6 (upd H6 a (ExV C dd a)) s6 := trackE U6 g6 (by rw [← ecl, ← ed]; exact hz4) hd4 n6 n0 nL npn
      exact gone_ok K6 nd hi lo fun s7 J7 => ⟨_, _, J7, q6⟩
    | brk =>
      obtain ⟨_, _, _, q6⟩ := y
      exact q6.elim
    | cont =>
      obtain ⟨_, _, _, q6⟩ := y
      exact q6.elim
    | ret u =>
      obtain ⟨_, _, _, _, _, q6⟩ := y
      exact q6.elim
end
/-- what is asked of an error's class where it is looked at -/
structure ErrK (K : PySem.W.Frag) (C : Addr) : Prop where
  no : PySem.W.findIn K (.ref C) "value" = some none
  xf : XfC K C
  cl : (PySem.W.clsIn K C).isSome = true
  ha : PySem.W.findIn K (.ref C) "__class__" = some (some (.builtin "object.__class__"))
  hn : PySem.W.specialIn K (.builtin "object.__class__") "__get__" = some (some (.builtin "getset_descriptor.__get__"))
  ht : PySem.W.takesIn K (.builtin "object.__class__") = some true
  hm : PySem.W.mroIn K C (.type "object") = some true
/-- .. and where it is raised -/
structure ErrC (K : PySem.W.Frag) (mg : Str → Option Value) (x : Str) (C fI : Addr) : Prop extends ErrK K C where
  g : mg x = some (.ref C)
  ni : PySem.W.nsIn K mainGlobals x = some (some (.ref C))
  ox : OexC K C
  ic : PySem.W.findIn K (.ref C) "__init__" = some (some (.ref fI))
  ti : PySem.W.typeIn K (.ref fI) = some (.type "function")
/-- the class of rank r, as isinstance tells it from the others -/
structure Fx (K : PySem.W.Frag) (C : Addr) (r : Nat) : Prop where
  k : ErrK K C
  ve : PySem.W.kitOne K (.ref C) (.type "ValueError") = some true
  re : ∀ c, PySem.W.nsIn K mainGlobals "RoadError" = some (some (.ref c)) → PySem.W.kitOne K (.ref C) (.ref c) = some true
  y0 : ∀ c, PySem.W.nsIn K mainGlobals "InvalidRoad" = some (some (.ref c)) → PySem.W.kitOne K (.ref C) (.ref c) = some (decide (0 = r))
  y1 : ∀ c, PySem.W.nsIn K mainGlobals "InvalidFraction" = some (some (.ref c)) → PySem.W.kitOne K (.ref C) (.ref c) = some (decide (1 = r))
  y2 : ∀ c, PySem.W.nsIn K mainGlobals "InvalidMap" = some (some (.ref c)) → PySem.W.kitOne K (.ref C) (.ref c) = some (decide (2 = r))
  y3 : ∀ c, PySem.W.nsIn K mainGlobals "InvalidMachine" = some (some (.ref c)) → PySem.W.kitOne K (.ref C) (.ref c) = some (decide (3 = r))
  y4 : ∀ c, PySem.W.nsIn K mainGlobals "InvalidSquare" = some (some (.ref c)) → PySem.W.kitOne K (.ref C) (.ref c) = some (decide (4 = r))
  y5 : ∀ c, PySem.W.nsIn K mainGlobals "InvalidNumber" = some (some (.ref c)) → PySem.W.kitOne K (.ref C) (.ref c) = some (decide (5 = r))
  y6 : ∀ c, PySem.W.nsIn K mainGlobals "InvalidTurn" = some (some (.ref c)) → PySem.W.kitOne K (.ref C) (.ref c) = some (decide (6 = r))
  y7 : ∀ c, PySem.W.nsIn K mainGlobals "HasEnded" = some (some (.ref c)) → PySem.W.kitOne K (.ref C) (.ref c) = some (decide (7 = r))
  y8 : ∀ c, PySem.W.nsIn K mainGlobals "NothingToUndo" = some (some (.ref c)) → PySem.W.kitOne K (.ref C) (.ref c) = some (decide (8 = r))
  y9 : ∀ c, PySem.W.nsIn K mainGlobals "Unreadable" = some (some (.ref c)) → PySem.W.kitOne K (.ref C) (.ref c) = some (decide (9 = r))
  y10 : ∀ c, PySem.W.nsIn K mainGlobals "InvalidBook" = some (some (.ref c)) → PySem.W.kitOne K (.ref C) (.ref c) = some (decide (10 = r))
theorem ns_one {K : PySem.W.Frag} {x : Str} {c d : Addr} (h : PySem.W.nsIn K mainGlobals x = some (some (.ref c))) (h' : PySem.W.nsIn K mainGlobals x = some (some (.ref d))) : d = c := by
  rw [h] at h'
  cases h'
  rfl
/-- isinstance(e, c), e an error that was kept -/
def rIsK (K : PySem.W.Frag) : List V → Hp → VK → Prop := fun xs H Q => ∃ (a C d : Addr) (fs : List (Str × V)) (c : V) (u : Value) (b : Bool), xs = [.ref a, c] ∧ H a = some (ExV C d a) ∧ H d = some (.xd fs) ∧ ErrK K C ∧ ClsV c u ∧
  PySem.W.kitOne K (.ref C) u = some b ∧ Q (.bl b) H
section
variable {X : Cx}
theorem inst_of {pins : List (Addr × Obj)} {σ : L2.St} {H : Hp} {s : Shared} {a C d : Addr} {fs : List (Str × V)} (I : Inv X pins σ H s) (e : H a = some (ExV C d a)) (ed : H d = some (.xd fs)) :
    ∃ (oe od : Obj) (mA : Str → Option Value), PySem.W.InstAt s.heap a oe C (some od) ∧ (∀ n, PySem.W.lookIn n od = some (mA n)) ∧ ∀ f, RelO (fs.lookup f) (mA f) := by
  obtain ⟨oe, vs, h0, hz, hd⟩ := exV_at I.hok e
  have hx : ObjOk X.prog X.w H s.heap d (.xd fs) := I.hok d _ ed
  obtain ⟨mA, hns, hr⟩ := hx
  obtain ⟨od, ho, hl⟩ := lookIn_ns hns
  exact ⟨oe, od, mA, ⟨h0, hz.1, by unfold PySem.W.notCls; rw [hd] <;> rfl, by rw [hz.2]; exact ho⟩, hl, hr⟩
theorem call_isK : CallR X (.builtin "isinstance") (rIsK X.K) := by
  intro pins s σ H xs us Q I r h
  obtain ⟨a, C, d, fs, c, u, b, rfl, e, ed, T, k, ek, q⟩ := h
  obtain ⟨u1, u2, rfl, r1, r2⟩ := vals2 r
  have e2 := k.eq r2
  subst e2
  obtain rfl : u1 = Value.ref a := r1
  obtain ⟨oe, od, mA, J, _, _⟩ := inst_of I e ed
  exact PySem.W.kia_one (PySem.W.kitx_exc T.cl T.xf.ga T.xf.gg T.xf.exC T.ha T.hn T.ht T.hm) I.kIn J ek (fun z => nomatch z) fun tk => ⟨.bl b, H, I.tok tk, rfl, q⟩
/-- e.n, e an error that was kept -/
def tXv (K : PySem.W.Frag) (n : Str) (te : TE) : TE := fun σ H Q => te σ H fun x H1 => ∃ (a C d : Addr) (fs : List (Str × V)) (v : V), x = .ref a ∧ H1 a = some (ExV C d a) ∧ H1 d = some (.xd fs) ∧ fs.lookup n = some v ∧ XfC K C ∧ PySem.W.findIn K (.ref C) n = some none ∧ Q v H1
theorem pe_xv {e : Expr} {te : TE} {pos : Pos} {n : Str} (he : PE X e te) (hb : attributeBase e n X.env (eval e X.env) = eval e X.env := by rfl) : PE X (.Attribute e n pos) (tXv X.K n te) := by
  refine ⟨fun pins s σ H Q I h => ?_⟩
  refine attr_of hb (thn (he.run pins s σ H _ I h) fun u s1 hh => ?_)
  obtain ⟨x, H1, I1, rx, a, C, d, fs, v, ex, e1, ed, l, T, hno, q⟩ := hh
  subst ex
  obtain rfl : u = Value.ref a := rx
  obtain ⟨oe, od, mA, J, hl, hr⟩ := inst_of I1 e1 ed
  obtain ⟨u, hu, ru⟩ := RelO.some_of (v := v) (o := mA n) (by rw [← l]; exact hr n)
  exact HandSPX.exc_get I1.kIn J T.ga T.gg T.exC (PySem.W.findObj_own T.hdC hno rfl (by rw [hl, hu])) (handed_of ru) ⟨v, H1, I1.tok _, ru, q⟩
/-- what the __init__ of the errors does -/
def spInit (K : PySem.W.Frag) : Sp := fun vs H Q _ => ∃ (a C : Addr) (v : V), vs = [.ref a, v] ∧ OexC K C ∧ PySem.W.findIn K (.ref C) "value" = some none ∧ H a = some (exo a C none) ∧
  ∀ dx, H dx = none → dx ≠ a → Q .non (upd (upd H dx (exd dx [(("value" : Str), v)])) a (exo a C (some dx)))
/-- C(e), of the class at C -/
def tMkV (C : Addr) (ta : TA) : L2.St → Hp → XK → Prop := fun σ H Q => ta σ H fun vs H1 => ∃ v, vs = [v] ∧ ∀ d, H1 d = none → Q (.ref C) (some d) (upd H1 d (.xd [(("value" : Str), v)]))
theorem upd_back {H : Hp} {a d : Addr} {o1 o2 o3 o4 : HO} (na : H a = none) (ne : d ≠ a) : upd (del (upd (upd (upd H a o1) d o2) a o3) a) d o4 = upd H d o4 := by
  funext b
  by_cases hd : b = d
  · rw [hd, upd_same, upd_same]
  · rw [upd_ne hd, upd_ne hd]
    by_cases hb : b = a
    · rw [hb, del_same, na]
    · rw [del_ne hb, upd_ne hb, upd_ne hd, upd_ne hb]
theorem upd_none {H : Hp} {a d : Addr} {o : HO} (h : upd H a o d = none) (ne : d ≠ a) : H d = none := by
  rw [upd_ne ne] at h
  exact h
theorem pmk_V {x : Str} {C fI : Addr} {k : Nat} {fd : FuncData} {e : Expr} {ta : TA} {p pos : Pos} (T : ErrC X.K X.mg x C fI) (F1 : FnOk X.prog X.w X.K X.mg X.base CX0 k fI fd ["self", "value"] (spInit X.K))
    (hr : Room (k + 1) X.A) (hb : Binds X.K fd ["self", "value"] []) (hg : Gl X x) (ha : PA X [e] ta)
    (hdb : (x == ("__debug__" : Str)) = false := by decide) (he : starEach (e :: []) X.env = (false, eval e X.env) :: starEach [] X.env := by rfl) (hpl : (backTo pos (starEach [] X.env)).any (·.1) = false := by rfl) :
    PMk X (.Call (.Name x p) [e] [] pos) (tMkV C ta) := by
  intro pins s σ H Q I h
  have ha' : PA X [e] (fun σ H Q' => ∃ Q0 : List V → Hp → Prop, ta σ H Q0 ∧ ∀ vs H1, Q0 vs H1 → Q' vs H1) := ⟨fun pos pins s σ H Q' I h => by
    obtain ⟨Q0, h0, imp⟩ := h
    refine thn (ha.run pos pins s σ H Q0 I h0) fun us s1 z => ?_
    obtain ⟨vs, H1, I1, r1, q⟩ := z
    exact ⟨vs, H1, I1, r1, imp _ _ q⟩⟩
  refine pmk_oex T.ox T.ic T.ti F1 hr hb .nil pass0 hg T.g ha' hdb he hpl pins s σ H Q I ⟨_, h, fun vs H1 z => ?_⟩
  obtain ⟨v, rfl, q⟩ := z
  refine ⟨by show 1 ≤ 1000; decide, fun a na => ⟨a, C, v, rfl, T.ox, T.no, upd_same, fun dx nx ne => ?_⟩⟩
  refine ⟨rfl, dx, _, upd_same, by rw [upd_ne ne]; exact upd_same, upd_none nx ne, ?_⟩
  rw [upd_back na ne]
  exact q dx (upd_none nx ne)
end
/-- four values of a list that is being made -/
def Fs (H2 : Hp) (D : Addr) (g : Nat → Int) (i : Nat) (H3 : Hp) : Prop := Same H2 H3 ∧ H3 D = some (.lst (((List.range i).map g).map V.int))
theorem fs_step {H2 H3 : Hp} {D : Addr} {g : Nat → Int} {i : Nat} {v : V} (h : Fs H2 D g i H3) (hD : H2 D = none) (e : v = .int (g i)) (hi : i < 1000) :
    ∃ acc, H3 D = some (.lst acc) ∧ acc.length < sizeLine ∧ Fs H2 D g (i + 1) (L2.upd H3 D (.lst (acc ++ [v]))) := by
  refine ⟨_, h.2, ?_, ?_, ?_⟩
  · rw [List.length_map, List.length_map, List.length_range]
    exact Nat.lt_trans hi (by decide)
  · exact fun b o z => by rw [upd_ne (ne_of_none z hD)]; exact h.1 b o z
  · rw [upd_same, e, List.range_succ, List.map_append, List.map_append]
    rfl
/-! lists of bools -/
def bsD (l : List Bool) : List PyData := l.map PyData.bool
theorem dp_bs {K : PySem.W.Frag} {H : Hp} : ∀ l : List Bool, DpAll K H (l.map V.bl) (bsD l)
  | [] => .nil
  | b :: l => .cons (.bl b) (dp_bs l)
theorem bs_eqv : ∀ l : List Bool, PyData.eqvAll (bsD l) (bsD l) = true
  | [] => rfl
  | b :: l => by
    show ((b == b) && PyData.eqvAll (bsD l) (bsD l)) = true
    rw [bs_eqv l, beq_self_eq_true]
    rfl
/-! classes as isinstance and except ask them -/
section
variable {K : PySem.W.Frag} {c y : Addr}
theorem kit_self (K : PySem.W.Frag) (c : Addr) : PySem.W.kitOne K (.ref c) (.ref c) = some true := if_pos (beq_self_eq_true _)
theorem kitC {b : Bool} (i : PySem.W.isClsIn K y = true) (t : PySem.W.typeIn K (.ref y) = some (.type "type")) (s : PySem.W.subIn K (.ref c) (.ref y) = some b) : PySem.W.kitCls K (.ref c) (.ref y) = some b := by
  have i' : (PySem.W.clsIn K y).isSome = true := i
  show (if ((PySem.W.clsIn K y).isSome && PySem.W.typeIn K (.ref y) == some (.type "type")) = true then PySem.W.subIn K (.ref c) (.ref y) else none) = some b
  rw [i', t, if_pos (by rfl)]
  exact s
theorem kit_yes (i : PySem.W.isClsIn K y = true) (t : PySem.W.typeIn K (.ref y) = some (.type "type")) (s : PySem.W.subIn K (.ref c) (.ref y) = some true) : PySem.W.kitOne K (.ref c) (.ref y) = some true := by
  unfold PySem.W.kitOne
  rw [kitC i t s]
  exact ite_self _
theorem kit_not (i : PySem.W.isClsIn K y = true) (t : PySem.W.typeIn K (.ref y) = some (.type "type")) (s : PySem.W.subIn K (.ref c) (.ref y) = some false) (o : PySem.W.subIn K (.ref c) (.ref c) = some true) : PySem.W.kitOne K (.ref c) (.ref y) = some false := by
  unfold PySem.W.kitOne
  rw [kitC i t s, if_neg]
  intro z
  have e : Value.ref c = Value.ref y := beq_iff_eq.mp z
  rw [← e, o] at s
  cases s
theorem kit_typ {T : String} (s : PySem.W.subIn K (.ref c) (.type T) = some true) (m : PySem.W.kitMeta T = true) : PySem.W.kitOne K (.ref c) (.type T) = some true := by
  unfold PySem.W.kitOne
  have z : PySem.W.kitCls K (.ref c) (.type T) = some true := by
    show (if PySem.W.kitMeta T = true then PySem.W.subIn K (.ref c) (.type T) else none) = some true
    rw [if_pos m]
    exact s
  rw [z]
  exact ite_self _
theorem exm_yes (b : PySem.W.subIn K (.ref y) (.type "BaseException") = some true) (i : PySem.W.isClsIn K y = true) (t : PySem.W.typeIn K (.ref y) = some (.type "type")) (s : PySem.W.subIn K (.ref c) (.ref y) = some true) : PySem.W.exmOne K (.ref c) (.ref y) = some true := by
  unfold PySem.W.exmOne
  rw [b, if_pos (by rfl)]
  exact kitC i t s
end
section
variable {X : Cx} {CX : CXT} {k : Nat} {f : Addr} {fd : FuncData} {ps ks : List Str} {sp : Sp} {E : L2.St → XK} {x : Str} {p pos : Pos} {kws : List Keyword} {tk : TA} {g : List Value → List Value → List Value} {gV : List V → List V → List V}
theorem go_names {pins : List (Addr × Obj)} {σ : L2.St} {H : Hp} {s : Shared} {Q : VK} {ws : List Value} {zs : List V} (F : FnOk X.prog X.w X.K X.mg X.base CX k f fd ps sp) (hr : Room k X.A) (hb : KBinds X.K fd ps ks g gV) (hx : PassesAt CX X σ (E σ))
    (I : Inv X pins σ H s) (rz : Vals zs ws) (h : sp (gV [] zs) H Q (E σ)) : wpAny (model X.prog X.w) X.A (call (.ref f) [] (ks.zip ws)) (EP X pins σ Q) X.xe s := by
  have r2 := hb.rel (vs := []) (us := []) .nil rz
  have ln : (g [] ws).length = ps.length := by
    rw [← r2.length]
    exact F.len _ _ _ _ h
  have run := F.run X.A X.stack s H ⟨[], ks.zip ws⟩ (g [] ws) (gV [] zs) Q (E σ) hr I.env0 (hb.to s [] ws I.kIn ln) r2 h
  refine wpAny_call (codeAny_mono run fun rs s' y => ?_)
  match rs, y with
  | .error er, y => exact hx pins H s er s' I y
  | .ok (.ret u), y => exact I.after y
/-- a call by names alone, in a try -/
theorem pe_callK0S (F : FnOk X.prog X.w X.K X.mg X.base CX k f fd ps sp) (hr : Room k X.A) (hg : Gl X x) (hm : X.mg x = some (.ref f)) (hk : PySem.W.keepIn X.K (.ref f) = true) (hb : KBinds X.K fd ps ks g gV) (hx : ∀ σ, PassesAt CX X σ (E σ)) (hkw : PK X kws tk)
    (hall : (backToKw pos (keywordEach kws X.env)).all (·.1.isSome) = true := by rfl) (hks : (backToKw pos (keywordEach kws X.env)).filterMap (·.1) = ks := by rfl) (hdb : (x == ("__debug__" : Str)) = false := by decide)
    (hpl : ((backTo pos (starEach [] X.env)).any (·.1) || (backToKw pos (keywordEach kws X.env)).any (·.1.isNone)) = false := by rfl) :
    PE X (.Call (.Name x p) [] kws pos) (fun σ H Q => tCallK sp gV (E σ) tNil tk σ H Q) := by
  refine ⟨fun pins s σ H Q I h => ?_⟩
  refine wpAny_Call_Name_kw (ld_glob I hg hm ?_ hdb)
  refine PySem.W.callWith_KW0 (h₀ := X.base) I.ok.mod.kin hk hall (thn (hkw.run pos pins s σ H _ I h) fun ws s2 z => ?_) hpl
  obtain ⟨zs, H2, I2, rz, q2⟩ := z
  refine ⟨I2.kIn, ?_⟩
  rw [hks]
  exact go_names F hr hb (hx σ) I2 rz q2
end
end Lr

set_option exponentiation.threshold 5000
namespace Lr
open PySem PySem.Spec PyProof.Rows L2
/-! texts that are no roads -/
def IsRd (t : Str) : Prop := ∃ w, t = rd w
/-- no road (0), no ring (1), no ring with both turns (2) -/
def OddT (p : Str × Nat) : Prop := ¬ IsRd p.1 ∨ (0 < p.2 ∧ p.1 = ("" : Str)) ∨ (1 < p.2 ∧ ¬ (76 ∈ p.1.cps.toList ∧ 82 ∈ p.1.cps.toList))
open Classical in
/-- the first odd one -/
noncomputable def Fo : List (Str × Nat) → Option Str
  | [] => none
  | p :: l => if OddT p then some p.1 else Fo l
theorem fo_yes {p : Str × Nat} {l : List (Str × Nat)} (h : OddT p) : Fo (p :: l) = some p.1 := by
  unfold Fo
  exact if_pos h
theorem fo_no {p : Str × Nat} {l : List (Str × Nat)} (h : ¬ OddT p) : Fo (p :: l) = Fo l := by
  conv => lhs; unfold Fo
  exact if_neg h
theorem fo_none {p : Str × Nat} {l : List (Str × Nat)} (h : Fo (p :: l) = none) : ¬ OddT p ∧ Fo l = none := by
  by_cases c : OddT p
  · rw [fo_yes c] at h
    cases h
  · exact ⟨c, by rw [fo_no c] at h; exact h⟩
theorem odd_0 {t : Str} : OddT (t, 0) ↔ ¬ IsRd t := ⟨fun h => by
  rcases h with h | h | h
  · exact h
  · exact absurd h.1 (by show ¬ 0 < 0; decide)
  · exact absurd h.1 (by show ¬ 1 < 0; decide), fun h => .inl h⟩
theorem rd_empty : ("" : Str) = rd [] := by decide +kernel
theorem rd_eq_empty {w : List Bool} : rd w = ("" : Str) ↔ w = [] := by
  rw [rd_empty]
  exact ⟨fun h => rd_inj h, fun h => by rw [h]⟩
theorem both_rd {w : List Bool} : (76 ∈ (rd w).cps.toList ∧ 82 ∈ (rd w).cps.toList) ↔ Both w := by
  rw [rd_cps]
  constructor
  · rintro ⟨h1, h2⟩
    obtain ⟨b, hb, e⟩ := List.mem_map.mp h1
    obtain ⟨c, hc, e2⟩ := List.mem_map.mp h2
    refine ⟨?_, ?_⟩
    · cases b
      · exact hb
      · exact absurd e (by decide)
    · cases c
      · exact absurd e2 (by decide)
      · exact hc
  · rintro ⟨h1, h2⟩
    exact ⟨List.mem_map.mpr ⟨_, h1, rfl⟩, List.mem_map.mpr ⟨_, h2, rfl⟩⟩
theorem odd_1 {w : List Bool} : OddT (rd w, 1) ↔ w = [] := ⟨fun h => by
  rcases h with h | h | h
  · exact absurd ⟨w, rfl⟩ h
  · exact rd_eq_empty.mp h.2
  · exact absurd h.1 (by show ¬ 1 < 1; decide), fun h => .inr (.inl ⟨by show 0 < 1; decide, rd_eq_empty.mpr h⟩)⟩
theorem odd_2 {w : List Bool} : OddT (rd w, 2) ↔ ¬ Both w := ⟨fun h => by
  rcases h with h | h | h
  · exact absurd ⟨w, rfl⟩ h
  · exact fun b => b.ne (rd_eq_empty.mp h.2)
  · exact fun b => h.2 (both_rd.mpr b), fun h => .inr (.inr ⟨by show 1 < 2; decide, fun b => h (both_rd.mp b)⟩)⟩
/-- an error with a value is raised -/
def Rs (K : PySem.W.Frag) (H : Hp) (E : XK) (x : Str) (v : V) : Prop := ∀ H1, Same H H1 → ∀ C d, PySem.W.nsIn K mainGlobals x = some (some (.ref C)) → H1 d = none → E (.ref C) (some d) (L2.upd H1 d (.xd [("value", v)]))
theorem Rs.same {K : PySem.W.Frag} {H H' : Hp} {E : XK} {x : Str} {v : V} (h : Rs K H E x v) (s : Same H H') : Rs K H' E x v := fun H1 s1 => h H1 (s.trans s1)
theorem Rs.now {K : PySem.W.Frag} {H : Hp} {E : XK} {x : Str} {v : V} (h : Rs K H E x v) {C d : Addr} (hC : PySem.W.nsIn K mainGlobals x = some (some (.ref C))) (hd : H d = none) : E (.ref C) (some d) (L2.upd H d (.xd [("value", v)])) := h H (L2.Same.refl H) C d hC hd
theorem isrd_of {t : Str} (h : ∀ x ∈ t.cps.toList, x = 76 ∨ x = 82) : IsRd t := by
  refine ⟨t.cps.toList.map fun x => decide (x = 82), str_ext ?_⟩
  rw [rd_cps, List.map_map]
  refine (List.map_id _).symm.trans (List.map_congr_left fun x hx => ?_)
  rcases h x hx with rfl | rfl <;> rfl
/-- signs that there are -/
def Sok (t : Str) : Prop := ∀ c ∈ t.cps.toList, c < 1114112
theorem rd_sok (w : List Bool) : Sok (rd w) := fun c hc => by
  rw [rd_cps] at hc
  obtain ⟨b, _, rfl⟩ := List.mem_map.mp hc
  cases b <;> decide
theorem app_sok {x y : Str} (hx : Sok x) (hy : Sok y) : Sok (x ++ y) := fun c hc => by
  have e : (x ++ y).cps.toList = x.cps.toList ++ y.cps.toList := by
    show (x.cps ++ y.cps).toList = _
    simp
  rw [e] at hc
  rcases List.mem_append.mp hc with h | h
  · exact hx c h
  · exact hy c h
/-- signs as texts -/
def sgT (c : Nat) : Str := ⟨#[c]⟩
def sgD (l : List Nat) : List PyData := l.map fun c => .str (sgT c)
theorem dp_sg {K : PySem.W.Frag} {H : Hp} : ∀ l : List Nat, DpAll K H (l.map fun c => V.str (sgT c)) (sgD l)
  | [] => .nil
  | c :: l => .cons (.str _) (dp_sg l)
theorem sg_lay : ∀ l : List Nat, (∀ c ∈ l, c < 1114112) → PyData.canLayAll0 (sgD l) = true ∧ PyData.depthAll (sgD l) = 0
  | [], _ => ⟨rfl, rfl⟩
  | c :: l, h => by
    obtain ⟨h1, h2⟩ := sg_lay l fun x hx => h x (List.mem_cons_of_mem _ hx)
    have hc := h c List.mem_cons_self
    constructor
    · show (PyData.strOk (sgT c) && PyData.canLayAll0 (sgD l)) = true
      rw [h1]
      have e : PyData.strOk (sgT c) = decide (c < 1114112) := by
        show (#[c] : Array Nat).all (fun x => decide (x < 0x110000)) = _
        simp
      rw [e, decide_eq_true hc]
      rfl
    · show max 0 (PyData.depthAll (sgD l)) = 0
      rw [h2]
      rfl
theorem sg_shaped {l : List Nat} (h : ∀ c ∈ l, c < 1114112) : SeqAt.shaped (.list (sgD l)) = true := by
  obtain ⟨h1, h2⟩ := sg_lay l h
  show (PyData.canLayAll0 (sgD l) && decide (PyData.depthAll (sgD l) + 1 ≤ 64)) = true
  rw [h1, h2]
  rfl
theorem sg_eqv (l : List Nat) : PyData.eqv (.list (sgD l)) (.list []) = decide (l = []) := by
  cases l with
  | nil => rfl
  | cons c l => rfl
def FracP (x y : Int) : Prop := 1 ≤ x ∧ 1 ≤ y ∧ Nat.gcd x.natAbs y.natAbs = 1
/-- the texts that a question is asked about, with what is wanted of them -/
def itemsV (way : Nat) (t0 t1 t2 t3 : Str) : List (Str × Nat) := match way with
  | 0 => [(t0, 0)]
  | 1 => []
  | 2 => [(t0, 0), (t1, 0)]
  | 3 => [(t0, 0), (t1, 1)]
  | 4 => [(t0, 0), (t1, 2), (t2, 0), (t3, 2)]
  | 5 => [(t0, 0), (t1, 1)]
  | _ => [(t0, 0), (t1, 2)]
open Classical in
/-- what is due: a rank and a value -/
noncomputable def dueV (way : Nat) (t0 t1 t2 t3 : Str) (p : Addr) (x y many : Int) : Option (Nat × V) := match Fo (itemsV way t0 t1 t2 t3) with
  | some t => some (0, .str t)
  | none => if way = 1 ∧ ¬ FracP x y then some (1, .ref p) else if way = 5 ∧ many < 0 then some (5, .int many) else none
/-- a list of texts that are looked at: tuples of a text and a number -/
def Parts (H : Hp) (L : Addr) (ps : List (Addr × Str × Nat)) : Prop := H L = some (.lst (ps.map fun p => .ref p.1)) ∧ ∀ p ∈ ps, H p.1 = some (.tup [.str p.2.1, .int (p.2.2 : Nat)])
theorem Parts.same {H H' : Hp} {L : Addr} {ps : List (Addr × Str × Nat)} (h : Parts H L ps) (s : Same H H') : Parts H' L ps := ⟨s _ _ h.1, fun p hp => s _ _ (h.2 p hp)⟩
theorem Parts.upd {H : Hp} {L M : Addr} {ps : List (Addr × Str × Nat)} {xs ys : List V} (h : Parts H L ps) (hM : H M = some (.lst xs)) (n : L ≠ M) : Parts (L2.upd H M (.lst ys)) L ps :=
  ⟨by rw [upd_ne n]; exact h.1, fun p hp => by
    rw [upd_ne]
    · exact h.2 p hp
    · intro z
      have := h.2 p hp
      rw [z, hM] at this
      cases this⟩
/-- the list that tells an odd text -/
def OddL (H : Hp) (r : Addr) : Option Str → Prop
  | none => H r = some (.lst [])
  | some t => H r = some (.lst [.str t])
/-- the list that tells what is due -/
def DueL (H : Hp) (r : Addr) : Option (Nat × V) → Prop
  | none => H r = some (.lst [])
  | some (k, v) => H r = some (.lst [.int (k : Nat), v])
theorem fo_mem : ∀ {l : List (Str × Nat)} {t : Str}, Fo l = some t → ∃ z ∈ l, z.1 = t
  | [], t, h => nomatch h
  | p :: l, t, h => by
    by_cases c : OddT p
    · rw [fo_yes c] at h
      exact ⟨p, List.mem_cons_self, Option.some.inj h⟩
    · rw [fo_no c] at h
      obtain ⟨z, hz, e⟩ := fo_mem h
      exact ⟨z, List.mem_cons_of_mem _ hz, e⟩
theorem str_ok {t : Str} (h : Sok t) : PyData.strOk t = true := by
  show t.cps.all (fun x => decide (x < 0x110000)) = true
  rw [Array.all_eq_true]
  intro i hi
  exact decide_eq_true (h _ (by simp))
theorem str_shaped {t : Str} (h : Sok t) : SeqAt.shaped (.list [.str t]) = true := by
  show ((PyData.strOk t && true) && decide (max 0 0 + 1 ≤ 64)) = true
  rw [str_ok h]
  rfl
/-- the class of a rank -/
def errN (k : Nat) : Str := match k with
  | 0 => "InvalidRoad"
  | 1 => "InvalidFraction"
  | _ => "InvalidNumber"
section
variable {way : Nat} {t0 t1 t2 t3 : Str} {p : Addr} {x y many : Int}
theorem due_odd {t : Str} (h : Fo (itemsV way t0 t1 t2 t3) = some t) : dueV way t0 t1 t2 t3 p x y many = some (0, .str t) := by
  unfold dueV
  rw [h]
theorem due_none (h : Fo (itemsV way t0 t1 t2 t3) = none) (h1 : ¬ (way = 1 ∧ ¬ FracP x y)) (h2 : ¬ (way = 5 ∧ many < 0)) : dueV way t0 t1 t2 t3 p x y many = none := by
  unfold dueV
  rw [h]
  exact (if_neg h1).trans (if_neg h2)
theorem due_frac (h : ¬ FracP x y) : dueV 1 t0 t1 t2 t3 p x y many = some (1, .ref p) := by
  unfold dueV
  exact if_pos ⟨rfl, h⟩
theorem due_num (h : Fo (itemsV 5 t0 t1 t2 t3) = none) (m : many < 0) : dueV 5 t0 t1 t2 t3 p x y many = some (5, .int many) := by
  unfold dueV
  rw [h]
  exact (if_neg (fun z => absurd z.1 (by decide))).trans (if_pos ⟨rfl, m⟩)
end
theorem shw_txt {t : Str} (h : Sok t) (l : t.length ≤ 8000) : Shw (.str t) := by
  refine ⟨rfl, rfl, (by show (0 : Nat) ≤ 60; omega), ?_, ?_⟩
  · show (t.cps.toList.all fun c => decide (c < 16 ^ 8)) = true
    exact List.all_eq_true.mpr fun c hc => decide_eq_true (Nat.lt_trans (h c hc) (by decide))
  · show t.cps.size ≤ 8000
    exact l
/-- where the ways of a statement meet -/
theorem meetSeq {t u : TS} {D : Ends} {σ : L2.St} {H : Hp} (P : L2.St → Hp → Prop) (h : ∀ N : L2.St → Hp → Prop, (∀ σ' H', P σ' H' → N σ' H') → t { D with nx := N } σ H) (q : ∀ σ' H', P σ' H' → u D σ' H') : tSeq t u D σ H := h (u D) q
theorem asgSeq {u : TS} {D : Ends} {σ : L2.St} {H : Hp} {v : V} {i : Nat} (h : u D (σ.set i (some v)) H) : tSeq (tAsg (tC v) (gName i)) u D σ H := h
theorem due_shaped {k : Int} {dat : PyData} (h : PyData.canLay0 dat = true ∧ dat.depth ≤ 60) : SeqAt.shaped (.list [.int k, dat]) = true := by
  show ((true && (PyData.canLay0 dat && true)) && decide (max 0 (max dat.depth 0) + 1 ≤ 64)) = true
  rw [h.1]
  have := h.2
  rw [decide_eq_true (by omega)]
  rfl
end Lr

set_option exponentiation.threshold 5000
namespace Lr
/-! long rings -/
def T3.fx (m : M4) : T3 := ⟨m.c, m.d - m.a, -m.b⟩
theorem mul_bd {m n : M4} {j k : Nat} (hm : ∀ i ∈ m.l, Bd j i) (hn : ∀ i ∈ n.l, Bd k i) : ∀ i ∈ (m.mul n).l, Bd (j + k + 1) i := fun i hi => by
  have ba := hm m.a (by simp [M4.l])
  have bb := hm m.b (by simp [M4.l])
  have bc := hm m.c (by simp [M4.l])
  have bd := hm m.d (by simp [M4.l])
  have ca := hn n.a (by simp [M4.l])
  have cb := hn n.b (by simp [M4.l])
  have cc := hn n.c (by simp [M4.l])
  have cd := hn n.d (by simp [M4.l])
  simp only [M4.l, M4.mul, List.mem_cons, List.not_mem_nil, or_false] at hi
  rcases hi with rfl | rfl | rfl | rfl
  · exact (ba.mul ca).add (bb.mul cc)
  · exact (ba.mul cb).add (bb.mul cd)
  · exact (bc.mul ca).add (bd.mul cc)
  · exact (bc.mul cb).add (bd.mul cd)
theorem adj_bd {m : M4} {k : Nat} (h : ∀ i ∈ m.l, Bd k i) : ∀ i ∈ m.adj.l, Bd k i := fun i hi => by
  have ng : ∀ {x : Int}, Bd k x → Bd k (-x) := fun {x} h => by
    unfold Bd at *
    rw [Int.natAbs_neg]
    exact h
  simp only [M4.l, M4.adj, List.mem_cons, List.not_mem_nil, or_false] at hi
  rcases hi with rfl | rfl | rfl | rfl
  · exact h _ (by simp [M4.l])
  · exact ng (h _ (by simp [M4.l]))
  · exact ng (h _ (by simp [M4.l]))
  · exact h _ (by simp [M4.l])
theorem arnd_big {f w : List Bool} (hf : f.length ≤ 70) (hw : w.length ≤ 8000) : (∀ i ∈ (mat f).l, Bd 8300 i) ∧ (∀ i ∈ (mat w).l, Bd 8300 i) ∧ (∀ i ∈ ((mat f).mul (mat w)).l, Bd 8300 i) ∧ (∀ i ∈ (mat f).adj.l, Bd 8300 i) ∧ (∀ i ∈ (arnd f w).l, Bd 8300 i) := by
  have b1 := bd_mat hf
  have b2 := bd_mat hw
  have b3 : ∀ i ∈ ((mat f).mul (mat w)).l, Bd (8070 + 1) i := by
    rw [← mat_app]
    exact bd_mat (by rw [List.length_append]; omega)
  have b4 := adj_bd b1
  have b5 := mul_bd b3 b4
  exact ⟨fun i hi => (b1 i hi).up (by decide), fun i hi => (b2 i hi).up (by decide), fun i hi => (b3 i hi).up (by decide), fun i hi => (b4 i hi).up (by decide), fun i hi => (b5 i hi).up (by decide)⟩
open PySem PySem.Spec PyProof.Rows L2
theorem eqv_pair_self (f l : List Bool) : PyData.eqv (pairD f l) (pairD f l) = true := by
  show ((rd f == rd f) && ((rd l == rd l) && true)) = true
  simp
theorem shaped_pair (f l : List Bool) : SeqAt.shaped (pairD f l) = true := by
  unfold SeqAt.shaped
  rw [Bool.and_eq_true_iff]
  exact ⟨by simp [pairD, PyData.canLay0, PyData.canLayAll0, str_ok (rd_sok f), str_ok (rd_sok l)], decide_eq_true (by show (1 : Nat) ≤ 64; decide)⟩
theorem prim_self {w : List Bool} (h : Prim w) {c : List Bool × List Bool} (k : Lw [] w c) : c = ([], w) := by
  obtain ⟨p, lp, rfl⟩ := k
  have e : p = w.length := lp.eq h.least
  rw [e, List.take_length]
  rfl
end Lr

set_option exponentiation.threshold 5000
namespace Lr
open PySem PySem.Spec PyProof.Rows L2
/-! lists of tuples of four integers -/
theorem M4.l_inj {m n : M4} (h : m.l = n.l) : m = n := by
  unfold M4.l at h
  simp only [List.cons.injEq, and_true] at h
  obtain ⟨h1, h2, h3, h4⟩ := h
  exact M4.ext h1 h2 h3 h4
theorem tups_lay : ∀ (ls : List (List Int)), PyData.canLayAll0 (ls.map tupD) = true ∧ PyData.depthAll (ls.map tupD) ≤ 1
  | [] => ⟨rfl, Nat.zero_le _⟩
  | l :: ls => by
    obtain ⟨h1, h2⟩ := tups_lay ls
    constructor
    · show (PyData.canLayAll0 (intsD l) && PyData.canLayAll0 (ls.map tupD)) = true
      rw [h1, lay_ints]
      rfl
    · show max (PyData.depthAll (intsD l) + 1) (PyData.depthAll (ls.map tupD)) ≤ 1
      rw [depth0_ints]
      omega
theorem tups_shaped (ls : List (List Int)) : SeqAt.shaped (.list (ls.map tupD)) = true := by
  obtain ⟨h1, h2⟩ := tups_lay ls
  show (PyData.canLayAll0 (ls.map tupD) && decide (PyData.depthAll (ls.map tupD) + 1 ≤ 64)) = true
  rw [h1, decide_eq_true (by omega)]
  rfl
theorem dpAll_of {K : PySem.W.Frag} {H : Hp} : ∀ {ps : List Addr} {R : Nat → M4}, (∀ k a, ps[k]? = some a → H a = some (.tup ((R k).l.map V.int))) → DpAll K H (ps.map V.ref) (((List.range ps.length).map fun k => (R k).l).map tupD)
  | [], R, h => .nil
  | a :: ps, R, h => by
    rw [List.length_cons, List.range_succ_eq_map, List.map_cons, List.map_cons, List.map_cons, List.map_map]
    exact .cons (dp_tup (SqT.of (h 0 a rfl))) (by
      have z := dpAll_of (K := K) (ps := ps) (R := fun k => R (k + 1)) fun k b hb => h (k + 1) b hb
      rw [List.map_map]
      rw [List.map_map] at z
      exact z)
theorem tups_at {R : Nat → M4} {n k : Nat} (h : k < n) : (((List.range n).map fun k => (R k).l).map tupD)[k]? = some (tupD (R k).l) := by
  rw [List.getElem?_map, List.getElem?_map, List.getElem?_range h]
  rfl
theorem tups_any {R : Nat → M4} {n : Nat} {r : M4} : ((((List.range n).map fun k => (R k).l).map tupD).any fun z => PyData.eqv z (tupD r.l)) = true ↔ ∃ k, k < n ∧ R k = r := by
  rw [List.any_eq_true]
  constructor
  · rintro ⟨z, hz, e⟩
    rw [List.mem_map] at hz
    obtain ⟨l, hl, rfl⟩ := hz
    rw [List.mem_map] at hl
    obtain ⟨k, hk, rfl⟩ := hl
    rw [eqv_tup] at e
    exact ⟨k, List.mem_range.mp hk, M4.l_inj (of_decide_eq_true e)⟩
  · rintro ⟨k, hk, rfl⟩
    refine ⟨tupD (R k).l, ?_, by rw [eqv_tup]; exact decide_eq_true rfl⟩
    exact List.mem_map.mpr ⟨(R k).l, List.mem_map.mpr ⟨k, List.mem_range.mpr hk, rfl⟩, rfl⟩
theorem cutV_take (xs : List V) (k : Nat) : cutV xs none (some (k : Int)) = xs.take k := by
  unfold cutV
  rw [HT.sIx_none, HT.sIx_nat, List.drop_zero, Nat.sub_zero]
  by_cases h : k ≤ xs.length
  · rw [Nat.min_eq_left h]
  · rw [Nat.min_eq_right (by omega), List.take_length, List.take_of_length_le (by omega)]
theorem cutV_drop (xs : List V) (k : Nat) : cutV xs (some (k : Int)) none = xs.drop k := by
  unfold cutV
  rw [HT.sIx_none, HT.sIx_nat]
  by_cases h : k ≤ xs.length
  · rw [Nat.min_eq_left h, List.take_of_length_le (by rw [List.length_drop]; exact Nat.le_refl _)]
  · rw [Nat.min_eq_right (by omega), List.drop_length, List.drop_eq_nil_of_le (by omega), List.take_nil]
theorem mul_bds {m n : M4} {j k : Nat} (hm : ∀ i ∈ m.l, Bd j i) (hn : ∀ i ∈ n.l, Bd k i) : ∀ i ∈ (m.mul n).l, Bd (j + k + 1) i := by
  intro i hi
  have ba := hm m.a (by simp [M4.l])
  have bb := hm m.b (by simp [M4.l])
  have bc := hm m.c (by simp [M4.l])
  have bd := hm m.d (by simp [M4.l])
  have ca := hn n.a (by simp [M4.l])
  have cb := hn n.b (by simp [M4.l])
  have cc := hn n.c (by simp [M4.l])
  have cd := hn n.d (by simp [M4.l])
  simp only [M4.l, M4.mul, List.mem_cons, List.not_mem_nil, or_false] at hi
  rcases hi with rfl | rfl | rfl | rfl
  · exact (ba.mul ca).add (bb.mul cc)
  · exact (ba.mul cb).add (bb.mul cd)
  · exact (bc.mul ca).add (bd.mul cc)
  · exact (bc.mul cb).add (bd.mul cd)
theorem le_sum {m : M4} (h : Nn m) : Le m.sum m := by
  obtain ⟨a0, b0, c0, d0⟩ := h
  unfold M4.sum
  exact ⟨by omega, by omega, by omega, by omega⟩
theorem bd_sum {m : M4} {k : Nat} (h : ∀ i ∈ m.l, Bd k i) : Bd (k + 3) m.sum := by
  have ba := h m.a (by simp [M4.l])
  have bb := h m.b (by simp [M4.l])
  have bc := h m.c (by simp [M4.l])
  have bd := h m.d (by simp [M4.l])
  exact ((ba.add bb).add (bc.up (Nat.le_succ _))).add (bd.up (by omega))
def M4.key (m : M4) : List Key := m.l.map Sum.inl
theorem M4.key_inj {m n : M4} (h : m.key = n.key) : m = n := by
  refine M4.l_inj ?_
  exact List.map_inj_right (fun _ _ z => Sum.inl.inj z) |>.mp h
theorem M4.key_ints (m : M4) : m.key.map kV = m.l.map V.int := rfl
theorem key_put {kvs : List (List Key × V)} {R : Nat → M4} {L : Nat → V} {i : Nat} (h1 : ∀ a, a < i → valV kvs (R a).key = some (L a)) (h2 : ∀ r : M4, (∀ a, a < i → R a ≠ r) → valV kvs r.key = none) (n : ∀ a, a < i → R a ≠ R i) :
    (putK kvs (R i).key (L i)).length = kvs.length + 1 ∧ (∀ a, a < i + 1 → valV (putK kvs (R i).key (L i)) (R a).key = some (L a)) ∧ ∀ r : M4, (∀ a, a < i + 1 → R a ≠ r) → valV (putK kvs (R i).key (L i)) r.key = none := by
  have e := h2 (R i) n
  refine ⟨by rw [putK_new _ e, List.length_append]; rfl, fun a ha => ?_, fun r hr => ?_⟩
  · rw [valV_put]
    by_cases z : a = i
    · rw [z, if_pos rfl]
    · rw [if_neg (fun y => n a (by omega) (M4.key_inj y))]
      exact h1 a (by omega)
  · rw [valV_put, if_neg (fun y => hr i (by omega) (M4.key_inj y).symm)]
    exact h2 r fun a ha => hr a (by omega)
theorem key_some {kvs : List (List Key × V)} {R : Nat → M4} {i : Nat} {r : M4} (h2 : ∀ r : M4, (∀ a, a < i → R a ≠ r) → valV kvs r.key = none) (h : (valV kvs r.key).isSome = true) : ∃ a, a < i ∧ R a = r := by
  refine Classical.byContradiction fun z => ?_
  rw [h2 r fun a ha e => z ⟨a, ha, e⟩] at h
  cases h
end Lr

set_option exponentiation.threshold 5000
namespace Lr
open PySem PySem.Spec PyProof.Rows L2
/-! repr of what is long -/
structure ShwF (d : PyData) : Prop where
  sh : d.showable = true
  nd : d.hasDict = false
  dp : d.depth ≤ 60
  ft : d.shown.length ≤ sizeLine
def rReprF (K : PySem.W.Frag) : List V → Hp → VK → Prop := fun xs H Q => ∃ v d, xs = [v] ∧ Dp K H v d ∧ ShwF d ∧ Q (.str d.shown) H
section
variable {X : Cx}
theorem call_reprF {k : Nat} (hG : X.A.guards = some []) (hr : Room k X.A) : CallR X (.builtin "repr") (rReprF X.K) := by
  intro pins s σ H xs us Q I r h
  obtain ⟨v, d, rfl, hd, hs, q⟩ := h
  obtain ⟨u, rfl, hu⟩ := vals1 r
  have un := hr.units
  obtain ⟨as, rd⟩ := Dp.reads I d v u hd hu
  have far : ∀ (a : Addr), u = .ref a → wpAny (model X.prog X.w) X.A (call (.builtin "repr") [u]) (EP X pins σ Q) X.xe s := fun a ea => by
    rw [ea] at rd ⊢
    exact repr_of_reads' rd hs.sh (PyData.noDict_hsm hs.nd) hG (by have := hs.dp; omega) (fun _ _ z => z) (fun h' u tk hk => ⟨.str d.shown, H, I.kept (t' := tk) hk, ⟨u, rfl⟩, q⟩) hs.ft
  cases hd with
  | non =>
    cases (show u = Value.none from hu)
    exact PySem.P.repr_of_none ⟨.str _, H, I.tok _, ⟨_, rfl⟩, q⟩
  | bl b =>
    cases (show u = Value.bool b from hu)
    exact PySem.P.repr_of_bool ⟨.str _, H, I.tok _, ⟨_, rfl⟩, q⟩
  | int i =>
    obtain ⟨t, e⟩ := (show ∃ t, u = Value.int i t from hu)
    cases e
    exact PySem.P.repr_of_int (of_decide_eq_true hs.sh) ⟨.str _, H, I.tok _, ⟨_, rfl⟩, q⟩
  | str x =>
    obtain ⟨t, e⟩ := (show ∃ t, u = Value.str x t from hu)
    cases e
    exact PySem.P.repr_of_str ⟨.str _, H, I.tok _, ⟨_, rfl⟩, q⟩ hs.ft
  | lst hl ha => exact far _ hu
  | tup hl ha => exact far _ hu
end
theorem shwF_pair {f l : List Bool} (h : f.length + l.length ≤ 400000) : ShwF (pairD f l) := by
  have lv : ∀ w : List Bool, PyData.leavesShort 20 (.str (rd w)) = true := fun w => by
    show ((rd w).cps.toList.all fun c => decide (c < 16 ^ 8)) = true
    rw [rd_cps, List.all_map, List.all_eq_true]
    intro t _
    cases t <;> decide
  have lp : PyData.leavesShort 20 (pairD f l) = true := by
    show (PyData.leavesShort 20 (.str (rd f)) && (PyData.leavesShort 20 (.str (rd l)) && true)) = true
    rw [lv, lv]
    rfl
  refine ⟨rfl, rfl, ?_, ?_⟩
  · show max 0 (max 0 0) + 1 ≤ 60
    decide
  · have z := PyData.shown_le_bulk 20 (by decide) _ lp
    have e : sizeLine = 16777216 := by decide
    have b : (pairD f l).bulk = (rd f).cps.size + 1 + ((rd l).cps.size + 1 + 0) := rfl
    have e1 : (rd f).cps.size = f.length := rd_len f
    have e2 : (rd l).cps.size = l.length := rd_len l
    omega
end Lr

set_option exponentiation.threshold 5000
namespace Lr
open PySem PySem.Spec PyProof.Rows L2
/-! what `fixed` hands back -/
inductive FxR where
  | non
  | nil
  | fr (x y : Int)
  | rg (w : List Bool)
def FxR.At (H H' : Hp) (v : V) : FxR → Prop
  | .non => v = .non
  | .nil => ∃ r, v = .ref r ∧ H r = none ∧ H' r = some (.lst [])
  | .fr x y => ∃ r q, v = .ref r ∧ H r = none ∧ H q = none ∧ H' r = some (.lst [.ref q]) ∧ H' q = some (.tup [.int x, .int y])
  | .rg w => ∃ r q, v = .ref r ∧ H r = none ∧ H q = none ∧ H' r = some (.lst [.ref q]) ∧ H' q = some (.tup [.str (rd []), .str (rd w)])
def FxR.data : FxR → PyData
  | .non => .none
  | .nil => .list []
  | .fr x y => .list [tupD [x, y]]
  | .rg w => .list [pairD [] w]
theorem FxR.At.dp {K : PySem.W.Frag} {H H' : Hp} {v : V} {R : FxR} (h : R.At H H' v) : Dp K H' v R.data := by
  cases R with
  | non =>
    obtain rfl : v = .non := h
    exact .non
  | nil =>
    obtain ⟨r, rfl, _, h⟩ := h
    exact .lst (SqL.of h) .nil
  | fr x y =>
    obtain ⟨r, q, rfl, _, _, h1, h2⟩ := h
    exact .lst (SqL.of h1) (.cons (dp_tup (l := [x, y]) (SqT.of h2)) .nil)
  | rg w =>
    obtain ⟨r, q, rfl, _, _, h1, h2⟩ := h
    exact .lst (SqL.of h1) (.cons (dp_pair (SqT.of h2)) .nil)
theorem FxR.At.same {H H1 H2 : Hp} {v : V} {R : FxR} (h : R.At H H1 v) (s : Same H1 H2) : R.At H H2 v := by
  cases R with
  | non => exact h
  | nil =>
    obtain ⟨r, e, n, h⟩ := h
    exact ⟨r, e, n, s _ _ h⟩
  | fr x y =>
    obtain ⟨r, q, e, n1, n2, h1, h2⟩ := h
    exact ⟨r, q, e, n1, n2, s _ _ h1, s _ _ h2⟩
  | rg w =>
    obtain ⟨r, q, e, n1, n2, h1, h2⟩ := h
    exact ⟨r, q, e, n1, n2, s _ _ h1, s _ _ h2⟩
theorem lv_rd (w : List Bool) (B : Nat) : PyData.leavesShort B (.str (rd w)) = true := by
  show ((rd w).cps.toList.all fun c => decide (c < 16 ^ 8)) = true
  rw [rd_cps, List.all_map, List.all_eq_true]
  intro t _
  cases t <;> decide
theorem shwF_fr {x y : Int} (hx : Sml x) (hy : Sml y) : ShwF (.list [tupD [x, y]]) := by
  obtain ⟨h1, h2, h3, h4, h5⟩ := ints_ok (l := [x, y]) (fun i hi => by
    simp only [List.mem_cons, List.not_mem_nil, or_false] at hi
    rcases hi with rfl | rfl
    · exact hx
    · exact hy)
  refine ⟨?_, ?_, ?_, ?_⟩
  · show (PyData.showableAll (intsD [x, y]) && true) = true
    rw [h1]
    rfl
  · show (PyData.hasDictAll (intsD [x, y]) || false) = false
    rw [h2]
    rfl
  · show max (PyData.depthAll (intsD [x, y]) + 1) 0 + 1 ≤ 60
    omega
  · have lv : PyData.leavesShort 2000 (.list [tupD [x, y]]) = true := by
      show (PyData.leavesShortAll 2000 (intsD [x, y]) && true) = true
      rw [h3]
      rfl
    have z := PyData.shown_le_bulk 2000 (by decide) _ lv
    have e : sizeLine = 16777216 := by decide
    have b : (PyData.list [tupD [x, y]]).bulk = PyData.bulkAll (intsD [x, y]) + 1 + 0 := rfl
    rw [h4] at b
    simp only [List.length_cons, List.length_nil] at b
    omega
theorem shwF_rg {w : List Bool} (h : w.length ≤ 400000) : ShwF (.list [pairD [] w]) := by
  obtain ⟨h1, h2, h3, h4⟩ := shwF_pair (f := []) (l := w) (by simpa using h)
  refine ⟨?_, ?_, ?_, ?_⟩
  · show ((pairD [] w).showable && true) = true
    rw [h1]
    rfl
  · show ((pairD [] w).hasDict || false) = false
    rw [h2]
    rfl
  · show max ((pairD [] w).depth) 0 + 1 ≤ 60
    have : (pairD [] w).depth = 1 := rfl
    omega
  · have lv : PyData.leavesShort 20 (.list [pairD [] w]) = true := by
      show ((PyData.leavesShort 20 (.str (rd [])) && (PyData.leavesShort 20 (.str (rd w)) && true)) && true) = true
      rw [lv_rd, lv_rd]
      rfl
    have z := PyData.shown_le_bulk 20 (by decide) _ lv
    have e : sizeLine = 16777216 := by decide
    have b : (PyData.list [pairD [] w]).bulk = ((rd []).cps.size + 1 + ((rd w).cps.size + 1 + 0)) + 1 + 0 := rfl
    have e1 : (rd []).cps.size = 0 := rd_len []
    have e2 : (rd w).cps.size = w.length := rd_len w
    omega
/-- how many -/
def FxR.n : FxR → Nat
  | .fr _ _ => 1
  | .rg _ => 1
  | _ => 0
structure FxOk (m : M4) (R : FxR) : Prop where
  non : R = .non ↔ m = M4.one
  c0 : m ≠ M4.one → m.c = 0 → (m.a < m.d ∧ 0 < m.b ↔ R.n = 1)
  c1 : m.c ≠ 0 → m.b = 0 → (m.d < m.a ↔ R.n = 1)
  c2 : m.c ≠ 0 → m.b ≠ 0 → R.n = 1
  fr : ∀ x y, R = .fr x y → 1 ≤ x ∧ 1 ≤ y ∧ gl [x, y] = 1 ∧ Bd 200 x ∧ Bd 200 y ∧ m.c * x * x + (m.d - m.a) * x * y = m.b * y * y
  rg : ∀ w, R = .rg w → w.length ≤ 8000 ∧ Both w ∧ Prim w ∧ 0 < m.c ∧ Nsq (arnd [] w).tr3 (T3.lw (T3.fx m))
theorem FxOk.shw {m : M4} {R : FxR} (h : FxOk m R) : ShwF R.data := by
  cases R with
  | non => exact ⟨rfl, rfl, by show (0 : Nat) ≤ 60; decide, by decide +kernel⟩
  | nil => exact ⟨rfl, rfl, by show max 0 0 + 1 ≤ 60; decide, by decide +kernel⟩
  | fr x y =>
    obtain ⟨_, _, _, h1, h2, _⟩ := h.fr x y rfl
    exact shwF_fr (h1.up (by decide)) (h2.up (by decide))
  | rg w =>
    obtain ⟨h1, _⟩ := h.rg w rfl
    exact shwF_rg (by omega)
theorem FxR.At.lst {H H' : Hp} {v : V} {R : FxR} (h : R.At H H' v) (no : R ≠ .non) : ∃ (r : Addr) (xs : List V), v = .ref r ∧ H r = none ∧ H' r = some (.lst xs) ∧ xs.length = R.n ∧
    ∀ x ∈ xs, ∃ q, x = .ref q ∧ q ≠ r ∧ ((∃ x y, R = .fr x y ∧ H' q = some (.tup [.int x, .int y])) ∨ ∃ w, R = .rg w ∧ H' q = some (.tup [.str (rd []), .str (rd w)])) := by
  cases R with
  | non => exact absurd rfl no
  | nil =>
    obtain ⟨r, e, n, h⟩ := h
    exact ⟨r, [], e, n, h, rfl, fun x hx => absurd hx List.not_mem_nil⟩
  | fr x y =>
    obtain ⟨r, q, e, n1, n2, h1, h2⟩ := h
    refine ⟨r, _, e, n1, h1, rfl, fun z hz => ?_⟩
    rw [List.mem_singleton.mp hz]
    exact ⟨q, rfl, (fun z => by rw [z, h1] at h2; cases h2), .inl ⟨x, y, rfl, h2⟩⟩
  | rg w =>
    obtain ⟨r, q, e, n1, n2, h1, h2⟩ := h
    refine ⟨r, _, e, n1, h1, rfl, fun z hz => ?_⟩
    rw [List.mem_singleton.mp hz]
    exact ⟨q, rfl, (fun z => by rw [z, h1] at h2; cases h2), .inr ⟨w, rfl, h2⟩⟩
theorem FxR.n_le (R : FxR) : R.n ≤ 1 := by cases R <;> first | exact Nat.zero_le _ | exact Nat.le_refl _
end Lr

set_option exponentiation.threshold 5000
namespace Lr
/-! what is told around a number tells its road -/
theorem arnd_mat (f w : List Bool) : (arnd f w).mul (mat f) = mat (f ++ w) := by
  show (((mat f).mul (mat w)).mul (mat f).adj).mul (mat f) = _
  rw [M4.mul_assoc, adj_mul _ (mat_det f), M4.mul_one, mat_app]
theorem repR_succ (w : List Bool) (n : Nat) : repR w (n + 1) = repR w n ++ w := by
  unfold repR
  rw [List.replicate_succ', List.flatten_append]
  simp
theorem repR_succ' (w : List Bool) (n : Nat) : repR w (n + 1) = w ++ repR w n := by
  unfold repR
  rw [List.replicate_succ, List.flatten_cons]
theorem arnd_shift (f w : List Bool) : arnd (f ++ w) w = arnd f w := by
  have h1 : (arnd (f ++ w) w).mul (mat (f ++ w)) = (arnd f w).mul (mat (f ++ w)) := by
    rw [arnd_mat, mat_app f w, ← M4.mul_assoc, arnd_mat, ← mat_app]
  have h2 := congrArg (fun z => z.mul (mat (f ++ w)).adj) h1
  simp only [M4.mul_assoc, mul_adj _ (mat_det (f ++ w)), M4.mul_one] at h2
  exact h2
theorem arnd_far (f w : List Bool) (n : Nat) : arnd (f ++ repR w n) w = arnd f w := by
  induction n with
  | zero =>
    show arnd (f ++ []) w = _
    rw [List.append_nil]
  | succ n ih => rw [repR_succ, ← List.append_assoc, arnd_shift, ih]
theorem arnd_rep (f w : List Bool) (n : Nat) : arnd f (repR w n) = (arnd f w).pw n := by
  induction n with
  | zero =>
    show ((mat f).mul (mat [])).mul (mat f).adj = M4.one
    rw [show mat [] = M4.one from rfl, M4.mul_one, mul_adj _ (mat_det f)]
  | succ n ih =>
    show _ = ((arnd f w).pw n).mul (arnd f w)
    rw [← ih, repR_succ]
    show ((mat f).mul (mat (repR w n ++ w))).mul (mat f).adj = (((mat f).mul (mat (repR w n))).mul (mat f).adj).mul (((mat f).mul (mat w)).mul (mat f).adj)
    rw [mat_app]
    simp only [M4.mul_assoc]
    congr 2
    rw [← M4.mul_assoc (mat f).adj, adj_mul _ (mat_det f), M4.one_mul]
theorem wb_count (u : List Bool) : ((u.count false : Nat) : Int) + 1 ≤ wb u := by
  induction u with
  | nil => exact Int.le_refl _
  | cons t v ih =>
    have h := (wa_cons t v).2
    have p := (up_pos v).1
    cases t
    · rw [h, List.count_cons_self]
      show _ ≤ wa v + wb v
      omega
    · rw [h, List.count_cons_of_ne (by decide)]
      exact ih
theorem count_rep {w : List Bool} (h : false ∈ w) (n : Nat) : n ≤ (repR w n).count false := by
  induction n with
  | zero => exact Nat.zero_le _
  | succ n ih =>
    rw [repR_succ, List.count_append]
    have := List.count_pos_iff.mpr h
    omega
theorem arnd_turns {f g w k : List Bool} (bw : Both w) (bk : Both k) (h : arnd (true :: f) w = arnd (false :: g) k) : False := by
  have F : ∀ n, mat ((true :: f) ++ repR w n) = ((arnd (true :: f) w).pw n).mul (mat (true :: f)) := fun n => by rw [← arnd_rep, arnd_mat]
  have G : ∀ n, mat ((false :: g) ++ repR k n) = ((arnd (true :: f) w).pw n).mul (mat (false :: g)) := fun n => by rw [h, ← arnd_rep, arnd_mat]
  have dt : ∀ n, ((arnd (true :: f) w).pw n).det = 1 := fun n => by
    induction n with
    | zero => rfl
    | succ n ih =>
      show (((arnd (true :: f) w).pw n).mul (arnd (true :: f) w)).det = 1
      rw [M4.det_mul, ih, arnd_det]
      rfl
  have key : ∀ n, wa ((true :: f) ++ repR w n) * wb ((false :: g) ++ repR k n) - wa ((false :: g) ++ repR k n) * wb ((true :: f) ++ repR w n) = wa (true :: f) * wb (false :: g) - wa (false :: g) * wb (true :: f) := fun n => by
    have d := dt n
    unfold wa wb
    rw [F n, G n]
    generalize (arnd (true :: f) w).pw n = P at d
    generalize mat (true :: f) = X
    generalize mat (false :: g) = Y
    unfold M4.det at d
    simp only [M4.mul]
    grind
  generalize wa (true :: f) * wb (false :: g) - wa (false :: g) * wb (true :: f) = δ at key
  have z := key δ.natAbs
  have h1 := (wa_cons true (f ++ repR w δ.natAbs))
  have h2 := (wa_cons false (g ++ repR k δ.natAbs))
  have p1 := up_pos (f ++ repR w δ.natAbs)
  have p2 := up_pos (g ++ repR k δ.natAbs)
  simp only [if_true, Bool.false_eq_true, if_false] at h1 h2
  rw [List.cons_append, List.cons_append, h1.1, h1.2, h2.1, h2.2] at z
  have c := wb_count (f ++ repR w δ.natAbs)
  rw [List.count_append] at c
  have c2 := count_rep bw.1 δ.natAbs
  generalize wa (f ++ repR w δ.natAbs) = x at *
  generalize wb (f ++ repR w δ.natAbs) = y at *
  generalize wa (g ++ repR k δ.natAbs) = u at *
  generalize wb (g ++ repR k δ.natAbs) = v at *
  have e : (x + y) * (u + v) - u * y = x * u + x * v + y * v := by grind
  rw [e] at z
  have q1 : 0 ≤ x * u := Int.mul_nonneg (by omega) (by omega)
  have q2 : 0 ≤ x * v := Int.mul_nonneg (by omega) (by omega)
  have q3 : y ≤ y * v := by
    have := Int.mul_le_mul_of_nonneg_left (show 1 ≤ v by omega) (show 0 ≤ y by omega)
    omega
  omega
theorem arnd_strip {u f g w k : List Bool} (h : arnd (u ++ f) w = arnd (u ++ g) k) : arnd f w = arnd g k := by
  rw [arnd_ahead, arnd_ahead] at h
  have h2 := congrArg (fun z => ((mat u).adj.mul z).mul (mat u)) h
  simp only [M4.mul_assoc, adj_mul _ (mat_det u), M4.mul_one] at h2
  rw [← M4.mul_assoc, ← M4.mul_assoc, adj_mul _ (mat_det u), M4.one_mul, M4.one_mul] at h2
  exact h2
theorem arnd_sq {f g w k : List Bool} (bw : Both w) (bk : Both k) (h : arnd f w = arnd g k) : sq f w = sq g k := by
  refine Classical.byContradiction fun ne => ?_
  have ex : ∃ i, sq f w i ≠ sq g k i := Classical.byContradiction fun no => ne (funext fun i => Classical.byContradiction fun z => no ⟨i, z⟩)
  obtain ⟨i, hi, lo⟩ := first_ex ex
  have lw := List.length_pos_iff.mpr bw.ne
  have lk := List.length_pos_iff.mpr bk.ne
  have big : ∀ (f w : List Bool), 0 < w.length → i < f.length + (i + 1) * w.length := fun f w h => by
    have := Nat.mul_le_mul_left (i + 1) h
    omega
  have F : ∀ j, j ≤ i → (f ++ repR w (i + 1))[j]? = sq f w j := fun j hj => sq_any (by have := big f w lw; omega)
  have G : ∀ j, j ≤ i → (g ++ repR k (i + 1))[j]? = sq g k j := fun j hj => sq_any (by have := big g k lk; omega)
  have e : arnd (f ++ repR w (i + 1)) w = arnd (g ++ repR k (i + 1)) k := by rw [arnd_far, arnd_far, h]
  have lF : i < (f ++ repR w (i + 1)).length := by rw [List.length_append, repR_len]; exact big f w lw
  have lG : i < (g ++ repR k (i + 1)).length := by rw [List.length_append, repR_len]; exact big g k lk
  generalize f ++ repR w (i + 1) = F' at *
  generalize g ++ repR k (i + 1) = G' at *
  have pre : F'.take i = G'.take i := by
    refine List.ext_getElem? fun j => ?_
    by_cases c : j < i
    · rw [List.getElem?_take_of_lt c, List.getElem?_take_of_lt c, F j (by omega), G j (by omega)]
      exact Classical.byContradiction fun z => lo j c z
    · rw [List.getElem?_eq_none (by rw [List.length_take]; omega), List.getElem?_eq_none (by rw [List.length_take]; omega)]
  have sF : F' = F'.take i ++ F'[i] :: F'.drop (i + 1) := by rw [List.getElem_cons_drop, List.take_append_drop]
  have sG : G' = F'.take i ++ G'[i] :: G'.drop (i + 1) := by rw [pre, List.getElem_cons_drop, List.take_append_drop]
  rw [sF, sG] at e
  have e := arnd_strip e
  have hn : F'[i] ≠ G'[i] := fun z => hi (by rw [← F i (Nat.le_refl _), ← G i (Nat.le_refl _), List.getElem?_eq_getElem lF, List.getElem?_eq_getElem lG, z])
  cases a : F'[i] <;> cases b : G'[i] <;> rw [a, b] at e hn
  · exact hn rfl
  · exact arnd_turns bk bw e.symm
  · exact arnd_turns bw bk e
  · exact hn rfl
theorem sq_rep {f w : List Bool} {n : Nat} (h : w ≠ []) (n1 : 1 ≤ n) : sq f (repR w n) = sq f w := by
  funext i
  unfold sq
  by_cases c : i < f.length
  · rw [if_pos c, if_pos c]
  · rw [if_neg c, if_neg c, repR_len]
    have lw := List.length_pos_iff.mpr h
    have p : 0 < n * w.length := Nat.mul_pos n1 lw
    rw [repR_at (Nat.mod_lt _ p), Nat.mod_mod_of_dvd _ (Nat.dvd_mul_left _ _)]
/-- a map that leaves a number sends its course to the same -/
theorem commute_of {m n : M4} {d : T3} {α β : Int} (hm : m.tr3 = d.sc α) (hn : n.tr3 = d.sc β) : m.mul n = n.mul m := by
  obtain ⟨a, b, c, e⟩ := m
  obtain ⟨p, q, r, s⟩ := n
  obtain ⟨x, y, z⟩ := d
  simp only [M4.tr3, T3.sc, T3.mk.injEq] at hm hn
  obtain ⟨h1, h2, h3⟩ := hm
  obtain ⟨k1, k2, k3⟩ := hn
  simp only [M4.mul]
  congr 1 <;> grind
theorem pw_comm {m n : M4} (h : m.mul n = n.mul m) (k : Nat) : m.mul (n.pw k) = (n.pw k).mul m := by
  induction k with
  | zero => rw [show n.pw 0 = M4.one from rfl, M4.mul_one, M4.one_mul]
  | succ k ih =>
    show m.mul ((n.pw k).mul n) = ((n.pw k).mul n).mul m
    rw [← M4.mul_assoc, ih, M4.mul_assoc, h, ← M4.mul_assoc]
theorem mul_right_cancel {x y z : M4} (d : z.det ≠ 0) (h : x.mul z = y.mul z) : x = y := by
  obtain ⟨a, b, c, e⟩ := x
  obtain ⟨a', b', c', e'⟩ := y
  obtain ⟨p, q, r, s⟩ := z
  simp only [M4.mul, M4.mk.injEq] at h
  obtain ⟨h1, h2, h3, h4⟩ := h
  unfold M4.det at d
  have can : ∀ u v : Int, u * (p * s - q * r) = v * (p * s - q * r) → u = v := fun u v e => (Int.mul_eq_mul_right_iff d).mp e
  congr 1
  · exact can _ _ (by grind)
  · exact can _ _ (by grind)
  · exact can _ _ (by grind)
  · exact can _ _ (by grind)
theorem tra_one {w : List Bool} (h : ¬ Both w) : (mat w).tra = 2 := by
  have one : ∀ t : Bool, (∀ x ∈ w, x = t) → (mat w).a = 1 ∧ (mat w).d = 1 := by
    intro t
    have : ∀ w : List Bool, (∀ x ∈ w, x = t) → (mat w).a = 1 ∧ (mat w).d = 1 ∧ (if t then (mat w).c = 0 else (mat w).b = 0) := by
      intro w
      induction w using snoc_ind with
      | h0 =>
        intro _
        refine ⟨rfl, rfl, ?_⟩
        cases t <;> rfl
      | h1 w b ih =>
        intro h
        obtain ⟨i1, i2, i3⟩ := ih fun x hx => h x (List.mem_append_left _ hx)
        have eb := h b (List.mem_append_right _ List.mem_cons_self)
        subst eb
        rw [mat_snoc]
        cases b
        · have i3 : (mat w).b = 0 := i3
          refine ⟨?_, i2, i3⟩
          show (mat w).a + (mat w).b = 1
          omega
        · have i3 : (mat w).c = 0 := i3
          refine ⟨i1, ?_, i3⟩
          show (mat w).c + (mat w).d = 1
          omega
    exact fun h => ⟨(this w h).1, (this w h).2.1⟩
  have : (∀ x ∈ w, x = true) ∨ ∀ x ∈ w, x = false := by
    by_cases c : false ∈ w
    · refine .inr fun x hx => ?_
      cases x
      · rfl
      · exact absurd ⟨c, hx⟩ h
    · refine .inl fun x hx => ?_
      cases x
      · exact absurd hx c
      · rfl
  unfold M4.tra
  rcases this with z | z
  · obtain ⟨h1, h2⟩ := one _ z
    omega
  · obtain ⟨h1, h2⟩ := one _ z
    omega
theorem both_rep {w : List Bool} (h : Both w) {n : Nat} (n1 : 1 ≤ n) : Both (repR w n) := by
  obtain ⟨k, rfl⟩ : ∃ k, n = k + 1 := ⟨n - 1, by omega⟩
  rw [repR_succ']
  exact ⟨List.mem_append_left _ h.1, List.mem_append_left _ h.2⟩
theorem sent_self {m : M4} {f w : List Bool} (o : Okm m) (bw : Both w) {d : T3} {α : Int} (hm : m.tr3 = d.sc α) (nd : Nsq (arnd f w).tr3 d) {n j : Nat} (h : Fst (stR m f w) n j) :
    sq (wl m f w (j + 1)).flatten ((wl m f w (n + 1)).drop (j + 1)).flatten = sq f w := by
  have r0 := rg_on o h 0
  have r1 := rg_on o h 1
  have lt := h.lt
  rw [Nat.zero_mul, Nat.add_zero, show repR ((wl m f w (n + 1)).drop (j + 1)).flatten 0 = [] from rfl, List.append_nil] at r0
  rw [Nat.one_mul, show repR ((wl m f w (n + 1)).drop (j + 1)).flatten 1 = ((wl m f w (n + 1)).drop (j + 1)).flatten by unfold repR; simp] at r1
  generalize (wl m f w (j + 1)).flatten = F at *
  generalize ((wl m f w (n + 1)).drop (j + 1)).flatten = W at *
  generalize stR m f w j = R at *
  obtain ⟨k, _, hk, _⟩ := nd
  have cm := pw_comm (commute_of hm hk) (n - j)
  have e0 := r0.1
  have e1 := r1.1
  have dX : (m.mul (mat (f ++ repR w j))).det ≠ 0 := by
    rw [M4.det_mul, mat_det, Int.mul_one]
    exact o.d0
  have q1 : ((arnd f w).pw (n - j)).mul (m.mul (mat (f ++ repR w j))) = m.mul (mat (f ++ repR w (j + (n - j)))) := by
    rw [← M4.mul_assoc, ← cm, M4.mul_assoc, ← arnd_rep]
    congr 1
    have e : repR w (j + (n - j)) = repR w (n - j) ++ repR w j := by
      unfold repR
      rw [← List.flatten_append, List.replicate_append_replicate]
      congr 2
      omega
    rw [e, mat_app f (repR w j), ← M4.mul_assoc, arnd_mat, ← mat_app, List.append_assoc]
  have q2 : (arnd F W).mul (m.mul (mat (f ++ repR w j))) = m.mul (mat (f ++ repR w (j + (n - j)))) := by
    rw [e1, e0, ← M4.mul_assoc, arnd_mat]
  have eq := mul_right_cancel dX (q1.trans q2.symm)
  rw [← arnd_rep] at eq
  have b1 := both_rep bw (show 1 ≤ n - j by omega)
  have bW : Both W := Classical.byContradiction fun z => by
    have t1 := arnd_tra F W
    have t2 := arnd_tra f (repR w (n - j))
    rw [eq] at t2
    have t3 := tra_both b1
    rw [tra_one z] at t1
    omega
  rw [← arnd_sq b1 bW eq, sq_rep bw.ne (by omega)]
end Lr

namespace Lr
open PySem PySem.Spec PyProof.Rows L2
/-! which of a square's two numbers is told: the square itself, or its negative; both numbers followed turn by turn -/
/-- the number that is told (the square's greater one, if the first number is above 0) is above 0 -/
def T3.Pos (t : T3) : Prop := (0 < t.x ∧ (t.z < 0 ∨ t.y < 0)) ∨ (t.x < 0 ∧ t.z < 0 ∧ 0 < t.y)
/-- no fraction solves it -/
def T3.Ns (t : T3) : Prop := ∀ s : Int, s * s ≠ t.disc
theorem T3.Ns.go {t : T3} (h : t.Ns) (b : Bool) : (t.go b).Ns := fun s e => h s (by rw [e, go_disc])
theorem T3.Ns.x {t : T3} (h : t.Ns) : t.x ≠ 0 := fun e => h t.y (by unfold T3.disc; rw [e]; simp)
theorem T3.Ns.z {t : T3} (h : t.Ns) : t.z ≠ 0 := fun e => h t.y (by unfold T3.disc; rw [e]; simp)
theorem T3.Ns.s {t : T3} (h : t.Ns) : t.x + t.y + t.z ≠ 0 := by
  have := (h.go true).z
  unfold T3.go at this
  simpa using this
theorem go_T (t : T3) : t.go true = ⟨t.x, 2 * t.x + t.y, t.x + t.y + t.z⟩ := rfl
theorem go_F (t : T3) : t.go false = ⟨t.x + t.y + t.z, t.y + 2 * t.z, t.z⟩ := rfl
/-- a number behind a turn above 0 is above 0 ahead of it -/
theorem pos_back {t : T3} (h : t.Ns) (b : Bool) (p : (t.go b).Pos) : t.Pos := by
  have hx := h.x
  have hz := h.z
  have hs := h.s
  unfold T3.Pos at *
  cases b
  · rw [go_F] at p
    dsimp only at p
    omega
  · rw [go_T] at p
    dsimp only at p
    have : 0 < t.x → t.y < 0 ∨ t.z < 0 := by omega
    omega
/-- one turn only -/
theorem pos_one {t : T3} (h : t.Ns) (p : (t.go true).Pos) (q : (t.go false).Pos) : False := by
  have hx := h.x
  have hz := h.z
  have hs := h.s
  unfold T3.Pos at *
  rw [go_T] at p
  rw [go_F] at q
  dsimp only at p q
  omega
theorem pos_some {t : T3} (h : t.Ns) (d : 0 < t.disc) (p : t.Pos) : (t.go true).Pos ∨ (t.go false).Pos := by
  have hx := h.x
  have hz := h.z
  have hs := h.s
  have k1 : ¬ (0 < t.x ∧ 0 < t.z ∧ t.y < 0 ∧ 0 ≤ t.y + 2 * t.z ∧ 0 ≤ 2 * t.x + t.y) := fun ⟨x0, z0, y0, a1, a2⟩ => by
    have := Int.mul_le_mul (show -t.y ≤ 2 * t.x by omega) (show -t.y ≤ 2 * t.z by omega) (by omega) (by omega)
    unfold T3.disc at d
    rw [Int.neg_mul_neg] at this
    rw [show 2 * t.x * (2 * t.z) = 4 * t.x * t.z by rw [← Int.mul_assoc, Int.mul_comm 2 t.x, Int.mul_assoc t.x 2 2, Int.mul_comm t.x (2 * 2)]; rfl] at this
    omega
  have k2 : ¬ (t.x < 0 ∧ t.z < 0 ∧ 0 < t.y ∧ t.y + 2 * t.z ≤ 0 ∧ 2 * t.x + t.y ≤ 0) := fun ⟨x0, z0, y0, a1, a2⟩ => by
    have := Int.mul_le_mul (show t.y ≤ 2 * (-t.x) by omega) (show t.y ≤ 2 * (-t.z) by omega) (by omega) (by omega)
    unfold T3.disc at d
    rw [show 2 * -t.x * (2 * -t.z) = 4 * t.x * t.z by grind] at this
    omega
  unfold T3.Pos at *
  rw [go_T, go_F]
  dsimp only
  omega
/-- a course whose square is, up to what is above 0, the square of its road around -/
structure Tp (f w : List Bool) (t : T3) : Prop where
  b : Both w
  k : ∃ j k : Int, 0 < j ∧ 0 < k ∧ (arnd f w).tr3.sc j = t.sc k
theorem Tp.tail {f w : List Bool} {t : T3} {u : Bool} (h : Tp (u :: f) w t) : Tp f w (t.go u) := by
  obtain ⟨b, j, k, j0, k0, e⟩ := h
  refine ⟨b, j, k, j0, k0, ?_⟩
  rw [show u :: f = [u] ++ f from rfl, arnd_ahead] at e
  cases u
  · rw [tr3_L] at e
    have e1 : j * _ = k * t.x := congrArg T3.x e
    have e2 : j * _ = k * t.y := congrArg T3.y e
    have e3 : j * _ = k * t.z := congrArg T3.z e
    dsimp only at e1 e2 e3
    rw [go_F]
    refine T3.ext' ?_ ?_ ?_
    · show j * _ = k * (t.x + t.y + t.z); grind
    · show j * _ = k * (t.y + 2 * t.z); grind
    · show j * _ = k * t.z; grind
  · rw [tr3_R] at e
    have e1 : j * _ = k * t.x := congrArg T3.x e
    have e2 : j * _ = k * t.y := congrArg T3.y e
    have e3 : j * _ = k * t.z := congrArg T3.z e
    dsimp only at e1 e2 e3
    rw [go_T]
    refine T3.ext' ?_ ?_ ?_
    · show j * _ = k * t.x; grind
    · show j * _ = k * (2 * t.x + t.y); grind
    · show j * _ = k * (t.x + t.y + t.z); grind
theorem Tp.nil {w : List Bool} {t : T3} (h : Tp [] w t) : 0 < t.x ∧ t.z < 0 := by
  obtain ⟨b, j, k, j0, k0, e⟩ := h
  have g := mat_ge w
  have g1 := g.2.2.1 b.2
  have g2 := g.2.2.2 b.1
  have e0 : arnd [] w = mat w := by unfold arnd; rw [show mat [] = M4.one from rfl, M4.one_mul, show M4.one.adj = M4.one from rfl, M4.mul_one]
  rw [e0] at e
  have e1 : j * (mat w).c = k * t.x := congrArg T3.x e
  have e3 : j * -(mat w).b = k * t.z := congrArg T3.z e
  have p1 := Int.mul_pos j0 (show 0 < (mat w).c by omega)
  have p3 := Int.mul_neg_of_pos_of_neg j0 (show -(mat w).b < 0 by omega)
  exact ⟨Int.pos_of_mul_pos_right (a := k) (by omega) k0, Int.neg_of_mul_neg_right (a := k) (by omega) k0⟩
theorem Tp.pos : ∀ {f w : List Bool} {t : T3}, Tp f w t → t.Ns → t.Pos
  | [], w, t, h, ns => .inl ⟨h.nil.1, .inl h.nil.2⟩
  | u :: f, w, t, h, ns => pos_back ns u (Tp.pos h.tail (ns.go u))
/-- one turn on: along the road ahead, or around the ring -/
theorem Tp.shift {f w : List Bool} {t : T3} (h : Tp f w t) : ∃ (u : Bool) (g m : List Bool), sq f w 0 = some u ∧ (∀ n, sq f w (n + 1) = sq g m n) ∧ Tp g m (t.go u) := by
  cases f with
  | cons u f =>
    refine ⟨u, f, w, rfl, fun n => ?_, h.tail⟩
    unfold sq
    rw [List.length_cons]
    by_cases c : n < f.length
    · rw [if_pos (by omega), if_pos c]; rfl
    · rw [if_neg (by omega), if_neg c, show n + 1 - (f.length + 1) = n - f.length by omega]
  | nil =>
    cases w with
    | nil => exact absurd rfl h.b.ne
    | cons u w =>
      have e : Tp [u] (w ++ [u]) t := by
        obtain ⟨b, j, k, j0, k0, e⟩ := h
        refine ⟨⟨?_, ?_⟩, j, k, j0, k0, ?_⟩
        · exact List.mem_append.mpr ((List.mem_cons.mp b.1).elim (fun e => .inr (List.mem_singleton.mpr e)) .inl)
        · exact List.mem_append.mpr ((List.mem_cons.mp b.2).elim (fun e => .inr (List.mem_singleton.mpr e)) .inl)
        · have := arnd_on [] w u
          rw [List.nil_append] at this
          rw [this]; exact e
      refine ⟨u, [], w ++ [u], rfl, fun n => ?_, e.tail⟩
      have := congrFun (sq_on [] w u)
      rw [← this]
      unfold sq
      rw [List.nil_append]
      show (if n + 1 < 1 then _ else _) = _
      rw [if_neg (by omega), if_neg (by simp)]
      simp
/-- the square, with its sign, tells the course -/
theorem Tp.one : ∀ (n : Nat) {f w g m : List Bool} {t : T3}, t.Ns → Tp f w t → Tp g m t → sq f w n = sq g m n := by
  have same : ∀ {f w g m : List Bool} {t : T3} {u v : Bool}, t.Ns → Tp f w (t.go u) → Tp g m (t.go v) → u = v := fun {f w g m t u v} ns h k => by
    have p := h.pos (ns.go u)
    have q := k.pos (ns.go v)
    cases u <;> cases v
    · rfl
    · exact (pos_one ns q p).elim
    · exact (pos_one ns p q).elim
    · rfl
  intro n
  induction n with
  | zero =>
    intro f w g m t ns h k
    obtain ⟨u, f', w', s1, _, h'⟩ := h.shift
    obtain ⟨v, g', m', s2, _, k'⟩ := k.shift
    rw [s1, s2, same ns h' k']
  | succ n ih =>
    intro f w g m t ns h k
    obtain ⟨u, f', w', _, s1, h'⟩ := h.shift
    obtain ⟨v, g', m', _, s2, k'⟩ := k.shift
    have := same ns h' k'
    subst this
    rw [s1, s2]
    exact ih (ns.go u) h' k'
end Lr

namespace Lr
open PySem PySem.Spec PyProof.Rows L2
/-! a number is followed turn by turn till its square meets its ring -/
/-- the test of the turn -/
def T3.abv (t : T3) : Bool := (decide (2 * t.x + t.y < 0) || decide (t.disc > (2 * t.x + t.y) * (2 * t.x + t.y))) == decide (t.x > 0)
theorem abv_pos {t : T3} (h : t.Ns) (d : 0 < t.disc) (c : 0 < t.x * t.z) : t.abv = true ↔ (t.go true).Pos := by
  have hx := h.x
  have hz := h.z
  have hs := h.s
  have e : t.disc > (2 * t.x + t.y) * (2 * t.x + t.y) ↔ 4 * (t.x * (t.x + t.y + t.z)) < 0 := by
    have : t.disc - (2 * t.x + t.y) * (2 * t.x + t.y) = -(4 * (t.x * (t.x + t.y + t.z))) := by unfold T3.disc; grind
    omega
  have nd : ¬ (2 * t.x + t.y = 0 ∧ 0 < t.x * (t.x + t.y + t.z)) := fun ⟨z, p⟩ => by
    have : t.disc - (2 * t.x + t.y) * (2 * t.x + t.y) = -(4 * (t.x * (t.x + t.y + t.z))) := by unfold T3.disc; grind
    rw [z] at this
    omega
  have sg : t.x * (t.x + t.y + t.z) < 0 ↔ (0 < t.x ∧ t.x + t.y + t.z < 0) ∨ (t.x < 0 ∧ 0 < t.x + t.y + t.z) := by
    rcases Int.lt_or_gt_of_ne hx with x | x <;> rcases Int.lt_or_gt_of_ne hs with s | s
    · have := Int.mul_pos_of_neg_of_neg x s; omega
    · have := Int.mul_neg_of_neg_of_pos x s; omega
    · have := Int.mul_neg_of_pos_of_neg x s; omega
    · have := Int.mul_pos x s; omega
  have sp : 0 < t.x * (t.x + t.y + t.z) ↔ (0 < t.x ∧ 0 < t.x + t.y + t.z) ∨ (t.x < 0 ∧ t.x + t.y + t.z < 0) := by
    rcases Int.lt_or_gt_of_ne hx with x | x <;> rcases Int.lt_or_gt_of_ne hs with s | s
    · have := Int.mul_pos_of_neg_of_neg x s; omega
    · have := Int.mul_neg_of_neg_of_pos x s; omega
    · have := Int.mul_neg_of_pos_of_neg x s; omega
    · have := Int.mul_pos x s; omega
  unfold T3.abv
  rw [beq_iff_eq, Bool.eq_iff_iff, Bool.or_eq_true, decide_eq_true_iff, decide_eq_true_iff, decide_eq_true_iff, e]
  unfold T3.Pos
  rw [go_T]
  dsimp only
  rw [show 4 * (t.x * (t.x + t.y + t.z)) < 0 ↔ t.x * (t.x + t.y + t.z) < 0 by omega, sg]
  rw [sp] at nd
  omega
theorem Tp.x {f w : List Bool} {t : T3} (h : Tp f w t) (ns : t.Ns) (c : t.x * t.z < 0) : 0 < t.x ∧ t.z < 0 := by
  have p := h.pos ns
  unfold T3.Pos at p
  rcases Int.lt_or_gt_of_ne ns.x with x | x <;> rcases Int.lt_or_gt_of_ne ns.z with s | s
  · have := Int.mul_pos_of_neg_of_neg x s; omega
  · omega
  · omega
  · have := Int.mul_pos x s; omega
theorem Tp.turn {u : Bool} {f w : List Bool} {t : T3} (h : Tp (u :: f) w t) (ns : t.Ns) (d : 0 < t.disc) (c : 0 < t.x * t.z) : t.abv = u := by
  have p := h.tail.pos (ns.go u)
  cases u
  · cases e : t.abv with
    | false => rfl
    | true => exact (pos_one ns ((abv_pos ns d c).mp e) p).elim
  · exact (abv_pos ns d c).mpr p
theorem lw_x (t : T3) (h : t.x ≠ 0) : t = t.lw.sc (gl t.l : Int) ∧ (0 : Int) < (gl t.l : Int) := by
  have g := gl_pos (x := t.x) (l := t.l) (by simp [T3.l]) h
  refine ⟨?_, by omega⟩
  refine T3.ext' ?_ ?_ ?_
  · exact (Int.mul_ediv_cancel' (gl_dvd t.l t.x (by simp [T3.l]))).symm
  · exact (Int.mul_ediv_cancel' (gl_dvd t.l t.y (by simp [T3.l]))).symm
  · exact (Int.mul_ediv_cancel' (gl_dvd t.l t.z (by simp [T3.l]))).symm
theorem Ret.tp {D : Int} {t : T3} {n : Nat} (m : Met D t) (h : Ret t n) : Tp [] (t.way n) t := by
  have b := h.both m
  obtain ⟨k, k0, e, g, x⟩ := h.nsq m
  obtain ⟨e1, g1⟩ := lw_x t (by have := m.x; omega)
  refine ⟨b, (gl t.l : Int), k, g1, ?_, ?_⟩
  · have gg := mat_ge (t.way n)
    have g2 := gg.2.2.2 b.1
    have e0 : arnd [] (t.way n) = mat (t.way n) := by unfold arnd; rw [show mat [] = M4.one from rfl, M4.one_mul, show M4.one.adj = M4.one from rfl, M4.mul_one]
    rw [e0] at e
    have e1 : (mat (t.way n)).c = k * t.lw.x := congrArg T3.x e
    rw [Int.mul_comm] at e1
    exact Int.pos_of_mul_pos_right (a := t.lw.x) (by omega) x
  · rw [e, sc_sc]
    conv => rhs; rw [e1, sc_sc]
    rw [Int.mul_comm]
/-- the least way of the number: the turns till its square meets its ring, and the ring -/
theorem Tp.least {D : Int} {f w : List Bool} {t : T3} {i n : Nat} (h : Tp f w t) (ns : t.Ns) (i0 : i ≤ f.length)
    (nm : ∀ k, k < i → 0 < (t.gos (f.take k)).x * (t.gos (f.take k)).z) (m : Met D (t.gos (f.take i))) (r : Ret (t.gos (f.take i)) n)
    {c : List Bool × List Bool} (l : Lw f w c) : c = (f.take i, (t.gos (f.take i)).way n) := by
  have nsi : ∀ {u : List Bool} {t : T3}, t.Ns → (t.gos u).Ns := fun {u t} h s e => h s (by rw [e, gos_disc])
  have drop : ∀ (i : Nat) {f : List Bool} {t : T3}, Tp f w t → i ≤ f.length → Tp (f.drop i) w (t.gos (f.take i)) := by
    intro i
    induction i with
    | zero => intro f t h _; exact h
    | succ i ih =>
      intro f t h j
      cases f with
      | nil => exact absurd j (by simp)
      | cons u f => exact ih h.tail (by simpa using j)
  have hi := drop i h i0
  have q : ∀ n', sq (f.drop i) w n' = sq [] ((t.gos (f.take i)).way n) n' := fun n' => Tp.one n' (nsi ns) hi (r.tp m)
  generalize hT : t.gos (f.take i) = T at *
  have e : sq f w = sq (f.take i) (T.way n) := by
    funext j
    by_cases c : j < i
    · unfold sq
      rw [if_pos (by omega), if_pos (by rw [List.length_take]; omega), List.getElem?_take, if_pos c]
    · obtain ⟨j', rfl⟩ := Nat.exists_eq_add_of_le (show i ≤ j by omega)
      have z := q j'
      have e2 : sq (f.take i) (T.way n) (i + j') = sq [] (T.way n) j' := by
        unfold sq
        rw [List.length_take, show min i f.length = i by omega, if_neg (by omega), if_neg (by simp), show i + j' - i = j' by omega]
        rfl
      rw [e2, ← z]
      unfold sq
      rw [List.length_drop]
      by_cases c2 : i + j' < f.length
      · rw [if_pos c2, if_pos (by omega), List.getElem?_drop]
      · rw [if_neg c2, if_neg (by omega), show i + j' - f.length = j' - (f.length - i) by omega]
  have gi : ∀ {X Y : T3} {u : Bool}, X.go u = Y.go u → X = Y := fun {X Y u} z => by
    cases u
    · rw [go_F, go_F] at z
      have z1 := congrArg T3.x z
      have z2 := congrArg T3.y z
      have z3 := congrArg T3.z z
      dsimp only at z1 z2 z3
      exact T3.ext' (by omega) (by omega) (by omega)
    · rw [go_T, go_T] at z
      have z1 := congrArg T3.x z
      have z2 := congrArg T3.y z
      have z3 := congrArg T3.z z
      dsimp only at z1 z2 z3
      exact T3.ext' (by omega) (by omega) (by omega)
  have md : D = T.disc := m.d.symm
  have nsT : ∀ s : Int, s * s ≠ D := by rw [md, ← hT]; exact nsi ns
  have wn := r.pos
  obtain ⟨n', rfl⟩ : ∃ n', n = n' + 1 := ⟨n - 1, by omega⟩
  have lst : (T.way (n' + 1)).getLast? = some (T.gos (T.way n')).nx := by
    show (T.way n' ++ [_]).getLast? = _
    simp
  have fd : stp (f.take i, T.way (n' + 1)) = (f.take i, T.way (n' + 1)) := by
    refine stp_ne ?_
    show (f.take i).getLast? ≠ (T.way (n' + 1)).getLast?
    rw [lst]
    cases i with
    | zero => simp
    | succ k =>
      obtain ⟨u, hu⟩ : ∃ u, f[k]? = some u := ⟨_, List.getElem?_eq_getElem (by omega)⟩
      rw [List.take_add_one, hu] at hT ⊢
      rw [show f.take k ++ (some u).toList = f.take k ++ [u] from rfl] at hT ⊢
      rw [gos_snoc] at hT
      rw [List.getLast?_concat]
      intro e
      injection e with e
      have z1 := r.eq
      rw [way_st] at z1
      unfold T3.st at z1
      rw [← e, ← hT] at z1
      have z2 := gi z1
      have p := nm k (by omega)
      rw [hT] at z2
      have mm := way_met m nsT n'
      rw [z2] at mm
      have := Int.mul_neg_of_pos_of_neg mm.x mm.z
      omega
  exact sq_one l.prim (r.prim m) l.fix fd (l.sq.trans e)
end Lr

namespace Lr
open PySem PySem.Spec PyProof.Rows L2
/-! the other number of a square: it parts from its fellow at the last turn of the road ahead -/
theorem Tp.cons {u : Bool} {f w : List Bool} {t : T3} (h : Tp f w (t.go u)) : Tp (u :: f) w t := by
  obtain ⟨b, j, k, j0, k0, e⟩ := h
  refine ⟨b, j, k, j0, k0, ?_⟩
  rw [show u :: f = [u] ++ f from rfl, arnd_ahead]
  cases u
  · rw [tr3_L]
    rw [go_F] at e
    have e1 : j * _ = k * (t.x + t.y + t.z) := congrArg T3.x e
    have e2 : j * _ = k * (t.y + 2 * t.z) := congrArg T3.y e
    have e3 : j * _ = k * t.z := congrArg T3.z e
    refine T3.ext' ?_ ?_ ?_
    · show j * _ = k * t.x; grind
    · show j * _ = k * t.y; grind
    · show j * _ = k * t.z; grind
  · rw [tr3_R]
    rw [go_T] at e
    have e1 : j * _ = k * t.x := congrArg T3.x e
    have e2 : j * _ = k * (2 * t.x + t.y) := congrArg T3.y e
    have e3 : j * _ = k * (t.x + t.y + t.z) := congrArg T3.z e
    refine T3.ext' ?_ ?_ ?_
    · show j * _ = k * t.x; grind
    · show j * _ = k * t.y; grind
    · show j * _ = k * t.z; grind
theorem Tp.app {w : List Bool} : ∀ {u f : List Bool} {t : T3}, Tp f w (t.gos u) → Tp (u ++ f) w t
  | [], f, t, h => h
  | v :: u, f, t, h => (Tp.app (u := u) (t := t.go v) h).cons
theorem gos_sc (t : T3) (k : Int) (u : List Bool) : (t.sc k).gos u = (t.gos u).sc k := by
  rw [gos_act, gos_act]
  generalize mat u = m
  refine T3.ext' ?_ ?_ ?_
  · show k * t.x * m.a * m.a + k * t.y * m.a * m.c + k * t.z * m.c * m.c = k * (t.x * m.a * m.a + t.y * m.a * m.c + t.z * m.c * m.c); grind
  · show 2 * (k * t.x) * m.a * m.b + k * t.y * (m.a * m.d + m.b * m.c) + 2 * (k * t.z) * m.c * m.d = k * (2 * t.x * m.a * m.b + t.y * (m.a * m.d + m.b * m.c) + 2 * t.z * m.c * m.d); grind
  · show k * t.x * m.b * m.b + k * t.y * m.b * m.d + k * t.z * m.d * m.d = k * (t.x * m.b * m.b + t.y * m.b * m.d + t.z * m.d * m.d); grind
theorem Ns.gos {t : T3} (h : t.Ns) (u : List Bool) : (t.gos u).Ns := fun s e => h s (by rw [e, gos_disc])
theorem Ns.neg {t : T3} (h : t.Ns) : (t.sc (-1)).Ns := fun s e => h s (by rw [e]; show (-1 * t.y) * (-1 * t.y) - 4 * (-1 * t.x) * (-1 * t.z) = t.y * t.y - 4 * t.x * t.z; grind)
theorem disc_neg (t : T3) : (t.sc (-1)).disc = t.disc := by show (-1 * t.y) * (-1 * t.y) - 4 * (-1 * t.x) * (-1 * t.z) = t.y * t.y - 4 * t.x * t.z; grind
/-- the turns of a square keep within two bits more each -/
theorem gos_bd {k : Nat} : ∀ {u : List Bool} {t : T3}, (∀ i ∈ t.l, Bd k i) → ∀ i ∈ (t.gos u).l, Bd (k + 2 * u.length) i := by
  intro u
  induction u using snoc_ind with
  | h0 => intro t h; exact h
  | h1 u b ih =>
    intro t h i hi
    have g := ih h
    rw [gos_snoc] at hi
    rw [List.length_append, List.length_singleton, Nat.mul_add]
    generalize hj : k + 2 * u.length = j at g
    generalize t.gos u = X at *
    have hx := g X.x (by simp [T3.l])
    have hy := g X.y (by simp [T3.l])
    have hz := g X.z (by simp [T3.l])
    have p : 2 ^ (j + 2) = 4 * 2 ^ j := by rw [Nat.pow_add]; omega
    have hz := hz
    have q : ∀ i : Int, i.natAbs < 4 * 2 ^ j → Bd (j + 2 * 1) i := fun i z => by
      unfold Bd
      rw [Nat.mul_one, p]
      exact z
    clear g ih h
    unfold Bd at hx hy hz
    rw [← Nat.add_assoc, hj]
    refine q i ?_
    generalize 2 ^ j = B at *
    cases b
    · rw [go_F] at hi
      simp only [T3.l, List.mem_cons, List.not_mem_nil, or_false] at hi
      rcases hi with rfl | rfl | rfl <;> omega
    · rw [go_T] at hi
      simp only [T3.l, List.mem_cons, List.not_mem_nil, or_false] at hi
      rcases hi with rfl | rfl | rfl <;> omega
/-- where the two numbers part -/
theorem other_met {X : T3} {u : Bool} (ns : X.Ns) (c : 0 < X.x * X.z) (m : Met X.disc (X.go u)) : Met X.disc ((X.sc (-1)).go (!u)) := by
  have hx := ns.x
  have hz := ns.z
  have m1 := m.x
  have m2 := m.z
  have d : ∀ b, ((X.sc (-1)).go b).disc = X.disc := fun b => by rw [go_disc, disc_neg]
  have sg : (0 < X.x ∧ 0 < X.z) ∨ (X.x < 0 ∧ X.z < 0) := by
    rcases Int.lt_or_gt_of_ne hx with x | x <;> rcases Int.lt_or_gt_of_ne hz with s | s
    · omega
    · have := Int.mul_neg_of_neg_of_pos x s; omega
    · have := Int.mul_neg_of_pos_of_neg x s; omega
    · omega
  cases u
  · rw [go_F] at m1 m2
    dsimp only at m1 m2
    refine ⟨?_, ?_, d _⟩
    · show 0 < -1 * X.x; omega
    · show -1 * X.x + -1 * X.y + -1 * X.z < 0; omega
  · rw [go_T] at m1 m2
    dsimp only at m1 m2
    refine ⟨?_, ?_, d _⟩
    · show 0 < -1 * X.x + -1 * X.y + -1 * X.z; omega
    · show -1 * X.z < 0; omega
end Lr

namespace Lr
open PySem PySem.Spec PyProof.Rows L2
/-! the two numbers of a square, found -/
theorem Tp.drop {w : List Bool} : ∀ (i : Nat) {f : List Bool} {t : T3}, Tp f w t → i ≤ f.length → Tp (f.drop i) w (t.gos (f.take i)) := by
  intro i
  induction i with
  | zero => intro f t h _; exact h
  | succ i ih =>
    intro f t h j
    cases f with
    | nil => exact absurd j (by simp)
    | cons u f => exact ih h.tail (by simpa using j)
/-- what course_of_root comes to -/
structure Fnd (f w : List Bool) (t : T3) (i n : Nat) : Prop where
  i0 : i ≤ f.length
  nm : ∀ k, k < i → 0 < (t.gos (f.take k)).x * (t.gos (f.take k)).z
  m : Met t.disc (t.gos (f.take i))
  r : Ret (t.gos (f.take i)) n
  n0 : n ≤ 7290
  lw : ∀ c, Lw f w c → c = (f.take i, (t.gos (f.take i)).way n)
theorem Tp.found {f w : List Bool} {t : T3} (h : Tp f w t) (ns : t.Ns) (d1 : t.disc ≤ 18000) : ∃ i n, Fnd f w t i n := by
  have st : ∀ m, m ≤ f.length → (∃ i, i ≤ m ∧ ¬ 0 < (t.gos (f.take i)).x * (t.gos (f.take i)).z ∧ ∀ k, k < i → 0 < (t.gos (f.take k)).x * (t.gos (f.take k)).z) ∨ (∀ k, k ≤ m → 0 < (t.gos (f.take k)).x * (t.gos (f.take k)).z) := by
    intro m
    induction m with
    | zero =>
      intro _
      by_cases c : 0 < (t.gos (f.take 0)).x * (t.gos (f.take 0)).z
      · exact .inr fun k hk => by obtain rfl : k = 0 := by omega
                                  exact c
      · exact .inl ⟨0, Nat.le_refl _, c, fun k hk => absurd hk (by omega)⟩
    | succ m ih =>
      intro hm
      rcases ih (by omega) with ⟨i, hi, a, b⟩ | a
      · exact .inl ⟨i, by omega, a, b⟩
      · by_cases c : 0 < (t.gos (f.take (m + 1))).x * (t.gos (f.take (m + 1))).z
        · refine .inr fun k hk => ?_
          by_cases e : k = m + 1
          · subst e; exact c
          · exact a k (by omega)
        · exact .inl ⟨m + 1, Nat.le_refl _, c, fun k hk => a k (by omega)⟩
  rcases st f.length (Nat.le_refl _) with ⟨i, hi, c, nm⟩ | a
  · have nsi := Ns.gos ns (f.take i)
    have ne : (t.gos (f.take i)).x * (t.gos (f.take i)).z ≠ 0 := Int.mul_ne_zero nsi.x nsi.z
    have xz := (h.drop i hi).x nsi (by omega)
    have m : Met t.disc (t.gos (f.take i)) := ⟨xz.1, xz.2, gos_disc _ _⟩
    obtain ⟨n, hn, ret⟩ := ret_ex2 m ns d1
    exact ⟨i, n, hi, nm, m, ret, hn, fun c lw => h.least ns hi nm m ret lw⟩
  · have := a f.length (Nat.le_refl _)
    have tp := h.drop f.length (Nat.le_refl _)
    rw [List.drop_length] at tp
    have := Int.mul_neg_of_pos_of_neg tp.nil.1 tp.nil.2
    omega
/-- no road ahead where the square meets its ring, and only there -/
theorem Fnd.nil {f w : List Bool} {t : T3} {i n : Nat} (h : Fnd f w t i n) : i = 0 ↔ t.x * t.z < 0 := by
  constructor
  · rintro rfl
    exact Int.mul_neg_of_pos_of_neg h.m.x h.m.z
  · intro z
    refine Nat.eq_zero_of_not_pos fun p => ?_
    have : 0 < t.x * t.z := h.nm 0 p
    omega
/-- the other number -/
theorem Fnd.other {f w : List Bool} {t : T3} {i n : Nat} (h : Fnd f w t i n) (ns : t.Ns) (d1 : t.disc ≤ 18000) (c : 0 < t.x * t.z) :
    ∃ g m, Tp g m (t.sc (-1)) ∧ g.length ≤ f.length ∧ m.length ≤ 7290 ∧ g ≠ f.take i ∧ g ≠ [] ∧ Lw g m (g, m) := by
  have i1 : 1 ≤ i := by
    have := h.nil
    omega
  obtain ⟨k, rfl⟩ : ∃ k, i = k + 1 := ⟨i - 1, by omega⟩
  have hk := h.i0
  obtain ⟨u, hu⟩ : ∃ u, f[k]? = some u := ⟨_, List.getElem?_eq_getElem (by omega)⟩
  have et : f.take (k + 1) = f.take k ++ [u] := by rw [List.take_add_one, hu]; rfl
  have m := h.m
  rw [et, gos_snoc, ← gos_disc t (f.take k)] at m
  have p := h.nm k (by omega)
  have mo := other_met (Ns.gos ns _) p m
  rw [gos_disc] at mo
  obtain ⟨n', hn', ret⟩ := ret_ex2 mo ns d1
  have tp := Tp.app (u := f.take k ++ [!u]) (f := []) (t := t.sc (-1)) (w := (((t.gos (f.take k)).sc (-1)).go (!u)).way n') (by
    rw [gos_snoc, gos_sc]
    exact ret.tp mo)
  rw [List.append_nil] at tp
  have lg : (f.take k ++ [!u]).length = k + 1 := by rw [List.length_append, List.length_take]; show min k f.length + 1 = _; omega
  have e : t.gos (f.take k) = t.gos (f.take k) := rfl
  have tk : (f.take k ++ [!u]).take (k + 1) = f.take k ++ [!u] := List.take_of_length_le (by omega)
  refine ⟨f.take k ++ [!u], _, tp, by omega, by rw [way_len]; exact hn', ?_, by simp, ?_⟩
  · rw [et]
    intro z
    have z := List.append_cancel_left z
    cases u <;> cases z
  · obtain ⟨q, lq⟩ := least_ex tp.b.ne
    have lw : Lw (f.take k ++ [!u]) _ _ := ⟨q, lq, rfl⟩
    have tg : (t.sc (-1)).gos ((f.take k ++ [!u]).take (k + 1)) = ((t.gos (f.take k)).sc (-1)).go (!u) := by rw [tk, gos_snoc, gos_sc]
    have := tp.least (D := t.disc) (i := k + 1) (n := n') (Ns.neg ns) (by omega) (fun j hj => ?_) (by rw [tg]; exact mo) (by rw [tg]; exact ret) lw
    · rw [tg, tk] at this
      rw [this] at lw
      exact lw
    · rw [List.take_append_of_le_length (by rw [List.length_take]; omega), List.take_take, show min j k = j by omega, gos_sc]
      have := h.nm j (by omega)
      show 0 < (-1 * _) * (-1 * _)
      rw [Int.neg_one_mul, Int.neg_one_mul, Int.neg_mul_neg]
      exact this
end Lr

namespace Lr
open PySem PySem.Spec PyProof.Rows L2
/-! a square's two numbers have rings of one size -/
/-- every matrix of numbers from 0 on with determinant 1 is a road's -/
theorem mat_onto : ∀ (N : Nat) {a b c d : Int}, 0 ≤ a → 0 ≤ b → 0 ≤ c → 0 ≤ d → a * d - b * c = 1 → a + b + c + d ≤ N → ∃ w, mat w = ⟨a, b, c, d⟩ := by
  intro N
  induction N with
  | zero =>
    intro a b c d a0 b0 c0 d0 e n
    obtain rfl : a = 0 := by omega
    obtain rfl : b = 0 := by omega
    rw [Int.zero_mul, Int.zero_mul] at e
    omega
  | succ N ih =>
    intro a b c d a0 b0 c0 d0 e n
    by_cases x : b ≤ a ∧ d ≤ c
    · have bd : b + d ≠ 0 := fun z => by
        obtain rfl : b = 0 := by omega
        obtain rfl : d = 0 := by omega
        rw [Int.mul_zero, Int.zero_mul] at e
        omega
      obtain ⟨w, hw⟩ := ih (a := a - b) (b := b) (c := c - d) (d := d) (by omega) b0 (by omega) d0 (by grind) (by omega)
      refine ⟨w ++ [false], ?_⟩
      rw [mat_app, hw, mat_L]
      simp only [M4.mul]
      congr 1 <;> grind
    · by_cases y : a ≤ b ∧ c ≤ d
      · have ac : a + c ≠ 0 := fun z => by
          obtain rfl : a = 0 := by omega
          obtain rfl : c = 0 := by omega
          rw [Int.mul_zero, Int.zero_mul] at e
          omega
        obtain ⟨w, hw⟩ := ih (a := a) (b := b - a) (c := c) (d := d - c) a0 (by omega) c0 (by omega) (by grind) (by omega)
        refine ⟨w ++ [true], ?_⟩
        rw [mat_app, hw, mat_R]
        simp only [M4.mul]
        congr 1 <;> grind
      · by_cases z : b < a
        · have h1 := Int.mul_le_mul (show b + 1 ≤ a by omega) (show c + 1 ≤ d by omega) (by omega) a0
          have h2 : (b + 1) * (c + 1) = b * c + b + c + 1 := by grind
          obtain rfl : b = 0 := by omega
          obtain rfl : c = 0 := by omega
          rw [Int.mul_zero] at e
          have a1 : a = 1 := by
            refine Int.le_antisymm (Int.not_lt.mp fun q => ?_) (by omega)
            have := Int.mul_le_mul (show 2 ≤ a by omega) (show 1 ≤ d by omega) (by omega) a0
            omega
          subst a1
          obtain rfl : d = 1 := by omega
          exact ⟨[], rfl⟩
        · have h1 := Int.mul_le_mul (show a ≤ b by omega) (show d ≤ c by omega) d0 b0
          omega
theorem adj_tr3 (m : M4) : m.adj.tr3 = m.tr3.sc (-1) := by
  refine T3.ext' ?_ ?_ ?_
  · show -m.c = -1 * m.c; omega
  · show m.a - m.d = -1 * (m.d - m.a); omega
  · show - -m.b = -1 * -m.b; omega
theorem go_conj {M : M4} {t : T3} {j k : Int} (u : Bool) (e : M.tr3.sc j = t.sc k) : ((((mat [u]).adj.mul M).mul (mat [u])).tr3).sc j = (t.go u).sc k := by
  have e1 : j * M.c = k * t.x := congrArg T3.x e
  have e2 : j * (M.d - M.a) = k * t.y := congrArg T3.y e
  have e3 : j * -M.b = k * t.z := congrArg T3.z e
  cases u
  · rw [mat_L, go_F]
    simp only [M4.mul, M4.adj, M4.tr3]
    refine T3.ext' ?_ ?_ ?_
    · show j * _ = k * _; grind
    · show j * _ = k * _; grind
    · show j * _ = k * _; grind
  · rw [mat_R, go_T]
    simp only [M4.mul, M4.adj, M4.tr3]
    refine T3.ext' ?_ ?_ ?_
    · show j * _ = k * _; grind
    · show j * _ = k * _; grind
    · show j * _ = k * _; grind
theorem gos_conj {M : M4} {t : T3} {j k : Int} (e : M.tr3.sc j = t.sc k) (u : List Bool) : ((((mat u).adj.mul M).mul (mat u)).tr3).sc j = (t.gos u).sc k := by
  induction u using snoc_ind with
  | h0 =>
    show (((M4.one.adj.mul M).mul M4.one).tr3).sc j = t.sc k
    rw [M4.mul_one, show M4.one.adj = M4.one from rfl, M4.one_mul]
    exact e
  | h1 u b ih =>
    rw [gos_snoc, mat_app, adj_prod]
    have := go_conj b ih
    rw [← this]
    simp only [M4.mul_assoc]
/-- the ring of the other number has no greater a divisor -/
theorem other_gl {f w g m : List Bool} {t : T3} (h : Tp f w t) (k : Tp g m (t.sc (-1))) (ns : t.Ns) (lm : Lw g m (g, m)) : gl (arnd g m).tr3.l ≤ gl (arnd f w).tr3.l := by
  obtain ⟨b, j, kk, j0, k0, e⟩ := h
  have dM := arnd_det f w
  have tM : 3 ≤ (arnd f w).tra := by rw [arnd_tra]; exact tra_both b
  generalize arnd f w = M at *
  have eA : M.adj.tr3.sc j = (t.sc (-1)).sc kk := by
    rw [adj_tr3, sc_sc, Int.mul_comm, ← sc_sc, e, sc_sc, sc_sc, Int.mul_comm]
  have eN := gos_conj eA g
  have tp' := k.drop g.length (Nat.le_refl _)
  rw [List.take_length, List.drop_length] at tp'
  have tn := tp'.nil
  have dg := mat_det g
  have dN : (((mat g).adj.mul M.adj).mul (mat g)).det = 1 := by
    rw [M4.det_mul, M4.det_mul, adj_det, adj_det, dM, dg]; rfl
  have tN : 3 ≤ (((mat g).adj.mul M.adj).mul (mat g)).tra := by
    rw [tra_comm, ← M4.mul_assoc, mul_adj _ dg, M4.one_mul]
    show 3 ≤ M.d + M.a
    unfold M4.tra at tM
    omega
  have back : ((mat g).mul (((mat g).adj.mul M.adj).mul (mat g))).mul (mat g).adj = M.adj := by
    rw [M4.mul_assoc, M4.mul_assoc ((mat g).adj.mul M.adj), mul_adj _ dg, M4.mul_one, ← M4.mul_assoc, mul_adj _ dg, M4.one_mul]
  generalize ((mat g).adj.mul M.adj).mul (mat g) = N at *
  generalize hT : (t.sc (-1)).gos g = T at *
  have e1 : j * N.c = kk * T.x := congrArg T3.x eN
  have e3 : j * -N.b = kk * T.z := congrArg T3.z eN
  have c0 : 0 < N.c := by
    have := Int.mul_pos k0 tn.1
    exact Int.pos_of_mul_pos_right (a := j) (by omega) j0
  have b0 : -N.b < 0 := by
    have := Int.mul_neg_of_pos_of_neg k0 tn.2
    exact Int.neg_of_mul_neg_right (a := j) (by omega) j0
  unfold M4.det at dN
  unfold M4.tra at tN
  have ad : 0 < N.a * N.d := by
    have := Int.mul_pos (show 0 < N.b by omega) c0
    omega
  have a0 : 0 ≤ N.a := Int.not_lt.mp fun z => by
    have := Int.mul_neg_of_neg_of_pos z (show 0 < N.d by omega)
    omega
  have d0 : 0 ≤ N.d := Int.not_lt.mp fun z => by
    have := Int.mul_neg_of_pos_of_neg (show 0 < N.a by omega) z
    omega
  obtain ⟨v, hv⟩ := mat_onto (N.a + N.b + N.c + N.d).toNat a0 (by omega) (by omega) d0 dN (by omega)
  have hv : mat v = N := hv
  have bv : Both v := by
    by_cases x : Both v
    · exact x
    · have := tra_one x
      rw [hv] at this
      unfold M4.tra at this
      omega
  have ev : arnd g v = M.adj := by
    unfold arnd
    rw [hv]
    exact back
  have tv : Tp g v (t.sc (-1)) := ⟨bv, j, kk, j0, k0, by rw [ev]; exact eA⟩
  have sv : sq g v = sq g m := funext fun n => Tp.one n (Ns.neg ns) tv k
  obtain ⟨p, lp⟩ := least_ex bv.ne
  have lv : Lw g v (its g.length (g, v.take p)) := ⟨p, lp, rfl⟩
  have ec := lv.same sv lm
  have lm2 : m.length = (v.take p).length := by
    have := (its_le (g, v.take p) g.length).2
    rw [ec] at this
    exact this
  have st := sq_least lp g
  have m0 : 0 < m.length := List.length_pos_iff.mpr k.b.ne
  have em : v.take p = m := by
    refine List.ext_getElem? fun i => ?_
    by_cases hi : i < m.length
    · have z := congrFun (st.trans sv) (g.length + i)
      unfold sq at z
      rw [if_neg (by omega), if_neg (by omega), show g.length + i - g.length = i by omega, Nat.mod_eq_of_lt hi, Nat.mod_eq_of_lt (by omega)] at z
      exact z
    · rw [List.getElem?_eq_none (by omega), List.getElem?_eq_none (by omega)]
  have rv : repR m (v.length / p) = v := by
    rw [← em]
    exact (per_rep lp.1 lp.2.1).mpr ⟨lp.2.2.1, lp.dvd⟩
  have ap := arnd_rep g m (v.length / p)
  rw [rv, ev] at ap
  obtain ⟨α, hα⟩ := pw_tr3 (arnd_det g m) (v.length / p)
  rw [← ap, adj_tr3] at hα
  have gg := congrArg (fun z => gl (T3.l z)) hα
  simp only [gl_sc] at gg
  have gp : 0 < gl M.tr3.l := by
    have x0 := arnd_ne (f := g) bv
    rw [ev] at x0
    refine gl_pos (x := M.tr3.x) (by simp [T3.l]) fun z => x0 ?_
    rw [adj_tr3]
    show -1 * M.tr3.x = 0
    rw [z]; rfl
  have a1 : 1 ≤ α.natAbs := by
    refine Nat.pos_of_ne_zero fun z => ?_
    rw [z] at gg
    simp at gg
    omega
  have := Nat.mul_le_mul_right (gl (arnd g m).tr3.l) a1
  have u1 : (-1 : Int).natAbs = 1 := rfl
  rw [u1] at gg
  omega
end Lr

namespace Lr
open PySem PySem.Spec PyProof.Rows L2
/-! the square of a drawn course -/
def wordsQ : Nat → List (List Bool)
  | 0 => [[]]
  | n + 1 => (wordsQ n).map (List.cons false) ++ (wordsQ n).map (List.cons true)
theorem wordsQ_mem : ∀ w : List Bool, w ∈ wordsQ w.length
  | [] => List.mem_singleton.mpr rfl
  | false :: w => List.mem_append_left _ (List.mem_map_of_mem (wordsQ_mem w))
  | true :: w => List.mem_append_right _ (List.mem_map_of_mem (wordsQ_mem w))
theorem tra_six {w : List Bool} (h : w.length ≤ 6) : (mat w).tra ≤ 134 := by
  have all : ((List.range 7).all fun n => (wordsQ n).all fun w => decide ((mat w).tra ≤ 134)) = true := by decide +kernel
  have a1 := List.all_eq_true.mp all w.length (List.mem_range.mpr (by omega))
  exact of_decide_eq_true (List.all_eq_true.mp a1 w (wordsQ_mem w))
theorem tr3_disc (m : M4) (h : m.det = 1) : m.tr3.disc = m.tra * m.tra - 4 := by
  unfold M4.det at h
  show (m.d - m.a) * (m.d - m.a) - 4 * m.c * -m.b = (m.a + m.d) * (m.a + m.d) - 4
  grind
theorem sq_facts {f w : List Bool} {d : T3} (bw : Both w) (hw : w.length ≤ 6) (nd : Nsq (arnd f w).tr3 d) : d.Ns ∧ 0 < d.disc ∧ d.disc ≤ 18000 ∧ (Tp f w d ∨ Tp f w (d.sc (-1))) := by
  obtain ⟨p1, p2⟩ := disc_pos bw nd
  obtain ⟨k, k0, e, g, x⟩ := nd
  refine ⟨p2, by omega, ?_, ?_⟩
  · have h := tr3_disc (arnd f w) (arnd_det f w)
    rw [e, arnd_tra] at h
    have t1 := tra_six hw
    have t0 := tra_both bw
    have hd : (d.sc k).disc = k * k * d.disc := by
      show (k * d.y) * (k * d.y) - 4 * (k * d.x) * (k * d.z) = k * k * (d.y * d.y - 4 * d.x * d.z)
      grind
    rw [hd] at h
    have kk : 1 ≤ k * k := by
      have : 0 < k * k := by
        rcases Int.lt_or_gt_of_ne k0 with z | z
        · exact Int.mul_pos_of_neg_of_neg z z
        · exact Int.mul_pos z z
      omega
    have m1 := Int.mul_le_mul_of_nonneg_right kk (show 0 ≤ d.disc by omega)
    have m2 := Int.mul_le_mul t1 t1 (by omega) (by decide)
    omega
  · rcases Int.lt_or_gt_of_ne k0 with z | z
    · refine .inr ⟨bw, 1, -k, by decide, by omega, ?_⟩
      rw [e, sc_sc, sc_sc, Int.one_mul, Int.mul_neg_one, Int.neg_neg]
    · refine .inl ⟨bw, 1, k, by decide, z, ?_⟩
      rw [e, sc_sc, Int.one_mul]
end Lr

namespace Lr
open PySem PySem.Spec PyProof.Rows L2
/-! the same number told otherwise; its square from a course of it -/
theorem Told.tp {g m f w : List Bool} {t : T3} (h : Told g m f w) (b : Both m) (k : Tp f w t) : Tp g m t := by
  obtain ⟨_, c, c0, e⟩ := h
  obtain ⟨_, j, l, j0, l0, e2⟩ := k
  refine ⟨b, j, l * c, j0, Int.mul_pos l0 c0, ?_⟩
  rw [e, sc_sc, Int.mul_comm, ← sc_sc, e2, sc_sc, Int.mul_comm]
/-- the least way has the same square, up to what is above 0 -/
theorem Fnd.tp {f w : List Bool} {t : T3} {i n : Nat} (h : Fnd f w t i n) : Tp (f.take i) ((t.gos (f.take i)).way n) t := by
  have := Tp.app (u := f.take i) (f := []) (h.r.tp h.m)
  rw [List.append_nil] at this
  exact this
theorem Tp.nsq {g m : List Bool} {d : T3} {s : Int} (k : Tp g m (d.sc s)) (hs : s ≠ 0) (g1 : gl d.l = 1) (x : 0 < d.x) : Nsq (arnd g m).tr3 d := by
  obtain ⟨_, j, l, j0, l0, e⟩ := k
  rw [sc_sc] at e
  generalize (arnd g m).tr3 = X at *
  have q0 : l * s ≠ 0 := Int.mul_ne_zero (by omega) hs
  generalize l * s = q at *
  have gg := congrArg (fun z => gl (T3.l z)) e
  simp only [gl_sc, g1, Nat.mul_one] at gg
  have dv : j ∣ q := by
    have : j.natAbs ∣ q.natAbs := ⟨_, gg.symm⟩
    exact Int.natAbs_dvd_natAbs.mp this
  obtain ⟨r, rfl⟩ := dv
  have can : ∀ {a b : Int}, j * a = j * r * b → a = r * b := fun {a b} z => by
    rw [Int.mul_assoc] at z
    exact Int.eq_of_mul_eq_mul_left (by omega) z
  refine ⟨r, fun z => q0 (by rw [z, Int.mul_zero]), ?_, g1, x⟩
  refine T3.ext' ?_ ?_ ?_
  · exact can (congrArg T3.x e)
  · exact can (congrArg T3.y e)
  · exact can (congrArg T3.z e)
/-- which of a square's numbers are told, by the sign of its last number -/
theorem Tp.signs {f w : List Bool} {d : T3} (ns : d.Ns) (x : 0 < d.x) (h : Tp f w d ∨ Tp f w (d.sc (-1))) : (d.z < 0 ∧ Tp f w d) ∨ (0 < d.z ∧ d.y < 0) := by
  have hz := ns.z
  rcases h with h | h
  · have p := h.pos ns
    unfold T3.Pos at p
    by_cases c : d.z < 0
    · exact .inl ⟨c, h⟩
    · exact .inr (by omega)
  · have p := h.pos (Ns.neg ns)
    unfold T3.Pos at p
    have e1 : (d.sc (-1)).x = -1 * d.x := rfl
    have e2 : (d.sc (-1)).y = -1 * d.y := rfl
    have e3 : (d.sc (-1)).z = -1 * d.z := rfl
    rw [e1, e2, e3] at p
    refine .inr ?_
    omega
end Lr

namespace Lr
open PySem PySem.Spec PyProof.Rows L2
/-! both numbers of a square above 0 -/
/-- two courses, one told by the square, one by the square with its signs turned -/
def Tt (d : T3) (f w g m : List Bool) : Prop := (Tp f w d ∧ Tp g m (d.sc (-1))) ∨ (Tp f w (d.sc (-1)) ∧ Tp g m d)
theorem Tt.swap {d : T3} {f w g m : List Bool} (h : Tt d f w g m) : Tt d g m f w := h.elim (fun h => .inr ⟨h.2, h.1⟩) fun h => .inl ⟨h.2, h.1⟩
theorem sc_one' (d : T3) : d.sc 1 = d := by unfold T3.sc; simp only [Int.one_mul]
theorem Tt.nsq {d : T3} {f w g m : List Bool} (h : Tt d f w g m) (g1 : gl d.l = 1) (x : 0 < d.x) : Nsq (arnd g m).tr3 d := by
  rcases h with ⟨_, h⟩ | ⟨_, h⟩
  · exact h.nsq (by decide) g1 x
  · rw [← sc_one' d] at h
    exact h.nsq (by decide) g1 x
theorem Tt.told {d : T3} {f w g m f' w' : List Bool} (h : Tt d f w g m) (b : Both w') (k : Told f' w' f w) : Tt d f' w' g m :=
  h.elim (fun h => .inl ⟨k.tp b h.1, h.2⟩) fun h => .inr ⟨k.tp b h.1, h.2⟩
theorem Tt.b {d : T3} {f w g m : List Bool} (h : Tt d f w g m) : Both m := h.elim (fun h => h.2.b) fun h => h.2.b
theorem Tt.gl {d : T3} {f w g m : List Bool} (h : Tt d f w g m) (ns : d.Ns) (lm : Lw g m (g, m)) : gl (arnd g m).tr3.l ≤ gl (arnd f w).tr3.l := by
  rcases h with ⟨a, b⟩ | ⟨a, b⟩
  · exact other_gl a b ns lm
  · refine other_gl a ?_ (Ns.neg ns) lm
    rw [sc_sc]
    exact (sc_one' d).symm ▸ b
theorem Pu.ne_tup {H : Hp} {a p : Addr} {n : Nat} {xs : List V} (h : Pu H a n) (e : H p = some (.tup xs)) : p ≠ a := by
  rintro rfl
  obtain ⟨_, _, _, z, _⟩ := h
  rw [e] at z
  cases z
theorem Lw.ex {f w : List Bool} (n : w ≠ []) : ∃ c, Lw f w c := by
  obtain ⟨q, lq⟩ := least_ex n
  exact ⟨_, q, lq, rfl⟩
theorem Tp.both {f w : List Bool} {d : T3} (ns : d.Ns) (d1 : d.disc ≤ 18000) (x : 0 < d.x) (z : 0 < d.z) (ht : Tp f w d ∨ Tp f w (d.sc (-1))) :
    ∃ (c : List Bool × List Bool) (g m : List Bool), Lw f w c ∧ c.1 ≠ [] ∧ c.1.length ≤ f.length ∧ c.2.length ≤ 7290 ∧ Tt d c.1 c.2 g m ∧ Tt d f w g m ∧ Lw g m (g, m) ∧ g.length ≤ f.length ∧ m.length ≤ 7290 ∧ g ≠ c.1 := by
  have key : ∀ t : T3, t.Ns → t.disc ≤ 18000 → Tp f w t → 0 < t.x * t.z → ∃ (c : List Bool × List Bool) (g m : List Bool), Lw f w c ∧ c.1 ≠ [] ∧ c.1.length ≤ f.length ∧ c.2.length ≤ 7290 ∧ Tp c.1 c.2 t ∧ Tp g m (t.sc (-1)) ∧ Lw g m (g, m) ∧ g.length ≤ f.length ∧ m.length ≤ 7290 ∧ g ≠ c.1 := by
    intro t ns d1 tp xz
    obtain ⟨i, n, fd⟩ := tp.found ns d1
    obtain ⟨g, m, a1, a2, a3, a4, _, a6⟩ := fd.other ns d1 xz
    obtain ⟨c, lc⟩ := Lw.ex (f := f) tp.b.ne
    have e := fd.lw c lc
    refine ⟨_, g, m, e ▸ lc, ?_, ?_, ?_, fd.tp, a1, a6, a2, a3, a4⟩
    · intro h
      have i0 := fd.i0
      have : (f.take i).length = 0 := by rw [show f.take i = [] from h]; rfl
      rw [List.length_take] at this
      have := fd.nil.mp (by omega)
      omega
    · show (f.take i).length ≤ _
      rw [List.length_take]; omega
    · show (T3.way _ n).length ≤ _
      rw [way_len]; exact fd.n0
  rcases ht with tp | tp
  · obtain ⟨c, g, m, a, b, e, e', h, k, r⟩ := key d ns d1 tp (Int.mul_pos x z)
    exact ⟨c, g, m, a, b, e, e', .inl ⟨h, k⟩, .inl ⟨tp, k⟩, r⟩
  · obtain ⟨c, g, m, a, b, e, e', h, k, r⟩ := key (d.sc (-1)) (Ns.neg ns) (by rw [disc_neg]; exact d1) tp (by
      show 0 < (-1 * _) * (-1 * _)
      rw [Int.neg_one_mul, Int.neg_one_mul, Int.neg_mul_neg]
      exact Int.mul_pos x z)
    rw [sc_sc, show (-1 : Int) * -1 = 1 from rfl, sc_one'] at k
    exact ⟨c, g, m, a, b, e, e', .inr ⟨h, k⟩, .inr ⟨tp, k⟩, r⟩
end Lr

namespace Lr
open PySem PySem.Spec PyProof.Rows L2
/-! the courses of any square; which of both numbers is less -/
theorem Tp.met {t : T3} (ns : t.Ns) (d1 : t.disc ≤ 18000) (x : 0 < t.x) (z : t.z < 0) : ∃ w, Tp [] w t := by
  obtain ⟨n, _, r⟩ := ret_ex2 (D := t.disc) ⟨x, z, rfl⟩ ns d1
  exact ⟨_, r.tp ⟨x, z, rfl⟩⟩
theorem Tp.ex : ∀ (N : Nat) {t : T3}, t.Ns → 0 < t.disc → t.disc ≤ 18000 → t.Pos → t.y.natAbs ≤ 2 * N → ∃ f w, f.length ≤ N + 1 ∧ Tp f w t := by
  intro N
  induction N with
  | zero =>
    intro t ns d0 d1 p hy
    unfold T3.Pos at p
    obtain ⟨w, h⟩ := Tp.met ns d1 (by omega) (by omega)
    exact ⟨_, w, by simp, h⟩
  | succ N ih =>
    intro t ns d0 d1 p hy
    have hp := p
    unfold T3.Pos at p
    by_cases c : 0 < t.x ∧ t.z < 0
    · obtain ⟨w, h⟩ := Tp.met ns d1 c.1 c.2
      exact ⟨_, w, by simp, h⟩
    have hz := ns.z
    have key : ∀ u, (t.go u).Pos → ∃ f w, f.length ≤ N + 1 + 1 ∧ Tp f w t := by
      intro u pu
      have nu := ns.go u
      have du := go_disc t u
      by_cases c' : 0 < (t.go u).x ∧ (t.go u).z < 0
      · obtain ⟨w, h⟩ := Tp.met nu (by rw [du]; exact d1) c'.1 c'.2
        exact ⟨[u], w, by simp, h.cons⟩
      · have hu := nu.z
        obtain ⟨f, w, hf, h⟩ := ih nu (by rw [du]; exact d0) (by rw [du]; exact d1) pu (by
          unfold T3.Pos at pu
          cases u
          · rw [go_F] at *
            dsimp only at *
            omega
          · rw [go_T] at *
            dsimp only at *
            omega)
        exact ⟨u :: f, w, by simpa using hf, h.cons⟩
    rcases pos_some ns d0 hp with q | q
    · exact key true q
    · exact key false q
/-- both numbers above 0: the courses part at the last turn ahead, the less goes left there -/
theorem Tt.parts {c e : List Bool × List Bool} {f w g m : List Bool} {t : T3} (ns : t.Ns) (d1 : t.disc ≤ 18000) (x : 0 < t.x) (z : 0 < t.z)
    (a : Tp f w (t.sc (-1))) (b : Tp g m t) (lc : Lw f w c) (le : Lw g m e) : ∃ v : List Bool, c.1 = v ++ [false] ∧ e.1 = v ++ [true] := by
  obtain ⟨i, n, fd⟩ := b.found ns d1
  have i1 : 1 ≤ i := by
    have h1 := fd.nil
    have h2 := Int.mul_pos x z
    omega
  obtain ⟨k, rfl⟩ : ∃ k, i = k + 1 := ⟨i - 1, by omega⟩
  have hk := fd.i0
  obtain ⟨u, hu⟩ : ∃ u, g[k]? = some u := ⟨_, List.getElem?_eq_getElem (by omega)⟩
  have et : g.take (k + 1) = g.take k ++ [u] := by rw [List.take_add_one, hu]; rfl
  -- the signs stay till the numbers part
  have sg : ∀ j, j ≤ k → 0 < (t.gos (g.take j)).x ∧ 0 < (t.gos (g.take j)).z := by
    intro j
    induction j with
    | zero => intro _; exact ⟨x, z⟩
    | succ j ih =>
      intro hj
      obtain ⟨x1, z1⟩ := ih (by omega)
      have nm := fd.nm (j + 1) (by omega)
      obtain ⟨v, hv⟩ : ∃ v, g[j]? = some v := ⟨_, List.getElem?_eq_getElem (by omega)⟩
      have ev : g.take (j + 1) = g.take j ++ [v] := by rw [List.take_add_one, hv]; rfl
      rw [ev, gos_snoc] at nm ⊢
      generalize t.gos (g.take j) = X at *
      cases v
      · rw [go_F] at *
        dsimp only at *
        exact ⟨Int.pos_of_mul_pos_left nm z1, z1⟩
      · rw [go_T] at *
        dsimp only at *
        exact ⟨x1, Int.pos_of_mul_pos_right nm x1⟩
  obtain ⟨x1, z1⟩ := sg k (Nat.le_refl _)
  have mt := fd.m
  have ut : u = true := by
    rw [et, gos_snoc] at mt
    have q1 := mt.x
    have q2 := mt.z
    generalize t.gos (g.take k) = X at *
    cases u
    · rw [go_F] at q2
      dsimp only at q2
      omega
    · rfl
  subst ut
  -- the other one
  have p := fd.nm k (by omega)
  rw [et, gos_snoc, ← gos_disc t (g.take k)] at mt
  have mo := other_met (Ns.gos ns _) p mt
  rw [gos_disc] at mo
  obtain ⟨n', hn', ret⟩ := ret_ex2 mo ns d1
  have tp := Tp.app (u := g.take k ++ [false]) (f := []) (t := t.sc (-1)) (w := (((t.gos (g.take k)).sc (-1)).go false).way n') (by
    rw [gos_snoc, gos_sc]
    exact ret.tp mo)
  rw [List.append_nil] at tp
  refine ⟨g.take k, ?_, by rw [fd.lw e le, et]⟩
  have lg : (g.take k ++ [false]).length = k + 1 := by rw [List.length_append, List.length_take]; show min k g.length + 1 = _; omega
  have tk : (g.take k ++ [false]).take (k + 1) = g.take k ++ [false] := List.take_of_length_le (by omega)
  obtain ⟨q, lq⟩ := Lw.ex (f := g.take k ++ [false]) tp.b.ne
  have tg : (t.sc (-1)).gos ((g.take k ++ [false]).take (k + 1)) = ((t.gos (g.take k)).sc (-1)).go false := by rw [tk, gos_snoc, gos_sc]
  have this := tp.least (D := t.disc) (i := k + 1) (n := n') (Ns.neg ns) (by omega) (fun j hj => by
      rw [List.take_append_of_le_length (by rw [List.length_take]; omega), List.take_take, show min j k = j by omega, gos_sc]
      have := fd.nm j (by omega)
      show 0 < (-1 * _) * (-1 * _)
      rw [Int.neg_one_mul, Int.neg_one_mul, Int.neg_mul_neg]
      exact this) (by rw [tg]; exact mo) (by rw [tg]; exact ret) lq
  have e1 : c = q := Lw.same (funext fun n => Tp.one n (Ns.neg ns) a tp) lc lq
  rw [e1, this, tk]
end Lr

namespace Lr
open PySem PySem.Spec PyProof.Rows L2
/-! the list of a square's numbers above 0 -/
inductive Ent where
  | fr (x y : Int)
  | co (f w : List Bool)
deriving DecidableEq
def Ent.vs : Ent → List V
  | .fr x y => [.int x, .int y]
  | .co f w => [.str (rd f), .str (rd w)]
def Ent.data : Ent → PyData
  | .fr x y => tupD [x, y]
  | .co f w => pairD f w
theorem Ent.dp {K : PySem.W.Frag} {H : Hp} {a : Addr} {e : Ent} (h : H a = some (.tup e.vs)) : Dp K H (.ref a) e.data := by
  cases e with
  | fr x y => exact dp_tup (l := [x, y]) (SqT.of h)
  | co f w => exact dp_pair (SqT.of h)
/-- addresses of tuples, one for each entry -/
def Ents (H : Hp) : List Addr → List Ent → Prop
  | [], [] => True
  | a :: as, e :: es => H a = some (.tup e.vs) ∧ Ents H as es
  | _, _ => False
theorem Ents.len {H : Hp} : ∀ {as : List Addr} {R : List Ent}, Ents H as R → as.length = R.length
  | [], [], _ => rfl
  | a :: as, e :: es, h => congrArg (· + 1) h.2.len
  | [], e :: es, h => h.elim
  | a :: as, [], h => h.elim
theorem Ents.same {H H' : Hp} : ∀ {as : List Addr} {R : List Ent}, Ents H as R → Same H H' → Ents H' as R
  | [], [], _, _ => trivial
  | a :: as, e :: es, h, s => ⟨s _ _ h.1, h.2.same s⟩
  | [], e :: es, h, _ => h.elim
  | a :: as, [], h, _ => h.elim
theorem Ents.dp {K : PySem.W.Frag} {H : Hp} : ∀ {as : List Addr} {R : List Ent}, Ents H as R → DpAll K H (as.map V.ref) (R.map Ent.data)
  | [], [], _ => .nil
  | a :: as, e :: es, h => .cons (Ent.dp h.1) h.2.dp
  | [], e :: es, h => h.elim
  | a :: as, [], h => h.elim
theorem Ents.snoc {H : Hp} {a : Addr} {e : Ent} (h' : H a = some (.tup e.vs)) : ∀ {as : List Addr} {R : List Ent}, Ents H as R → Ents H (as ++ [a]) (R ++ [e])
  | [], [], _ => ⟨h', trivial⟩
  | b :: as, d :: es, h => ⟨h.1, h.2.snoc h'⟩
  | [], d :: es, h => h.elim
  | b :: as, [], h => h.elim
theorem ne_of_tup {H : Hp} {a r : Addr} {xs ys : List V} (h : H a = some (.tup xs)) (h' : H r = some (.lst ys)) : a ≠ r := fun e => by
  rw [e, h'] at h
  cases h
theorem Ents.upd {H : Hp} {r : Addr} {ys : List V} {o : HO} (h' : H r = some (.lst ys)) : ∀ {as : List Addr} {R : List Ent}, Ents H as R → Ents (L2.upd H r o) as R
  | [], [], h => trivial
  | a :: as, e :: es, h => ⟨by rw [upd_ne (ne_of_tup h.1 h')]; exact h.1, h.2.upd h'⟩
  | [], e :: es, h => h.elim
  | a :: as, [], h => h.elim
theorem Ents.at {H : Hp} : ∀ {as : List Addr} {R : List Ent} {i : Nat} {v : V}, Ents H as R → (as.map V.ref)[i]? = some v → ∃ a e, v = .ref a ∧ R[i]? = some e ∧ H a = some (.tup e.vs)
  | [], [], _, _, _, e => nomatch e
  | a :: as, d :: es, 0, v, h, e => ⟨a, d, (Option.some.inj e).symm, rfl, h.1⟩
  | a :: as, d :: es, i + 1, v, h, e => h.2.at (i := i) e
  | [], d :: es, _, _, h, _ => h.elim
  | a :: as, [], _, _, h, _ => h.elim
/-- a list of such tuples, made anew -/
def RtAt (H H' : Hp) (v : V) (R : List Ent) : Prop := ∃ r qs, v = .ref r ∧ H r = none ∧ H' r = some (.lst (qs.map V.ref)) ∧ Ents H' qs R
theorem RtAt.dp {K : PySem.W.Frag} {H H' : Hp} {v : V} {R : List Ent} (h : RtAt H H' v R) : Dp K H' v (.list (R.map Ent.data)) := by
  obtain ⟨r, qs, rfl, _, h1, h2⟩ := h
  exact .lst (SqL.of h1) h2.dp
theorem RtAt.same {H H' H2 : Hp} {v : V} {R : List Ent} (h : RtAt H H' v R) (s : Same H' H2) : RtAt H H2 v R := by
  obtain ⟨r, qs, e, n, h1, h2⟩ := h
  exact ⟨r, qs, e, n, s _ _ h1, h2.same s⟩
/-- an entry that is short enough for its text -/
def Ent.Sh : Ent → Prop
  | .fr x y => x.natAbs < 2 ^ 12 ∧ y.natAbs < 2 ^ 12
  | .co f w => f.length ≤ 100 ∧ w.length ≤ 8000
theorem small_tx {i : Int} (h : i.natAbs < 2 ^ 12) : (PyData.int i).shown.length ≤ 20 := by
  have z := int_text_length_le (a := i) (k := 13) (by decide) (Nat.lt_trans (PySem.Flt.log2_lt_of (k := 12) (by decide) h) (by decide))
  show (Str.ofString (toString i)).length ≤ 20
  rw [PySem.ofString_length]
  omega
theorem lv20_rd (w : List Bool) : PyData.leavesShort 20 (.str (rd w)) = true := by
  show ((rd w).cps.toList.all fun c => decide (c < 16 ^ 8)) = true
  rw [rd_cps, List.all_map, List.all_eq_true]
  intro t _
  cases t <;> decide
theorem Ent.ok {e : Ent} (h : e.Sh) : e.data.showable = true ∧ e.data.hasDict = false ∧ e.data.depth ≤ 2 ∧ PyData.leavesShort 20 e.data = true ∧ e.data.bulk ≤ 9000 := by
  cases e with
  | fr x y =>
    obtain ⟨hx, hy⟩ := h
    have lg : ∀ {i : Int}, i.natAbs < 2 ^ 12 → decide (i.natAbs.log2 < 1920) = true := fun {i} h => decide_eq_true (Nat.lt_trans (PySem.Flt.log2_lt_of (k := 12) (by decide) h) (by decide))
    refine ⟨?_, rfl, ?_, ?_, ?_⟩
    · show (decide (x.natAbs.log2 < 1920) && (decide (y.natAbs.log2 < 1920) && true)) = true
      rw [lg hx, lg hy]
      rfl
    · show max 0 (max 0 0) + 1 ≤ 2
      decide
    · show (decide ((PyData.int x).shown.length ≤ 20) && (decide ((PyData.int y).shown.length ≤ 20) && true)) = true
      rw [decide_eq_true (small_tx hx), decide_eq_true (small_tx hy)]
      rfl
    · show 1 + (1 + 0) ≤ 9000
      decide
  | co f w =>
    obtain ⟨hf, hw⟩ := h
    refine ⟨rfl, rfl, ?_, ?_, ?_⟩
    · show max 0 (max 0 0) + 1 ≤ 2
      decide
    · show (PyData.leavesShort 20 (.str (rd f)) && (PyData.leavesShort 20 (.str (rd w)) && true)) = true
      rw [lv20_rd, lv20_rd]
      rfl
    · have b : (pairD f w).bulk = (rd f).cps.size + 1 + ((rd w).cps.size + 1 + 0) := rfl
      have e1 : (rd f).cps.size = f.length := rd_len f
      have e2 : (rd w).cps.size = w.length := rd_len w
      show (pairD f w).bulk ≤ 9000
      omega
theorem ents_ok : ∀ {R : List Ent}, (∀ e ∈ R, e.Sh) → PyData.showableAll (R.map Ent.data) = true ∧ PyData.hasDictAll (R.map Ent.data) = false ∧ PyData.leavesShortAll 20 (R.map Ent.data) = true ∧ PyData.bulkAll (R.map Ent.data) ≤ 9001 * R.length ∧ PyData.depthAll (R.map Ent.data) ≤ 2
  | [], _ => ⟨rfl, rfl, rfl, Nat.zero_le _, Nat.zero_le _⟩
  | e :: R, h => by
    obtain ⟨h1, h2, h3, h4, h5⟩ := ents_ok (R := R) fun d hd => h d (List.mem_cons_of_mem _ hd)
    obtain ⟨g1, g2, g5, g3, g4⟩ := Ent.ok (h e List.mem_cons_self)
    refine ⟨?_, ?_, ?_, ?_, ?_⟩
    · show (e.data.showable && PyData.showableAll (R.map Ent.data)) = true
      rw [g1, h1]
      rfl
    · show (e.data.hasDict || PyData.hasDictAll (R.map Ent.data)) = false
      rw [g2, h2]
      rfl
    · show (PyData.leavesShort 20 e.data && PyData.leavesShortAll 20 (R.map Ent.data)) = true
      rw [g3, h3]
      rfl
    · show e.data.bulk + 1 + PyData.bulkAll (R.map Ent.data) ≤ 9001 * (R.length + 1)
      omega
    · show max e.data.depth (PyData.depthAll (R.map Ent.data)) ≤ 2
      omega
theorem shwF_ents {R : List Ent} (h : ∀ e ∈ R, e.Sh) (n : R.length ≤ 60) : ShwF (.list (R.map Ent.data)) := by
  obtain ⟨h1, h2, h3, h4, h5⟩ := ents_ok h
  refine ⟨h1, h2, ?_, ?_⟩
  · show PyData.depthAll (R.map Ent.data) + 1 ≤ 60
    omega
  · have z := PyData.shown_le_bulk 20 (by decide) (.list (R.map Ent.data)) h3
    have e : sizeLine = 16777216 := by decide
    have b : (PyData.list (R.map Ent.data)).bulk = PyData.bulkAll (R.map Ent.data) := rfl
    omega
/-! fractions -/
def frE (q r : Int) : Ent := .fr (r / (gl [r, q] : Int)) (q / (gl [r, q] : Int))
def addF (q : Int) (R : List Ent) (r : Int) : List Ent := if 0 < r ∧ frE q r ∉ R then R ++ [frE q r] else R
def frR (q : Int) (rs : List Int) : List Ent := rs.foldl (addF q) []
theorem any_fr {u v : Int} : ∀ {R : List Ent}, (∀ e ∈ R, ∃ x y, e = .fr x y) → ((R.map Ent.data).any fun z => PyData.eqv z (tupD [u, v])) = decide (Ent.fr u v ∈ R)
  | [], _ => rfl
  | e :: R, h => by
    obtain ⟨x, y, rfl⟩ := h e List.mem_cons_self
    have ih := any_fr (u := u) (v := v) (R := R) fun d hd => h d (List.mem_cons_of_mem _ hd)
    show (PyData.eqv (tupD [x, y]) (tupD [u, v]) || (R.map Ent.data).any fun z => PyData.eqv z (tupD [u, v])) = _
    rw [ih, eqv_tup, ← Bool.decide_or]
    refine decide_eq_decide.mpr ?_
    rw [List.mem_cons]
    constructor
    · rintro (z | z)
      · simp only [List.cons.injEq, and_true] at z
        exact .inl (by rw [z.1, z.2])
      · exact .inr z
    · rintro (z | z)
      · injection z with z1 z2
        exact .inl (by rw [z1, z2])
      · exact .inr z
theorem ents_lay : ∀ {R : List Ent}, (∀ e ∈ R, ∃ x y, e = .fr x y) → PyData.canLayAll0 (R.map Ent.data) = true ∧ PyData.depthAll (R.map Ent.data) ≤ 1
  | [], _ => ⟨rfl, Nat.zero_le _⟩
  | e :: R, h => by
    obtain ⟨x, y, rfl⟩ := h e List.mem_cons_self
    obtain ⟨h1, h2⟩ := ents_lay (R := R) fun d hd => h d (List.mem_cons_of_mem _ hd)
    constructor
    · show (PyData.canLayAll0 (intsD [x, y]) && PyData.canLayAll0 (R.map Ent.data)) = true
      rw [h1, lay_ints]
      rfl
    · show max (PyData.depthAll (intsD [x, y]) + 1) (PyData.depthAll (R.map Ent.data)) ≤ 1
      rw [depth0_ints]
      omega
theorem ents_shaped {R : List Ent} (h : ∀ e ∈ R, ∃ x y, e = .fr x y) : SeqAt.shaped (.list (R.map Ent.data)) = true := by
  obtain ⟨h1, h2⟩ := ents_lay h
  show (PyData.canLayAll0 (R.map Ent.data) && decide (PyData.depthAll (R.map Ent.data) + 1 ≤ 64)) = true
  rw [h1, decide_eq_true (by omega)]
  rfl
theorem frR_snoc (q : Int) (l : List Int) (r : Int) : frR q (l ++ [r]) = addF q (frR q l) r := by
  unfold frR
  rw [List.foldl_append]
  rfl
theorem frR_len (q : Int) (l : List Int) : (frR q l).length ≤ l.length := by
  have key : ∀ (l : List Int) (R : List Ent), (l.foldl (addF q) R).length ≤ R.length + l.length := by
    intro l
    induction l with
    | nil => exact fun R => Nat.le_refl _
    | cons r l ih =>
      intro R
      have := ih (addF q R r)
      have : (addF q R r).length ≤ R.length + 1 := by
        unfold addF
        split
        · rw [List.length_append]; exact Nat.le_refl _
        · omega
      show (l.foldl (addF q) (addF q R r)).length ≤ R.length + (l.length + 1)
      omega
  have := key l []
  unfold frR
  simpa using this
theorem frR_fr (q : Int) (rs : List Int) : ∀ e ∈ frR q rs, ∃ r, r ∈ rs ∧ 0 < r ∧ e = frE q r := by
  have key : ∀ (rs : List Int) (R : List Ent), ∀ e ∈ rs.foldl (addF q) R, e ∈ R ∨ ∃ r, r ∈ rs ∧ 0 < r ∧ e = frE q r := by
    intro rs
    induction rs with
    | nil => exact fun R e h => .inl h
    | cons r rs ih =>
      intro R e h
      rcases ih _ e h with z | ⟨r', m, p, z⟩
      · unfold addF at z
        split at z
        · rename_i c
          rcases List.mem_append.mp z with z | z
          · exact .inl z
          · exact .inr ⟨r, List.mem_cons_self, c.1, List.mem_singleton.mp z⟩
        · exact .inl z
      · exact .inr ⟨r', List.mem_cons_of_mem _ m, p, z⟩
  intro e h
  rcases key rs [] e h with z | z
  · cases z
  · exact z
theorem low_eqn2 {P R c e b : Int} (hP : 0 < P) (hR : 0 < R) (h : c * (P * P) + e * (P * R) = b * (R * R)) : ∃ x y, frE R P = .fr x y ∧ 1 ≤ x ∧ 1 ≤ y ∧ gl [x, y] = 1 ∧ x ≤ P ∧ y ≤ R ∧ P * y = R * x ∧ c * x * x + e * x * y = b * y * y := by
  obtain ⟨u, v, e1, u1, v1, g, uP, vR, gu, gv, gp⟩ := low_two hP hR
  have ee : frE R P = .fr u v := by
    have : lowl [P, R] = [P / (gl [P, R] : Int), R / (gl [P, R] : Int)] := rfl
    rw [this] at e1
    simp only [List.cons.injEq, and_true] at e1
    unfold frE
    rw [e1.1, e1.2]
  generalize (gl [P, R] : Int) = k at gu gv gp
  refine ⟨u, v, ee, u1, v1, by rw [gl2]; exact g, uP, vR, by rw [← gu, ← gv]; grind, ?_⟩
  have k0 : k ≠ 0 := fun z => by rw [z] at gu; omega
  have kk : k * k ≠ 0 := fun z => by rcases Int.mul_eq_zero.mp z with y | y <;> exact k0 y
  refine (Int.mul_eq_mul_left_iff kk).mp ?_
  rw [← gu, ← gv] at h
  grind
end Lr

namespace Lr
open PySem PySem.Spec PyProof.Rows L2
/-! which numbers above 0 a square has -/
structure RtIs (t : T3) (R : List Ent) : Prop where
  neg : t.disc < 0 → R = []
  pl : ∀ s, 0 ≤ s → s * s = t.disc → R = frR (2 * t.x) [-t.y - s, -t.y + s]
  one : 0 < t.disc → t.Ns → t.z < 0 → ∃ f w c, Tp f w t ∧ f.length ≤ 70 ∧ Lw f w c ∧ R = [.co c.1 c.2]
  two : 0 < t.disc → t.Ns → 0 < t.z → t.y < 0 → ∃ f w g m c e, Tp f w (t.sc (-1)) ∧ f.length ≤ 70 ∧ Tp g m t ∧ g.length ≤ 70 ∧ Lw f w c ∧ Lw g m e ∧ R = [.co c.1 c.2, .co e.1 e.2]
  no : 0 < t.disc → t.Ns → 0 < t.z → 0 ≤ t.y → R = []
theorem sq_uni {s k D : Int} (s0 : 0 ≤ s) (k0 : 0 ≤ k) (e : s * s = D) (f : k * k = D) : s = k := by
  have : (s - k) * (s + k) = 0 := by grind
  rcases Int.mul_eq_zero.mp this with h | h <;> omega
theorem sq_nn (s : Int) : 0 ≤ s * s := by
  rcases Int.le_total 0 s with c | c
  · exact Int.mul_nonneg c c
  · rw [← Int.neg_mul_neg]
    exact Int.mul_nonneg (by omega) (by omega)
theorem ns_of {D : Int} (h : ¬ ∃ s : Int, 0 ≤ s ∧ s * s = D) (s : Int) : s * s ≠ D := fun e => by
  rcases Int.le_total 0 s with c | c
  · exact h ⟨s, c, e⟩
  · exact h ⟨-s, by omega, by rw [Int.neg_mul_neg]; exact e⟩
theorem RtIs.ex {t : T3} (x : 0 < t.x) (hy : t.y.natAbs ≤ 60) (d1 : t.disc ≤ 18000) : ∃ R, RtIs t R := by
  by_cases neg : t.disc < 0
  · exact ⟨[], fun _ => rfl, fun s _ e => by have := sq_nn s; omega, fun h => by omega, fun h => by omega, fun h => by omega⟩
  by_cases sq : ∃ s : Int, 0 ≤ s ∧ s * s = t.disc
  · obtain ⟨s, s0, e⟩ := sq
    exact ⟨frR (2 * t.x) [-t.y - s, -t.y + s], fun h => absurd h neg, fun k k0 ek => by rw [sq_uni s0 k0 e ek], fun _ h => absurd e (h s), fun _ h => absurd e (h s), fun _ h => absurd e (h s)⟩
  have ns : t.Ns := ns_of sq
  have d0 : 0 < t.disc := by
    have := ns 0
    omega
  have no : ∀ s, 0 ≤ s → s * s ≠ t.disc := fun s _ => ns s
  have hz := ns.z
  by_cases z : t.z < 0
  · obtain ⟨f, w, hf, tp⟩ := Tp.ex 30 ns d0 d1 (.inl ⟨x, .inl z⟩) (by omega)
    obtain ⟨c, lc⟩ := Lw.ex (f := f) tp.b.ne
    exact ⟨_, fun h => absurd h neg, fun s s0 e => absurd e (no s s0), fun _ _ _ => ⟨f, w, c, tp, by omega, lc, rfl⟩, fun _ _ h => by omega, fun _ _ h => by omega⟩
  by_cases y : t.y < 0
  · obtain ⟨g, m, hg, tp⟩ := Tp.ex 30 ns d0 d1 (.inl ⟨x, .inr y⟩) (by omega)
    obtain ⟨f, w, hf, tp'⟩ := Tp.ex 30 (t := t.sc (-1)) (Ns.neg ns) (by rw [disc_neg]; exact d0) (by rw [disc_neg]; exact d1) (.inr ⟨by show -1 * _ < 0; omega, by show -1 * _ < 0; omega, by show 0 < -1 * _; omega⟩) (by show (-1 * _ : Int).natAbs ≤ _; omega)
    obtain ⟨c, lc⟩ := Lw.ex (f := f) tp'.b.ne
    obtain ⟨e, le⟩ := Lw.ex (f := g) tp.b.ne
    exact ⟨_, fun h => absurd h neg, fun s s0 e => absurd e (no s s0), fun _ _ h => by omega, fun _ _ _ _ => ⟨f, w, g, m, c, e, tp', by omega, tp, by omega, lc, le, rfl⟩, fun _ _ _ h => by omega⟩
  · exact ⟨[], fun h => absurd h neg, fun s s0 e => absurd e (no s s0), fun _ _ h => by omega, fun _ _ _ h => by omega, fun _ _ _ _ => rfl⟩
def manyR (t : T3) : Nat := if t.disc < 0 then 0 else if t.z < 0 then 1 else if t.z = 0 then (if t.y < 0 then 1 else 0) else if t.y < 0 then (if 0 < t.disc then 2 else 1) else 0
theorem manyR_le (t : T3) : manyR t ≤ 2 := by
  unfold manyR
  repeat' split
  all_goals omega
structure RtOk (t : T3) (R : List Ent) : Prop where
  sh : ∀ e ∈ R, e.Sh
  n : R.length = manyR t
  fr : ∀ s, 0 ≤ s → s * s = t.disc → ∀ e ∈ R, ∃ u v, e = .fr u v ∧ 1 ≤ u ∧ 1 ≤ v ∧ gl [u, v] = 1 ∧ u ≤ 400 ∧ v ≤ 400 ∧ t.x * u * u + t.y * u * v + t.z * v * v = 0
  up : ∀ s, 0 ≤ s → s * s = t.disc → ∀ d e, R = [d, e] → ∃ u v u' v', d = .fr u v ∧ e = .fr u' v' ∧ u * v' < u' * v
  co : t.Ns → ∀ e ∈ R, ∃ f w, e = .co f w ∧ f.length ≤ 70 ∧ w.length ≤ 7290 ∧ Both w ∧ Lw f w (f, w) ∧ Nsq (arnd f w).tr3 t.lw
  cu : t.Ns → ∀ d e, R = [d, e] → ∃ v w w', d = .co (v ++ [false]) w ∧ e = .co (v ++ [true]) w'
theorem sq_lt {a s : Int} (a0 : 0 ≤ a) (h : a * a < s * s) (s0 : 0 ≤ s) : a < s := by
  refine Int.not_le.mp fun z => ?_
  have := Int.mul_le_mul z z s0 a0
  omega
theorem frE_inj {q r r' : Int} (hq : 0 < q) (hr : 0 < r) (hr' : 0 < r') (e : frE q r = frE q r') : r = r' := by
  obtain ⟨u, v, e1, u1, v1, _, _, _, x1, _⟩ := low_eqn2 (P := r) (R := q) (c := 0) (e := 0) (b := 0) hr hq (by simp)
  obtain ⟨u', v', e2, u1', v1', _, _, _, x2, _⟩ := low_eqn2 (P := r') (R := q) (c := 0) (e := 0) (b := 0) hr' hq (by simp)
  rw [e1, e2] at e
  injection e with ea eb
  subst ea eb
  rw [← x2] at x1
  exact Int.eq_of_mul_eq_mul_right (by omega) x1
theorem frR_two {q r r' : Int} (hq : 0 < q) (h : r ≤ r') : frR q [r, r'] = if 0 < r then (if r = r' then [frE q r] else [frE q r, frE q r']) else if 0 < r' then [frE q r'] else [] := by
  unfold frR
  simp only [List.foldl_cons, List.foldl_nil]
  by_cases c : 0 < r
  · rw [if_pos c]
    have e : addF q [] r = [frE q r] := by
      unfold addF
      rw [if_pos ⟨c, by simp⟩]
      rfl
    rw [e]
    unfold addF
    by_cases d : r = r'
    · subst d
      rw [if_pos rfl, if_neg (by simp)]
    · rw [if_neg d, if_pos ⟨by omega, fun z => d (frE_inj hq c (by omega) (List.mem_singleton.mp z).symm)⟩]
      rfl
  · rw [if_neg c]
    have e : addF q [] r = [] := by
      unfold addF
      rw [if_neg (fun z => c z.1)]
    rw [e]
    unfold addF
    by_cases d : 0 < r'
    · rw [if_pos d, if_pos ⟨d, by simp⟩]
      rfl
    · rw [if_neg d, if_neg (fun z => d z.1)]
theorem disc_le {t : T3} (hx : t.x.natAbs ≤ 60) (hy : t.y.natAbs ≤ 60) (hz : t.z.natAbs ≤ 60) : t.disc ≤ 18000 := by
  have h1 : t.y * t.y ≤ 3600 := by
    have h := Nat.mul_le_mul hy hy
    have e : ((t.y.natAbs * t.y.natAbs : Nat) : Int) = t.y * t.y := Int.natAbs_mul_self
    omega
  have h2 : (t.x * t.z).natAbs ≤ 3600 := by
    rw [Int.natAbs_mul]
    exact Nat.mul_le_mul hx hz
  unfold T3.disc
  rw [Int.mul_assoc]
  omega
theorem RtIs.ok {t : T3} {R : List Ent} (h : RtIs t R) (x : 0 < t.x) (hx : t.x.natAbs ≤ 60) (hy : t.y.natAbs ≤ 60) (hz : t.z.natAbs ≤ 60) : RtOk t R := by
  have d1 := disc_le hx hy hz
  have dd : t.disc = t.y * t.y - 4 * t.x * t.z := rfl
  by_cases neg : t.disc < 0
  · rw [h.neg neg]
    have no : ¬ t.Ns → True := fun _ => trivial
    refine ⟨fun e he => (nomatch he), ?_, fun s _ e => by have := sq_nn s; omega, fun s _ e => by have := sq_nn s; omega, fun _ e he => (nomatch he), fun _ d e he => (nomatch he)⟩
    unfold manyR
    rw [if_pos neg]
    rfl
  by_cases sq : ∃ s : Int, 0 ≤ s ∧ s * s = t.disc
  · obtain ⟨s, s0, es⟩ := sq
    have er := h.pl s s0 es
    have q0 : 0 < 2 * t.x := by omega
    have s134 : s ≤ 134 := Int.not_lt.mp fun h => by
      have := Int.mul_le_mul (show (135 : Int) ≤ s by omega) (show (135 : Int) ≤ s by omega) (by omega) (by omega)
      omega
    have fr : ∀ e ∈ R, ∃ r, (r = -t.y - s ∨ r = -t.y + s) ∧ ∃ u v, e = .fr u v ∧ 1 ≤ u ∧ 1 ≤ v ∧ gl [u, v] = 1 ∧ u ≤ 400 ∧ v ≤ 400 ∧ r * v = 2 * t.x * u ∧ t.x * u * u + t.y * u * v + t.z * v * v = 0 := by
      intro e he
      rw [er] at he
      obtain ⟨r, hr, r0, rfl⟩ := frR_fr _ _ e he
      simp only [List.mem_cons, List.not_mem_nil, or_false] at hr
      have hr2 : (r + t.y) * (r + t.y) = s * s := by
        rcases hr with rfl | rfl <;> grind
      obtain ⟨u, v, e1, u1, v1, g, uP, vR, x1, eq⟩ := low_eqn2 (P := r) (R := 2 * t.x) (c := t.x) (e := t.y) (b := -t.z) r0 q0 (by
        rw [es, dd] at hr2
        grind)
      refine ⟨r, hr, u, v, e1, u1, v1, g, by omega, by omega, x1, ?_⟩
      have : -t.z * v * v = -(t.z * v * v) := by grind
      omega
    refine ⟨?_, ?_, ?_, ?_, fun ns => absurd es (ns s), fun ns => absurd es (ns s)⟩
    · intro e he
      obtain ⟨_, _, u, v, rfl, u1, v1, _, u4, v4, _⟩ := fr e he
      show u.natAbs < 2 ^ 12 ∧ v.natAbs < 2 ^ 12
      omega
    · rw [er, frR_two q0 (by omega)]
      unfold manyR
      rw [if_neg neg]
      have pz : t.y * t.y - s * s = 4 * (t.x * t.z) := by
        rw [es, dd]
        grind
      obtain ⟨a, a0, ea, ay⟩ : ∃ a : Int, 0 ≤ a ∧ a * a = t.y * t.y ∧ (a = t.y ∨ a = -t.y) := by
        rcases Int.le_total 0 t.y with c | c
        · exact ⟨_, c, rfl, .inl rfl⟩
        · exact ⟨-t.y, by omega, Int.neg_mul_neg _ _, .inr rfl⟩
      by_cases z : t.z < 0
      · rw [if_pos z]
        have := Int.mul_neg_of_pos_of_neg x z
        have := sq_lt a0 (by omega : a * a < s * s) s0
        rw [if_neg (by omega), if_pos (by omega)]
        rfl
      rw [if_neg z]
      by_cases z0 : t.z = 0
      · rw [if_pos z0]
        rw [z0, Int.mul_zero] at pz
        have : a = s := sq_uni a0 s0 ea (by omega)
        by_cases y : t.y < 0
        · rw [if_pos y, if_neg (by omega), if_pos (by omega)]
          rfl
        · rw [if_neg y, if_neg (by omega), if_neg (by omega)]
          rfl
      rw [if_neg z0]
      have := Int.mul_pos x (show 0 < t.z by omega)
      have := sq_lt s0 (by omega : s * s < a * a) a0
      by_cases y : t.y < 0
      · rw [if_pos y, if_pos (by omega)]
        by_cases c : s = 0
        · subst c
          rw [if_pos (by omega), if_neg (by omega)]
          rfl
        · have := Int.mul_pos (show 0 < s by omega) (show 0 < s by omega)
          rw [if_neg (by omega), if_pos (by omega)]
          rfl
      · rw [if_neg y, if_neg (by omega), if_neg (by omega)]
        rfl
    · intro k k0 ek e he
      obtain ⟨_, _, u, v, a1, a2, a3, a4, a5, a6, _, a7⟩ := fr e he
      exact ⟨u, v, a1, a2, a3, a4, a5, a6, a7⟩
    · intro k k0 ek d e he
      have er2 := er
      rw [frR_two q0 (by omega), he] at er2
      have c1 : 0 < -t.y - s := Classical.byContradiction fun c => by
        rw [if_neg c] at er2
        split at er2
        · cases er2
        · cases er2
      rw [if_pos c1] at er2
      have c2 : ¬ -t.y - s = -t.y + s := fun c => by
        rw [if_pos c] at er2
        cases er2
      rw [if_neg c2] at er2
      injection er2 with ed ee
      injection ee with ee _
      obtain ⟨u, v, e1, u1, v1, _, _, _, x1, _⟩ := low_eqn2 (P := -t.y - s) (R := 2 * t.x) (c := 0) (e := 0) (b := 0) c1 q0 (by simp)
      obtain ⟨u', v', e2, u1', v1', _, _, _, x2, _⟩ := low_eqn2 (P := -t.y + s) (R := 2 * t.x) (c := 0) (e := 0) (b := 0) (by omega) q0 (by simp)
      refine ⟨u, v, u', v', by rw [ed, e1], by rw [ee, e2], ?_⟩
      refine Int.lt_of_mul_lt_mul_left (a := 2 * t.x) ?_ (by omega)
      have vv := Int.mul_pos (show 0 < v by omega) (show 0 < v' by omega)
      have l1 : 2 * t.x * (u * v') = (-t.y - s) * (v * v') := by rw [← Int.mul_assoc, ← x1]; grind
      have l2 : 2 * t.x * (u' * v) = (-t.y + s) * (v * v') := by rw [← Int.mul_assoc, ← x2]; grind
      rw [l1, l2]
      exact Int.mul_lt_mul_of_pos_right (by omega) vv
  have ns : t.Ns := ns_of sq
  have d0 : 0 < t.disc := by
    have := ns 0
    omega
  have zz := ns.z
  obtain ⟨_, _, _, g1, lx⟩ := id (lw_nsq x)
  obtain ⟨et, gp⟩ := lw_x t (by omega)
  have co : ∀ {f w : List Bool} {c : List Bool × List Bool}, f.length ≤ 70 → Lw f w c → (Tp f w t ∨ Tp f w (t.sc (-1))) → c.1.length ≤ 70 ∧ c.2.length ≤ 7290 ∧ Both c.2 ∧ Lw c.1 c.2 (c.1, c.2) ∧ Nsq (arnd c.1 c.2).tr3 t.lw := by
    intro f w c hf lc h
    have key : ∀ {s : Int}, s ≠ 0 → Tp f w (t.lw.sc s) → (t.lw.sc s).Ns → (t.lw.sc s).disc ≤ 18000 → c.1.length ≤ 70 ∧ c.2.length ≤ 7290 ∧ Both c.2 ∧ Lw c.1 c.2 (c.1, c.2) ∧ Nsq (arnd c.1 c.2).tr3 t.lw := by
      intro s s0 tp ns d1
      obtain ⟨i, n, fd⟩ := tp.found ns d1
      have e := fd.lw c lc
      have ft := fd.tp
      subst e
      refine ⟨?_, ?_, ft.b, lc.self, ft.nsq s0 g1 lx⟩
      · show (List.take _ _).length ≤ _
        rw [List.length_take]
        omega
      · rw [way_len]
        exact fd.n0
    rcases h with h | h
    · refine key (s := (gl t.l : Int)) (by omega) ?_ ?_ ?_
      · rw [← et]; exact h
      · rw [← et]; exact ns
      · rw [← et]; exact d1
    · have e2 : t.sc (-1) = t.lw.sc (-1 * (gl t.l : Int)) := by
        rw [← sc_sc, ← et]
      refine key (s := -1 * (gl t.l : Int)) (by omega) ?_ ?_ ?_
      · rw [← e2]; exact h
      · rw [← e2]; exact Ns.neg ns
      · rw [← e2, disc_neg]; exact d1
  have cof : ∀ {c : List Bool × List Bool}, c.1.length ≤ 70 ∧ c.2.length ≤ 7290 ∧ Both c.2 ∧ Lw c.1 c.2 (c.1, c.2) ∧ Nsq (arnd c.1 c.2).tr3 t.lw → (Ent.co c.1 c.2).Sh := fun h => ⟨by omega, by omega⟩
  have nf : ∀ s, 0 ≤ s → s * s ≠ t.disc := fun s _ => ns s
  by_cases z : t.z < 0
  · obtain ⟨f, w, c, tp, hf, lc, rfl⟩ := h.one d0 ns z
    have k := co hf lc (.inl tp)
    refine ⟨?_, ?_, fun s s0 e => absurd e (nf s s0), fun s s0 e => absurd e (nf s s0), ?_, fun _ d e he => (nomatch he)⟩
    · intro e he
      rw [List.mem_singleton.mp he]
      exact cof k
    · unfold manyR
      rw [if_neg neg, if_pos z]
      rfl
    · intro _ e he
      exact ⟨_, _, List.mem_singleton.mp he, k⟩
  by_cases y : t.y < 0
  · obtain ⟨f, w, g, m, c, e, tp, hf, tp', hg, lc, le, rfl⟩ := h.two d0 ns (by omega) y
    have k := co hf lc (.inr tp)
    have k' := co hg le (.inl tp')
    obtain ⟨v, e1, e2⟩ := Tt.parts ns d1 x (by omega) tp tp' lc le
    refine ⟨?_, ?_, fun s s0 e => absurd e (nf s s0), fun s s0 e => absurd e (nf s s0), ?_, ?_⟩
    · intro e he
      simp only [List.mem_cons, List.not_mem_nil, or_false] at he
      rcases he with rfl | rfl
      · exact cof k
      · exact cof k'
    · unfold manyR
      rw [if_neg neg, if_neg z, if_neg zz, if_pos y, if_pos d0]
      rfl
    · intro _ e he
      simp only [List.mem_cons, List.not_mem_nil, or_false] at he
      rcases he with rfl | rfl
      · exact ⟨_, _, rfl, k⟩
      · exact ⟨_, _, rfl, k'⟩
    · intro _ d d' he
      injection he with he1 he2
      injection he2 with he2 _
      exact ⟨v, c.2, e.2, by rw [← he1, e1], by rw [← he2, e2]⟩
  · have er := h.no d0 ns (by omega) (by omega)
    subst er
    refine ⟨fun e he => (nomatch he), ?_, fun s _ _ e he => (nomatch he), fun s _ _ d e he => (nomatch he), fun _ e he => (nomatch he), fun _ d e he => (nomatch he)⟩
    unfold manyR
    rw [if_neg neg, if_neg z, if_neg zz, if_neg y]
    rfl
end Lr

set_option exponentiation.threshold 5000
namespace Lr
open PySem PySem.Spec PyProof.Rows L2
/-- isqrt(n) -/
theorem cr_isqrt {X : Cx} : CallR X (.builtin "math.isqrt") (fun vs H Q => ∃ n : Int, vs = [.int n] ∧ 0 ≤ n ∧ n < 2 ^ 64 ∧ ∀ s : Int, 0 ≤ s → s * s ≤ n → n < (s + 1) * (s + 1) → Q (.int s) H) := by
  intro pins s σ H vs us Q I r h
  obtain ⟨n, rfl, n0, n1, q⟩ := h
  obtain ⟨u, rfl, hu⟩ := vals1 r
  obtain ⟨t, rfl⟩ := hu
  obtain ⟨h1, h2⟩ := PySem.Float64.isqrt_spec n.toNat
  refine PySem.W.mg_isqrt n0 n1 ⟨.int _, H, I.tok _, ⟨_, rfl⟩, q _ (by omega) ?_ ?_⟩
  · rw [← Int.natCast_mul]
    omega
  · have : ((PySem.Float64.isqrt n.toNat : Nat) : Int) + 1 = ((PySem.Float64.isqrt n.toNat + 1 : Nat) : Int) := by omega
    rw [this, ← Int.natCast_mul]
    omega
end Lr

set_option exponentiation.threshold 5000
namespace Lr
open PySem PySem.Spec PyProof.Rows L2
/-! a dict written with one key that is a tuple -/
def tDisp1T (tk tv : TE) : TE := fun σ H Q => ∀ p, H p = none → tPairs [(tk, tv)] σ (upd H p (.dT [])) fun ps H2 => ∃ (key : List Key) (b : Addr) (y : V), ps = [(.ref b, y)] ∧ H2 p = some (.dT []) ∧ H2 b = some (.tup (key.map kV)) ∧ Q (.ref p) (upd H2 p (.dT [(key, y)]))
section
variable {X : Cx}
theorem pe_disp1T {k v : Expr} {pos : Pos} {tk tv : TE} (hu : X.A.units + 1 < cLine) (hk : PE X k tk) (hv : PE X v tv) : PE X (.Dict [some k] [v] pos) (tDisp1T tk tv) := by
  refine ⟨fun pins s σ H Q I h => ?_⟩
  refine wpAny_Dict_any rfl rfl (by simp) (Nat.le_of_ble_eq_true rfl) ?_
  have I1 : L2.Inv X pins σ (upd H s.heap.objs.size (.dT [])) { heap := s.heap.push { cls := .type "dict", data := .dict #[] }, gens := s.gens, drawn := s.drawn, toks := s.toks, os := s.os } := by
    refine I.laid (fun b u e => Heap.get?_push_of_some _ e) (Nat.le_refl _) ?_
    refine ⟨Nat.zero_le _, ?_, [], .nil, _, #[], 0, Heap.get?_push_size _ rfl, ?_, rfl, rfl, .nil⟩
    · have z := I.big
      exact beq_eq_false_iff_ne.mpr (fun y => by rw [y] at z; exact Nat.lt_irrefl _ z)
    · exact ⟨rfl, rfl, rfl⟩
  refine wpAny_mono ((pps_cons hk hv pps_nil).run pins _ σ _ (fun ps H2 => ∃ (key : List Key) (b : Addr) (y : V), ps = [(.ref b, y)] ∧ H2 s.heap.objs.size = some (.dT []) ∧ H2 b = some (.tup (key.map kV)) ∧ Q (.ref s.heap.objs.size) (upd H2 s.heap.objs.size (.dT [(key, y)]))) I1 ?_) (fun vs s1 z => ?_) (fun _ _ z => z)
  · exact h _ I.fresh
  · obtain ⟨ps, H2, I2, vv, key, b, y, rfl, hd, hb, q⟩ := z
    obtain ⟨u, e⟩ : ∃ u, vs = [(.ref b, u)] ∧ L2.RelV y u := by
      cases vv with
      | cons h t =>
        cases t
        obtain ⟨h1, h2⟩ := h
        exact ⟨_, by rw [← (show _ = Value.ref b from h1)], h2⟩
    obtain ⟨rfl, hy⟩ := e
    generalize s.heap.objs.size = d at *
    obtain ⟨_, hs, xs, hx, hdo⟩ := dt_of I2.hok hd
    cases hx
    have nb : b ≠ d := fun z => by
      rw [z, hd] at hb
      cases hb
    have run : wpAny (model X.prog X.w) X.A (dictSet d (.ref b) u) (fun _ s' => ∃ H', L2.Inv X pins σ H' s' ∧ Q (.ref d) H') X.xe s1 := by
      refine wpAny_dictSet_heap (knd := tupleKind (mixKind X.prog X.w)) (show X.A.units < cLine by omega) (key_of I2.hok hb) hdo (fun h' hd' sb => ?_) (Nat.zero_le _)
      obtain ⟨o, es, ep, g1, g2, g3, g4, g5, g6⟩ := hd'
      refine ⟨_, I2.write (x := d) (e := d) (o := .dT [(key, y)]) (by rw [hd]; trivial) (.inl rfl) (fun c w nc e => by rw [sb.2 c nc]; exact e) ⟨o, g1⟩ ?_, q⟩
      exact ⟨sz (by show 1 ≤ 1000000; decide), hs, [(key, b, u)], .cons ⟨rfl, by rw [upd_ne nb]; exact hb, hy⟩ .nil, o, es, ep, g1, g2, g3, g4, g6⟩
    refine wpAny_forIn_list _ (fun l _ s' => (l = [(Value.ref b, u)] ∧ s' = s1) ∨ (l = [] ∧ ∃ H', L2.Inv X pins σ H' s' ∧ Q (.ref d) H')) _ (fun x rest c s' z => ?_) (fun c s' z => ?_) _ _ (.inl ⟨rfl, rfl⟩)
    · rcases z with ⟨z1, rfl⟩ | ⟨z1, _⟩
      · cases z1
        refine wpAny_bind (wpAny_mono run (fun _ s2 z => wpAny_pure (.inr ⟨rfl, z⟩)) (fun _ _ z => z))
      · cases z1
    · rcases z with ⟨z1, _⟩ | ⟨_, H', I', q'⟩
      · cases z1
      · exact ⟨.ref d, H', I', rfl, q'⟩
end
end Lr

set_option exponentiation.threshold 5000
namespace Lr
open PySem PySem.Spec PyProof.Rows L2
/-! the road of a fraction -/
theorem wa_R (v : List Bool) : wa (true :: v) = wa v + wb v ∧ wb (true :: v) = wb v := by
  have h := wa_app [true] v
  rw [mat_R] at h
  obtain ⟨h1, h2⟩ := h
  have h1 : wa (true :: v) = 1 * wa v + 1 * wb v := h1
  have h2 : wb (true :: v) = 0 * wa v + 1 * wb v := h2
  omega
theorem wa_L (v : List Bool) : wa (false :: v) = wa v ∧ wb (false :: v) = wa v + wb v := by
  have h := wa_app [false] v
  rw [mat_L] at h
  obtain ⟨h1, h2⟩ := h
  have h1 : wa (false :: v) = 1 * wa v + 0 * wb v := h1
  have h2 : wb (false :: v) = 1 * wa v + 1 * wb v := h2
  omega
theorem road_ex : ∀ (k x y : Nat), 1 ≤ x → 1 ≤ y → Nat.gcd x y = 1 → x + y ≤ k → ∃ w : List Bool, wa w = x ∧ wb w = y ∧ w.length ≤ k
  | 0, x, y, hx, hy, _, h => by omega
  | k + 1, x, y, hx, hy, hg, h => by
    rcases Nat.lt_trichotomy x y with c | c | c
    · obtain ⟨w, h1, h2, h3⟩ := road_ex k x (y - x) hx (by omega) (by rw [Nat.gcd_comm, Nat.gcd_sub_self_left (by omega), Nat.gcd_comm]; exact hg) (by omega)
      obtain ⟨e1, e2⟩ := wa_L w
      refine ⟨false :: w, by rw [e1, h1], by rw [e2, h1, h2]; omega, ?_⟩
      rw [List.length_cons]
      omega
    · subst c
      rw [Nat.gcd_self] at hg
      subst hg
      exact ⟨[], rfl, rfl, Nat.zero_le _⟩
    · obtain ⟨w, h1, h2, h3⟩ := road_ex k (x - y) y (by omega) hy (by rw [Nat.gcd_sub_self_left (by omega)]; exact hg) (by omega)
      obtain ⟨e1, e2⟩ := wa_R w
      refine ⟨true :: w, by rw [e1, h1, h2]; omega, by rw [e2, h2], ?_⟩
      rw [List.length_cons]
      omega
/-- the end of a state: the road of what a map makes of 1 -/
def EndOf (r : M4) (e : List Bool) : Prop := lowl [r.a * 1 + r.b * 1, r.c * 1 + r.d * 1] = [wa e, wb e]
theorem end_ex {r : M4} (n : Nn r) (d : r.det ≠ 0) (l : Le 12 r) : ∃ e, EndOf r e ∧ e.length ≤ 48 := by
  obtain ⟨_, _, p1, p2⟩ := col_pos n d
  obtain ⟨a1, b1, c1, d1⟩ := l
  obtain ⟨u, v, e, u1, v1, g, uP, vR, _⟩ := low_two (P := r.a * 1 + r.b * 1) (R := r.c * 1 + r.d * 1) (by omega) (by omega)
  obtain ⟨w, h1, h2, h3⟩ := road_ex 48 u.natAbs v.natAbs (by omega) (by omega) g (by omega)
  refine ⟨w, ?_, h3⟩
  unfold EndOf
  rw [e, h1, h2]
  congr 1
  · omega
  · congr 1
    omega
theorem EndOf.one {r : M4} {e f : List Bool} (h : EndOf r e) (k : EndOf r f) : e = f := by
  unfold EndOf at *
  rw [h] at k
  simp only [List.cons.injEq, and_true] at k
  exact wa_inj k.1 k.2
/-! the maps that stand at the states, as they are come to -/
noncomputable def rd1 (r : M4) (t : Bool) : M4 := (out (r.mul (mat [t]))).2
noncomputable def wd1 (r : M4) (t : Bool) : List Bool := (out (r.mul (mat [t]))).1
theorem read1 {m r : M4} (o : Okm m) (h : Okr m r) (t : Bool) : Stl (r.mul (mat [t])) (wd1 r t) (rd1 r t) ∧ (wd1 r t).length ≤ 48 ∧ Okr m (rd1 r t) := by
  obtain ⟨v, s, hs, hl⟩ := stl_read h.nn h.bl (by rw [h.de]; exact o.d0) (by rw [h.de]; exact o.dt) [t]
  obtain ⟨h1, h2, h3⟩ := out_of (by rw [det_mat, h.de]; exact o.d0) hs
  refine ⟨h1, ?_, h1.2.1, h1.2.2, by show (out _).2.det = _; rw [h1.det, det_mat, h.de]⟩
  show (out (r.mul (mat [t]))).1.length ≤ _
  rw [h2]
  exact hl
open Classical in
noncomputable def addM (l : List M4) (q : M4) : List M4 := if q ∈ l then l else l ++ [q]
theorem addM_in {l : List M4} {q : M4} (h : q ∈ l) : addM l q = l := by
  unfold addM
  rw [if_pos h]
theorem addM_out {l : List M4} {q : M4} (h : ¬ q ∈ l) : addM l q = l ++ [q] := by
  unfold addM
  rw [if_neg h]
theorem addM_pre (l : List M4) (q : M4) : ∃ x, addM l q = l ++ x := by
  by_cases h : q ∈ l
  · exact ⟨[], by rw [addM_in h, List.append_nil]⟩
  · exact ⟨[q], addM_out h⟩
theorem addM_mem (l : List M4) (q : M4) : q ∈ addM l q := by
  by_cases h : q ∈ l
  · rw [addM_in h]
    exact h
  · rw [addM_out h]
    exact List.mem_append_right _ List.mem_cons_self
structure Lst (m : M4) (l : List M4) : Prop where
  ok : ∀ r ∈ l, Okr m r
  nd : l.Nodup
theorem Lst.add {m : M4} {l : List M4} {q : M4} (h : Lst m l) (k : Okr m q) : Lst m (addM l q) := by
  by_cases c : q ∈ l
  · rw [addM_in c]
    exact h
  · rw [addM_out c]
    refine ⟨fun r hr => ?_, ?_⟩
    · rcases List.mem_append.mp hr with z | z
      · exact h.ok r z
      · rw [List.mem_singleton.mp z]
        exact k
    · rw [List.nodup_append]
      refine ⟨h.nd, by simp, fun a ha b hb e => ?_⟩
      rw [List.mem_singleton.mp hb] at e
      exact c (e ▸ ha)
theorem Lst.len {m : M4} {l : List M4} (o : Okm m) (h : Lst m l) : l.length ≤ 364 := by
  have d0 := o.d0
  have dt := o.dt
  rw [← codes_len]
  by_cases d : 0 < m.det
  · have nd : (l.map code).Nodup := by
      rw [List.Nodup, List.pairwise_map]
      refine h.nd.imp_of_mem fun {a b} ha hb ne e => ne ?_
      exact code_one (h.ok a ha).nn (h.ok a ha).bl (h.ok b hb).nn (h.ok b hb).bl (by rw [(h.ok a ha).de]; exact d) (by rw [(h.ok a ha).de, (h.ok b hb).de]) e
    have z := List.Nodup.length_le_of_subset nd (l₂ := codes) (fun x hx => by
      obtain ⟨k, hk, rfl⟩ := List.mem_map.mp hx
      have z := h.ok k hk
      exact code_le z.nn z.bl (by rw [z.de]; exact d) (by rw [z.de]; omega))
    rw [List.length_map] at z
    exact z
  · have bs : ∀ r : M4, bal r → bal r.swp := fun r b => by
      unfold bal at *
      show (r.b - r.d) * (r.a - r.c) < 0
      rw [Int.mul_comm]
      exact b
    have nd : (l.map fun r => code r.swp).Nodup := by
      rw [List.Nodup, List.pairwise_map]
      refine h.nd.imp_of_mem fun {a b} ha hb ne e => ne ?_
      have z := code_one (h.ok a ha).nn.swp (bs _ (h.ok a ha).bl) (h.ok b hb).nn.swp (bs _ (h.ok b hb).bl) (by rw [swp_det, (h.ok a ha).de]; omega) (by rw [swp_det, swp_det, (h.ok a ha).de, (h.ok b hb).de]) e
      rw [← swp_swp a, ← swp_swp b]
      exact congrArg M4.swp z
    have z := List.Nodup.length_le_of_subset nd (l₂ := codes) (fun x hx => by
      obtain ⟨k, hk, rfl⟩ := List.mem_map.mp hx
      have z := h.ok k hk
      exact code_le z.nn.swp (bs _ z.bl) (by rw [swp_det, z.de]; omega) (by rw [swp_det, z.de]; omega))
    rw [List.length_map] at z
    exact z
noncomputable def enm (r0 : M4) : Nat → List M4
  | 0 => [r0]
  | s + 1 => match (enm r0 s)[s]? with
    | none => enm r0 s
    | some r => addM (addM (enm r0 s) (rd1 r false)) (rd1 r true)
theorem enm_some {r0 r : M4} {s : Nat} (h : (enm r0 s)[s]? = some r) : enm r0 (s + 1) = addM (addM (enm r0 s) (rd1 r false)) (rd1 r true) := by
  show (match (enm r0 s)[s]? with
    | none => enm r0 s
    | some r => addM (addM (enm r0 s) (rd1 r false)) (rd1 r true)) = _
  rw [h]
theorem enm_none {r0 : M4} {s : Nat} (h : (enm r0 s).length ≤ s) : enm r0 (s + 1) = enm r0 s := by
  show (match (enm r0 s)[s]? with
    | none => enm r0 s
    | some r => addM (addM (enm r0 s) (rd1 r false)) (rd1 r true)) = _
  rw [List.getElem?_eq_none h]
theorem enm_ok {m r0 : M4} (o : Okm m) (h : Okr m r0) : ∀ s, Lst m (enm r0 s)
  | 0 => ⟨fun r hr => by rw [List.mem_singleton.mp hr]; exact h, by show [r0].Nodup; simp⟩
  | s + 1 => by
    have ih := enm_ok o h s
    cases c : (enm r0 s)[s]? with
    | none => rw [enm_none (List.getElem?_eq_none_iff.mp c)]; exact ih
    | some r =>
      have hr := ih.ok r (List.mem_of_getElem? c)
      rw [enm_some c]
      exact (ih.add (read1 o hr false).2.2).add (read1 o hr true).2.2
theorem enm_pre (r0 : M4) (s : Nat) : ∃ x, enm r0 (s + 1) = enm r0 s ++ x := by
  cases c : (enm r0 s)[s]? with
  | none => exact ⟨[], by rw [enm_none (List.getElem?_eq_none_iff.mp c), List.append_nil]⟩
  | some r =>
    obtain ⟨x, hx⟩ := addM_pre (enm r0 s) (rd1 r false)
    obtain ⟨y, hy⟩ := addM_pre (addM (enm r0 s) (rd1 r false)) (rd1 r true)
    exact ⟨x ++ y, by rw [enm_some c, hy, hx, List.append_assoc]⟩
theorem enm_le (r0 : M4) (s : Nat) : ∀ k, ∃ x, enm r0 (s + k) = enm r0 s ++ x
  | 0 => ⟨[], by rw [List.append_nil]; rfl⟩
  | k + 1 => by
    obtain ⟨x, hx⟩ := enm_le r0 s k
    obtain ⟨y, hy⟩ := enm_pre r0 (s + k)
    exact ⟨x ++ y, by rw [← Nat.add_assoc, hy, hx, List.append_assoc]⟩
/-- where no state is left to be read on -/
structure Fin (r0 : M4) (N : Nat) : Prop where
  eq : (enm r0 N).length = N
  no : ∀ s, s < N → s < (enm r0 s).length
theorem fin_ex {m r0 : M4} (o : Okm m) (h : Okr m r0) : ∃ N, N ≤ 364 ∧ Fin r0 N := by
  obtain ⟨N, hN, no⟩ := first_ex (p := fun s => (enm r0 s).length ≤ s) ⟨364, (enm_ok o h 364).len o⟩
  have n364 : N ≤ 364 := Nat.not_lt.mp fun z => no 364 z ((enm_ok o h 364).len o)
  refine ⟨N, n364, ?_, fun s hs => Nat.not_le.mp (no s hs)⟩
  cases N with
  | zero =>
    have : (1 : Nat) ≤ 0 := hN
    omega
  | succ k =>
    obtain ⟨x, hx⟩ := enm_pre r0 k
    have z := Nat.not_le.mp (no k (Nat.lt_succ_self k))
    have e : (enm r0 (k + 1)).length = (enm r0 k).length + x.length := by rw [hx, List.length_append]
    have := hN
    omega
theorem Fin.past {r0 : M4} {N : Nat} (h : Fin r0 N) : ∀ k, enm r0 (N + k) = enm r0 N
  | 0 => rfl
  | k + 1 => by
    have ih := h.past k
    rw [← Nat.add_assoc, enm_none (by rw [ih, h.eq]; omega), ih]
/-! the rows of a machine -/
structure Rw where
  (w : List Bool) (j : Nat) (v : List Bool) (k : Nat) (e : List Bool)
structure RwOk (l : List M4) (r : M4) (x : Rw) : Prop where
  w : x.w = wd1 r false
  j : l[x.j]? = some (rd1 r false)
  v : x.v = wd1 r true
  k : l[x.k]? = some (rd1 r true)
  e : EndOf r x.e
theorem nodup_at {l : List M4} (h : l.Nodup) {i j : Nat} {r : M4} (hi : l[i]? = some r) (hj : l[j]? = some r) : i = j := by
  obtain ⟨h1, e1⟩ := List.getElem?_eq_some_iff.mp hi
  obtain ⟨h2, e2⟩ := List.getElem?_eq_some_iff.mp hj
  have z := List.pairwise_iff_getElem.mp h
  rcases Nat.lt_trichotomy i j with c | c | c
  · exact absurd (e1.trans e2.symm) (z i j h1 h2 c)
  · exact c
  · exact absurd (e2.trans e1.symm) (z j i h2 h1 c)
theorem RwOk.one {l : List M4} (h : l.Nodup) {r : M4} {x y : Rw} (hx : RwOk l r x) (hy : RwOk l r y) : x = y := by
  have e1 := hx.w.trans hy.w.symm
  have e2 := nodup_at h hx.j hy.j
  have e3 := hx.v.trans hy.v.symm
  have e4 := nodup_at h hx.k hy.k
  have e5 := hx.e.one hy.e
  cases x
  cases y
  simp only at e1 e2 e3 e4 e5
  subst e1 e2 e3 e4 e5
  rfl
theorem at_pre {l x : List M4} {i : Nat} {r : M4} (h : l[i]? = some r) : (l ++ x)[i]? = some r := by
  rw [List.getElem?_append_left (List.getElem?_eq_some_iff.mp h).1]
  exact h
theorem RwOk.up {l x : List M4} {r : M4} {y : Rw} (h : RwOk l r y) : RwOk (l ++ x) r y := ⟨h.w, at_pre h.j, h.v, at_pre h.k, h.e⟩
/-- the rows, so many -/
structure Rws (l : List M4) (rs : List Rw) : Prop where
  at_ : ∀ (i : Nat) (x : Rw), rs[i]? = some x → ∃ r : M4, l[i]? = some r ∧ RwOk l r x
theorem Rws.one {l : List M4} (h : l.Nodup) {rs qs : List Rw} (hr : Rws l rs) (hq : Rws l qs) (e : rs.length = qs.length) : rs = qs := by
  refine List.ext_getElem? fun i => ?_
  by_cases hi : i < rs.length
  · obtain ⟨r, h1, h2⟩ := hr.at_ i _ (List.getElem?_eq_getElem hi)
    obtain ⟨q, h3, h4⟩ := hq.at_ i _ (List.getElem?_eq_getElem (show i < qs.length by omega))
    rw [h1] at h3
    cases h3
    rw [List.getElem?_eq_getElem hi, List.getElem?_eq_getElem (show i < qs.length by omega), h2.one h h4]
  · rw [List.getElem?_eq_none (by omega), List.getElem?_eq_none (by omega)]
theorem Rws.up {l x : List M4} {rs : List Rw} (h : Rws l rs) : Rws (l ++ x) rs := ⟨fun i y hy => by
  obtain ⟨r, h1, h2⟩ := h.at_ i y hy
  exact ⟨r, at_pre h1, h2.up⟩⟩
theorem Rws.snoc {l : List M4} {rs : List Rw} {r : M4} {x : Rw} (h : Rws l rs) (hr : l[rs.length]? = some r) (hx : RwOk l r x) : Rws l (rs ++ [x]) := ⟨fun i y hy => by
  by_cases hi : i < rs.length
  · rw [List.getElem?_append_left hi] at hy
    exact h.at_ i y hy
  · have : i = rs.length := by
      have := (List.getElem?_eq_some_iff.mp hy).1
      rw [List.length_append] at this
      have : i < rs.length + 1 := this
      omega
    subst this
    rw [List.getElem?_append_right (Nat.le_refl _), Nat.sub_self] at hy
    cases hy
    exact ⟨r, hr, hx⟩⟩
end Lr

set_option exponentiation.threshold 5000
namespace Lr
open PySem PySem.Spec PyProof.Rows L2
/-! maps and rows in the heap -/
def TupS (H H' : Hp) : Prop := ∀ b xs, H b = some (.tup xs) → H' b = some (.tup xs)
theorem TupS.of {H H' : Hp} (h : Same H H') : TupS H H' := fun b xs e => h b _ e
theorem TupS.trans {H H1 H2 : Hp} (x : TupS H H1) (y : TupS H1 H2) : TupS H H2 := fun b xs e => y b xs (x b xs e)
theorem TupS.lst {H : Hp} {a : Addr} {xs : List V} {o : HO} (h : H a = some (.lst xs)) : TupS H (upd H a o) := fun b ys e => by
  rw [upd_ne (fun z => by rw [z, h] at e; cases e)]
  exact e
theorem TupS.dT {H : Hp} {a : Addr} {xs : List (List Key × V)} {o : HO} (h : H a = some (.dT xs)) : TupS H (upd H a o) := fun b ys e => by
  rw [upd_ne (fun z => by rw [z, h] at e; cases e)]
  exact e
def MapsL (H : Hp) (ps : List Addr) (l : List M4) : Prop := ps.length = l.length ∧ ∀ (k : Nat) (a : Addr) (r : M4), ps[k]? = some a → l[k]? = some r → H a = some (.tup (r.l.map V.int))
theorem MapsL.up {H H' : Hp} {ps : List Addr} {l : List M4} (h : MapsL H ps l) (t : TupS H H') : MapsL H' ps l := ⟨h.1, fun k a r x y => t _ _ (h.2 k a r x y)⟩
theorem MapsL.snoc {H : Hp} {ps : List Addr} {l : List M4} {q : Addr} {r : M4} (h : MapsL H ps l) (e : H q = some (.tup (r.l.map V.int))) : MapsL H (ps ++ [q]) (l ++ [r]) := by
  refine ⟨by rw [List.length_append, List.length_append, h.1]; rfl, fun k a s x y => ?_⟩
  by_cases c : k < ps.length
  · rw [List.getElem?_append_left c] at x
    rw [List.getElem?_append_left (by rw [← h.1]; exact c)] at y
    exact h.2 k a s x y
  · rw [List.getElem?_append_right (by omega)] at x
    rw [List.getElem?_append_right (by rw [← h.1]; omega), ← h.1] at y
    cases d : k - ps.length with
    | zero =>
      rw [d] at x y
      cases x
      cases y
      exact e
    | succ n =>
      rw [d] at x
      cases x
theorem MapsL.at_ {H : Hp} {ps : List Addr} {l : List M4} (h : MapsL H ps l) {k : Nat} {r : M4} (y : l[k]? = some r) : ∃ a, ps[k]? = some a ∧ H a = some (.tup (r.l.map V.int)) := by
  have c : k < ps.length := by rw [h.1]; exact (List.getElem?_eq_some_iff.mp y).1
  exact ⟨_, List.getElem?_eq_getElem c, h.2 k _ r (List.getElem?_eq_getElem c) y⟩
theorem MapsL.dp {K : PySem.W.Frag} {H : Hp} : ∀ {ps : List Addr} {l : List M4}, MapsL H ps l → DpAll K H (ps.map V.ref) ((l.map M4.l).map tupD)
  | [], [], _ => .nil
  | [], _ :: _, h => by have := h.1; cases this
  | _ :: _, [], h => by have := h.1; cases this
  | a :: ps, r :: l, h => .cons (dp_tup (SqT.of (h.2 0 a r rfl rfl))) (MapsL.dp (ps := ps) (l := l) ⟨Nat.succ.inj h.1, fun k b s x y => h.2 (k + 1) b s x y⟩)
theorem maps_any {l : List M4} {r : M4} : (((l.map M4.l).map tupD).any fun z => PyData.eqv z (tupD r.l)) = true ↔ r ∈ l := by
  rw [List.any_eq_true]
  constructor
  · rintro ⟨z, hz, e⟩
    rw [List.mem_map] at hz
    obtain ⟨y, hy, rfl⟩ := hz
    rw [List.mem_map] at hy
    obtain ⟨s, hs, rfl⟩ := hy
    rw [eqv_tup] at e
    rw [← M4.l_inj (of_decide_eq_true e)]
    exact hs
  · intro h
    exact ⟨tupD r.l, List.mem_map.mpr ⟨r.l, List.mem_map.mpr ⟨r, h, rfl⟩, rfl⟩, by rw [eqv_tup]; exact decide_eq_true rfl⟩
theorem maps_at {l : List M4} {k : Nat} : ((l.map M4.l).map tupD)[k]? = (l[k]?).map fun r => tupD r.l := by
  rw [List.getElem?_map, List.getElem?_map]
  cases l[k]? <;> rfl
/-- the first place -/
theorem first_at {l : List M4} {r : M4} (h : r ∈ l) : ∃ j : Nat, l[j]? = some r ∧ ∀ (k : Nat) (s : M4), k < j → l[k]? = some s → s ≠ r := by
  obtain ⟨j, hj, no⟩ := first_ex (p := fun j : Nat => l[j]? = some r) (List.getElem?_of_mem h)
  exact ⟨j, hj, fun k s hk hs e => no k hk (by rw [hs, e])⟩
def RowAt (H : Hp) (a : Addr) (x : Rw) : Prop := ∃ b c : Addr, H a = some (.tup [.ref b, .ref c, .str (rd x.e)]) ∧ H b = some (.tup [.str (rd x.w), .int (x.j : Nat)]) ∧ H c = some (.tup [.str (rd x.v), .int (x.k : Nat)])
theorem RowAt.up {H H' : Hp} {a : Addr} {x : Rw} (h : RowAt H a x) (t : TupS H H') : RowAt H' a x := by
  obtain ⟨b, c, h1, h2, h3⟩ := h
  exact ⟨b, c, t _ _ h1, t _ _ h2, t _ _ h3⟩
def RowsL (H : Hp) (as : List Addr) (rs : List Rw) : Prop := as.length = rs.length ∧ ∀ (k : Nat) (a : Addr) (x : Rw), as[k]? = some a → rs[k]? = some x → RowAt H a x
theorem RowsL.up {H H' : Hp} {as : List Addr} {rs : List Rw} (h : RowsL H as rs) (t : TupS H H') : RowsL H' as rs := ⟨h.1, fun k a x y z => (h.2 k a x y z).up t⟩
theorem RowsL.snoc {H : Hp} {as : List Addr} {rs : List Rw} {q : Addr} {x : Rw} (h : RowsL H as rs) (e : RowAt H q x) : RowsL H (as ++ [q]) (rs ++ [x]) := by
  refine ⟨by rw [List.length_append, List.length_append, h.1]; rfl, fun k a s x y => ?_⟩
  by_cases c : k < as.length
  · rw [List.getElem?_append_left c] at x
    rw [List.getElem?_append_left (by rw [← h.1]; exact c)] at y
    exact h.2 k a s x y
  · rw [List.getElem?_append_right (by omega)] at x
    rw [List.getElem?_append_right (by rw [← h.1]; omega), ← h.1] at y
    cases d : k - as.length with
    | zero =>
      rw [d] at x y
      cases x
      cases y
      exact e
    | succ n =>
      rw [d] at x
      cases x
theorem out_ok {m : M4} (o : Okm m) : Stl m (out m).1 (out m).2 ∧ (out m).1.length ≤ 240 ∧ Okr m (out m).2 := by
  obtain ⟨w, r, h, l⟩ := stl_ex 240 o.nn o.d0 (by obtain ⟨h1, h2, h3, h4⟩ := o.le; unfold M4.sum; omega)
  obtain ⟨h1, h2, h3⟩ := out_of o.d0 h
  refine ⟨h1, by rw [h2]; omega, h1.2.1, h1.2.2, h1.det⟩
/-- the maps found, read on by some turns of one of them -/
noncomputable def addT (r : M4) (l : List M4) (pre : List Bool) : List M4 := pre.foldl (fun l t => addM l (rd1 r t)) l
theorem addT_snoc (r : M4) (l : List M4) (pre : List Bool) (t : Bool) : addT r l (pre ++ [t]) = addM (addT r l pre) (rd1 r t) := by
  unfold addT
  rw [List.foldl_append]
  rfl
theorem addT_ok {m r : M4} {l : List M4} (o : Okm m) (hr : Okr m r) (h : Lst m l) (pre : List Bool) : Lst m (addT r l pre) ∧ ∃ x, addT r l pre = l ++ x := by
  induction pre using snoc_ind with
  | h0 => exact ⟨h, [], (List.append_nil l).symm⟩
  | h1 pre t ih =>
    obtain ⟨h1, x, h2⟩ := ih
    obtain ⟨y, hy⟩ := addM_pre (addT r l pre) (rd1 r t)
    rw [addT_snoc]
    exact ⟨h1.add (read1 o hr t).2.2, x ++ y, by rw [hy, h2, List.append_assoc]⟩
theorem enm_addT {r0 r : M4} {s : Nat} (h : (enm r0 s)[s]? = some r) : addT r (enm r0 s) [false, true] = enm r0 (s + 1) := (enm_some h).symm
theorem end_gl {r : M4} (n : Nn r) (d : r.det ≠ 0) (l : Le 12 r) : 0 < gl [r.a * 1 + r.b * 1, r.c * 1 + r.d * 1] ∧ Sml (gl [r.a * 1 + r.b * 1, r.c * 1 + r.d * 1] : Nat) := by
  obtain ⟨_, _, p1, p2⟩ := col_pos n d
  obtain ⟨a1, b1, c1, d1⟩ := l
  obtain ⟨u, v, e, u1, v1, g, uP, vR, gu, gv, gp⟩ := low_two (P := r.a * 1 + r.b * 1) (R := r.c * 1 + r.d * 1) (by omega) (by omega)
  refine ⟨gp, ?_⟩
  have : (gl [r.a * 1 + r.b * 1, r.c * 1 + r.d * 1] : Int) * 1 ≤ (gl [r.a * 1 + r.b * 1, r.c * 1 + r.d * 1] : Int) * u := Int.mul_le_mul_of_nonneg_left u1 (by omega)
  have k : gl [r.a * 1 + r.b * 1, r.c * 1 + r.d * 1] ≤ 24 := by omega
  unfold Sml
  exact Nat.lt_of_le_of_lt (show ((gl [r.a * 1 + r.b * 1, r.c * 1 + r.d * 1] : Nat) : Int).natAbs ≤ 24 by omega) (by decide)
theorem end_sml {e : List Bool} (h : e.length ≤ 1000) : Sml (wa e) ∧ Sml (wb e) := up_sml (by omega)
theorem RowsL.nil {H : Hp} : RowsL H [] [] := ⟨rfl, fun k a x y => by cases y⟩
end Lr

set_option exponentiation.threshold 5000
namespace Lr
open PySem PySem.Spec PyProof.Rows L2
/-! the numbers of the maps found, and the steps -/
structure DictL (kvs : List (List Key × V)) (l : List M4) : Prop where
  len : kvs.length = l.length
  yes : ∀ (k : Nat) (r : M4), l[k]? = some r → valV kvs r.key = some (.int (k : Nat))
  no : ∀ r : M4, ¬ r ∈ l → valV kvs r.key = none
theorem DictL.snoc {kvs : List (List Key × V)} {l : List M4} {q : M4} (h : DictL kvs l) (n : ¬ q ∈ l) : DictL (putK kvs q.key (.int (l.length : Nat))) (l ++ [q]) := by
  have e := h.no q n
  refine ⟨by rw [putK_new _ e, List.length_append, List.length_append, h.len]; rfl, fun k r hk => ?_, fun r hr => ?_⟩
  · rw [valV_put]
    by_cases c : k < l.length
    · rw [List.getElem?_append_left c] at hk
      rw [if_neg (fun z => n (by rw [← M4.key_inj z]; exact List.mem_of_getElem? hk))]
      exact h.yes k r hk
    · have ck : k = l.length := by
        have := (List.getElem?_eq_some_iff.mp hk).1
        rw [List.length_append] at this
        have : k < l.length + 1 := this
        omega
      subst ck
      rw [List.getElem?_append_right (Nat.le_refl _), Nat.sub_self] at hk
      cases hk
      rw [if_pos rfl]
  · rw [valV_put, if_neg (fun z => hr (by rw [M4.key_inj z]; exact List.mem_append_right _ List.mem_cons_self))]
    exact h.no r fun z => hr (List.mem_append_left _ z)
theorem DictL.one (q : M4) : DictL [(q.key, .int (0 : Nat))] [q] := by
  refine ⟨rfl, fun k r hk => ?_, fun r hr => ?_⟩
  · cases k with
    | zero =>
      cases hk
      unfold valV
      simp
    | succ k => cases hk
  · have ne : ¬ q.key = r.key := fun z => hr (by rw [M4.key_inj z]; exact List.mem_cons_self)
    unfold valV
    simp [ne]
theorem DictL.some {kvs : List (List Key × V)} {l : List M4} {q : M4} (h : DictL kvs l) : (valV kvs q.key).isSome = true ↔ q ∈ l := by
  constructor
  · intro c
    refine Classical.byContradiction fun z => ?_
    rw [h.no q z] at c
    cases c
  · intro c
    obtain ⟨k, hk⟩ := List.getElem?_of_mem c
    rw [h.yes k q hk]
    rfl
def StepAt (H : Hp) (a : Addr) (x : Rw) : Prop := ∃ b c : Addr, H a = some (.tup [.ref b, .ref c]) ∧ H b = some (.tup [.str (rd x.w), .int (x.j : Nat)]) ∧ H c = some (.tup [.str (rd x.v), .int (x.k : Nat)])
theorem StepAt.up {H H' : Hp} {a : Addr} {x : Rw} (h : StepAt H a x) (t : TupS H H') : StepAt H' a x := by
  obtain ⟨b, c, h1, h2, h3⟩ := h
  exact ⟨b, c, t _ _ h1, t _ _ h2, t _ _ h3⟩
def StepsL (H : Hp) (as : List Addr) (rs : List Rw) : Prop := as.length = rs.length ∧ ∀ (k : Nat) (a : Addr) (x : Rw), as[k]? = some a → rs[k]? = some x → StepAt H a x
theorem StepsL.up {H H' : Hp} {as : List Addr} {rs : List Rw} (h : StepsL H as rs) (t : TupS H H') : StepsL H' as rs := ⟨h.1, fun k a x y z => (h.2 k a x y z).up t⟩
theorem StepsL.snoc {H : Hp} {as : List Addr} {rs : List Rw} {q : Addr} {x : Rw} (h : StepsL H as rs) (e : StepAt H q x) : StepsL H (as ++ [q]) (rs ++ [x]) := by
  refine ⟨by rw [List.length_append, List.length_append, h.1]; rfl, fun k a s x y => ?_⟩
  by_cases c : k < as.length
  · rw [List.getElem?_append_left c] at x
    rw [List.getElem?_append_left (by rw [← h.1]; exact c)] at y
    exact h.2 k a s x y
  · rw [List.getElem?_append_right (by omega)] at x
    rw [List.getElem?_append_right (by rw [← h.1]; omega), ← h.1] at y
    cases d : k - as.length with
    | zero =>
      rw [d] at x y
      cases x
      cases y
      exact e
    | succ n =>
      rw [d] at x
      cases x
theorem StepsL.nil {H : Hp} : StepsL H [] [] := ⟨rfl, fun k a x y => by cases y⟩
end Lr

set_option exponentiation.threshold 5000
namespace Lr
open PySem PySem.Spec PyProof.Rows L2
/-- for over zip of two lists of one length -/
theorem for_zip {K : PySem.W.Frag} {a b : Addr} {xs ys : List V} {g : TG} {tb : TS} {D : Ends} {σ : L2.St} {H : Hp} (len : xs.length = ys.length) (Pv : Nat → L2.St → Hp → Prop) (h0 : Pv 0 σ H)
    (keep : ∀ (i : Nat) (σ : L2.St) (H : Hp), i ≤ xs.length → Pv i σ H → SqL K H a xs ∧ SqL K H b ys)
    (step : ∀ (i : Nat) (x y : V) (T : Addr) (σ : L2.St) (H : Hp), xs[i]? = some x → ys[i]? = some y → Pv i σ H → H T = none → g (.ref T) σ (upd H T (.tup [x, y])) fun σ2 H2 => tb { nx := Pv (i + 1), rt := D.rt, bk := D.nx, ct := Pv (i + 1) } σ2 H2)
    (fin : ∀ (σ : L2.St) (H : Hp), Pv xs.length σ H → D.nx σ H) :
    ∃ W : Nat → Nat → L2.St → Hp → Prop, (∃ m, W 0 m σ H) ∧ ∀ (i m : Nat) (σ : L2.St) (H : Hp), W i m σ H →
      (Itz K a b).stop i H ∧ D.nx σ H ∨ (Itz K a b).go i H ∧ ∃ N : L2.St → Hp → Prop, (∀ (σ' : L2.St) (H' : Hp), N σ' H' → ∃ m', m' < m ∧ W (i + 1) m' σ' H') ∧
        ∀ (x : V) (H' : Hp), (Itz K a b).yld i H x H' → g x σ H' fun σ2 H2 => tb { nx := N, rt := D.rt, bk := D.nx, ct := N } σ2 H2 := by
  refine ⟨fun i m σ H => m = xs.length - i ∧ i ≤ xs.length ∧ Pv i σ H, ⟨_, rfl, Nat.zero_le _, h0⟩, ?_⟩
  rintro i m σ H ⟨rfl, hi, hp⟩
  obtain ⟨hx, hy⟩ := keep i σ H hi hp
  by_cases c : i < xs.length
  · obtain ⟨x, ex⟩ : ∃ x, xs[i]? = some x := ⟨_, List.getElem?_eq_getElem c⟩
    obtain ⟨y, ey⟩ : ∃ y, ys[i]? = some y := ⟨_, List.getElem?_eq_getElem (by omega)⟩
    refine .inr ⟨⟨xs, ys, x, y, hx, hy, ex, ey⟩, Pv (i + 1), fun σ' H' z => ⟨xs.length - (i + 1), by omega, rfl, c, z⟩, ?_⟩
    rintro v H' ⟨T, x', y', rfl, nT, rfl, h1, h2⟩
    have e1 := h1 xs hx
    have e2 := h2 ys hy
    exact step i x' y' T σ H e1 e2 hp nT
  · have e : i = xs.length := by omega
    subst e
    exact .inl ⟨⟨xs, ys, hx, hy, .inl (Nat.le_refl _)⟩, fin σ H hp⟩
/-! what divides all of a map -/
theorem gl_mulR (m n : M4) : gl m.l ∣ gl (m.mul n).l := by
  have h := gl_dvd m.l
  have ha := h m.a (by simp [M4.l])
  have hb := h m.b (by simp [M4.l])
  have hc := h m.c (by simp [M4.l])
  have hd := h m.d (by simp [M4.l])
  refine gl_of_dvd _ _ fun x hx => ?_
  simp only [M4.l, M4.mul, List.mem_cons, List.not_mem_nil, or_false] at hx
  rcases hx with rfl | rfl | rfl | rfl
  · exact Int.dvd_add (Int.dvd_mul_of_dvd_left ha) (Int.dvd_mul_of_dvd_left hb)
  · exact Int.dvd_add (Int.dvd_mul_of_dvd_left ha) (Int.dvd_mul_of_dvd_left hb)
  · exact Int.dvd_add (Int.dvd_mul_of_dvd_left hc) (Int.dvd_mul_of_dvd_left hd)
  · exact Int.dvd_add (Int.dvd_mul_of_dvd_left hc) (Int.dvd_mul_of_dvd_left hd)
theorem gl_mulL (m n : M4) : gl n.l ∣ gl (m.mul n).l := by
  have h := gl_dvd n.l
  have ha := h n.a (by simp [M4.l])
  have hb := h n.b (by simp [M4.l])
  have hc := h n.c (by simp [M4.l])
  have hd := h n.d (by simp [M4.l])
  refine gl_of_dvd _ _ fun x hx => ?_
  simp only [M4.l, M4.mul, List.mem_cons, List.not_mem_nil, or_false] at hx
  rcases hx with rfl | rfl | rfl | rfl
  · exact Int.dvd_add (Int.dvd_mul_of_dvd_right ha) (Int.dvd_mul_of_dvd_right hc)
  · exact Int.dvd_add (Int.dvd_mul_of_dvd_right hb) (Int.dvd_mul_of_dvd_right hd)
  · exact Int.dvd_add (Int.dvd_mul_of_dvd_right ha) (Int.dvd_mul_of_dvd_right hc)
  · exact Int.dvd_add (Int.dvd_mul_of_dvd_right hb) (Int.dvd_mul_of_dvd_right hd)
theorem Stl.gl {m r : M4} {w : List Bool} (h : Stl m w r) : Lr.gl r.l = Lr.gl m.l := by
  refine Nat.dvd_antisymm ?_ ?_
  · rw [h.1]
    exact gl_mulL _ _
  · have e : (mat w).adj.mul m = r := by rw [h.1, nn_adj]
    rw [← e]
    exact gl_mulL _ _
theorem gl_right (m : M4) (f : List Bool) : gl (m.mul (mat f)).l = gl m.l := by
  refine Nat.dvd_antisymm ?_ (gl_mulR _ _)
  have e : (m.mul (mat f)).mul (mat f).adj = m := by rw [M4.mul_assoc, mul_adj _ (mat_det f), M4.mul_one]
  have z := gl_mulR (m.mul (mat f)) (mat f).adj
  rw [e] at z
  exact z
theorem enm_gl {m r0 : M4} (o : Okm m) (h : Okr m r0) (g : gl r0.l = 1) : ∀ s, ∀ r ∈ enm r0 s, gl r.l = 1
  | 0, r, hr => by
    rw [List.mem_singleton.mp hr]
    exact g
  | s + 1, r, hr => by
    cases c : (enm r0 s)[s]? with
    | none =>
      rw [enm_none (List.getElem?_eq_none_iff.mp c)] at hr
      exact enm_gl o h g s r hr
    | some q =>
      have hq := List.mem_of_getElem? c
      have gq := enm_gl o h g s q hq
      have oq := (enm_ok o h s).ok q hq
      have one : ∀ t, gl (rd1 q t).l = 1 := fun t => by rw [(read1 o oq t).1.gl, gl_right, gq]
      have add : ∀ (l : List M4) (x : M4), r ∈ addM l x → r ∈ l ∨ r = x := fun l x h => by
        by_cases c : x ∈ l
        · rw [addM_in c] at h
          exact .inl h
        · rw [addM_out c] at h
          rcases List.mem_append.mp h with z | z
          · exact .inl z
          · exact .inr (List.mem_singleton.mp z)
      rw [enm_some c] at hr
      rcases add _ _ hr with z | z
      · rcases add _ _ z with y | y
        · exact enm_gl o h g s r y
        · rw [y]
          exact one _
      · rw [z]
        exact one _
end Lr

set_option exponentiation.threshold 5000
namespace Lr
open PySem PySem.Spec PyProof.Rows L2
/-! the text of a machine -/
def rowD (y : Rw) : PyData := .tuple [.tuple [.str (rd y.w), .int (y.j : Nat)], .tuple [.str (rd y.v), .int (y.k : Nat)], .str (rd y.e)]
def machD (w : List Bool) (rs : List Rw) : PyData := .tuple [.str (rd w), .list (rs.map rowD)]
theorem RowAt.dp {K : PySem.W.Frag} {H : Hp} {a : Addr} {y : Rw} (h : RowAt H a y) : Dp K H (.ref a) (rowD y) := by
  obtain ⟨b, c, h1, h2, h3⟩ := h
  exact .tup (SqT.of h1) (.cons (.tup (SqT.of h2) (.cons (.str _) (.cons (.int _) .nil))) (.cons (.tup (SqT.of h3) (.cons (.str _) (.cons (.int _) .nil))) (.cons (.str _) .nil)))
theorem RowsL.dp {K : PySem.W.Frag} {H : Hp} : ∀ {as : List Addr} {rs : List Rw}, RowsL H as rs → DpAll K H (as.map V.ref) (rs.map rowD)
  | [], [], _ => .nil
  | [], _ :: _, h => by have := h.1; cases this
  | _ :: _, [], h => by have := h.1; cases this
  | a :: as, y :: rs, h => .cons (h.2 0 a y rfl rfl).dp (RowsL.dp (as := as) (rs := rs) ⟨Nat.succ.inj h.1, fun k b s x z => h.2 (k + 1) b s x z⟩)
theorem mach_dp {K : PySem.W.Frag} {H : Hp} {p q : Addr} {w : List Bool} {as : List Addr} {rs : List Rw} (h : H p = some (.tup [.str (rd w), .ref q])) (hq : H q = some (.lst (as.map V.ref))) (hr : RowsL H as rs) : Dp K H (.ref p) (machD w rs) :=
  .tup (SqT.of h) (.cons (.str _) (.cons (.lst (SqL.of hq) hr.dp) .nil))
structure Small (y : Rw) : Prop where
  w : y.w.length ≤ 48
  v : y.v.length ≤ 48
  e : y.e.length ≤ 48
  j : y.j ≤ 400
  k : y.k ≤ 400
theorem rd_short (w : List Bool) : PyData.leavesShort 100 (.str (rd w)) = true := by
  show ((rd w).cps.toList.all fun c => decide (c < 16 ^ 8)) = true
  rw [rd_cps, List.all_map, List.all_eq_true]
  intro t _
  cases t <;> decide
theorem int_small {n : Nat} (h : n ≤ 400) : PyData.showable (.int (n : Nat)) = true ∧ PyData.leavesShort 100 (.int (n : Nat)) = true := by
  have lg : ((n : Nat) : Int).natAbs.log2 < 20 := PySem.Flt.log2_lt_of (k := 20) (by decide) (by show ((n : Nat) : Int).natAbs < 2 ^ 20; omega)
  refine ⟨decide_eq_true (Nat.lt_trans lg (by decide)), decide_eq_true ?_⟩
  have z := int_text_length_le (k := 20) (by decide) lg
  show (Str.ofString (toString ((n : Nat) : Int))).length ≤ 100
  rw [PySem.ofString_length]
  omega
theorem row_shw {y : Rw} (h : Small y) : (rowD y).showable = true ∧ (rowD y).hasDict = false ∧ (rowD y).leavesShort 100 = true ∧ (rowD y).bulk ≤ 151 ∧ (rowD y).depth ≤ 2 := by
  obtain ⟨j1, j2⟩ := int_small h.j
  obtain ⟨k1, k2⟩ := int_small h.k
  refine ⟨?_, rfl, ?_, ?_, by show max (max 0 (max 0 0) + 1) (max (max 0 (max 0 0) + 1) (max 0 0)) + 1 ≤ 2; decide⟩
  · show ((true && (PyData.showable (.int (y.j : Nat)) && true)) && ((true && (PyData.showable (.int (y.k : Nat)) && true)) && (true && true))) = true
    rw [j1, k1]
    rfl
  · show ((PyData.leavesShort 100 (.str (rd y.w)) && (PyData.leavesShort 100 (.int (y.j : Nat)) && true)) && ((PyData.leavesShort 100 (.str (rd y.v)) && (PyData.leavesShort 100 (.int (y.k : Nat)) && true)) && (PyData.leavesShort 100 (.str (rd y.e)) && true))) = true
    rw [j2, k2, rd_short, rd_short, rd_short]
    rfl
  · show ((rd y.w).cps.size + 1 + (0 + 1 + 0)) + 1 + (((rd y.v).cps.size + 1 + (0 + 1 + 0)) + 1 + ((rd y.e).cps.size + 1 + 0)) ≤ 151
    have e1 : (rd y.w).cps.size = y.w.length := rd_len y.w
    have e2 : (rd y.v).cps.size = y.v.length := rd_len y.v
    have e3 : (rd y.e).cps.size = y.e.length := rd_len y.e
    have := h.w
    have := h.v
    have := h.e
    omega
theorem rows_shw : ∀ {rs : List Rw}, (∀ y ∈ rs, Small y) → PyData.showableAll (rs.map rowD) = true ∧ PyData.hasDictAll (rs.map rowD) = false ∧ PyData.leavesShortAll 100 (rs.map rowD) = true ∧ PyData.bulkAll (rs.map rowD) ≤ 152 * rs.length ∧ PyData.depthAll (rs.map rowD) ≤ 2
  | [], _ => ⟨rfl, rfl, rfl, Nat.zero_le _, Nat.zero_le _⟩
  | y :: rs, h => by
    obtain ⟨h1, h2, h3, h4, h5⟩ := rows_shw (rs := rs) fun z hz => h z (List.mem_cons_of_mem _ hz)
    obtain ⟨g1, g2, g3, g4, g5⟩ := row_shw (h y List.mem_cons_self)
    refine ⟨?_, ?_, ?_, ?_, ?_⟩
    · show ((rowD y).showable && PyData.showableAll (rs.map rowD)) = true
      rw [g1, h1]
      rfl
    · show ((rowD y).hasDict || PyData.hasDictAll (rs.map rowD)) = false
      rw [g2, h2]
      rfl
    · show ((rowD y).leavesShort 100 && PyData.leavesShortAll 100 (rs.map rowD)) = true
      rw [g3, h3]
      rfl
    · show (rowD y).bulk + 1 + PyData.bulkAll (rs.map rowD) ≤ 152 * (rs.length + 1)
      omega
    · show max (rowD y).depth (PyData.depthAll (rs.map rowD)) ≤ 2
      omega
theorem mach_shw {w : List Bool} {rs : List Rw} (hw : w.length ≤ 240) (hl : rs.length ≤ 400) (h : ∀ y ∈ rs, Small y) : ShwF (machD w rs) := by
  obtain ⟨h1, h2, h3, h4, h5⟩ := rows_shw h
  have lv : PyData.leavesShort 100 (machD w rs) = true := by
    show (PyData.leavesShort 100 (.str (rd w)) && (PyData.leavesShortAll 100 (rs.map rowD) && true)) = true
    rw [rd_short, h3]
    rfl
  refine ⟨?_, ?_, ?_, ?_⟩
  · show (true && (PyData.showableAll (rs.map rowD) && true)) = true
    rw [h1]
    rfl
  · show (false || (PyData.hasDictAll (rs.map rowD) || false)) = false
    rw [h2]
    rfl
  · show max 0 (max (PyData.depthAll (rs.map rowD) + 1) 0) + 1 ≤ 60
    omega
  · have z := PyData.shown_le_bulk 100 (by decide) _ lv
    have e : sizeLine = 16777216 := by decide
    have b : (machD w rs).bulk = (rd w).cps.size + 1 + (PyData.bulkAll (rs.map rowD) + 1 + 0) := rfl
    have e1 : (rd w).cps.size = w.length := rd_len w
    omega
theorem rows_small {m r0 : M4} {N : Nat} (o : Okm m) (O0 : Okr m r0) {rs : List Rw} (hr : Rws (enm r0 N) rs) (hN : N ≤ 364) (fn : Fin r0 N) : ∀ y ∈ rs, Small y := by
  intro y hy
  obtain ⟨i, hi⟩ := List.getElem?_of_mem hy
  obtain ⟨r, h1, h2⟩ := hr.at_ i y hi
  have lt := enm_ok o O0 N
  have Or := lt.ok r (List.mem_of_getElem? h1)
  obtain ⟨e, he, le⟩ := end_ex Or.nn (by rw [Or.de]; exact o.d0) (Or.le o)
  have a1 := (List.getElem?_eq_some_iff.mp h2.j).1
  have a2 := (List.getElem?_eq_some_iff.mp h2.k).1
  rw [fn.eq] at a1 a2
  exact ⟨by rw [h2.w]; exact (read1 o Or false).2.1, by rw [h2.v]; exact (read1 o Or true).2.1, by rw [h2.e.one he]; exact le, by omega, by omega⟩
/-- the image of a road's fraction is what is written and the end -/
theorem img_low {m r : M4} {f v e : List Bool} (o : Okm m) (hf : f.length ≤ 60) (h : Stl (m.mul (mat f)) v r) (he : EndOf r e) :
    lowl [m.a * wa f + m.b * wb f, m.c * wa f + m.d * wb f] = [wa (v ++ e), wb (v ++ e)] ∧ 0 < gl [m.a * wa f + m.b * wb f, m.c * wa f + m.d * wb f] ∧
      Sml (gl [m.a * wa f + m.b * wb f, m.c * wa f + m.d * wb f] : Nat) ∧ Sml (wa (v ++ e)) ∧ Sml (wb (v ++ e)) ∧ Bd 900 (wa f) ∧ Bd 900 (wb f) := by
  have dr : r.det ≠ 0 := by rw [h.det, det_mat]; exact o.d0
  obtain ⟨_, _, p1, p2⟩ := col_pos h.2.1 dr
  obtain ⟨u, w, e0, u1, w1, g0, uP, wR, gu, gw, gp⟩ := low_two (P := r.a * 1 + r.b * 1) (R := r.c * 1 + r.d * 1) (by omega) (by omega)
  unfold EndOf at he
  rw [he] at e0
  simp only [List.cons.injEq, and_true] at e0
  obtain ⟨rfl, rfl⟩ := e0
  obtain ⟨x1, x2⟩ := wa_app v e
  have em := h.1
  have ma := congrArg M4.a em
  have mb := congrArg M4.b em
  have mc := congrArg M4.c em
  have md := congrArg M4.d em
  have ma : m.a * (mat f).a + m.b * (mat f).c = (mat v).a * r.a + (mat v).b * r.c := ma
  have mb : m.a * (mat f).b + m.b * (mat f).d = (mat v).a * r.b + (mat v).b * r.d := mb
  have mc : m.c * (mat f).a + m.d * (mat f).c = (mat v).c * r.a + (mat v).d * r.c := mc
  have md : m.c * (mat f).b + m.d * (mat f).d = (mat v).c * r.b + (mat v).d * r.d := md
  have fa : wa f = (mat f).a + (mat f).b := rfl
  have fb : wb f = (mat f).c + (mat f).d := rfl
  have bf := bd_mat (k := 60) hf
  have bfa : Bd 62 (wa f) := (bf _ (by simp [M4.l])).add (bf _ (by simp [M4.l]))
  have bfb : Bd 62 (wb f) := (bf _ (by simp [M4.l])).add (bf _ (by simp [M4.l]))
  have bm := bds_of o.nn o.le (show Bd 10 60 by unfold Bd; decide)
  have bP : Bd 73 (m.a * wa f + m.b * wb f) := ((bm m.a (by simp [M4.l])).mul bfa).add ((bm m.b (by simp [M4.l])).mul bfb)
  have bR : Bd 73 (m.c * wa f + m.d * wb f) := ((bm m.c (by simp [M4.l])).mul bfa).add ((bm m.d (by simp [M4.l])).mul bfb)
  have eP : m.a * wa f + m.b * wb f = (gl [r.a * 1 + r.b * 1, r.c * 1 + r.d * 1] : Int) * wa (v ++ e) := by
    rw [x1, Int.mul_add, Int.mul_left_comm, gu, Int.mul_left_comm _ (mat v).b, gw, fa, fb]
    simp only [Int.mul_add, Int.mul_one]
    omega
  have eR : m.c * wa f + m.d * wb f = (gl [r.a * 1 + r.b * 1, r.c * 1 + r.d * 1] : Int) * wb (v ++ e) := by
    rw [x2, Int.mul_add, Int.mul_left_comm, gu, Int.mul_left_comm _ (mat v).d, gw, fa, fb]
    simp only [Int.mul_add, Int.mul_one]
    omega
  rw [eP] at bP ⊢
  rw [eR] at bR ⊢
  generalize gl [r.a * 1 + r.b * 1, r.c * 1 + r.d * 1] = g at *
  obtain ⟨y1, y2⟩ := up_pos (v ++ e)
  have cop := road_gcd (v ++ e)
  generalize wa (v ++ e) = x at *
  generalize wb (v ++ e) = y at *
  have gg : gl [(g : Int) * x, (g : Int) * y] = g := by
    show Nat.gcd (Nat.gcd 0 ((g : Int) * x).natAbs) ((g : Int) * y).natAbs = g
    rw [Nat.gcd_zero_left, Int.natAbs_mul, Int.natAbs_mul, Int.natAbs_natCast, Nat.gcd_mul_left, cop, Nat.mul_one]
  have k1 : (1 : Int) * x ≤ (g : Int) * x := Int.mul_le_mul_of_nonneg_right (by omega) (by omega)
  have k2 : (1 : Int) * y ≤ (g : Int) * y := Int.mul_le_mul_of_nonneg_right (by omega) (by omega)
  have k3 : (g : Int) * 1 ≤ (g : Int) * x := Int.mul_le_mul_of_nonneg_left (by omega) (by omega)
  have tp : (2 : Nat) ^ 73 ≤ 2 ^ 1900 := Nat.pow_le_pow_right (by decide) (by decide)
  unfold Bd at bP bR
  refine ⟨?_, by rw [gg]; exact gp, ?_, ?_, ?_, bfa.up (by decide), bfb.up (by decide)⟩
  · show [(g : Int) * x / (gl [(g : Int) * x, (g : Int) * y] : Int), (g : Int) * y / (gl [(g : Int) * x, (g : Int) * y] : Int)] = [x, y]
    rw [gg, Int.mul_ediv_cancel_left _ (by omega), Int.mul_ediv_cancel_left _ (by omega)]
  · rw [gg]
    unfold Sml
    exact Nat.lt_of_lt_of_le (Nat.lt_of_le_of_lt (show ((g : Nat) : Int).natAbs ≤ ((g : Int) * x).natAbs by omega) bP) tp
  · unfold Sml
    exact Nat.lt_of_lt_of_le (Nat.lt_of_le_of_lt (show x.natAbs ≤ ((g : Int) * x).natAbs by omega) bP) tp
  · unfold Sml
    exact Nat.lt_of_lt_of_le (Nat.lt_of_le_of_lt (show y.natAbs ≤ ((g : Int) * y).natAbs by omega) bR) tp
theorem TupS.kp {H H' : Hp} {a : Addr} {n : Nat} (hp : Pu H a n) (k : Kp a H H') : TupS H H' := fun b xs e => k b _ (tup_nea hp e) e
end Lr

set_option exponentiation.threshold 5000
namespace Lr
open PySem PySem.Spec PyProof.Rows L2
/-! all maps of a size to twelve are come to: by reckoning -/
structure Q4 where
  (a b c d : Nat)
  deriving DecidableEq
def Q4.m (q : Q4) : M4 := ⟨q.a, q.b, q.c, q.d⟩
def Q4.bal (q : Q4) : Bool := (decide (q.c < q.a) && decide (q.b < q.d)) || (decide (q.a < q.c) && decide (q.d < q.b))
def cset : Nat → Q4 → Q4
  | 0, q => q
  | k + 1, q => if q.bal then q else if decide (q.c ≤ q.a) && decide (q.d ≤ q.b) then cset k ⟨q.a - q.c, q.b - q.d, q.c, q.d⟩ else cset k ⟨q.a, q.b, q.c - q.a, q.d - q.b⟩
theorem q4_bal {q : Q4} : q.bal = true ↔ Lr.bal q.m := by
  unfold Q4.bal Lr.bal Q4.m
  show _ ↔ ((q.a : Int) - q.c) * ((q.b : Int) - q.d) < 0
  constructor
  · intro h
    rcases Bool.or_eq_true_iff.mp h with z | z
    · obtain ⟨z1, z2⟩ := Bool.and_eq_true_iff.mp z
      have z1 := of_decide_eq_true z1
      have z2 := of_decide_eq_true z2
      exact Int.mul_neg_of_pos_of_neg (by omega) (by omega)
    · obtain ⟨z1, z2⟩ := Bool.and_eq_true_iff.mp z
      have z1 := of_decide_eq_true z1
      have z2 := of_decide_eq_true z2
      exact Int.mul_neg_of_neg_of_pos (by omega) (by omega)
  · intro h
    rcases Nat.lt_trichotomy q.a q.c with x | x | x
    · have y : q.d < q.b := Nat.not_le.mp fun y => by
        have := Int.mul_nonneg (show 0 ≤ (q.c : Int) - q.a by omega) (show 0 ≤ (q.d : Int) - q.b by omega)
        rw [show ((q.c : Int) - q.a) * ((q.d : Int) - q.b) = ((q.a : Int) - q.c) * ((q.b : Int) - q.d) by rw [← Int.neg_mul_neg]; congr 1 <;> omega] at this
        omega
      rw [decide_eq_true x, decide_eq_true y]
      simp
    · rw [x, Int.sub_self, Int.zero_mul] at h
      omega
    · have y : q.b < q.d := Nat.not_le.mp fun y => by
        have := Int.mul_nonneg (show 0 ≤ (q.a : Int) - q.c by omega) (show 0 ≤ (q.b : Int) - q.d by omega)
        omega
      rw [decide_eq_true x, decide_eq_true y]
      rfl
theorem cset_ok : ∀ (k : Nat) {q : Q4} {w : List Bool} {r : M4}, q.m.det ≠ 0 → Stl q.m w r → w.length ≤ k → (cset k q).m = r
  | 0, q, w, r, d, h, l => by
    have e : w = [] := List.length_eq_zero_iff.mp (by omega)
    subst e
    exact h.nil.1
  | k + 1, q, w, r, d, h, l => by
    unfold cset
    cases h.step d with
    | stop b e =>
      rw [if_pos (q4_bal.mpr b)]
      exact e
    | right v nb h1 h2 h3 h4 h5 h6 =>
      have h1' : (q.c : Int) ≤ q.a := h1
      have h2' : (q.d : Int) ≤ q.b := h2
      rw [if_neg (fun z => nb (q4_bal.mp z)), decide_eq_true (show q.c ≤ q.a by omega), decide_eq_true (show q.d ≤ q.b by omega)]
      have e : (Q4.mk (q.a - q.c) (q.b - q.d) q.c q.d).m = ⟨q.m.a - q.m.c, q.m.b - q.m.d, q.m.c, q.m.d⟩ := by
        unfold Q4.m
        refine M4.ext ?_ ?_ rfl rfl
        · show ((q.a - q.c : Nat) : Int) = (q.a : Int) - q.c
          omega
        · show ((q.b - q.d : Nat) : Int) = (q.b : Int) - q.d
          omega
      exact cset_ok k (by rw [e, h6]; exact d) (by rw [e]; exact h4) (by simp at l; omega)
    | left v nb h1 h2 h3 h4 h5 h6 =>
      have h1' : (q.a : Int) ≤ q.c := h1
      have h2' : (q.b : Int) ≤ q.d := h2
      have h3' : (q.a : Int) + q.b < q.c + q.d := h3
      have no : (decide (q.c ≤ q.a) && decide (q.d ≤ q.b)) = false := by
        rw [Bool.and_eq_false_iff]
        by_cases c : q.c ≤ q.a
        · exact .inr (decide_eq_false (by omega))
        · exact .inl (decide_eq_false c)
      rw [if_neg (fun z => nb (q4_bal.mp z)), no]
      have e : (Q4.mk q.a q.b (q.c - q.a) (q.d - q.b)).m = ⟨q.m.a, q.m.b, q.m.c - q.m.a, q.m.d - q.m.b⟩ := by
        unfold Q4.m
        refine M4.ext rfl rfl ?_ ?_
        · show ((q.c - q.a : Nat) : Int) = (q.c : Int) - q.a
          omega
        · show ((q.d - q.b : Nat) : Int) = (q.d : Int) - q.b
          omega
      exact cset_ok k (by rw [e, h6]; exact d) (by rw [e]; exact h4) (by simp at l; omega)
def qrd (q : Q4) (t : Bool) : Q4 := if t then cset 48 ⟨q.a, q.a + q.b, q.c, q.c + q.d⟩ else cset 48 ⟨q.a + q.b, q.b, q.c + q.d, q.d⟩
theorem qrd_ok {m : M4} (o : Okm m) {q : Q4} (h : Okr m q.m) (t : Bool) : (qrd q t).m = rd1 q.m t := by
  obtain ⟨s, l, _⟩ := read1 o h t
  have d : (q.m.mul (mat [t])).det ≠ 0 := by rw [det_mat, h.de]; exact o.d0
  rw [← turnM_mul] at s d
  unfold qrd
  cases t
  · have e : turnM q.m false = (Q4.mk (q.a + q.b) q.b (q.c + q.d) q.d).m := by
      unfold turnM Q4.m
      refine M4.ext ?_ rfl ?_ rfl
      · show (q.a : Int) + q.b = ((q.a + q.b : Nat) : Int)
        omega
      · show (q.c : Int) + q.d = ((q.c + q.d : Nat) : Int)
        omega
    rw [e] at s d
    exact cset_ok 48 d s l
  · have e : turnM q.m true = (Q4.mk q.a (q.a + q.b) q.c (q.c + q.d)).m := by
      unfold turnM Q4.m
      refine M4.ext rfl ?_ rfl ?_
      · show (q.a : Int) + q.b = ((q.a + q.b : Nat) : Int)
        omega
      · show (q.c : Int) + q.d = ((q.c + q.d : Nat) : Int)
        omega
    rw [e] at s d
    exact cset_ok 48 d s l
/-- the maps of a size, as the law lists them -/
def lstd (D : Nat) : List Q4 := (List.range D).flatMap fun p => (List.range (D / (p + 1))).flatMap fun q => (List.range ((D - (p + 1) * (q + 1)) / (q + 1) + 1)).flatMap fun c =>
  if (D - (p + 1) * (q + 1) - c * (q + 1)) % (p + 1) = 0 then [⟨c + (p + 1), (D - (p + 1) * (q + 1) - c * (q + 1)) / (p + 1), c, (D - (p + 1) * (q + 1) - c * (q + 1)) / (p + 1) + (q + 1)⟩] else []
def Q4.swp (q : Q4) : Q4 := ⟨q.b, q.a, q.d, q.c⟩
def Q4.g1 (q : Q4) : Bool := Nat.gcd (Nat.gcd (Nat.gcd q.a q.b) q.c) q.d == 1
def lsts (s : Bool) (D : Nat) : List Q4 := ((if s then lstd D else (lstd D).map Q4.swp)).filter Q4.g1
def fwd : Nat → List Q4 → List Q4 → List Q4
  | 0, _, seen => seen
  | _, [], seen => seen
  | k + 1, q :: todo, seen =>
    let l := qrd q false
    let s1 := if seen.contains l then (todo, seen) else (l :: todo, l :: seen)
    let r := qrd q true
    let s2 := if s1.2.contains r then s1 else (r :: s1.1, r :: s1.2)
    fwd k s2.1 s2.2
def bck (B : List Q4) : Nat → List Q4 → List Q4
  | 0, S => S
  | k + 1, S => bck B k (B.filter fun q => S.contains q || S.contains (qrd q false) || S.contains (qrd q true))
def chk (s : Bool) (D : Nat) : Bool :=
  let B := lsts s D
  let z : Q4 := if s then ⟨D, 0, 0, 1⟩ else ⟨0, D, 1, 0⟩
  let S := bck B 12 [z]
  let F := fwd 100 [z] [z]
  B.all (fun q => S.contains q && F.contains q)
theorem chk_all : ((List.range 12).all fun D => chk true (D + 1) && chk false (D + 1)) = true := by decide +kernel
end Lr

set_option exponentiation.threshold 5000
namespace Lr
open PySem PySem.Spec PyProof.Rows L2
/-! all maps of a size to twelve are come to -/
theorem enm_closed {r0 r : M4} {N : Nat} (fn : Fin r0 N) (h : r ∈ enm r0 N) (t : Bool) : rd1 r t ∈ enm r0 N := by
  obtain ⟨i, hi⟩ := List.getElem?_of_mem h
  have ci : i < N := by
    have := (List.getElem?_eq_some_iff.mp hi).1
    rw [fn.eq] at this
    exact this
  obtain ⟨k, rfl⟩ : ∃ k, N = i + 1 + k := ⟨N - (i + 1), by omega⟩
  obtain ⟨x, hx⟩ := enm_le r0 (i + 1) k
  obtain ⟨y, hy⟩ := enm_pre r0 i
  have li := fn.no i ci
  have e : (enm r0 i)[i]? = some r := by
    rw [hx, hy, List.append_assoc, List.getElem?_append_left li] at hi
    exact hi
  rw [hx]
  refine List.mem_append_left _ ?_
  rw [enm_some e]
  cases t
  · obtain ⟨z, hz⟩ := addM_pre (addM (enm r0 i) (rd1 r false)) (rd1 r true)
    rw [hz]
    exact List.mem_append_left _ (addM_mem _ _)
  · exact addM_mem _ _
def Reach (m : M4) (q s : Q4) : Prop := ∀ C : M4 → Prop, (∀ r t, C r → C (rd1 r t)) → C q.m → C s.m
theorem fwd_ok {m : M4} (o : Okm m) {z : Q4} : ∀ (k : Nat) (todo seen : List Q4), (∀ s ∈ todo, Okr m s.m ∧ Reach m z s) → (∀ s ∈ seen, Okr m s.m ∧ Reach m z s) → ∀ s ∈ fwd k todo seen, Okr m s.m ∧ Reach m z s
  | 0, _, seen, _, h2, s, hs => h2 s hs
  | k + 1, [], seen, _, h2, s, hs => h2 s hs
  | k + 1, q :: todo, seen, h1, h2, s, hs => by
    obtain ⟨oq, rq⟩ := h1 q List.mem_cons_self
    have nx : ∀ t, Okr m (qrd q t).m ∧ Reach m z (qrd q t) := fun t => by
      have e := qrd_ok o oq t
      refine ⟨by rw [e]; exact (read1 o oq t).2.2, fun C hc hz => ?_⟩
      rw [e]
      exact hc _ t (rq C hc hz)
    have td : ∀ s ∈ todo, Okr m s.m ∧ Reach m z s := fun s hs => h1 s (List.mem_cons_of_mem _ hs)
    have cons : ∀ (x : Q4) (l : List Q4), (Okr m x.m ∧ Reach m z x) → (∀ s ∈ l, Okr m s.m ∧ Reach m z s) → ∀ s ∈ x :: l, Okr m s.m ∧ Reach m z s := fun x l hx hl s hs => by
      rcases List.mem_cons.mp hs with rfl | y
      · exact hx
      · exact hl s y
    unfold fwd at hs
    refine fwd_ok o k _ _ ?_ ?_ s hs
    · split
      · split
        · exact td
        · exact cons _ _ (nx true) td
      · split
        · exact cons _ _ (nx false) td
        · exact cons _ _ (nx true) (cons _ _ (nx false) td)
    · split
      · split
        · exact h2
        · exact cons _ _ (nx true) h2
      · split
        · exact cons _ _ (nx false) h2
        · exact cons _ _ (nx true) (cons _ _ (nx false) h2)
theorem bck_ok {m : M4} (o : Okm m) {z : Q4} {B : List Q4} (hB : ∀ q ∈ B, Okr m q.m) : ∀ (k : Nat) (S : List Q4), (∀ s ∈ S, Reach m s z) → ∀ s ∈ bck B k S, Reach m s z
  | 0, S, h, s, hs => h s hs
  | k + 1, S, h, s, hs => by
    unfold bck at hs
    refine bck_ok o hB k _ (fun q hq => ?_) s hs
    rw [List.mem_filter] at hq
    obtain ⟨q1, q2⟩ := hq
    have oq := hB q q1
    have st : ∀ t, qrd q t ∈ S → Reach m q z := fun t ht C hc hq => by
      refine h _ ht C hc ?_
      rw [qrd_ok o oq t]
      exact hc _ t hq
    rcases Bool.or_eq_true_iff.mp q2 with y | y
    · rcases Bool.or_eq_true_iff.mp y with x | x
      · exact h q (List.contains_iff_mem.mp x)
      · exact st false (List.contains_iff_mem.mp x)
    · exact st true (List.contains_iff_mem.mp y)
theorem lstd_mem {D : Nat} {q : Q4} : q ∈ lstd D ↔ q.c < q.a ∧ q.b < q.d ∧ (q.a - q.c) * (q.d - q.b) + q.c * (q.d - q.b) + q.b * (q.a - q.c) = D := by
  unfold lstd
  simp only [List.mem_flatMap, List.mem_range]
  constructor
  · rintro ⟨p, hp, r, hr, c, hc, h⟩
    split at h
    · rename_i e
      have h := List.mem_singleton.mp h
      subst h
      have k1 : (r + 1) * (p + 1) ≤ D := (Nat.le_div_iff_mul_le (by omega)).mp (show r + 1 ≤ D / (p + 1) by omega)
      have k2 : c * (r + 1) ≤ D - (p + 1) * (r + 1) := (Nat.le_div_iff_mul_le (by omega)).mp (show c ≤ (D - (p + 1) * (r + 1)) / (r + 1) by omega)
      have k3 := Nat.div_mul_cancel (Nat.dvd_of_mod_eq_zero e)
      generalize (D - (p + 1) * (r + 1) - c * (r + 1)) / (p + 1) = b at *
      refine ⟨by show c < c + (p + 1); omega, by show b < b + (r + 1); omega, ?_⟩
      show (c + (p + 1) - c) * (b + (r + 1) - b) + c * (b + (r + 1) - b) + b * (c + (p + 1) - c) = D
      rw [show c + (p + 1) - c = p + 1 by omega, show b + (r + 1) - b = r + 1 by omega]
      rw [Nat.mul_comm (r + 1) (p + 1)] at k1
      omega
    · cases h
  · rintro ⟨h1, h2, h3⟩
    obtain ⟨a, b, c, d⟩ := q
    obtain ⟨p, hp⟩ : ∃ p, a = c + (p + 1) := ⟨a - c - 1, by have : c < a := h1; omega⟩
    obtain ⟨r, hr⟩ : ∃ r, d = b + (r + 1) := ⟨d - b - 1, by have : b < d := h2; omega⟩
    subst hp
    subst hr
    have h3 : (c + (p + 1) - c) * (b + (r + 1) - b) + c * (b + (r + 1) - b) + b * (c + (p + 1) - c) = D := h3
    rw [show c + (p + 1) - c = p + 1 by omega, show b + (r + 1) - b = r + 1 by omega] at h3
    have g : D - (p + 1) * (r + 1) - c * (r + 1) = b * (p + 1) := by omega
    have l1 : (p + 1) * 1 ≤ (p + 1) * (r + 1) := Nat.mul_le_mul_left _ (by omega)
    refine ⟨p, by omega, r, ?_, c, ?_, ?_⟩
    · have : (r + 1) * (p + 1) ≤ D := by rw [Nat.mul_comm]; omega
      have := (Nat.le_div_iff_mul_le (show 0 < p + 1 by omega)).mpr this
      omega
    · have : c * (r + 1) ≤ D - (p + 1) * (r + 1) := by omega
      have := (Nat.le_div_iff_mul_le (show 0 < r + 1 by omega)).mpr this
      omega
    · rw [g, Nat.mul_mod_left, if_pos rfl, Nat.mul_div_cancel _ (by omega)]
      exact List.mem_singleton.mpr rfl
def sgnD (s : Bool) (D : Nat) : Int := if s then D else -(D : Int)
theorem q4_gl (q : Q4) : q.g1 = true ↔ gl q.m.l = 1 := by
  have e : gl q.m.l = Nat.gcd (Nat.gcd (Nat.gcd q.a q.b) q.c) q.d := by
    show Nat.gcd (Nat.gcd (Nat.gcd (Nat.gcd 0 (q.a : Int).natAbs) (q.b : Int).natAbs) (q.c : Int).natAbs) (q.d : Int).natAbs = _
    rw [Nat.gcd_zero_left]
    rfl
  unfold Q4.g1
  rw [e]
  exact beq_iff_eq
/-- what the list of a size holds -/
theorem lsts_mem {m : M4} {s : Bool} {D : Nat} (hd : 1 ≤ D) (de : m.det = sgnD s D) {q : Q4} : q ∈ lsts s D ↔ Okr m q.m ∧ gl q.m.l = 1 := by
  have pos : ∀ {q : Q4} {m : M4}, m.det = D → (q ∈ lstd D ↔ Okr m q.m) := fun {q m} de => by
    rw [lstd_mem]
    constructor
    · rintro ⟨h1, h2, h3⟩
      refine ⟨⟨Int.natCast_nonneg _, Int.natCast_nonneg _, Int.natCast_nonneg _, Int.natCast_nonneg _⟩, q4_bal.mp (by unfold Q4.bal; rw [decide_eq_true h1, decide_eq_true h2]; rfl), ?_⟩
      rw [de, ← h3]
      obtain ⟨a, b, c, d⟩ := q
      obtain ⟨p, rfl⟩ : ∃ p, a = c + p := ⟨a - c, by have : c < a := h1; omega⟩
      obtain ⟨r, rfl⟩ : ∃ r, d = b + r := ⟨d - b, by have : b < d := h2; omega⟩
      show ((c + p : Nat) : Int) * ((b + r : Nat) : Int) - (b : Int) * (c : Int) = (((c + p - c) * (b + r - b) + c * (b + r - b) + b * (c + p - c) : Nat) : Int)
      rw [show c + p - c = p by omega, show b + r - b = r by omega]
      simp only [Int.natCast_add, Int.natCast_mul, Int.add_mul, Int.mul_add]
      rw [Int.mul_comm (b : Int) (c : Int), Int.mul_comm (b : Int) (p : Int)]
      omega
    · rintro ⟨n, b, e⟩
      obtain ⟨h1, h2⟩ := bal_pos n (by rw [e, de]; omega) b
      obtain ⟨a, b', c, d⟩ := q
      have h1 : (c : Int) < a := h1
      have h2 : (b' : Int) < d := h2
      refine ⟨by show c < a; omega, by show b' < d; omega, ?_⟩
      obtain ⟨p, rfl⟩ : ∃ p, a = c + p := ⟨a - c, by omega⟩
      obtain ⟨r, rfl⟩ : ∃ r, d = b' + r := ⟨d - b', by omega⟩
      have e : ((c + p : Nat) : Int) * ((b' + r : Nat) : Int) - (b' : Int) * (c : Int) = m.det := e
      show (c + p - c) * (b' + r - b') + c * (b' + r - b') + b' * (c + p - c) = D
      rw [show c + p - c = p by omega, show b' + r - b' = r by omega]
      rw [de] at e
      simp only [Int.natCast_add, Int.natCast_mul, Int.add_mul, Int.mul_add] at e
      rw [Int.mul_comm (b' : Int) (c : Int), Int.mul_comm (p : Int) (b' : Int)] at e
      have e2 : ((p * r + c * r + b' * p : Nat) : Int) = (D : Int) := by
        simp only [Int.natCast_add, Int.natCast_mul]
        omega
      exact Int.ofNat.inj e2
  unfold lsts
  rw [List.mem_filter, q4_gl]
  cases s
  · have dn : m.swp.det = D := by
      rw [swp_det, de]
      show -(-(D : Int)) = D
      omega
    have bs : ∀ r : M4, Lr.bal r → Lr.bal r.swp := fun r b => by
      unfold Lr.bal at *
      show (r.b - r.d) * (r.a - r.c) < 0
      rw [Int.mul_comm]
      exact b
    have sw : ∀ {q : Q4}, Okr m q.m ↔ Okr m.swp q.swp.m := fun {q} => by
      constructor
      · intro h
        exact ⟨h.nn.swp, bs _ h.bl, by show q.m.swp.det = _; rw [swp_det, swp_det, h.de]⟩
      · intro h
        refine ⟨h.nn.swp, bs _ h.bl, ?_⟩
        have z := h.de
        have e : q.swp.m.det = -q.m.det := swp_det q.m
        rw [e, swp_det] at z
        omega
    rw [show (if false = true then lstd D else (lstd D).map Q4.swp) = (lstd D).map Q4.swp from rfl, List.mem_map]
    constructor
    · rintro ⟨⟨x, hx, rfl⟩, g⟩
      exact ⟨sw.mpr ((pos dn).mp hx), g⟩
    · rintro ⟨h, g⟩
      exact ⟨⟨q.swp, (pos dn).mpr (sw.mp h), rfl⟩, g⟩
  · rw [show (if true = true then lstd D else (lstd D).map Q4.swp) = lstd D from rfl, pos de]
/-- from any of them all are come to -/
theorem all_come {m r0 : M4} (o : Okm m) (h0 : Okr m r0) (g0 : gl r0.l = 1) {N : Nat} (fn : Fin r0 N) {r : M4} (h : Okr m r) (g : gl r.l = 1) : r ∈ enm r0 N := by
  have d0 := o.d0
  have dt := o.dt
  obtain ⟨s, D, h1, h12, de⟩ : ∃ (s : Bool) (D : Nat), 1 ≤ D ∧ D ≤ 12 ∧ m.det = sgnD s D := by
    by_cases c : 0 < m.det
    · exact ⟨true, m.det.natAbs, by omega, dt, by show m.det = ((m.det.natAbs : Nat) : Int); omega⟩
    · exact ⟨false, m.det.natAbs, by omega, dt, by show m.det = -((m.det.natAbs : Nat) : Int); omega⟩
  have ck : chk s D = true := by
    have z := List.all_eq_true.mp chk_all (D - 1) (List.mem_range.mpr (by omega))
    rw [show D - 1 + 1 = D by omega] at z
    obtain ⟨z1, z2⟩ := Bool.and_eq_true_iff.mp z
    cases s
    · exact z2
    · exact z1
  have ex : ∀ x : M4, Okr m x → ∃ q : Q4, q.m = x := fun x k => by
    obtain ⟨n1, n2, n3, n4⟩ := k.nn
    exact ⟨⟨x.a.toNat, x.b.toNat, x.c.toNat, x.d.toNat⟩, M4.ext (Int.toNat_of_nonneg n1) (Int.toNat_of_nonneg n2) (Int.toNat_of_nonneg n3) (Int.toNat_of_nonneg n4)⟩
  obtain ⟨q0, e0⟩ := ex r0 h0
  obtain ⟨q1, e1⟩ := ex r h
  have m0 : q0 ∈ lsts s D := (lsts_mem h1 de).mpr ⟨by rw [e0]; exact h0, by rw [e0]; exact g0⟩
  have m1 : q1 ∈ lsts s D := (lsts_mem h1 de).mpr ⟨by rw [e1]; exact h, by rw [e1]; exact g⟩
  unfold chk at ck
  have c0 := List.all_eq_true.mp ck q0 m0
  have c1 := List.all_eq_true.mp ck q1 m1
  obtain ⟨c0, _⟩ := Bool.and_eq_true_iff.mp c0
  obtain ⟨_, c1⟩ := Bool.and_eq_true_iff.mp c1
  have oz : Okr m (if s then (⟨D, 0, 0, 1⟩ : Q4) else ⟨0, D, 1, 0⟩).m := by
    cases s
    · refine ⟨⟨Int.le_refl 0, Int.natCast_nonneg _, by show (0 : Int) ≤ ((1 : Nat) : Int); decide, Int.le_refl 0⟩, ?_, ?_⟩
      · exact (q4_bal (q := (⟨0, D, 1, 0⟩ : Q4))).mp (by unfold Q4.bal; simp; omega)
      · rw [de]
        show ((0 : Nat) : Int) * ((0 : Nat) : Int) - (D : Int) * ((1 : Nat) : Int) = -(D : Int)
        omega
    · refine ⟨⟨Int.natCast_nonneg _, Int.le_refl 0, Int.le_refl 0, by show (0 : Int) ≤ ((1 : Nat) : Int); decide⟩, ?_, ?_⟩
      · exact (q4_bal (q := (⟨D, 0, 0, 1⟩ : Q4))).mp (by unfold Q4.bal; simp; omega)
      · rw [de]
        show (D : Int) * ((1 : Nat) : Int) - ((0 : Nat) : Int) * ((0 : Nat) : Int) = (D : Int)
        omega
  generalize (if s then (⟨D, 0, 0, 1⟩ : Q4) else ⟨0, D, 1, 0⟩) = z at *
  have r1 := bck_ok o (z := z) (B := lsts s D) (fun q hq => ((lsts_mem h1 de).mp hq).1) 12 [z] (fun x hx => by rw [List.mem_singleton.mp hx]; exact fun C _ hz => hz) q0 (List.contains_iff_mem.mp c0)
  have one : ∀ x ∈ [z], Okr m x.m ∧ Reach m z x := fun x hx => by rw [List.mem_singleton.mp hx]; exact ⟨oz, fun C _ hz => hz⟩
  have r2 := (fwd_ok o (z := z) 100 [z] [z] one one q1 (List.contains_iff_mem.mp c1)).2
  have z0 : r0 ∈ enm r0 N := by
    obtain ⟨y, hy⟩ := enm_le r0 0 N
    rw [Nat.zero_add] at hy
    rw [hy]
    exact List.mem_append_left _ (by show r0 ∈ [r0]; exact List.mem_singleton.mpr rfl)
  rw [← e1]
  refine r2 (fun x => x ∈ enm r0 N) (fun x t hx => enm_closed fn hx t) (r1 (fun x => x ∈ enm r0 N) (fun x t hx => enm_closed fn hx t) ?_)
  rw [e0]
  exact z0
end Lr

set_option exponentiation.threshold 5000
namespace Lr
open PySem PySem.Spec PyProof.Rows L2
/-! sorted of tuples of integers, any number of them -/
theorem vals_mem {xs : List V} {us : List Value} (h : Vals xs us) : ∀ v ∈ us, ∃ x ∈ xs, L2.RelV x v := by
  induction h with
  | nil => intro v hv; cases hv
  | cons h t ih =>
    intro v hv
    rcases List.mem_cons.mp hv with rfl | y
    · exact ⟨_, List.mem_cons_self, h⟩
    · obtain ⟨x, hx, r⟩ := ih v y
      exact ⟨x, List.mem_cons_of_mem _ hx, r⟩
theorem vals_perm {us vs : List Value} (p : us.Perm vs) : ∀ {xs : List V}, Vals xs vs → ∃ ys, ys.Perm xs ∧ Vals ys us := by
  induction p with
  | nil => intro xs h; cases h; exact ⟨[], .nil, .nil⟩
  | cons x p ih =>
    intro xs h
    cases h with
    | cons h t =>
      obtain ⟨ys, p', v'⟩ := ih t
      exact ⟨_ :: ys, .cons _ p', .cons h v'⟩
  | swap x y l =>
    intro xs h
    cases h with
    | cons h1 t =>
      cases t with
      | cons h2 t => exact ⟨_ :: _ :: _, .swap _ _ _, .cons h2 (.cons h1 t)⟩
  | trans p1 p2 ih1 ih2 =>
    intro xs h
    obtain ⟨ys, q2, v2⟩ := ih2 h
    obtain ⟨zs, q1, v1⟩ := ih1 v2
    exact ⟨zs, q1.trans q2, v1⟩
theorem tups_of {h : Heap} {its : List Value} (k : ∀ v ∈ its, ∃ ns, TS.TupInts h v ns ∧ 1 ≤ ns.length) : ∃ fs, PyProof.Rows.TupsOf h (fun _ => false) its fs ∧ fs.length = its.length := by
  induction its with
  | nil => exact ⟨[], .nil, rfl⟩
  | cons v its ih =>
    obtain ⟨fs, h1, h2⟩ := ih fun w hw => k w (List.mem_cons_of_mem _ hw)
    obtain ⟨ns, ⟨t, xs, rfl, hx, hi⟩, hl⟩ := k v List.mem_cons_self
    obtain ⟨o, g1, g2, n, g3⟩ := (show Heap.IsTuple h t xs from hx)
    have vv := vals_of_ints hi
    cases ns with
    | nil => simp at hl
    | cons n0 ns =>
      obtain ⟨x0, xr, ex, r0⟩ : ∃ x0 xr, xs.toList = x0 :: xr ∧ L2.RelV (.int n0) x0 := by
        generalize xs.toList = l at *
        cases vv with
        | cons a b => exact ⟨_, _, rfl, a⟩
      obtain ⟨tk, e0⟩ := (show ∃ tk, x0 = Value.int n0 tk from r0)
      refine ⟨x0 :: fs, .cons ⟨t, o, xs, n, rfl, g1, g2, g3, ?_, fun _ => ⟨n0, tk, e0⟩, fun z => by cases z⟩ h1, by rw [List.length_cons, List.length_cons, h2]⟩
      rw [← Array.getElem?_toList, ex]
      rfl
theorem vals_len {xs : List V} {us : List Value} (h : Vals xs us) : xs.length = us.length := by
  induction h with
  | nil => rfl
  | cons h t ih => rw [List.length_cons, List.length_cons, ih]
theorem vals_pw {ys : List V} {us : List Value} {f : Value → Int} {k : V → Int} (h : Vals ys us) : (∀ x v, x ∈ ys → L2.RelV x v → f v = k x) → us.Pairwise (fun u v => decide (f v < f u) = false) → ys.Pairwise (fun x y => k x ≤ k y) := by
  induction h with
  | nil => intro _ _; exact .nil
  | @cons x v xs vs r t ih =>
    intro e p
    rw [List.pairwise_cons] at p ⊢
    refine ⟨fun y hy => ?_, ih (fun x v hx => e x v (List.mem_cons_of_mem _ hx)) p.2⟩
    obtain ⟨w, hw, rw'⟩ : ∃ w ∈ vs, L2.RelV y w := by
      clear ih e p
      induction t with
      | nil => cases hy
      | cons r' t' ih =>
        rcases List.mem_cons.mp hy with rfl | z
        · exact ⟨_, List.mem_cons_self, r'⟩
        · obtain ⟨w, h1, h2⟩ := ih z
          exact ⟨w, List.mem_cons_of_mem _ h1, h2⟩
    have := of_decide_eq_false (p.1 w hw)
    rw [e x v List.mem_cons_self r, e y w (List.mem_cons_of_mem _ hy) rw'] at this
    omega
def rSortL (K : PySem.W.Frag) : List V → Hp → VK → Prop := fun vs H Q => ∃ (d : Nat) (B : Int) (g : V → List Int) (a : Addr) (xs : List V), 1 ≤ d ∧ vs = [.ref a] ∧ SqL K H a xs ∧ (∀ x ∈ xs, ∃ t, x = .ref t ∧ H t = some (.tup ((g x).map V.int)) ∧ (g x).length = d ∧ TS.Bd B (g x)) ∧
  ∀ (ys : List V) (p : Addr), ys.Perm xs → ys.Pairwise (fun x y => TS.code B (g x) ≤ TS.code B (g y)) → H p = none → Q (.ref p) (upd H p (.lst ys))
section
variable {X : Cx}
theorem cr_sortL : CallR X (.builtin "sorted") (rSortL X.K) := by
  intro pins s σ H xs us Q I r h
  obtain ⟨d, B, g, a, xs, hd, rfl, hl, hx, q⟩ := h
  obtain ⟨u, rfl, hu⟩ := vals1 r
  cases (show u = Value.ref a from hu)
  obtain ⟨its, rv, p, len⟩ := I.list hl
  have one : ∀ x v, x ∈ xs → L2.RelV x v → TS.TupInts s.heap v (g x) := fun x v hxs rel => by
    obtain ⟨t, rfl, ht, _, _⟩ := hx x hxs
    obtain ⟨is, r1, r2, _⟩ := I.tuple (SqT.of ht)
    cases (show v = Value.ref t from rel)
    exact ⟨t, is.toArray, rfl, r2, r1.ints⟩
  have tups : ∀ v ∈ its, ∃ ns, TS.TupInts s.heap v ns ∧ ns.length = d ∧ TS.Bd B ns := fun v hv => by
    obtain ⟨x, hxs, rel⟩ := vals_mem rv v hv
    obtain ⟨t, e, ht, l1, l2⟩ := hx x hxs
    exact ⟨g x, one x v hxs rel, l1, l2⟩
  have lv : its.length ≤ sizeLine := by
    have : its.length = xs.length := by
      clear tups q hx hl p len r
      induction rv with
      | nil => rfl
      | cons h t ih => simp only [List.length_cons]; exact congrArg Nat.succ (ih fun x v hx => one x v (List.mem_cons_of_mem _ hx))
    omega
  refine SrtO.sorted_ord (ltv := fun u v => decide (TS.code B (TS.intsOf s.heap u) < TS.code B (TS.intsOf s.heap v))) ⟨fun x y h => ?_, fun x y z h k => ?_⟩ p.isList lv (fun two h₁ b hb keep h' keep' => ?_) (fun out srt stb => ?_)
  · have := of_decide_eq_true h
    exact decide_eq_false (by omega)
  · have h := of_decide_eq_false h
    have k := of_decide_eq_false k
    exact decide_eq_false (by omega)
  · have kp : ∀ (c : Addr) (o : Obj), s.heap.get? c = some o → h'.get? c = some o := fun c o e => keep' c o (keep c o e).1 (keep c o e).2
    have up : ∀ v ∈ its, ∃ ns, TS.TupInts h' v ns ∧ TS.intsOf s.heap v = ns ∧ ns.length = d ∧ TS.Bd B ns := fun v hv => by
      obtain ⟨ns, h1, h2, h3⟩ := tups v hv
      exact ⟨ns, h1.keeps (fun c o e _ => kp c o e), h1.ints, h2, h3⟩
    refine ⟨tuples' true, fun Q E q => ?_, fun x y hx hy => ?_⟩
    · obtain ⟨fs, h1, h2⟩ := tups_of (h := h') (its := its) fun v hv => by
        obtain ⟨ns, h1, _, h2, _⟩ := up v hv
        exact ⟨ns, h1, by omega⟩
      exact PyProof.Rows.tup_kind (by omega) h1 q
    · obtain ⟨ns, ⟨t1, a1, e1, i1, j1⟩, f1, l1, b1⟩ := up _ hx
      obtain ⟨ms, ⟨t2, a2, e2, i2, j2⟩, f2, l2, b2⟩ := up _ hy
      obtain ⟨o1, g1, _, n1, d1⟩ := (show Heap.IsTuple h' t1 a1 from i1)
      obtain ⟨o2, g2, _, n2, d2⟩ := (show Heap.IsTuple h' t2 a2 from i2)
      have s1 := vals_len (vals_of_ints j1)
      have s2 := vals_len (vals_of_ints j2)
      rw [List.length_map] at s1 s2
      have s3 : a1.toList.length = a1.size := Array.length_toList
      have s4 : a2.toList.length = a2.size := Array.length_toList
      rw [e1, e2]
      refine W.kat_lt g1 d1 g2 d2 ?_
      rw [show decide (a1.size < a2.size) = false from decide_eq_false (by omega)]
      refine TS.lex_ints 0 j1 j2 (by omega) b1 b2 ⟨rfl, ?_⟩
      show _ = decide (TS.code B (TS.intsOf s.heap x.fst) < TS.code B (TS.intsOf s.heap y.fst))
      rw [f1, f2]
  · obtain ⟨ys, p', v'⟩ := vals_perm stb.perm rv
    obtain ⟨e, ge⟩ := PyProof.Rows.sortedAll_at s.heap its out.toArray
    refine ⟨.ref (s.heap.objs.size + 1), upd H (s.heap.objs.size + 1) (.lst ys), I.laid (fun c o e => PyProof.Rows.sortedAll_old e) (Nat.le_succ _) ⟨by rw [p'.length_eq]; exact len, out, e, v', ge⟩, rfl, q ys _ p' ?_ (I.hok.fresh (Nat.le_succ _))⟩
    exact vals_pw (f := fun v => TS.code B (TS.intsOf s.heap v)) (k := fun x => TS.code B (g x)) v' (fun x v hx rel => by rw [(one x v (p'.mem_iff.mp hx) rel).ints]) srt
end
end Lr

set_option exponentiation.threshold 5000
namespace Lr
open PySem PySem.Spec PyProof.Rows L2
/-! sorted of lists of maps -/
def intV : V → Int
  | .int i => i
  | _ => 0
def tupAt (H : Hp) (x : V) : List Int := match x with
  | .ref t => match H t with
    | some (.tup vs) => vs.map intV
    | _ => []
  | _ => []
theorem tupAt_of {H : Hp} {t : Addr} {l : List Int} (h : H t = some (.tup (l.map V.int))) : tupAt H (.ref t) = l := by
  show (match H t with | some (.tup vs) => vs.map intV | _ => []) = l
  rw [h]
  show (l.map V.int).map intV = l
  rw [List.map_map]
  exact List.map_id l
def mOf : List Int → M4
  | [a, b, c, d] => ⟨a, b, c, d⟩
  | _ => ⟨0, 0, 0, 0⟩
theorem mOf_l (m : M4) : mOf m.l = m := rfl
def refV : V → Addr
  | .ref a => a
  | _ => 0
theorem maps_list {H : Hp} {ps : List Addr} {l : List M4} (h : MapsL H ps l) : (ps.map V.ref).map (fun x => mOf (tupAt H x)) = l := by
  refine List.ext_getElem? fun k => ?_
  rw [List.map_map, List.getElem?_map]
  cases e : ps[k]? with
  | none =>
    have := List.getElem?_eq_none_iff.mp e
    rw [List.getElem?_eq_none (by rw [← h.1]; exact this)]
    rfl
  | some a =>
    have lt := (List.getElem?_eq_some_iff.mp e).1
    have lt2 : k < l.length := by rw [← h.1]; exact lt
    have e2 : l[k]? = some l[k] := List.getElem?_eq_getElem lt2
    rw [e2]
    show some (mOf (tupAt H (.ref a))) = _
    rw [tupAt_of (h.2 k a _ e e2), mOf_l]
theorem sortL_maps {K : PySem.W.Frag} {H : Hp} {Q : VK} {ps : List Addr} {l : List M4} {B : Int} {a : Addr} (hS : SqL K H a (ps.map V.ref)) (hm : MapsL H ps l) (hb : ∀ m ∈ l, TS.Bd B m.l)
    (q : ∀ (qs : List Addr) (l' : List M4) (p : Addr), l'.Perm l → l'.Pairwise (fun x y => TS.code B x.l ≤ TS.code B y.l) → MapsL H qs l' → H p = none → Q (.ref p) (L2.upd H p (.lst (qs.map V.ref)))) : rSortL K [.ref a] H Q := by
  have at_ : ∀ x ∈ ps.map V.ref, ∃ t m, x = .ref t ∧ m ∈ l ∧ H t = some (.tup (m.l.map V.int)) := fun x hx => by
    obtain ⟨k, hk⟩ := List.getElem?_of_mem hx
    rw [List.getElem?_map] at hk
    cases e : ps[k]? with
    | none =>
      rw [e] at hk
      cases hk
    | some t =>
      rw [e] at hk
      have lt := (List.getElem?_eq_some_iff.mp e).1
      have lt2 : k < l.length := by rw [← hm.1]; exact lt
      have e2 : l[k]? = some l[k] := List.getElem?_eq_getElem lt2
      exact ⟨t, _, (Option.some.inj hk).symm, List.mem_of_getElem? e2, hm.2 k t _ e e2⟩
  refine ⟨4, B, tupAt H, a, ps.map V.ref, by decide, rfl, hS, fun x hx => ?_, fun ys p pm pw np => ?_⟩
  · obtain ⟨t, m, rfl, hml, ht⟩ := at_ x hx
    refine ⟨t, rfl, ?_⟩
    rw [tupAt_of ht]
    exact ⟨ht, rfl, hb m hml⟩
  · have yr : ∀ x ∈ ys, ∃ t m, x = .ref t ∧ m ∈ l ∧ H t = some (.tup (m.l.map V.int)) := fun x hx => at_ x (pm.mem_iff.mp hx)
    have e1 : (ys.map refV).map V.ref = ys := by
      rw [List.map_map]
      refine (List.map_congr_left fun x hx => ?_).trans (List.map_id ys)
      obtain ⟨t, _, rfl, _⟩ := yr x hx
      rfl
    have z := q (ys.map refV) (ys.map fun x => mOf (tupAt H x)) p ?_ ?_ ?_ np
    · rw [e1] at z
      exact z
    · have := pm.map fun x => mOf (tupAt H x)
      rw [maps_list hm] at this
      exact this
    · rw [List.pairwise_map]
      refine pw.imp_of_mem fun {x y} hx hy h => ?_
      obtain ⟨t, m, rfl, _, ht⟩ := yr x hx
      obtain ⟨u, n, rfl, _, hu⟩ := yr y hy
      rw [tupAt_of ht, tupAt_of hu] at *
      exact h
    · refine ⟨by rw [List.length_map, List.length_map], fun k b m hk hm' => ?_⟩
      rw [List.getElem?_map] at hk hm'
      cases e : ys[k]? with
      | none =>
        rw [e] at hk
        cases hk
      | some x =>
        rw [e] at hk hm'
        obtain ⟨t, n, rfl, _, ht⟩ := yr x (List.mem_of_getElem? e)
        cases hk
        cases hm'
        show H t = some (.tup ((mOf (tupAt H (.ref t))).l.map V.int))
        rw [tupAt_of ht, mOf_l]
        exact ht
/-- two sorted lists of the same are the same -/
theorem sorted_one {α : Type} {f : α → Int} : ∀ {l m : List α}, (∀ x ∈ l, ∀ y ∈ l, f x = f y → x = y) → l.Nodup → m.Nodup → l.Pairwise (fun x y => f x ≤ f y) → m.Pairwise (fun x y => f x ≤ f y) → (∀ x, x ∈ l ↔ x ∈ m) → l = m
  | [], [], _, _, _, _, _, _ => rfl
  | [], y :: m, _, _, _, _, _, h => absurd ((h y).mpr List.mem_cons_self) List.not_mem_nil
  | x :: l, [], _, _, _, _, _, h => absurd ((h x).mp List.mem_cons_self) List.not_mem_nil
  | x :: l, y :: m, inj, nl, nm, pl, pm, h => by
    rw [List.pairwise_cons] at pl pm
    have nl' := List.nodup_cons.mp nl
    have nm' := List.nodup_cons.mp nm
    have hx := (h x).mp List.mem_cons_self
    have hy := (h y).mpr List.mem_cons_self
    have exy : x = y := by
      refine inj x List.mem_cons_self y hy ?_
      have h1 : f x ≤ f y := by
        rcases List.mem_cons.mp hy with e | e
        · rw [e]
          exact Int.le_refl _
        · exact pl.1 y e
      have h2 : f y ≤ f x := by
        rcases List.mem_cons.mp hx with e | e
        · rw [e]
          exact Int.le_refl _
        · exact pm.1 x e
      omega
    subst exy
    congr 1
    refine sorted_one (fun a ha b hb => inj a (List.mem_cons_of_mem _ ha) b (List.mem_cons_of_mem _ hb)) nl'.2 nm'.2 pl.2 pm.2 fun z => ⟨fun hz => ?_, fun hz => ?_⟩
    · rcases List.mem_cons.mp ((h z).mp (List.mem_cons_of_mem _ hz)) with e | e
      · exact absurd (e ▸ hz) nl'.1
      · exact e
    · rcases List.mem_cons.mp ((h z).mpr (List.mem_cons_of_mem _ hz)) with e | e
      · exact absurd (e ▸ hz) nm'.1
      · exact e
/-! what repr writes of a list of maps -/
def mapsD (l : List M4) : PyData := .list ((l.map M4.l).map tupD)
theorem maps_shown : ∀ {l : List M4}, (∀ m ∈ l, ∀ i ∈ m.l, Sml i) → PyData.showableAll ((l.map M4.l).map tupD) = true ∧ PyData.hasDictAll ((l.map M4.l).map tupD) = false ∧ PyData.leavesShortAll 2000 ((l.map M4.l).map tupD) = true ∧ PyData.bulkAll ((l.map M4.l).map tupD) = 5 * l.length ∧ PyData.depthAll ((l.map M4.l).map tupD) ≤ 2
  | [], _ => ⟨rfl, rfl, rfl, rfl, Nat.zero_le _⟩
  | m :: l, h => by
    obtain ⟨h1, h2, h3, h4, h5⟩ := maps_shown (l := l) fun n hn => h n (List.mem_cons_of_mem _ hn)
    obtain ⟨g1, g2, g3, g4, g5⟩ := ints_ok (l := m.l) (h m List.mem_cons_self)
    refine ⟨?_, ?_, ?_, ?_, ?_⟩
    · show (PyData.showableAll (intsD m.l) && PyData.showableAll ((l.map M4.l).map tupD)) = true
      rw [g1, h1]
      rfl
    · show (PyData.hasDictAll (intsD m.l) || PyData.hasDictAll ((l.map M4.l).map tupD)) = false
      rw [g2, h2]
      rfl
    · show (PyData.leavesShortAll 2000 (intsD m.l) && PyData.leavesShortAll 2000 ((l.map M4.l).map tupD)) = true
      rw [g3, h3]
      rfl
    · show PyData.bulkAll (intsD m.l) + 1 + PyData.bulkAll ((l.map M4.l).map tupD) = _
      rw [g4, h4]
      simp only [M4.l, List.length_cons, List.length_nil]
      omega
    · show max (PyData.depthAll (intsD m.l) + 1) (PyData.depthAll ((l.map M4.l).map tupD)) ≤ 2
      omega
theorem shw_maps {l : List M4} (h : ∀ m ∈ l, ∀ i ∈ m.l, Sml i) (hl : l.length ≤ 1000) : Shw (mapsD l) := by
  obtain ⟨h1, h2, h3, h4, h5⟩ := maps_shown h
  refine ⟨h1, h2, ?_, h3, ?_⟩
  · show PyData.depthAll ((l.map M4.l).map tupD) + 1 ≤ 60
    omega
  · have e : (mapsD l).bulk = PyData.bulkAll ((l.map M4.l).map tupD) := rfl
    rw [e, h4]
    omega
theorem dp_maps {K : PySem.W.Frag} {H : Hp} {a : Addr} {ps : List Addr} {l : List M4} (h : SqL K H a (ps.map V.ref)) (m : MapsL H ps l) : Dp K H (.ref a) (mapsD l) := .lst h (MapsL.dp m)
end Lr

set_option exponentiation.threshold 5000
namespace Lr
open PySem PySem.Spec PyProof.Rows L2
/-! the keys of a dict, drawn one by one -/
section
variable {prog : Program} {w : World} {A : Around} {E : Value → Shared → Prop} {s : Shared} {it d : Addr} {i n ep : Nat} {od : Obj} {es : Array DictEntry}
theorem key_drawn {en : DictEntry} {Q : Value → Shared → Prop} (k : s.heap.IsKeyIter it d i n ep) (g : s.heap.get? d = some od) (z : od.data = .dict es ep) (ln : es.size = n) (x : es[i]? = some en)
    (q : ∀ h', h'.IsKeyIter it d (i + 1) n ep → Heap.SameBut it s.heap h' → Q en.key { s with heap := h' }) : wpAny (model prog w) A (Builtin.SmallTypes.nextOf (.ref it)) Q E s := by
  obtain ⟨lt, ex⟩ := Array.getElem?_eq_some_iff.mp x
  obtain ⟨ob, k1, k2, k3⟩ := id k
  have own : Builtin.Dict_items.ownsTuple "dict_keyiterator" = false := by decide
  unfold Builtin.SmallTypes.nextOf
  refine wpAny_bind (wpAny_callSpecial?_slot (name := Str.ofString "__next__") k.typeIs F.slot_dict_keyiterator_next (wpAny_call_entry F.slot_dict_keyiterator_next k.typeIs F.entry_dict_keyiterator_next ?body (F.args_dict_keyiterator_next_1 _)))
  refine wpAny_bind (wpAny_pure (wpAny_bind (wpAny_bind ?own)))
  first | refine wpAny_bind (wpAny_typeNameOfWhole_keyiter k.typeIs (wpAny_pure (wpAny_bind (wpAny_fieldsOf k1 k3 ?fld)))) | refine wpAny_bind (wpAny_typeNameOf_keyiter k.typeIs (wpAny_pure (wpAny_bind (wpAny_fieldsOf k1 k3 ?fld))))
  simp only [own, Bool.false_eq_true, if_false]
  show wpAny _ _ (if (Value.ref d == Value.none) = true then _ else _) _ _ s; rw [if_neg (show ¬ ((Value.ref d == Value.none) = true) from Bool.false_ne_true)]
  refine wpAny_bind (wpAny_pure (wpAny_bind (wpAny_dictEntries g z ?ent))); rw [if_neg (by rw [ln]; simp)]
  refine wpAny_bind (wpAny_pure (wpAny_bind (wpAny_dictEpoch g z ?epo))); rw [if_neg (by simp)]; refine wpAny_pure ?nx
  simp only [show ¬ ((i : Int) < 0) from by omega, if_false, Int.toNat_natCast, Array.getElem?_eq_getElem lt]; refine wpAny_bind ?st
  first | refine wpAny_bind (wpAny_typeNameOfWhole_keyiter k.typeIs (wpAny_pure (wpAny_bind (wpAny_isOneOf_keyiter k.typeIs ?one)))) | refine wpAny_bind (wpAny_typeNameOf_keyiter k.typeIs (wpAny_pure (wpAny_bind (wpAny_isOneOf_keyiter k.typeIs ?one))))
  show wpAny _ _ (setField (.ref it) 1 (rawInt ((i : Int) + 1)) >>= _) _ _ s; refine wpAny_bind (wpAny_setField k1 k3 (by simp) ?set)
  have k' : (s.heap.update it (Obj.mapFields (·.setIfInBounds 1 (rawInt ((i : Int) + 1))))).IsKeyIter it d (i + 1) n ep := ⟨_, Heap.get?_update_self _ k1 (Obj.isFreed_of_fields (Obj.data_mapFields k3 _)), (Obj.cls_mapFields ..).trans k2, by rw [Obj.data_mapFields k3]; simp [rawInt]⟩
  refine wpAny_bind (wpAny_holding (wpAny_bind (wpAny_isOneOf_keyiter (s := { s with heap := s.heap.update it (Obj.mapFields (·.setIfInBounds 1 (rawInt ((i : Int) + 1)))) }) k'.typeIs ?pk)))
  show wpAny _ _ (pure es[i].key) _ _ _; rw [ex]; exact wpAny_pure (wpAny_pure ⟨_, rfl, wpAny_pure (q _ k' (Heap.SameBut.update ..))⟩)
theorem keys_out {Q : Value → Shared → Prop} (hh : A.handled = none) (k : s.heap.IsKeyIter it d i n ep) (g : s.heap.get? d = some od) (z : od.data = .dict es ep) (ln : es.size = n) (ge : n ≤ i)
    (q : ∀ h' e, Heap.ExtBut it s.heap h' → (∃ o, h'.get? e = some o ∧ o.cls = .type "StopIteration") → E (.ref e) { s with heap := h' }) : wpAny (model prog w) A (Builtin.SmallTypes.nextOf (.ref it)) Q E s := by
  obtain ⟨ob, k1, k2, k3⟩ := id k
  have own : Builtin.Dict_items.ownsTuple "dict_keyiterator" = false := by decide
  unfold Builtin.SmallTypes.nextOf
  refine wpAny_bind (wpAny_callSpecial?_slot (name := Str.ofString "__next__") k.typeIs F.slot_dict_keyiterator_next (wpAny_call_entry F.slot_dict_keyiterator_next k.typeIs F.entry_dict_keyiterator_next ?body (F.args_dict_keyiterator_next_1 _)))
  refine wpAny_bind (wpAny_pure (wpAny_bind (wpAny_bind ?own)))
  first | refine wpAny_bind (wpAny_typeNameOfWhole_keyiter k.typeIs (wpAny_pure (wpAny_bind (wpAny_fieldsOf k1 k3 ?fld)))) | refine wpAny_bind (wpAny_typeNameOf_keyiter k.typeIs (wpAny_pure (wpAny_bind (wpAny_fieldsOf k1 k3 ?fld))))
  simp only [own, Bool.false_eq_true, if_false]
  show wpAny _ _ (if (Value.ref d == Value.none) = true then _ else _) _ _ s; rw [if_neg (show ¬ ((Value.ref d == Value.none) = true) from Bool.false_ne_true)]
  refine wpAny_bind (wpAny_pure (wpAny_bind (wpAny_dictEntries g z ?ent))); rw [if_neg (by rw [ln]; simp)]
  refine wpAny_bind (wpAny_pure (wpAny_bind (wpAny_dictEpoch g z ?epo))); rw [if_neg (by simp)]; refine wpAny_pure ?nx
  simp only [show ¬ ((i : Int) < 0) from by omega, if_false, Int.toNat_natCast, Array.getElem?_eq_none (show es.size ≤ i by omega)]; refine wpAny_bind ?st
  first | refine wpAny_bind (wpAny_typeNameOfWhole_keyiter k.typeIs (wpAny_pure ?tn)) | refine wpAny_bind (wpAny_typeNameOf_keyiter k.typeIs (wpAny_pure ?tn))
  show wpAny _ _ (setField (.ref it) 0 .none >>= _) _ _ s; refine wpAny_bind (wpAny_setField k1 k3 (by simp) ?set)
  show wpAny _ _ (newExc (.type "StopIteration") [] >>= _) _ _ _; refine wpAny_bind ?ne; simp only [newExc, newTuple]
  refine wpAny_bind (wpAny_newObj_type ?tup (by size_fits)); refine wpAny_bind (m := firstArgMember _ _) (wpAny_of_eq (a := Value.none) (by first | rfl | (simp only [firstArgMember]; rfl)) ?fa)
  refine wpAny_newObj_type ?obj (by size_fits); simp only [raiseNew]; refine wpAny_bind (wpAny_handled ?han); first | rw [show A.in1.handled = none from hh] | rw [hh]
  refine wpAny_bind (wpAny_pure (wpAny_throw ?thr)); exact q _ _ (((Heap.SameBut.update ..).extBut.push _).push _) ⟨_, Heap.get?_push_size _ rfl, rfl⟩
end
/-- the keys of a dict that stays are drawn in their order -/
theorem draws_keys {prog : Program} {w : World} {A : Around} {it d : Addr} {ep : Nat} {od : Obj} {es : Array DictEntry} (hh : A.handled = none) (ne : d ≠ it) (z : od.data = .dict es ep) :
    Draws prog w A it [it, d] es.size (fun i v => ∃ en : DictEntry, es[i]? = some en ∧ v = en.key) (fun i h => h.IsKeyIter it d i es.size ep ∧ h.get? d = some od) where
  live := fun _ _ st => let ⟨o, ho, _⟩ := st.1; ⟨o, ho⟩
  frame := fun _ _ _ st hk => ⟨st.1.at fun ob e => hk it (by simp) ob e, hk d (by simp) od st.2⟩
  item := fun i s Q E hi st hQ => key_drawn st.1 st.2 z rfl (Array.getElem?_eq_getElem hi) fun h' k' sb => hQ _ h' s.toks ⟨_, Array.getElem?_eq_getElem hi, rfl⟩ ⟨k', (sb.2 d ne).trans st.2⟩ sb
  done := fun s Q E st hE => keys_out hh st.1 st.2 z rfl (Nat.le_refl _) hE
theorem begins_keys {d : Addr} {o : Obj} {es : Array DictEntry} {ep : Nat} (hd : (d == sysModules) = false) (hx : o.ExactDict) (z : o.data = .dict es ep) :
    Begins (.ref d) { cls := .type "dict_keyiterator", data := .fields #[.ref d, .int 0 0, .int es.size 0, .int ep 0] } fun h => h.get? d = some o where
  iter := fun prog w A E s Q hg h => iter_keys hd hg hx z h
  keeps := fun h h' x hk => hk d o x
  free := rfl
/-! enumerate(d) -/
theorem enum_new {v : Value} {ob : Obj} {Hq : Heap → Prop} (B : Begins v ob Hq) :
    Meets (Builtin.«enumerate.__new__» ⟨[.type "enumerate", v], []⟩) (fun _ R s => Hq s.heap ∧ R (.ok (.ret (.ref (s.heap.push ob).objs.size))) { s with heap := (s.heap.push ob).push { cls := .type "enumerate", data := .fields #[.none, .bool false, .ref s.heap.objs.size, rawInt 0, .none, .none] } }) :=
  .of_wp fun prog w A R s h => by
    obtain ⟨hp, g, dr, tk, os⟩ := s; obtain ⟨hq, r⟩ := h; have sub := sub_enumerate
    have it : ∀ {A2 : Around} {E : Value → Shared → Prop} {Q : Value → Shared → Prop}, Q (.ref hp.objs.size) ⟨hp.push ob, g, dr, tk, os⟩ → wpAny (model prog w) A2 (pyIter v) Q E ⟨hp, g, dr, tk, os⟩ := fun q => B.iter prog w _ _ ⟨hp, g, dr, tk, os⟩ _ hq q
    wp_walk using it
    refine wpAny_stack_any fun st => wpAny_pure ?_
    split
    · rename_i cl _ _ _ _ _
      cases (cl == Value.type "enumerate") <;> (wp_walk using it; exact ⟨_, rfl, r⟩)
    · wp_walk using it; exact ⟨_, rfl, r⟩
theorem call_enum1 {prog : Program} {w : World} {A : Around} {E : Value → Shared → Prop} {s : Shared} {v : Value} {ob : Obj} {Hq : Heap → Prop} {Q : Value → Shared → Prop} (B : Begins v ob Hq) (hq : Hq s.heap)
    (h : ∀ h', IsEnum h' (s.heap.objs.size + 1) s.heap.objs.size 0 .none → h'.get? s.heap.objs.size = some ob → (∀ b o, s.heap.get? b = some o → h'.get? b = some o) → Q (.ref (s.heap.objs.size + 1)) { s with heap := h' }) :
    wpAny (model prog w) A (call (.type "enumerate") [v]) Q E s := by
  refine callType_new F.called_enumerate (by decide) (F.typeCall_enumerate_1 _) (F.newCall_enumerate_1 _) (fun obj => F.args_object_init_2 obj _) F.entry_enumerate_new (enum_new B) ⟨hq, ?_⟩
  have z : (s.heap.push ob).objs.size = s.heap.objs.size + 1 := Heap.size_push ..
  show _ ∧ _; rw [z]
  have y := Heap.get?_push_size (s.heap.push ob) (o := { cls := .type "enumerate", data := .fields #[.none, .bool false, .ref s.heap.objs.size, rawInt 0, .none, .none] }) rfl
  rw [z] at y
  exact ⟨⟨_, y, rfl⟩, h _ y (Heap.get?_push_of_some _ (Heap.get?_push_size _ B.free)) fun b o x => Heap.get?_push_of_some _ (Heap.get?_push_of_some _ x)⟩
/-- the keys of the locked dict at d, each with its number in a new pair -/
def Itet (d : Addr) (o : Obj) (kvs : List (List Key × V)) : It :=
  ⟨fun i H => H d = some (.frz o (.dT kvs)) ∧ i < kvs.length, fun i H x H' => ∃ (k : List Key) (v : V) (q T : Addr), kvs[i]? = some (k, v) ∧ H q = some (.tup (k.map kV)) ∧ x = .ref T ∧ H T = none ∧ H' = L2.upd H T (.tup [.int (i : Nat), .ref q]), fun i H => H d = some (.frz o (.dT kvs)) ∧ kvs.length ≤ i⟩
theorem turn_enumT {P : Program} {w : World} {K : PySem.W.Frag} {elts : List Expr} {kk : Nat} {tpos : Pos} {d e it : Addr} {o : Obj} {es : Array DictEntry} {ep : Nat} {kvs : List (List Key × V)} (hod : o.data = .dict es ep) (ei : e ≠ it) (ed : e ≠ d) (di : d ≠ it) :
    Turn P w K (.Tuple elts kk tpos) (Itet d o kvs) [e, it] e (fun i h => (∃ old, IsEnum h e it ((i : Nat) : Int) old) ∧ h.IsKeyIter it d i kvs.length ep) where
  mem := List.mem_cons_self
  obj := fun i h st b hb => by
    obtain ⟨⟨old, he⟩, ⟨oi, ho, hc, hd⟩⟩ := st
    rcases List.mem_cons.mp hb with z | z
    · rw [z]; exact ⟨_, he, fun v q => nomatch q⟩
    · rw [List.mem_singleton.mp z]; exact ⟨oi, ho, fun v q => by rw [hd] at q; cases q⟩
  keep := fun i h h' st k => let ⟨⟨old, he⟩, hi⟩ := st; ⟨⟨old, k e List.mem_cons_self _ he⟩, hi.at fun ob q => k it (List.mem_cons_of_mem _ List.mem_cons_self) ob q⟩
  item := by
    intro X hP hw hK hc i pins s σ H E I hf st hg
    subst hP hw hK
    obtain ⟨⟨old, he⟩, hki⟩ := st
    obtain ⟨hd, lt⟩ := hg
    obtain ⟨hs, hgd, hx, es2, ep2, hdt, hsz, ent⟩ := I.frzT hd
    obtain ⟨rfl, rfl⟩ := dict_ep hod hdt
    obtain ⟨⟨k, v⟩, hkv⟩ : ∃ p, kvs[i]? = some p := ⟨kvs[i], List.getElem?_eq_getElem lt⟩
    obtain ⟨en, q, hen, hkey, hq⟩ := ent i k v hkv
    have el : e < s.heap.objs.size := Heap.lt_size he
    have il : it < s.heap.objs.size := by obtain ⟨_, y, _⟩ := hki; exact Heap.lt_size y
    rw [← hsz] at hki
    refine wpAny_pyNext_enum_itemD (draws_keys (I.ok.hd hc) di hod) he ⟨hki, hgd⟩ (by omega) ei (by simp [ei, ed]) fun x h' tk hP ho hs' hT hz hk => ?_
    obtain ⟨en2, h2, rfl⟩ := hP
    rw [hen] at h2; cases h2
    refine ⟨_, rfl, wpAny_letOwnedTupleGo_enum (s := { s with heap := h', toks := tk + 1 }) ho fun h'' he' sb => ?_⟩
    have hT2 := (sb.2 _ (Nat.ne_of_gt el)).trans hT
    have new : ObjOk X.prog X.w (L2.upd H s.heap.objs.size (.tup [.int (i : Nat), .ref q])) h'' s.heap.objs.size (.tup [.int (i : Nat), .ref q]) := ⟨by show 2 ≤ sizeLine; decide, [.int i tk, en.key], .cons ⟨_, rfl⟩ (.cons hkey .nil), ⟨_, hT2, rfl, _, rfl⟩⟩
    have I1 := I.turnedNew (t' := tk + 1) (ch := [e, it]) (fun b ob hb y => (sb.2 b (fun z => hb (by simp [z]))).trans (hk b ob (fun z => hb (by simp [z])) (fun z => hb (by simp [z])) y)) hf (Nat.le_refl _) new
    refine ⟨.ref s.heap.objs.size, _, I1, rfl, ⟨k, v, q, _, hkv, hq, rfl, I.hok.fresh (Nat.le_refl _), rfl⟩, ⟨⟨en.key, ?_⟩, ?_⟩, fun b hb => ?_⟩
    · rw [show ((i + 1 : Nat) : Int) = (i : Int) + 1 by omega]; exact he'
    · rw [← hsz]; exact hs'.1.at fun ob y => (sb.2 it (Ne.symm ei)).trans y
    · have lt2 : b < s.heap.objs.size := by
        rcases List.mem_cons.mp hb with z | z
        · rw [z]; exact el
        · rw [List.mem_singleton.mp z]; exact il
      rw [upd_ne (Nat.ne_of_lt lt2)]; exact (hf b hb).1
  done := by
    intro X hP hw hK hc i pins s σ H E I hf st hg
    subst hP hw hK
    obtain ⟨⟨old, he⟩, hki⟩ := st
    obtain ⟨hd, ge⟩ := hg
    obtain ⟨hs, hgd, hx, es2, ep2, hdt, hsz, ent⟩ := I.frzT hd
    obtain ⟨rfl, rfl⟩ := dict_ep hod hdt
    obtain ⟨f0, f1, f2, f3, f4, f5⟩ := hf it (by simp)
    have D : Draws X.prog X.w X.A.in1 it [it, d] i (fun _ _ => False) (fun j h => j = i ∧ h.IsKeyIter it d i kvs.length ep2 ∧ h.get? d = some o) := {
      live := fun _ _ st => let ⟨_, ⟨o, ho, _⟩, _⟩ := st; ⟨o, ho⟩
      frame := fun _ _ _ st hk => ⟨st.1, st.2.1.at fun ob e => hk it (by simp) ob e, hk d (by simp) o st.2.2⟩
      item := fun j s Q E hj st hQ => absurd st.1 (by omega)
      done := fun s Q E st hE => keys_out (I.ok.hd hc) st.2.1 st.2.2 hod hsz ge hE }
    exact wpAny_pyNext_enum_endD D he ⟨rfl, hki, hgd⟩ fun h' eb => ⟨rfl, I.turned (t' := s.toks) (fun b ob hb q => eb b ob hb q) f0 f1 f3 f4 f5⟩
  self := fun A i s Q E st h => let ⟨⟨_, he⟩, _⟩ := st; wpAny_pyIter_enum he h
def iEnumT (ta : TA) : TI := fun σ H R => ta σ H fun vs H1 => ∃ d o kvs, vs = [.ref d] ∧ H1 d = some (.frz o (.dT kvs)) ∧ R (Itet d o kvs) H1
theorem pi_enumT {X : Cx} {e : Expr} {ta : TA} {p pos tpos : Pos} {elts : List Expr} {kk : Nat} (hg : Gl X "enumerate") (hm : X.mg "enumerate" = none) (ha : PA X [e] ta) (hs : starEach [e] X.env = [(false, eval e X.env)] := by rfl) : PI X (.Tuple elts kk tpos) (.Call (.Name "enumerate" p) [e] [] pos) (iEnumT ta) := by
  refine ⟨fun pins s σ H R I h => Call_ (ld_blt I hg hm boot_enumerate (PyProof.Rows.callWith_type1 (thn (ha.run pos pins s σ H _ I h) fun us s1 z => ?_) hs rfl))⟩
  obtain ⟨vs, H1, I1, r1, d, o, kvs, rfl, hd, q⟩ := z
  obtain ⟨u, rfl, ru⟩ := r1.one; cases ru
  obtain ⟨hsm, hgd, hx, es, ep, hdt, hsz, ent⟩ := I1.frzT hd
  refine call_enum1 (begins_keys hsm hx hdt) hgd fun h' he hit hk => wpAny_pyIter_enum he ?_
  have dl : d < s1.heap.objs.size := Heap.lt_size hgd
  have I2 : Inv X pins σ H1 { s1 with heap := h' } := I1.kept (t' := s1.toks) hk
  refine ⟨s1.heap.objs.size + 1, [s1.heap.objs.size + 1, s1.heap.objs.size], _, _, H1, rfl, I2, turn_enumT (e := s1.heap.objs.size + 1) (it := s1.heap.objs.size) hdt (Nat.succ_ne_self _) (Nat.ne_of_gt (Nat.lt_succ_of_lt dl)) (Nat.ne_of_lt dl), ⟨⟨.none, he⟩, ⟨_, hit, rfl, by rw [← hsz]; rfl⟩⟩, fun b hb => ?_, q⟩
  have le : s1.heap.objs.size ≤ b := by
    rcases List.mem_cons.mp hb with z | z
    · rw [z]; exact Nat.le_succ _
    · rw [List.mem_singleton.mp z]; exact Nat.le_refl _
  exact I1.fpOk le (I1.hok.fresh le)
end Lr

set_option exponentiation.threshold 5000
namespace Lr
open PySem PySem.Spec PyProof.Rows L2
/-! dict comprehensions, keys of any kind -/
theorem stored {X : Cx} {pins : List (Addr × Obj)} {σ : L2.St} {H H' : Hp} {s : Shared} {E : Value → Shared → Prop} {D : Addr} {y z : V} {u r : Value} {Q : Unit → Shared → Prop} (hu : X.A.units + 1 < cLine) (I : L2.Inv X pins σ H s) (g : DPut H D y z H') (ry : RelV y u) (rz : RelV z r)
    (h : ∀ s', L2.Inv X pins σ H' s' → Q () s') : wpAny (model X.prog X.w) X.A (dictSet D u r) Q E s := by
  rcases g with ⟨kvs, k, e, rfl, l, rfl⟩ | ⟨kvs, k, b, e, rfl, eb, l, rfl⟩
  · exact d_dictSet I e l ry rz h
  · cases (show u = Value.ref b from ry)
    obtain ⟨le, hs, xs, rel, dd⟩ := dt_of I.hok e
    have lx : xs.length ≤ sizeLine := by rw [← Paired.length rel]; exact le
    have lp : (putK kvs k z).length ≤ sizeLine := by have := length_putK kvs k z; omega
    refine wpAny_dictSet_heap (knd := tupleKind (mixKind X.prog X.w)) (show X.A.units < cLine by omega) (key_of I.hok eb) dd (fun h' dd' sb => h _ ?_) lx
    obtain ⟨o, es, ep, g1, g2, g3, g4, _, g6⟩ := dd'
    exact d_write I (by rw [e]; trivial) sb ⟨o, g1⟩ ⟨lp, hs, _, (rel.put k eb rz).keeps fun c ys ec => by rw [upd_ne (ne_of ec e (fun q => nomatch q))]; exact ec, o, es, ep, g1, g2, g3, g4, g6⟩
section
variable {X : Cx}
/-- {k: v for target in iter if ..}: the new dict is d0 at first -/
def tDcG (d0 : HO) (wi : TI) (g : TG) (tt : TT) (tk tv : TE) (vs : List Nat) : TE := fun σ H Q => wi σ H fun J H1 => ∀ D, H1 D = none → ∃ W : Nat → Nat → Hp → Prop, (∃ m, W 0 m (L2.upd H1 D d0)) ∧ ∀ i m H, W i m H →
  (J.stop i H ∧ Q (.ref D) H) ∨ (J.go i H ∧ ∃ N : Hp → Prop, (∀ H', N H' → ∃ m', m' < m ∧ W (i + 1) m' H') ∧ ∀ x H', J.yld i H x H' → g x (wipe σ vs) H' fun σ2 H2 => wipe σ2 vs = wipe σ vs ∧ tt σ2 H2 fun b H3 =>
    if b = true then tk σ2 H3 fun y H4 => tv σ2 H4 fun z H5 => ∃ H6, DPut H5 D y z H6 ∧ N H6 else N H3)
theorem dcG_core {pins : List (Addr × Obj)} {s : Shared} {σ : L2.St} {H : Hp} {Q : VK} {use : Option (Value → Sem Unit)} {Qf : Value → Shared → Prop} {pos' : Pos} {d0 : HO} {kx vx tg iter : Expr} {ifs : List Expr} {scope : Scope} {own : List (Str × Nat)} {pos : Pos} {wi : TI} {g : TG} {tt : TT} {tk tv : TE} (hd0 : d0 = .dK [] ∨ d0 = .dT []) (hu : X.A.units + 1 < cLine) (hc : X.calm = true) (hN : X.N.Nodup) (I : L2.Inv X pins σ H s) (hi : PI X tg iter wi) (ok : BlkOk X.N X.env.scope scope own)
    (hg : ∀ (s : Shared) (H : Hp) (C : Addr) (cl : List (Str × Addr)) (fp : List Addr), PG (X.blk s H scope (compEnvC scope cl C X.env) fp) tg g) (ht : ∀ (s : Shared) (H : Hp) (C : Addr) (cl : List (Str × Addr)) (fp : List Addr), PTs (X.blk s H scope (compEnvC scope cl C X.env) fp) ifs tt)
    (hk : ∀ (s : Shared) (H : Hp) (C : Addr) (cl : List (Str × Addr)) (fp : List Addr), PE (X.blk s H scope (compEnvC scope cl C X.env) fp) kx tk) (he : ∀ (s : Shared) (H : Hp) (C : Addr) (cl : List (Str × Addr)) (fp : List Addr), PE (X.blk s H scope (compEnvC scope cl C X.env) fp) vx tv)
    (hs : ∀ x, foldedSetIterable iter X.env x = pure x) (h : tDcG d0 wi g tt tk tv (own.map (·.2)) σ H Q)
    (hRR : ∀ D C s' m H', L2.Inv X pins σ H' s' → Q (.ref D) H' → s'.heap.Ns C m → FpOk X pins H' C → compPost (model X.prog X.w) X.A X.xe use Qf (.ref D) C (.ok .next) s') :
    wpAny (model X.prog X.w) X.A (comprehension (.DictComp kx vx [⟨tg, iter, ifs, 0⟩] scope pos) scope X.env pos' newDict false (eval iter X.env) use) Qf X.xe s := by
  have free : ∀ y ∈ scope.names, y.2 = .free → ∃ c, X.env.cells.lookup y.1 = some c := fun y hy e => (ok.free y hy e).elim (fun k => I.ok.has _ (.inl k)) fun k => I.ok.has _ (.inr k)
  refine wpAny_comprehension_free (use := use) rfl hs (closure_ok free) ok.kind (fun y hy e => by rw [ok.uniq y hy, e]) (thn (hi.run pins s σ H _ I h) fun xv s1 hx => thn hx fun itv s2 z2 => ?_)
  obtain ⟨it, fp, tn, J, H2, rfl, I2, T, st2, f2, q⟩ := z2
  refine wpAny_newObj_type (newEnv_comp ?_)
  obtain ⟨D, hD⟩ : ∃ D, D = s2.heap.objs.size := ⟨_, rfl⟩
  have nD : H2 D = none := I2.hok.fresh (Nat.le_of_eq hD.symm)
  obtain ⟨W, ⟨m0, w0⟩, turn⟩ := q D nD
  obtain ⟨s3, e3⟩ : ∃ s3 : Shared, s3 = { s2 with heap := s2.heap.push { cls := .type "dict", data := .dict #[] } } := ⟨_, rfl⟩
  have hp3 : s3.heap = s2.heap.push { cls := .type "dict", data := .dict #[] } := by rw [e3]
  have I3 : L2.Inv X pins σ (L2.upd H2 D d0) s3 := by
    rw [e3]; refine I2.laid (t' := s2.toks) (fun b o e => Heap.get?_push_of_some _ e) (Nat.le_of_eq hD.symm) ?_
    rw [hD]; rcases hd0 with rfl | rfl
    · exact dk_empty s2.heap I2.big
    · exact dt_empty s2.heap I2.big
  have low : ∀ b ∈ fp, b < s2.heap.objs.size := fun b hb => let ⟨o, e, _⟩ := T.obj _ _ st2 b hb; Heap.lt_size e
  have f3 : ∀ b ∈ fp, FpOk X pins (L2.upd H2 D d0) b ∧ b < s3.heap.objs.size := fun b hb => ⟨⟨by rw [upd_ne (by rw [hD]; exact Nat.ne_of_lt (low b hb))]; exact (f2 b hb).1, (f2 b hb).2⟩, by rw [hp3, Heap.size_push]; exact Nat.lt_succ_of_lt (low b hb)⟩
  have st3 : tn 0 s3.heap := T.keep _ _ _ st2 fun b _ o e => by rw [hp3]; exact Heap.get?_push_of_some _ e
  have I4 := block_start I3 ok hN f3
  have pg := hg s3 (L2.upd H2 D d0) s3.heap.objs.size (cellsFrom (s3.heap.objs.size + 1) scope.names (cloFrom X.env.cells scope.names [])) fp
  have pt := ht s3 (L2.upd H2 D d0) s3.heap.objs.size (cellsFrom (s3.heap.objs.size + 1) scope.names (cloFrom X.env.cells scope.names [])) fp
  have pk := hk s3 (L2.upd H2 D d0) s3.heap.objs.size (cellsFrom (s3.heap.objs.size + 1) scope.names (cloFrom X.env.cells scope.names [])) fp
  have pv := he s3 (L2.upd H2 D d0) s3.heap.objs.size (cellsFrom (s3.heap.objs.size + 1) scope.names (cloFrom X.env.cells scope.names [])) fp
  have clean : ∀ b ∈ fp, (L2.upd H2 D d0) b = none := fun b hb => (f3 b hb).1.1
  rw [← hD, ← e3]
  show codeAny _ _ (.compStart (.DictComp kx vx [⟨tg, iter, ifs, 0⟩] scope pos) 0 (.ref it) (.ref D) (compEnvC scope (cellsFrom (s3.heap.objs.size + 1) scope.names (cloFrom X.env.cells scope.names [])) s3.heap.objs.size X.env)) (compPost (model X.prog X.w) X.A X.xe use Qf (.ref D) s3.heap.objs.size) { s3 with heap := pushCells (s3.heap.push { cls := .type "dict", data := .dict #[] }) scope.names }
  obtain ⟨ce, ece⟩ : ∃ ce, ce = compEnvC scope (cellsFrom (s3.heap.objs.size + 1) scope.names (cloFrom X.env.cells scope.names [])) s3.heap.objs.size X.env := ⟨_, rfl⟩
  rw [← ece] at I4 pg pt pk pv ⊢
  have loc : ce.locals = s3.heap.objs.size := by rw [ece]; rfl
  obtain ⟨H3, eH3⟩ : ∃ H3, H3 = L2.upd H2 D d0 := ⟨_, rfl⟩
  rw [← eH3] at I3 I4 pg pt pk pv w0 clean f3
  obtain ⟨s4, e4⟩ : ∃ s4 : Shared, s4 = { s3 with heap := pushCells (s3.heap.push { cls := .type "dict", data := .dict #[] }) scope.names } := ⟨_, rfl⟩
  rw [← e4] at I4 ⊢
  have st4 : tn 0 s4.heap := T.keep _ _ _ st3 fun b _ o e => by rw [e4]; exact pushCells_keeps _ _ _ _ (Heap.get?_push_of_some _ e)
  have stay : ∀ {τ : L2.St} {H' : Hp} {s' : Shared}, L2.Inv (X.blk s3 H3 scope ce fp) [] τ H' s' → (∀ b ∈ fp, H' b = none) → ∀ b ∈ fp, FpOk (X.blk s3 H3 scope ce fp) [] H' b := fun {τ H' s'} J' hn b hb => ⟨hn b hb, (J'.ok.exf b hb).1, J'.ok.exfs b hb, .inl hb, fun x c e => (J'.ok.exf b hb).2 x c e, fun p hp => by simp at hp⟩
  have loop : codeAny (model X.prog X.w) X.A (.compLoop (.DictComp kx vx [⟨tg, iter, ifs, 0⟩] scope pos) 0 (.ref it) (.ref D) ce) (compPost (model X.prog X.w) X.A X.xe use Qf (.ref D) s3.heap.objs.size) s4 := by
    refine compLoop_anyD (fun n s' => ∃ i H', L2.Inv (X.blk s3 H3 scope ce fp) [] (wipe σ (own.map (·.2))) H' s' ∧ tn i s'.heap ∧ (∀ b ∈ fp, H' b = none) ∧ W i n H') ?turns m0 ⟨0, H3, I4, st4, clean, w0⟩
    rintro n s5 ⟨i, H5, I5, st5, n5, w5⟩
    rcases turn i n H5 w5 with ⟨stop, fin⟩ | ⟨go, N, hN', each⟩
    · refine thnF (T.done (X.blk s3 H3 scope ce fp) rfl rfl rfl hc i [] s5 _ H5 (fun _ _ => False) I5 (stay I5 n5) st5 stop) fun r s6 z => ?_
      obtain ⟨rfl, I6⟩ := z
      have I7 : L2.Inv X pins σ H5 s6 := I3.call' (ch := fp) I6.os I6.base I6.hok I6.bare fun b hb => ⟨(f3 b hb).1.2.2.2.1, (f3 b hb).1.2.1, (f3 b hb).1.2.2.2.2.1, (f3 b hb).1.2.2.2.2.2⟩
      have nC : H5 s3.heap.objs.size = none := by have z : H5 ce.locals = none := I6.free; rw [loc] at z; exact z
      obtain ⟨m, hm, _⟩ := I6.loc
      have hm : s6.heap.Ns ce.locals m := hm
      rw [loc] at hm
      exact hRR D s3.heap.objs.size s6 m H5 I7 fin hm (I3.fpOk (Nat.le_refl _) nC)
    · refine thnF (T.item (X.blk s3 H3 scope ce fp) rfl rfl rfl hc i [] s5 _ H5 (fun _ _ => False) I5 (stay I5 n5) st5 go) fun r s6 z => ?_
      obtain ⟨u, rfl, z6⟩ := z
      refine thnF z6 fun _ s7 z7 => ?_
      obtain ⟨x, H7, I7, r7, y7, st7, n7⟩ := z7
      refine thnF (pg.run _ s7 _ H7 x u _ (I7.pinned (stay I7 n7) (T.obj _ _ st7)) r7 (each x H7 y7)) fun _ s8 z8 => ?_
      obtain ⟨σ8, H8, I8, hw8, q8⟩ := z8
      refine thnF (pt.run _ s8 σ8 H8 _ I8 q8) fun b s9 z9 => ?_
      obtain ⟨H9, I9, q9⟩ := z9
      have over : ∀ {s' : Shared} {H' : Hp}, L2.Inv (X.blk s3 H3 scope ce fp) ([] ++ pinsAt fp s7.heap) σ8 H' s' → N H' → ∃ m, m < n ∧ ∃ i H', L2.Inv (X.blk s3 H3 scope ce fp) [] (wipe σ (own.map (·.2))) H' s' ∧ tn i s'.heap ∧ (∀ b ∈ fp, H' b = none) ∧ W i m H' := fun {s' H'} J' nx => by
        obtain ⟨m', hm, w'⟩ := hN' H' nx
        have pin : ∀ b ∈ fp, ∀ o, s7.heap.get? b = some o → s'.heap.get? b = some o ∧ H' b = none := fun b hb o e => ⟨(J'.pin (b, o) (List.mem_append_right _ (List.mem_append_right _ (mem_pinsAt hb e)))).1, (J'.pin (b, o) (List.mem_append_right _ (List.mem_append_right _ (mem_pinsAt hb e)))).2.1⟩
        refine ⟨m', hm, i + 1, H', (J'.unpinned (pins := [])).weak (by rw [← hw8, wipe_length]) (fun j v e => by rw [← hw8] at e; exact (wipe_some e).1), T.keep _ _ _ st7 fun b hb o e => (pin b hb o e).1, fun b hb => ?_, w'⟩
        obtain ⟨o, e, _⟩ := T.obj _ _ st7 b hb
        exact (pin b hb o e).2
      cases b with
      | false => simp only [Bool.false_eq_true, if_false] at q9 ⊢; exact over I9 q9
      | true =>
        simp only [if_true] at q9 ⊢
        refine thnF (pk.run _ s9 σ8 H9 _ I9 q9) fun kv s10 z10 => ?_
        obtain ⟨y, H10, I10, r10, q10⟩ := z10
        refine thnF (pv.run _ s10 σ8 H10 _ I10 q10) fun vv s11 z11 => ?_
        obtain ⟨z, H11, I11, r11, H12, put, nx⟩ := z11
        exact stored (X := X.blk s3 H3 scope ce fp) hu I11 put r10 r11 fun s12 I12 => over I12 nx
  exact codeAny_compStart_dict loop (T.self X.A 0 _ _ _ st4 loop)
theorem pe_dcG {d0 : HO} {kx vx tg iter : Expr} {ifs : List Expr} {scope : Scope} {own : List (Str × Nat)} {pos : Pos} {wi : TI} {g : TG} {tt : TT} {tk tv : TE} (hd0 : d0 = .dK [] ∨ d0 = .dT []) (hu : X.A.units + 1 < cLine) (hc : X.calm = true) (hN : X.N.Nodup) (hi : PI X tg iter wi) (ok : BlkOk X.N X.env.scope scope own)
    (hg : ∀ (s : Shared) (H : Hp) (C : Addr) (cl : List (Str × Addr)) (fp : List Addr), PG (X.blk s H scope (compEnvC scope cl C X.env) fp) tg g) (ht : ∀ (s : Shared) (H : Hp) (C : Addr) (cl : List (Str × Addr)) (fp : List Addr), PTs (X.blk s H scope (compEnvC scope cl C X.env) fp) ifs tt)
    (hk : ∀ (s : Shared) (H : Hp) (C : Addr) (cl : List (Str × Addr)) (fp : List Addr), PE (X.blk s H scope (compEnvC scope cl C X.env) fp) kx tk) (he : ∀ (s : Shared) (H : Hp) (C : Addr) (cl : List (Str × Addr)) (fp : List Addr), PE (X.blk s H scope (compEnvC scope cl C X.env) fp) vx tv)
    (hs : ∀ x, foldedSetIterable iter X.env x = pure x := by intro _; rfl) : PE X (.DictComp kx vx [⟨tg, iter, ifs, 0⟩] scope pos) (tDcG d0 wi g tt tk tv (own.map (·.2))) := by
  refine ⟨fun pins s σ H Q I h => ?_⟩
  rw [arm_eval_DictComp]
  refine dcG_core hd0 hu hc hN I hi ok hg ht hk he hs h fun D C s' m H' I' q hm f => ⟨m, hm, fun h'' sb => ?_⟩
  obtain ⟨q0, q1, q2, q3, q4, q5⟩ := f
  exact ⟨.ref D, H', I'.turned (t' := s'.toks) (fun b o hb e => (sb.2 b hb).trans e) q0 q1 q3 q4 q5, rfl, q⟩
theorem ps_setDcG {i : Nat} {y : Str} {py spos : Pos} {d0 : HO} {kx vx tg iter : Expr} {ifs : List Expr} {scope : Scope} {own : List (Str × Nat)} {pos : Pos} {wi : TI} {g : TG} {tt : TT} {tk tv : TE} (hd0 : d0 = .dK [] ∨ d0 = .dT []) (hu : X.A.units + 1 < cLine) (hc : X.calm = true) (hN : X.N.Nodup) (hy : X.N[i]? = some y) (hyl : X.env.scope.names.lookup y = some .local)
    (hsw : swapsWith (.DictComp kx vx [⟨tg, iter, ifs, 0⟩] scope pos) (some (.Name y py)) spos.line X.env = pure true) (hi : PI X tg iter wi) (ok : BlkOk X.N X.env.scope scope own)
    (hg : ∀ (s : Shared) (H : Hp) (C : Addr) (cl : List (Str × Addr)) (fp : List Addr), PG (X.blk s H scope (compEnvC scope cl C X.env) fp) tg g) (ht : ∀ (s : Shared) (H : Hp) (C : Addr) (cl : List (Str × Addr)) (fp : List Addr), PTs (X.blk s H scope (compEnvC scope cl C X.env) fp) ifs tt)
    (hk : ∀ (s : Shared) (H : Hp) (C : Addr) (cl : List (Str × Addr)) (fp : List Addr), PE (X.blk s H scope (compEnvC scope cl C X.env) fp) kx tk) (he : ∀ (s : Shared) (H : Hp) (C : Addr) (cl : List (Str × Addr)) (fp : List Addr), PE (X.blk s H scope (compEnvC scope cl C X.env) fp) vx tv)
    (hs : ∀ x, foldedSetIterable iter X.env x = pure x := by intro _; rfl) :
    PS X (.Assign [.Name y py] (.DictComp kx vx [⟨tg, iter, ifs, 0⟩] scope pos) spos) (tAsg (tDcG d0 wi g tt tk tv (own.map (·.2))) (gName i)) := by
  refine ⟨fun pins s σ H D I h => ?_⟩
  rw [exec_Assign_Name_used _ _ _ _ hsw]
  refine wpAny_bind (wpAny_standAt (wpAny_bind ?_))
  show wpAny _ X.A (do let _ ← comprehension (.DictComp kx vx [⟨tg, iter, ifs, 0⟩] scope pos) scope X.env (firstIterPos [⟨tg, iter, ifs, 0⟩] pos) newDict false (eval iter X.env) (some (assign (.Name y py) X.env))) _ _ s
  have h : tDcG d0 wi g tt tk tv (own.map (·.2)) σ H (fun x H1 => gName i x σ H1 D.nx) := h
  refine wpAny_bind (thn (dcG_core (Qf := fun _ s' => SP X pins D .next s') hd0 hu hc hN I hi ok hg ht hk he hs h fun L C s' m H' I' q hm f => ?_) fun _ s' hq => wpAny_pure (wpAny_pure hq))
  show wpAny _ _ (assign (.Name y py) X.env (.ref L)) _ _ _
  refine wpAny_assign_Name (store_ok2 (v := V.ref L) I' hN hy (.inl hyl) rfl (fun s2 I2 zz => ?_) (.inr hyl))
  obtain ⟨a, sb, ha⟩ := zz
  obtain ⟨q0, q1, q2, q3, q4, q5⟩ := f
  have far : C ≠ a := ha.elim (fun z => z ▸ q1) fun z e => q4 y a z e.symm
  exact ⟨m, hm.sameBut sb far, fun h3 sb3 => ⟨_, H', I2.turned (t' := s2.toks) (fun b o hb e => (sb3.2 b hb).trans e) q0 q1 q3 q4 q5, q⟩⟩
theorem sw_trueD {kx vx : Expr} {gs : List Comprehension} {scope : Scope} {pos py : Pos} {y : Str} {l : Nat} {env : Env} (hk : env.scope.kind = .function) (hy : env.scope.names.lookup y = some .local) (hl : (py.line == pos.line) = true)
    (ha : (scope.names.any fun z => z.1 == y && (z.2 == .local || z.2 == .cell)) = false) : swapsWith (.DictComp kx vx gs scope pos) (some (.Name y py)) l env = pure true := by
  have e1 : env.kindOf y = some .local := hy
  have e2 : env.blockKind = .function := by unfold Env.blockKind; rw [hk]; rfl
  unfold swapsWith
  simp only [e2, e1, ha, Expr.pos, hl]
  rfl
end
end Lr

set_option exponentiation.threshold 5000
namespace Lr
open PySem PySem.Spec PyProof.Rows L2
/-! d.items(), keys tuples -/
theorem frzT2 {X : Cx} {pins : List (Addr × Obj)} {σ : L2.St} {H : Hp} {s : Shared} {d : Addr} {o : Obj} {kvs : List (List Key × V)} (I : L2.Inv X pins σ H s) (h : H d = some (.frz o (.dT kvs))) :
    (d == sysModules) = false ∧ s.heap.get? d = some o ∧ o.ExactDict ∧ ∃ (es : Array DictEntry) (ep : Nat), o.data = .dict es ep ∧ es.size = kvs.length ∧
      ∀ (i : Nat) (k : List Key) (v : V), kvs[i]? = some (k, v) → ∃ (en : DictEntry) (q : Addr), es[i]? = some en ∧ en.key = .ref q ∧ H q = some (.tup (k.map kV)) ∧ L2.RelV v en.val := by
  obtain ⟨hd, z, hs, xs, pr, o', es, ep, ho, hx, hdt, he, _⟩ := I.hok d _ h
  rw [hd] at ho; cases ho
  refine ⟨hs, hd, hx, es, ep, hdt, ?_, fun i k v e => ?_⟩
  · have l1 : es.size = xs.length := size_of_entries he
    have l2 : kvs.length = xs.length := Paired.length pr
    omega
  · obtain ⟨b, hb, _, e2, e3⟩ := paired_get pr e
    have q := entry_at he i
    rw [hb] at q
    exact ⟨_, b.2.1, q, rfl, e2, e3⟩
/-- the pairs of the locked dict at d, each in a new tuple -/
def Itit (d : Addr) (o : Obj) (kvs : List (List Key × V)) : It :=
  ⟨fun i H => H d = some (.frz o (.dT kvs)) ∧ i < kvs.length, fun i H x H' => ∃ (k : List Key) (v : V) (q T : Addr), kvs[i]? = some (k, v) ∧ H q = some (.tup (k.map kV)) ∧ x = .ref T ∧ H T = none ∧ H' = L2.upd H T (.tup [.ref q, v]), fun i H => H d = some (.frz o (.dT kvs)) ∧ kvs.length ≤ i⟩
theorem turn_itemsT {P : Program} {w : World} {K : PySem.W.Frag} {elts : List Expr} {kk : Nat} {tpos : Pos} {d it : Addr} {o : Obj} {es : Array DictEntry} {ep : Nat} {kvs : List (List Key × V)} (hod : o.data = .dict es ep) (hx0 : o.ExactDict) (sz0 : es.size = kvs.length) :
    Turn P w K (.Tuple elts kk tpos) (Itit d o kvs) [it] it (fun i h => ∃ ok ov, IsItemIter h it d i es.size ep ok ov) where
  mem := List.mem_cons_self
  obj := fun i h st b hb => by
    obtain ⟨ok, ov, e⟩ := st
    rw [List.mem_singleton.mp hb]; exact ⟨_, e, fun v z => nomatch z⟩
  keep := fun i h h' st k => let ⟨ok, ov, e⟩ := st; ⟨ok, ov, k it List.mem_cons_self _ e⟩
  item := by
    intro X hP hw hK hc i pins s σ H E I hf st hg
    subst hP hw hK
    obtain ⟨hd, lt⟩ := hg
    obtain ⟨hs, hgd, hx, es2, ep2, hdt, hsz, ent⟩ := frzT2 I hd
    obtain ⟨rfl, rfl⟩ := dict_ep hod hdt
    obtain ⟨⟨k, v⟩, hkv⟩ : ∃ p, kvs[i]? = some p := ⟨kvs[i], List.getElem?_eq_getElem lt⟩
    obtain ⟨en, q, hen, hkey, hq, hv⟩ := ent i k v hkv
    obtain ⟨lt2, een⟩ := Array.getElem?_eq_some_iff.mp hen
    obtain ⟨ok, ov, he⟩ := st
    have il : it < s.heap.objs.size := Heap.lt_size he
    refine DT.nextI he ⟨o, hgd, hx, hdt⟩ lt2 fun h' ho hT hz hk => ?_
    rw [een] at ho hT
    refine ⟨_, rfl, wpAny_letOwnedTupleGo_items (s := { s with heap := h' }) ho fun h'' he' sb => ?_⟩
    have hT2 := (sb.2 _ (Nat.ne_of_gt il)).trans hT
    have new : ObjOk X.prog X.w (L2.upd H s.heap.objs.size (.tup [.ref q, v])) h'' s.heap.objs.size (.tup [.ref q, v]) := ⟨by show 2 ≤ sizeLine; decide, [en.key, en.val], .cons hkey (.cons hv .nil), ⟨_, hT2, rfl, _, rfl⟩⟩
    have I1 := I.turnedNew (t' := s.toks) (ch := [it]) (fun b ob hb y => (sb.2 b (by simpa using hb)).trans (hk b ob (by simpa using hb) y)) hf (Nat.le_refl _) new
    refine ⟨.ref s.heap.objs.size, _, I1, rfl, ⟨k, v, q, _, hkv, hq, rfl, I.hok.fresh (Nat.le_refl _), rfl⟩, ⟨_, _, he'⟩, fun b hb => ?_⟩
    rw [List.mem_singleton.mp hb, upd_ne (Nat.ne_of_lt il)]
    exact (hf it List.mem_cons_self).1
  done := by
    intro X hP hw hK hc i pins s σ H E I hf st hg
    subst hP hw hK
    obtain ⟨hd, ge⟩ := hg
    obtain ⟨f0, f1, f2, f3, f4, f5⟩ := hf it List.mem_cons_self
    obtain ⟨hs, hgd, hx, es2, ep2, hdt, hsz, ent⟩ := frzT2 I hd
    obtain ⟨rfl, rfl⟩ := dict_ep hod hdt
    obtain ⟨ok, ov, he⟩ := st
    exact DT.endI (I.ok.hd hc) he ⟨o, hgd, hx, hdt⟩ (by omega) fun h' eb => ⟨rfl, I.turned (t' := s.toks) (fun b ob hb e => eb b ob hb e) f0 f1 f3 f4 f5⟩
  self := fun A i s Q E st h => let ⟨_, _, e⟩ := st; PySem.W.kcp_self e h
def iItemsT (td : TE) : TI := fun σ H R => td σ H fun x H1 => ∃ d o kvs, x = .ref d ∧ H1 d = some (.frz o (.dT kvs)) ∧ R (Itit d o kvs) H1
theorem pi_itemsT {X : Cx} {e : Expr} {td : TE} {apos cpos : Pos} {elts : List Expr} {kk : Nat} {tpos : Pos} (he : PE X e td) (hbase : attributeBase e "items" X.env (eval e X.env) = eval e X.env := by rfl) (hline : (apos.endLine == cpos.line) = true := by rfl) :
    PI X (.Tuple elts kk tpos) (.Call (.Attribute e "items" apos) [] [] cpos) (iItemsT td) := by
  refine ⟨fun pins s σ H R I h => ?_⟩
  refine wpAny_Call_method (T := "dict") (id := "dict.items") hbase rfl hline F.plainAttrs_dict F.slot_dict_items F.type_dict_items (thn (he.run pins s σ H _ I h) fun u s1 z => ?_)
  obtain ⟨x, H1, I1, rx, d, o, kvs, rfl, hd, q⟩ := z
  obtain rfl : u = Value.ref d := rx
  obtain ⟨hs, hgd, hx, es, ep, hdt, hsz, ent⟩ := frzT2 I1 hd
  have raw : DT.Raw s1.heap d es ep := ⟨o, hgd, hx, hdt⟩
  refine ⟨raw.typeIs, ?nd, ?_⟩
  case nd => exact fun a z => by cases z; exact ⟨o, hgd, hx.2.1⟩
  have I2 : L2.Inv X pins σ H1 { s1 with heap := s1.heap.push { cls := .type "dict_items", data := .fields #[.ref d] } } := I1.kept (t' := s1.toks) fun b ob y => Heap.get?_push_of_some _ y
  have fin : wpAny (model X.prog X.w) X.A (pyIter (.ref s1.heap.objs.size)) (PIE X pins σ (.Tuple elts kk tpos) R) X.xe { s1 with heap := s1.heap.push { cls := .type "dict_items", data := .fields #[.ref d] } } :=
    DT.iterI (d := d) ⟨_, Heap.get?_push_size _ rfl, rfl, rfl⟩ (raw.push _) (pi_one (tk := s1.toks) I2 _ (turn_itemsT hdt hx hsz) ⟨.none, .none, Heap.get?_push_size _ rfl⟩ q)
  show wpAny _ _ (callWith cpos (.builtin "dict.items") [.ref d] [] []) _ X.xe s1
  exact method_meetsIn F.slot_dict_items F.entry_dict_items rfl (PySem.evalArgs_none ⟨rfl, raw.typeIs, F.args_dict_items_1 _, _, DT.meetsItems hs, ⟨raw, fin⟩⟩)
end Lr

set_option exponentiation.threshold 5000
namespace Lr
open PySem PySem.Spec PyProof.Rows L2
/-! the dict of the standings and their steps -/
def StAt (H : Hp) (a : Addr) (r : M4) (pre : List Bool) : Prop := ∃ bs : List Addr, H a = some (.lst (bs.map V.ref)) ∧ bs.length = pre.length ∧ ∀ (j : Nat) (t : Bool) (b : Addr), pre[j]? = some t → bs[j]? = some b → ∃ q : Addr, H b = some (.tup [.str (rd (wd1 r t)), .ref q]) ∧ H q = some (.tup ((rd1 r t).l.map V.int))
theorem StAt.up {H H' : Hp} {a : Addr} {r : M4} {pre : List Bool} (h : StAt H a r pre) (e : H' a = H a) (t : TupS H H') : StAt H' a r pre := by
  obtain ⟨bs, h1, h2, h3⟩ := h
  refine ⟨bs, by rw [e]; exact h1, h2, fun j u b x y => ?_⟩
  obtain ⟨q, g1, g2⟩ := h3 j u b x y
  exact ⟨q, t _ _ g1, t _ _ g2⟩
def kvz (l : List M4) (as : List Addr) : List (List Key × V) := List.zipWith (fun r a => (r.key, V.ref a)) l as
structure Stp (H : Hp) (l : List M4) (as : List Addr) (pr : Nat → List Bool) : Prop where
  len : as.length = l.length
  nd : as.Nodup
  st : ∀ (k : Nat) (r : M4) (a : Addr), l[k]? = some r → as[k]? = some a → StAt H a r (pr k)
theorem kvz_len {l : List M4} {as : List Addr} (h : as.length = l.length) : (kvz l as).length = l.length := by
  unfold kvz
  rw [List.length_zipWith]
  omega
theorem kvz_get {l : List M4} {as : List Addr} (hn : l.Nodup) {k : Nat} {r : M4} {a : Addr} (hr : l[k]? = some r) (ha : as[k]? = some a) : valV (kvz l as) r.key = some (.ref a) := by
  unfold kvz valV
  induction l generalizing as k with
  | nil => cases hr
  | cons x l ih =>
    cases as with
    | nil => cases ha
    | cons y as =>
      rw [List.zipWith_cons_cons, List.find?_cons]
      cases k with
      | zero =>
        cases hr
        cases ha
        simp
      | succ k =>
        have hr : l[k]? = some r := hr
        have ha : as[k]? = some a := ha
        have ne : ¬ x.key = r.key := fun z => (List.nodup_cons.mp hn).1 (by rw [M4.key_inj z]; exact List.mem_of_getElem? hr)
        simp only [ne, decide_false]
        exact ih (List.nodup_cons.mp hn).2 hr ha
theorem kvz_no {l : List M4} {as : List Addr} {r : M4} (h : ¬ r ∈ l) : valV (kvz l as) r.key = none := by
  unfold kvz valV
  induction l generalizing as with
  | nil => rfl
  | cons x l ih =>
    cases as with
    | nil => rfl
    | cons y as =>
      rw [List.zipWith_cons_cons, List.find?_cons]
      have ne : ¬ x.key = r.key := fun z => h (by rw [M4.key_inj z]; exact List.mem_cons_self)
      simp only [ne, decide_false]
      exact ih fun z => h (List.mem_cons_of_mem _ z)
theorem kvz_snoc {l : List M4} {as : List Addr} {r : M4} {a : Addr} (len : as.length = l.length) (h : ¬ r ∈ l) : putK (kvz l as) r.key (.ref a) = kvz (l ++ [r]) (as ++ [a]) := by
  rw [putK_new _ (kvz_no h)]
  unfold kvz
  rw [List.zipWith_append len.symm]
  rfl
theorem kvz_some {l : List M4} {as : List Addr} (len : as.length = l.length) (hn : l.Nodup) {r : M4} : (valV (kvz l as) r.key).isSome = true ↔ r ∈ l := by
  constructor
  · intro h
    refine Classical.byContradiction fun z => ?_
    rw [kvz_no z] at h
    cases h
  · intro h
    obtain ⟨k, hk⟩ := List.getElem?_of_mem h
    have lt : k < as.length := by rw [len]; exact (List.getElem?_eq_some_iff.mp hk).1
    rw [kvz_get hn hk (List.getElem?_eq_getElem lt)]
    rfl
theorem kvz_at {l : List M4} {as : List Addr} {i : Nat} {k : List Key} {v : V} (h : (kvz l as)[i]? = some (k, v)) : ∃ r a, l[i]? = some r ∧ as[i]? = some a ∧ k = r.key ∧ v = .ref a := by
  unfold kvz at h
  rw [List.getElem?_zipWith] at h
  cases e1 : l[i]? with
  | none => rw [e1] at h; cases h
  | some r =>
    cases e2 : as[i]? with
    | none => rw [e1, e2] at h; cases h
    | some a =>
      rw [e1, e2] at h
      cases h
      exact ⟨r, a, rfl, rfl, rfl, rfl⟩
theorem Stp.up {H H' : Hp} {l : List M4} {as : List Addr} {pr : Nat → List Bool} (h : Stp H l as pr) (e : ∀ a ∈ as, H' a = H a) (t : TupS H H') : Stp H' l as pr :=
  ⟨h.len, h.nd, fun k r a x y => (h.st k r a x y).up (e a (List.mem_of_getElem? y)) t⟩
theorem Stp.same {H H' : Hp} {l : List M4} {as : List Addr} {pr : Nat → List Bool} (h : Stp H l as pr) (s : Same H H') : Stp H' l as pr :=
  h.up (fun a ha => by
    obtain ⟨k, hk⟩ := List.getElem?_of_mem ha
    have lt : k < l.length := by rw [← h.len]; exact (List.getElem?_eq_some_iff.mp hk).1
    obtain ⟨bs, e, _⟩ := h.st k _ a (List.getElem?_eq_getElem lt) hk
    rw [e, s _ _ e]) (.of s)
/-- a new key, with no steps yet -/
theorem Stp.key {H H' : Hp} {l : List M4} {as : List Addr} {pr : Nat → List Bool} {r : M4} {a : Addr} (h : Stp H l as pr) (na : ∀ b ∈ as, b ≠ a) (e : ∀ b ∈ as, H' b = H b) (t : TupS H H') (ea : H' a = some (.lst [])) (p0 : pr l.length = []) : Stp H' (l ++ [r]) (as ++ [a]) pr := by
  have h' := h.up e t
  refine ⟨by rw [List.length_append, List.length_append, h.len]; rfl, ?_, fun k s b x y => ?_⟩
  · rw [List.nodup_append]
    exact ⟨h.nd, by simp, fun b hb c hc z => na b hb (by rw [z, List.mem_singleton.mp hc])⟩
  · by_cases c : k < l.length
    · rw [List.getElem?_append_left c] at x
      rw [List.getElem?_append_left (by rw [h.len]; exact c)] at y
      exact h'.st k s b x y
    · rw [List.getElem?_append_right (by omega)] at x
      rw [List.getElem?_append_right (by rw [h.len]; omega), h.len] at y
      cases d : k - l.length with
      | zero =>
        rw [d] at x y
        cases x
        cases y
        have : k = l.length := by omega
        rw [this, p0]
        exact ⟨[], ea, rfl, fun j t b z => by cases z⟩
      | succ n =>
        rw [d] at x
        cases x
theorem addr_at {l : List Addr} (h : l.Nodup) {i j : Nat} {r : Addr} (hi : l[i]? = some r) (hj : l[j]? = some r) : i = j := by
  obtain ⟨h1, e1⟩ := List.getElem?_eq_some_iff.mp hi
  obtain ⟨h2, e2⟩ := List.getElem?_eq_some_iff.mp hj
  have z := List.pairwise_iff_getElem.mp h
  rcases Nat.lt_trichotomy i j with c | c | c
  · exact absurd (e1.trans e2.symm) (z i j h1 h2 c)
  · exact c
  · exact absurd (e2.trans e1.symm) (z j i h2 h1 c)
/-- one step more at a key -/
theorem Stp.push {H H' : Hp} {l : List M4} {as : List Addr} {pr pr' : Nat → List Bool} {i : Nat} {r : M4} {a b q : Addr} {bs : List Addr} {t : Bool} (h : Stp H l as pr) (hr : l[i]? = some r) (ha : as[i]? = some a) (hb : H a = some (.lst (bs.map V.ref)))
    (e : ∀ c ∈ as, c ≠ a → H' c = H c) (ts : TupS H H') (ea : H' a = some (.lst ((bs ++ [b]).map V.ref))) (eb : H' b = some (.tup [.str (rd (wd1 r t)), .ref q])) (eq : H' q = some (.tup ((rd1 r t).l.map V.int))) (p1 : pr' i = pr i ++ [t]) (p2 : ∀ k, k ≠ i → pr' k = pr k) : Stp H' l as pr' := by
  refine ⟨h.len, h.nd, fun k s c x y => ?_⟩
  by_cases ki : k = i
  · subst ki
    rw [hr] at x
    rw [ha] at y
    cases x
    cases y
    obtain ⟨bs', h1, h2, h3⟩ := h.st k r a hr ha
    rw [hb] at h1
    have eqb : bs = bs' := by
      have h1 : List.map V.ref bs = List.map V.ref bs' := by
        injection h1 with h1
        injection h1
      exact List.map_inj_right (fun u v z => by cases z; rfl) |>.mp h1
    subst eqb
    rw [p1]
    refine ⟨bs ++ [b], ea, by rw [List.length_append, List.length_append, h2]; rfl, fun j u c x y => ?_⟩
    by_cases lt : j < (pr k).length
    · rw [List.getElem?_append_left lt] at x
      rw [List.getElem?_append_left (by rw [h2]; exact lt)] at y
      obtain ⟨z, g1, g2⟩ := h3 j u c x y
      exact ⟨z, ts _ _ g1, ts _ _ g2⟩
    · rw [List.getElem?_append_right (by omega)] at x
      rw [List.getElem?_append_right (by rw [h2]; omega), h2] at y
      cases d : j - (pr k).length with
      | zero =>
        rw [d] at x y
        cases x
        cases y
        exact ⟨q, eb, eq⟩
      | succ n =>
        rw [d] at x
        cases x
  · rw [p2 k ki]
    have ne : c ≠ a := fun z => ki (addr_at h.nd (z ▸ y) ha)
    exact (h.st k s c x y).up (e c (List.mem_of_getElem? y) ne) ts
theorem isKeys_maps {H : Hp} {l : List M4} {as bs : List Addr} (len : as.length = l.length) (h : IsKeys H (kvz l as) bs) : MapsL H bs l := by
  refine ⟨?_, fun k b r hb hr => ?_⟩
  · have := Paired.length h
    rw [kvz_len len] at this
    omega
  · have lt : k < as.length := by rw [len]; exact (List.getElem?_eq_some_iff.mp hr).1
    have e : (kvz l as)[k]? = some (r.key, .ref as[k]) := by
      unfold kvz
      rw [List.getElem?_zipWith, hr, List.getElem?_eq_getElem lt]
    obtain ⟨c, hc, g⟩ := paired_get h e
    rw [hb] at hc
    cases hc
    exact g
end Lr

set_option exponentiation.threshold 5000
namespace Lr
open PySem PySem.Spec PyProof.Rows L2
/-- a dict comprehension of n turns -/
theorem dcG_turns {J : It} {n : Nat} {d0 : HO} {g : TG} {tt : TT} {tk tv : TE} {vs : List Nat} {σ : L2.St} {H1 : Hp} {D : Addr} {Qd : Hp → Prop} (Pv : Nat → Hp → Prop) (h0 : Pv 0 (L2.upd H1 D d0)) (hgo : ∀ i H, i < n → Pv i H → J.go i H) (hst : ∀ H, Pv n H → J.stop n H)
    (hs : ∀ i x H H', i < n → Pv i H → J.yld i H x H' → g x (wipe σ vs) H' fun σ2 H2 => wipe σ2 vs = wipe σ vs ∧ tt σ2 H2 fun b H3 => if b = true then tk σ2 H3 fun y H4 => tv σ2 H4 fun z H5 => ∃ H6, DPut H5 D y z H6 ∧ Pv (i + 1) H6 else Pv (i + 1) H3) (hd : ∀ H, Pv n H → Qd H) :
    ∃ W : Nat → Nat → Hp → Prop, (∃ m, W 0 m (L2.upd H1 D d0)) ∧ ∀ i m H, W i m H →
  (J.stop i H ∧ Qd H) ∨ (J.go i H ∧ ∃ N : Hp → Prop, (∀ H', N H' → ∃ m', m' < m ∧ W (i + 1) m' H') ∧ ∀ x H', J.yld i H x H' → g x (wipe σ vs) H' fun σ2 H2 => wipe σ2 vs = wipe σ vs ∧ tt σ2 H2 fun b H3 =>
    if b = true then tk σ2 H3 fun y H4 => tv σ2 H4 fun z H5 => ∃ H6, DPut H5 D y z H6 ∧ N H6 else N H3) := by
  refine ⟨fun i m H => m = n - i ∧ i ≤ n ∧ Pv i H, ⟨n, rfl, Nat.zero_le _, h0⟩, ?_⟩
  rintro i m H ⟨rfl, le, p⟩
  by_cases c : i < n
  · exact .inr ⟨hgo i H c p, Pv (i + 1), fun H' p' => ⟨n - (i + 1), by omega, rfl, c, p'⟩, fun x H' y => hs i x H H' c p y⟩
  · obtain rfl : i = n := by omega
    exact .inl ⟨hst H p, hd H p⟩
/-- how many steps are there: both up to i, pre at i, none behind it -/
def pro (i : Nat) (pre : List Bool) : Nat → List Bool := fun k => if k < i then [false, true] else if k = i then pre else []
theorem pro_full (i : Nat) : pro i [false, true] = pro (i + 1) [] := by
  funext k
  unfold pro
  by_cases c : k < i
  · rw [if_pos c, if_pos (by omega)]
  · by_cases e : k = i
    · rw [if_neg c, if_pos e, if_pos (by omega)]
    · rw [if_neg c, if_neg e, if_neg (by omega)]
      split <;> rfl
theorem pro_far {i k : Nat} {pre : List Bool} (h : i < k) : pro i pre k = [] := by
  unfold pro
  rw [if_neg (by omega), if_neg (by omega)]
theorem pro_at {i : Nat} {pre : List Bool} : pro i pre i = pre := by
  unfold pro
  rw [if_neg (by omega), if_pos rfl]
theorem pro_off {i k : Nat} {pre pre' : List Bool} (h : k ≠ i) : pro i pre k = pro i pre' k := by
  unfold pro
  rw [if_neg h, if_neg h]
theorem Stp.ext {H : Hp} {l : List M4} {as : List Addr} {pr pr' : Nat → List Bool} (h : Stp H l as pr) (e : ∀ k, k < l.length → pr k = pr' k) : Stp H l as pr' :=
  ⟨h.len, h.nd, fun k r a x y => by rw [← e k (List.getElem?_eq_some_iff.mp x).1]; exact h.st k r a x y⟩
theorem Stp.nil {H : Hp} {pr : Nat → List Bool} : Stp H [] [] pr := ⟨rfl, List.nodup_nil, fun k r a x => by cases x⟩
theorem Stp.at_ {H : Hp} {l : List M4} {as : List Addr} {pr : Nat → List Bool} (h : Stp H l as pr) {k : Nat} {r : M4} (x : l[k]? = some r) : ∃ a, as[k]? = some a ∧ StAt H a r (pr k) := by
  have lt : k < as.length := by rw [h.len]; exact (List.getElem?_eq_some_iff.mp x).1
  exact ⟨as[k], List.getElem?_eq_getElem lt, h.st k r _ x (List.getElem?_eq_getElem lt)⟩
theorem Stp.lst {H : Hp} {l : List M4} {as : List Addr} {pr : Nat → List Bool} (h : Stp H l as pr) {a : Addr} (ha : a ∈ as) : ∃ xs, H a = some (.lst xs) := by
  obtain ⟨k, hk⟩ := List.getElem?_of_mem ha
  have lt : k < l.length := by rw [← h.len]; exact (List.getElem?_eq_some_iff.mp hk).1
  obtain ⟨bs, e, _⟩ := h.st k _ a (List.getElem?_eq_getElem lt) hk
  exact ⟨_, e⟩
/-- a for of n turns -/
theorem for_turns {J : It} {n : Nat} {g : TG} {tb : TS} {D : Ends} {σ : L2.St} {H : Hp} (Pv : Nat → L2.St → Hp → Prop) (h0 : Pv 0 σ H) (hgo : ∀ i σ H, i < n → Pv i σ H → J.go i H) (hst : ∀ σ H, Pv n σ H → J.stop n H)
    (hs : ∀ i x σ H H', i < n → Pv i σ H → J.yld i H x H' → g x σ H' fun σ2 H2 => tb { D with nx := Pv (i + 1), ct := Pv (i + 1), bk := D.nx } σ2 H2) (hd : ∀ σ H, Pv n σ H → D.nx σ H) :
    ∃ W : Nat → Nat → L2.St → Hp → Prop, (∃ m, W 0 m σ H) ∧ ∀ i m σ H, W i m σ H →
      (J.stop i H ∧ D.nx σ H) ∨ (J.go i H ∧ ∃ N : L2.St → Hp → Prop, (∀ σ' H', N σ' H' → ∃ m', m' < m ∧ W (i + 1) m' σ' H') ∧ ∀ x H', J.yld i H x H' → g x σ H' fun σ2 H2 => tb { D with nx := N, ct := N, bk := D.nx } σ2 H2) := by
  refine ⟨fun i m σ H => m = n - i ∧ i ≤ n ∧ Pv i σ H, ⟨n, rfl, Nat.zero_le _, h0⟩, ?_⟩
  rintro i m σ H ⟨rfl, le, p⟩
  by_cases c : i < n
  · exact .inr ⟨hgo i σ H c p, Pv (i + 1), fun σ' H' p' => ⟨n - (i + 1), by omega, rfl, c, p'⟩, fun x H' y => hs i x σ H H' c p y⟩
  · obtain rfl : i = n := by omega
    exact .inl ⟨hst σ H p, hd σ H p⟩
theorem Same.freeze {H H' : Hp} {d : Addr} {f : HO} (s : Same H H') : Same (upd H d f) (upd H' d f) := fun b o e => by
  by_cases c : b = d
  · subst c
    rw [upd_same] at e ⊢
    exact e
  · rw [upd_ne c] at e ⊢
    exact s _ _ e
theorem Same.thaw {H H' : Hp} {d : Addr} {f u : HO} (s : Same (upd H d f) H') (e : H d = some u) : Same H (upd H' d u) := fun b o z => by
  by_cases c : b = d
  · subst c
    rw [upd_same]
    exact e.symm.trans z
  · rw [upd_ne c]
    exact s _ _ (by rw [upd_ne c]; exact z)
theorem Stp.freeze {H : Hp} {l : List M4} {as : List Addr} {pr : Nat → List Bool} {d : Addr} {f : HO} {xs : List (List Key × V)} (h : Stp H l as pr) (e : H d = some (.dT xs)) : Stp (upd H d f) l as pr :=
  h.up (fun a ha => by
    obtain ⟨ys, z⟩ := h.lst ha
    rw [upd_ne (fun c => by rw [c, e] at z; cases z)]) (TupS.dT e)
/-- there are rows for maps read on among themselves -/
theorem rws_ex {m : M4} {l : List M4} (o : Okm m) (lt : Lst m l) (cl : ∀ r ∈ l, ∀ t, rd1 r t ∈ l) : ∃ rs, Rws l rs ∧ rs.length = l.length := by
  suffices h : ∀ n, n ≤ l.length → ∃ rs, Rws l rs ∧ rs.length = n from h _ (Nat.le_refl _)
  intro n
  induction n with
  | zero => exact fun _ => ⟨[], ⟨fun i x z => by cases z⟩, rfl⟩
  | succ n ih =>
    intro le
    obtain ⟨rs, h1, h2⟩ := ih (by omega)
    have hr : l[n]? = some l[n] := List.getElem?_eq_getElem (by omega)
    have mr := List.mem_of_getElem? hr
    have Or := lt.ok _ mr
    obtain ⟨e, he, _⟩ := end_ex Or.nn (by rw [Or.de]; exact o.d0) (Or.le o)
    obtain ⟨j, hj⟩ := List.getElem?_of_mem (cl _ mr false)
    obtain ⟨k, hk⟩ := List.getElem?_of_mem (cl _ mr true)
    exact ⟨rs ++ [⟨wd1 l[n] false, j, wd1 l[n] true, k, e⟩], h1.snoc (by rw [h2]; exact hr) ⟨rfl, hj, rfl, hk, he⟩, by rw [List.length_append, h2]; rfl⟩
end Lr

set_option exponentiation.threshold 5000
namespace Lr
open PySem PySem.Spec PyProof.Rows L2
/-! the list of the maps of a size, step by step -/
def elm (D p r c : Nat) : List Q4 := if (D - (p + 1) * (r + 1) - c * (r + 1)) % (p + 1) = 0 then [⟨c + (p + 1), (D - (p + 1) * (r + 1) - c * (r + 1)) / (p + 1), c, (D - (p + 1) * (r + 1) - c * (r + 1)) / (p + 1) + (r + 1)⟩] else []
def elq (D p r : Nat) : List Q4 := (List.range ((D - (p + 1) * (r + 1)) / (r + 1) + 1)).flatMap (elm D p r)
def elp (D p : Nat) : List Q4 := (List.range (D / (p + 1))).flatMap (elq D p)
theorem lstd_eq (D : Nat) : lstd D = (List.range D).flatMap (elp D) := rfl
theorem range_flat {f : Nat → List Q4} (n : Nat) : (List.range (n + 1)).flatMap f = (List.range n).flatMap f ++ f n := by
  rw [List.range_succ, List.flatMap_append]
  simp
def wS (s : Bool) (q : Q4) : M4 := if s then q.m else q.swp.m
/-- the list so far -/
def LsAt (s : Bool) (F : Addr) (H : Hp) (l : List Q4) (H' : Hp) : Prop := Same H H' ∧ ∃ ps : List Addr, H' F = some (.lst (ps.map V.ref)) ∧ MapsL H' ps (l.map (wS s))
theorem elm_bd {D p r c : Nat} {q : Q4} (h : q ∈ elm D p r c) (hD : D ≤ 12) : True := trivial
theorem abs_sgn (s : Bool) (D : Nat) : (if sgnD s D < 0 then -sgnD s D else sgnD s D) = (D : Int) := by
  cases s
  · show (if -(D : Int) < 0 then - -(D : Int) else -(D : Int)) = D
    split <;> omega
  · show (if (D : Int) < 0 then -(D : Int) else (D : Int)) = D
    split <;> omega
end Lr

set_option exponentiation.threshold 5000
namespace Lr
open PySem PySem.Spec PyProof.Rows L2
theorem code_inj {B : Int} : ∀ {u v : List Int}, u.length = v.length → TS.Bd B u → TS.Bd B v → TS.code B u = TS.code B v → u = v
  | [], [], _, _, _, _ => rfl
  | [], _ :: _, h, _, _, _ => by cases h
  | _ :: _, [], h, _, _, _ => by cases h
  | x :: u, y :: v, h, hu, hv, e => by
    have l : u.length = v.length := by simpa using h
    rcases Int.lt_trichotomy x y with c | c | c
    · have := TS.code_lt l hu.tail hv.tail c
      omega
    · subst c
      have e : x * B ^ u.length + TS.code B u = x * B ^ v.length + TS.code B v := e
      rw [l] at e
      rw [code_inj l hu.tail hv.tail (by omega)]
    · have := TS.code_lt l.symm hv.tail hu.tail c
      omega
theorem m_bd {m : M4} {t B : Int} (n : Nn m) (l : Le t m) (h : t < B) : TS.Bd B m.l := fun i hi => by
  have := n.a
  have := n.b
  have := n.c
  have := n.d
  have := l.a
  have := l.b
  have := l.c
  have := l.d
  simp only [M4.l, List.mem_cons, List.not_mem_nil, or_false] at hi
  rcases hi with rfl | rfl | rfl | rfl <;> omega
/-! the maps that leave a square, told in two ways -/
def fxm (d : T3) (k s : Nat) : M4 := ⟨s, -(k : Int) * d.z, (k : Int) * d.x, s + (k : Int) * d.y⟩
def FxIn (d : T3) (top k s : Nat) : Prop := Nn (fxm d k s) ∧ Le top (fxm d k s) ∧ Nat.gcd s k = 1
open Classical in
noncomputable def fxc (d : T3) (top k s : Nat) : List M4 := if FxIn d top k s then [fxm d k s] else []
noncomputable def fxr (d : T3) (top k : Nat) : List M4 := (List.range (top + 1)).flatMap (fxc d top k)
noncomputable def FXL (d : T3) (top : Nat) : List M4 := (List.range (top + 1)).flatMap (fxr d top)
def lsm (d : T3) (a c e : Nat) : M4 := ⟨a, (-(c : Int) * d.z).fdiv d.x, c, e⟩
def LsIn (d : T3) (top a c e : Nat) : Prop := (c : Int) * d.y = ((e : Int) - a) * d.x ∧ (c : Int) * d.z + (lsm d a c e).b * d.x = 0 ∧ 0 ≤ (lsm d a c e).b ∧ (lsm d a c e).b ≤ top ∧ gl (lsm d a c e).l = 1 ∧ (a : Int) * e ≠ (lsm d a c e).b * c
open Classical in
noncomputable def lsc (d : T3) (top a c e : Nat) : List M4 := if LsIn d top a c e then [lsm d a c e] else []
noncomputable def lsr (d : T3) (top a c : Nat) : List M4 := (List.range (top + 1)).flatMap (lsc d top a c)
noncomputable def lsq (d : T3) (top a : Nat) : List M4 := (List.range (top + 1)).flatMap (lsr d top a)
noncomputable def LSL (d : T3) (top : Nat) : List M4 := (List.range (top + 1)).flatMap (lsq d top)
structure Fixes (d : T3) (top : Nat) (m : M4) : Prop where
  nn : Nn m
  le : Le top m
  gd : gl m.l = 1
  dt : m.det ≠ 0
  tr : ∃ k : Nat, m.tr3 = d.sc k
theorem gl3 (d : T3) : gl d.l = Nat.gcd (Nat.gcd d.x.natAbs d.y.natAbs) d.z.natAbs := by
  show Nat.gcd (Nat.gcd (Nat.gcd 0 d.x.natAbs) d.y.natAbs) d.z.natAbs = _
  rw [Nat.gcd_zero_left]
theorem prim_dvd3 {d : T3} (h : gl d.l = 1) {u c : Int} (h1 : u ∣ c * d.x) (h2 : u ∣ c * d.y) (h3 : u ∣ c * d.z) : u ∣ c := by
  have e : gl (d.sc c).l = c.natAbs * gl d.l := gl_sc c d
  rw [h, Nat.mul_one] at e
  have z := gl_of_dvd (d.sc c).l u.natAbs fun x hx => by
    have dv : ∀ y : Int, u ∣ y → ((u.natAbs : Nat) : Int) ∣ y := fun y hy => Int.natAbs_dvd.mpr hy
    simp only [T3.l, T3.sc, List.mem_cons, List.not_mem_nil, or_false] at hx
    rcases hx with rfl | rfl | rfl
    · exact dv _ h1
    · exact dv _ h2
    · exact dv _ h3
  rw [e] at z
  exact Int.natAbs_dvd_natAbs.mp z
theorem fxm_gl {d : T3} (h : gl d.l = 1) (k s : Nat) : gl (fxm d k s).l = Nat.gcd s k := by
  refine Nat.dvd_antisymm ?_ ?_
  · have D := gl_dvd (fxm d k s).l
    have d1 := D (s : Int) (by simp [M4.l, fxm])
    have d2 := D (-(k : Int) * d.z) (by simp [M4.l, fxm])
    have d3 := D ((k : Int) * d.x) (by simp [M4.l, fxm])
    have d4 := D ((s : Int) + (k : Int) * d.y) (by simp [M4.l, fxm])
    have d5 : ((gl (fxm d k s).l : Nat) : Int) ∣ (k : Int) * d.y := (Int.dvd_add_right d1).mp d4
    have d6 : ((gl (fxm d k s).l : Nat) : Int) ∣ (k : Int) * d.z := by
      rw [Int.neg_mul] at d2
      exact Int.dvd_neg.mp d2
    have d7 := prim_dvd3 h d3 d5 d6
    exact Nat.dvd_gcd (Int.natCast_dvd_natCast.mp d1) (Int.natCast_dvd_natCast.mp d7)
  · have g1 : ((Nat.gcd s k : Nat) : Int) ∣ (s : Int) := Int.natCast_dvd_natCast.mpr (Nat.gcd_dvd_left s k)
    have g2 : ((Nat.gcd s k : Nat) : Int) ∣ (k : Int) := Int.natCast_dvd_natCast.mpr (Nat.gcd_dvd_right s k)
    refine gl_of_dvd _ _ fun x hx => ?_
    simp only [M4.l, fxm, List.mem_cons, List.not_mem_nil, or_false] at hx
    rcases hx with rfl | rfl | rfl | rfl
    · exact g1
    · exact Int.dvd_mul_of_dvd_left (Int.dvd_neg.mpr g2)
    · exact Int.dvd_mul_of_dvd_left g2
    · exact Int.dvd_add g1 (Int.dvd_mul_of_dvd_left g2)
theorem fxm_tr (d : T3) (k s : Nat) : (fxm d k s).tr3 = d.sc k := by
  simp only [fxm, M4.tr3, T3.sc]
  congr 1 <;> grind
theorem fxm_det {d : T3} (ns : ∀ s : Int, s * s ≠ d.disc) {k s : Nat} (h : Nat.gcd s k = 1) : (fxm d k s).det ≠ 0 := fun e => by
  have z : (fxm d k s).tr3.disc = (fxm d k s).tra * (fxm d k s).tra - 4 * (fxm d k s).det := disc_tr3 _
  rw [e, fxm_tr, disc_sc] at z
  have z : (k : Int) * k * d.disc = (fxm d k s).tra * (fxm d k s).tra := by omega
  by_cases k0 : k = 0
  · subst k0
    rw [Nat.gcd_zero_right] at h
    subst h
    simp [fxm, M4.det] at e
  · have kp : (k : Int) ≠ 0 := by omega
    have kk : (k : Int) * k ≠ 0 := fun y => by rcases Int.mul_eq_zero.mp y with q | q <;> exact kp q
    have dv : ((k : Int)) ∣ (fxm d k s).tra := by
      have : ((k * k : Nat) : Int) ∣ (fxm d k s).tra * (fxm d k s).tra := ⟨d.disc, by rw [← z]; simp⟩
      have y := Int.natAbs_dvd_natAbs.mpr this
      rw [Int.natAbs_mul, Int.natAbs_natCast, ← Nat.pow_two, ← Nat.pow_two] at y
      have := (Nat.pow_dvd_pow_iff (n := 2) (by decide)).mp y
      exact Int.ofNat_dvd_left.mpr this
    obtain ⟨t, et⟩ := dv
    rw [et] at z
    refine ns t ((Int.mul_eq_mul_left_iff kk).mp ?_)
    rw [z]
    grind
theorem mem_FXL {d : T3} {top : Nat} (g : gl d.l = 1) (x0 : 0 < d.x) (ns : ∀ s : Int, s * s ≠ d.disc) (m : M4) : m ∈ FXL d top ↔ Fixes d top m := by
  unfold FXL fxr fxc
  simp only [List.mem_flatMap, List.mem_range]
  constructor
  · rintro ⟨k, hk, s, hs, h⟩
    split at h
    · rename_i c
      rw [List.mem_singleton.mp h]
      exact ⟨c.1, c.2.1, by rw [fxm_gl g]; exact c.2.2, fxm_det ns c.2.2, k, fxm_tr d k s⟩
    · cases h
  · intro h
    obtain ⟨k, hk⟩ := h.tr
    have h1 := hk
    simp only [M4.tr3, T3.sc, T3.mk.injEq] at h1
    obtain ⟨e1, e2, e3⟩ := h1
    have a0 := h.nn.a
    have kx : (k : Int) ≤ (k : Int) * d.x := by
      have := Int.mul_le_mul_of_nonneg_left (show 1 ≤ d.x by omega) (show 0 ≤ (k : Int) by omega)
      omega
    have c1 := h.le.c
    have a1 := h.le.a
    have em : m = fxm d k m.a.toNat := by
      obtain ⟨a, b, c, e⟩ := m
      simp only at a0 e1 e2 e3
      have ea : ((a.toNat : Nat) : Int) = a := by omega
      simp only [fxm, ea]
      congr 1
      · rw [Int.neg_mul]
        omega
      · omega
    refine ⟨k, by omega, m.a.toNat, by omega, ?_⟩
    rw [← em, if_pos ⟨by rw [← em]; exact h.nn, by rw [← em]; exact h.le, by rw [← fxm_gl g, ← em]; exact h.gd⟩]
    exact List.mem_cons_self
theorem mem_LSL {d : T3} {top : Nat} (g : gl d.l = 1) (x0 : 0 < d.x) (m : M4) : m ∈ LSL d top ↔ Fixes d top m := by
  unfold LSL lsq lsr lsc
  simp only [List.mem_flatMap, List.mem_range]
  constructor
  · rintro ⟨a, ha, c, hc, e, he, h⟩
    split at h
    · rename_i z
      rw [List.mem_singleton.mp h]
      obtain ⟨z1, z2, z3, z4, z5, z6⟩ := z
      generalize hb : (lsm d a c e).b = b at *
      have em : lsm d a c e = ⟨a, b, c, e⟩ := by rw [← hb]; rfl
      rw [em] at z5 ⊢
      have dz : d.x ∣ (c : Int) * d.z := ⟨-b, by grind⟩
      have dv : d.x ∣ (c : Int) := prim_dvd3 g (Int.dvd_mul_left _ _) ⟨(e : Int) - a, by rw [z1, Int.mul_comm]⟩ dz
      obtain ⟨k, hk⟩ := dv
      have k0 : 0 ≤ k := Int.not_lt.mp fun z => by
        have := Int.mul_pos x0 (show 0 < -k by omega)
        rw [Int.mul_neg] at this
        omega
      refine ⟨⟨by show 0 ≤ (a : Int); omega, z3, by show 0 ≤ (c : Int); omega, by show 0 ≤ (e : Int); omega⟩, ⟨by show (a : Int) ≤ top; omega, z4, by show (c : Int) ≤ top; omega, by show (e : Int) ≤ top; omega⟩, z5, fun y => z6 (by unfold M4.det at y; simp only at y; omega), k.toNat, ?_⟩
      have ek : ((k.toNat : Nat) : Int) = k := by omega
      simp only [M4.tr3, T3.sc, ek]
      have xn : d.x ≠ 0 := by omega
      rw [hk] at z1 z2
      congr 1
      · rw [hk, Int.mul_comm]
      · exact ((Int.mul_eq_mul_left_iff xn).mp (by grind)).symm
      · exact ((Int.mul_eq_mul_left_iff xn).mp (by grind)).symm
    · cases h
  · intro h
    obtain ⟨k, hk⟩ := h.tr
    simp only [M4.tr3, T3.sc, T3.mk.injEq] at hk
    obtain ⟨e1, e2, e3⟩ := hk
    obtain ⟨a0, b0, c0, d0⟩ := h.nn
    obtain ⟨a1, b1, c1, d1⟩ := h.le
    refine ⟨m.a.toNat, by omega, m.c.toNat, by omega, m.d.toNat, by omega, ?_⟩
    have ea : ((m.a.toNat : Nat) : Int) = m.a := by omega
    have ec : ((m.c.toNat : Nat) : Int) = m.c := by omega
    have ed : ((m.d.toNat : Nat) : Int) = m.d := by omega
    have eb : (-(m.c) * d.z).fdiv d.x = m.b := by
      have : -(m.c) * d.z = m.b * d.x := by
        rw [e1]
        grind
      rw [this, Int.fdiv_eq_ediv_of_nonneg _ (by omega), Int.mul_ediv_cancel _ (by omega)]
    have em : lsm d m.a.toNat m.c.toNat m.d.toNat = m := by
      unfold lsm
      rw [ea, ec, ed, eb]
    rw [if_pos]
    · rw [em]
      exact List.mem_cons_self
    · refine ⟨by rw [ea, ec, ed, e1]; grind, by rw [em, ec, e1]; grind, by rw [em]; exact b0, by rw [em]; exact b1, by rw [em]; exact h.gd, by rw [em, ea, ec, ed]; exact fun y => h.dt (by unfold M4.det; omega)⟩
theorem flat_nodup {α : Type} {n : Nat} {f : Nat → List α} (h1 : ∀ i, (f i).Nodup) (h2 : ∀ i j x, x ∈ f i → x ∈ f j → i = j) : ((List.range n).flatMap f).Nodup := by
  unfold List.Nodup
  rw [List.pairwise_flatMap]
  refine ⟨fun i _ => h1 i, List.pairwise_lt_range.imp fun {i j} lt x hx y hy e => ?_⟩
  rw [e] at hx
  have := h2 i j y hx hy
  omega
theorem FXL_nodup {d : T3} {top : Nat} (x0 : 0 < d.x) : (FXL d top).Nodup := by
  have one : ∀ k s m, m ∈ fxc d top k s → m = fxm d k s := fun k s m h => by
    unfold fxc at h
    split at h
    · exact List.mem_singleton.mp h
    · cases h
  refine flat_nodup (fun k => flat_nodup (fun s => ?_) fun i j m hi hj => ?_) fun i j m hi hj => ?_
  · unfold fxc
    split
    · simp
    · simp
  · have e1 := congrArg M4.a ((one _ _ _ hi).symm.trans (one _ _ _ hj))
    have e1 : ((i : Nat) : Int) = j := e1
    omega
  · unfold fxr at hi hj
    simp only [List.mem_flatMap] at hi hj
    obtain ⟨s, _, hi⟩ := hi
    obtain ⟨t, _, hj⟩ := hj
    have e1 := congrArg M4.c ((one _ _ _ hi).symm.trans (one _ _ _ hj))
    have e1 : (i : Int) * d.x = (j : Int) * d.x := e1
    have := (Int.mul_eq_mul_right_iff (by omega)).mp e1
    omega
theorem LSL_nodup {d : T3} {top : Nat} : (LSL d top).Nodup := by
  have one : ∀ a c e m, m ∈ lsc d top a c e → m = lsm d a c e := fun a c e m h => by
    unfold lsc at h
    split at h
    · exact List.mem_singleton.mp h
    · cases h
  refine flat_nodup (fun a => flat_nodup (fun c => flat_nodup (fun e => ?_) fun i j m hi hj => ?_) fun i j m hi hj => ?_) fun i j m hi hj => ?_
  · unfold lsc
    split
    · simp
    · simp
  · have e1 := congrArg M4.d ((one _ _ _ _ hi).symm.trans (one _ _ _ _ hj))
    have e1 : ((i : Nat) : Int) = j := e1
    omega
  · unfold lsr at hi hj
    simp only [List.mem_flatMap] at hi hj
    obtain ⟨s, _, hi⟩ := hi
    obtain ⟨t, _, hj⟩ := hj
    have e1 := congrArg M4.c ((one _ _ _ _ hi).symm.trans (one _ _ _ _ hj))
    have e1 : ((i : Nat) : Int) = j := e1
    omega
  · unfold lsq lsr at hi hj
    simp only [List.mem_flatMap] at hi hj
    obtain ⟨s, _, s2, _, hi⟩ := hi
    obtain ⟨t, _, t2, _, hj⟩ := hj
    have e1 := congrArg M4.a ((one _ _ _ _ hi).symm.trans (one _ _ _ _ hj))
    have e1 : ((i : Nat) : Int) = j := e1
    omega
theorem fix_one {d : T3} {top : Nat} (g : gl d.l = 1) (x0 : 0 < d.x) (ns : ∀ s : Int, s * s ≠ d.disc) (t12 : top ≤ 12) {l m : List M4} (hl : l.Perm (FXL d top)) (hm : m.Perm (LSL d top)) (pl : l.Pairwise (fun x y => TS.code 20 x.l ≤ TS.code 20 y.l)) (pm : m.Pairwise (fun x y => TS.code 20 x.l ≤ TS.code 20 y.l)) :
    l = m ∧ ∀ x ∈ m, Fixes d top x := by
  have ml : ∀ x, x ∈ l ↔ Fixes d top x := fun x => hl.mem_iff.trans (mem_FXL g x0 ns x)
  have mm : ∀ x, x ∈ m ↔ Fixes d top x := fun x => hm.mem_iff.trans (mem_LSL g x0 x)
  refine ⟨sorted_one (f := fun x => TS.code 20 x.l) (fun x hx y hy e => ?_) (hl.nodup_iff.mpr (FXL_nodup x0)) (hm.nodup_iff.mpr LSL_nodup) pl pm fun x => (ml x).trans (mm x).symm, fun x hx => (mm x).mp hx⟩
  have h1 := (ml x).mp hx
  have h2 := (ml y).mp hy
  exact M4.l_inj (code_inj rfl (m_bd h1.nn h1.le (by omega)) (m_bd h2.nn h2.le (by omega)) e)
/-- a list of maps that grows -/
def BL (F : Addr) (H : Hp) (l : List M4) (n : Nat) (H' : Hp) : Prop := Same H H' ∧ l.length ≤ n ∧ ∃ ps : List Addr, H' F = some (.lst (ps.map V.ref)) ∧ MapsL H' ps l
theorem BL.start {F : Addr} {H : Hp} (h : H F = none) : BL F H [] 0 (L2.upd H F (.lst [])) := ⟨(L2.Same.refl H).new h, Nat.le_refl _, [], upd_same, rfl, fun k a r x => by cases x⟩
theorem BL.same {F : Addr} {H H1 H2 : Hp} {l : List M4} {n m : Nat} (h : BL F H l n H1) (s : Same H1 H2) (le : n ≤ m) : BL F H l m H2 := by
  obtain ⟨h1, h2, ps, h3, h4⟩ := h
  exact ⟨h1.trans s, by omega, ps, s _ _ h3, h4.up (.of s)⟩
theorem BL.snoc {F : Addr} {H H1 : Hp} {l : List M4} {n m : Nat} {ps : List Addr} {t : Addr} {x : M4} (h0 : H F = none) (s1 : Same H H1) (ln : l.length ≤ n) (hF : H1 F = some (.lst (ps.map V.ref))) (hm : MapsL H1 ps l) (ht : H1 t = some (.tup (x.l.map V.int))) (le : n + 1 ≤ m) :
    BL F H (l ++ [x]) m (L2.upd H1 F (.lst (ps.map V.ref ++ [.ref t]))) := by
  refine ⟨fun b o z => by rw [upd_ne (ne_of_none z h0)]; exact s1 b o z, by rw [List.length_append]; simp only [List.length_cons, List.length_nil]; omega, ps ++ [t], by rw [upd_same]; simp, ?_⟩
  have tl := TupS.lst (o := .lst (ps.map V.ref ++ [.ref t])) hF
  exact (hm.up tl).snoc (tl _ _ ht)
theorem fxc_yes {d : T3} {top k s : Nat} (h : FxIn d top k s) : fxc d top k s = [fxm d k s] := by
  unfold fxc
  rw [if_pos h]
theorem fxc_no {d : T3} {top k s : Nat} (h : ¬ FxIn d top k s) : fxc d top k s = [] := by
  unfold fxc
  rw [if_neg h]
theorem lsc_yes {d : T3} {top a c e : Nat} (h : LsIn d top a c e) : lsc d top a c e = [lsm d a c e] := by
  unfold lsc
  rw [if_pos h]
theorem lsc_no {d : T3} {top a c e : Nat} (h : ¬ LsIn d top a c e) : lsc d top a c e = [] := by
  unfold lsc
  rw [if_neg h]
theorem range_flatM {α : Type} {f : Nat → List α} (n : Nat) : (List.range (n + 1)).flatMap f = (List.range n).flatMap f ++ f n := by
  rw [List.range_succ, List.flatMap_append]
  simp
end Lr

set_option exponentiation.threshold 5000
namespace Lr
open PySem PySem.Spec PyProof.Rows L2
theorem flat_len {f : Nat → List Q4} {c : Nat} (h : ∀ i, (f i).length ≤ c) : ∀ n, ((List.range n).flatMap f).length ≤ n * c
  | 0 => by simp
  | n + 1 => by
    rw [range_flat, List.length_append, Nat.succ_mul]
    have := flat_len h n
    have := h n
    omega
theorem elm_len (D p r c : Nat) : (elm D p r c).length ≤ 1 := by
  unfold elm
  split
  · exact Nat.le_refl _
  · exact Nat.zero_le _
theorem elq_len (D p r : Nat) : (elq D p r).length ≤ D + 1 := by
  have h := flat_len (elm_len D p r) ((D - (p + 1) * (r + 1)) / (r + 1) + 1)
  have : (D - (p + 1) * (r + 1)) / (r + 1) ≤ D := Nat.le_trans (Nat.div_le_self _ _) (Nat.sub_le _ _)
  unfold elq
  omega
theorem elp_len (D p : Nat) : (elp D p).length ≤ D * (D + 1) := by
  have h := flat_len (elq_len D p) (D / (p + 1))
  have : D / (p + 1) * (D + 1) ≤ D * (D + 1) := Nat.mul_le_mul_right _ (Nat.div_le_self _ _)
  unfold elp
  omega
theorem lstd_le {D : Nat} {q : Q4} (h : q ∈ lstd D) : q.a ≤ D ∧ q.b ≤ D ∧ q.c ≤ D ∧ q.d ≤ D := by
  rw [lstd_mem] at h
  obtain ⟨h1, h2, h3⟩ := h
  obtain ⟨a, b, c, d⟩ := q
  obtain ⟨p, rfl⟩ : ∃ p, a = c + (p + 1) := ⟨a - c - 1, by have : c < a := h1; omega⟩
  obtain ⟨r, rfl⟩ : ∃ r, d = b + (r + 1) := ⟨d - b - 1, by have : b < d := h2; omega⟩
  have h3 : (c + (p + 1) - c) * (b + (r + 1) - b) + c * (b + (r + 1) - b) + b * (c + (p + 1) - c) = D := h3
  rw [show c + (p + 1) - c = p + 1 by omega, show b + (r + 1) - b = r + 1 by omega] at h3
  have e1 : (p + 1) * 1 ≤ (p + 1) * (r + 1) := Nat.mul_le_mul_left _ (by omega)
  have e2 : 1 * (r + 1) ≤ (p + 1) * (r + 1) := Nat.mul_le_mul_right _ (by omega)
  have e3 : c * 1 ≤ c * (r + 1) := Nat.mul_le_mul_left _ (by omega)
  have e4 : b * 1 ≤ b * (p + 1) := Nat.mul_le_mul_left _ (by omega)
  refine ⟨?_, ?_, ?_, ?_⟩
  · show c + (p + 1) ≤ D; omega
  · show b ≤ D; omega
  · show c ≤ D; omega
  · show b + (r + 1) ≤ D; omega
theorem wS_bd {D : Nat} {s : Bool} {q : Q4} (h : q ∈ lstd D) (hD : D ≤ 12) : TS.Bd 20 (wS s q).l := by
  obtain ⟨a, b, c, d⟩ := lstd_le h
  have k : ∀ n : Nat, n ≤ D → (0 : Int) ≤ n ∧ (n : Int) ≤ 12 := fun n hn => by omega
  cases s
  · exact m_bd (t := 12) ⟨(k _ b).1, (k _ a).1, (k _ d).1, (k _ c).1⟩ ⟨(k _ b).2, (k _ a).2, (k _ d).2, (k _ c).2⟩ (by decide)
  · exact m_bd (t := 12) ⟨(k _ a).1, (k _ b).1, (k _ c).1, (k _ d).1⟩ ⟨(k _ a).2, (k _ b).2, (k _ c).2, (k _ d).2⟩ (by decide)
def g1m (m : M4) : Bool := decide (gl m.l = 1)
theorem lsts_eq (s : Bool) (D : Nat) : ((lstd D).map (wS s)).filter g1m = (lsts s D).map Q4.m := by
  have e : ∀ q : Q4, g1m q.m = q.g1 := fun q => by
    unfold g1m
    by_cases c : gl q.m.l = 1
    · rw [decide_eq_true c, (q4_gl q).mpr c]
    · rw [decide_eq_false c]
      cases z : q.g1
      · rfl
      · exact absurd ((q4_gl q).mp z) c
  unfold lsts
  cases s
  · rw [if_neg (by decide), List.filter_map, List.filter_map, List.map_map, show (g1m ∘ wS false) = (Q4.g1 ∘ Q4.swp) from funext fun q => e q.swp]
    rfl
  · rw [if_pos rfl, List.filter_map, show (g1m ∘ wS true) = Q4.g1 from funext fun q => e q]
    rfl
theorem v4 {a b c d a' b' c' d' : Int} (h1 : a = a') (h2 : b = b') (h3 : c = c') (h4 : d = d') : [V.int a, V.int b, V.int c, V.int d] = [V.int a', V.int b', V.int c', V.int d'] := by
  rw [h1, h2, h3, h4]
end Lr

set_option exponentiation.threshold 5000
namespace Lr
open PySem PySem.Spec PyProof.Rows L2
theorem lay_maps (l : List M4) : PyData.canLayAll0 ((l.map M4.l).map tupD) = true := by
  induction l with
  | nil => rfl
  | cons m l ih =>
    show (PyData.canLay0 (tupD m.l) && PyData.canLayAll0 ((l.map M4.l).map tupD)) = true
    rw [ih, Bool.and_true]
    exact lay_ints m.l
theorem depth_maps : ∀ l : List M4, PyData.depthAll ((l.map M4.l).map tupD) ≤ 2
  | [] => Nat.zero_le _
  | m :: l => by
    show max (tupD m.l).depth (PyData.depthAll ((l.map M4.l).map tupD)) ≤ 2
    have h1 := depth_maps l
    have h2 : (tupD m.l).depth ≤ 2 := by show PyData.depthAll (intsD m.l) + 1 ≤ 2; rw [depth0_ints]; decide
    omega
theorem shaped_maps (l : List M4) : SeqAt.shaped (mapsD l) = true := by
  unfold SeqAt.shaped
  rw [Bool.and_eq_true_iff]
  refine ⟨lay_maps l, decide_eq_true ?_⟩
  show PyData.depthAll ((l.map M4.l).map tupD) + 1 ≤ 64
  have := depth_maps l
  omega
theorem eqv_maps (l : List M4) : PyData.eqv (mapsD l) (mapsD l) = true := by
  show PyData.eqvAll ((l.map M4.l).map tupD) ((l.map M4.l).map tupD) = true
  induction l with
  | nil => rfl
  | cons m l ih =>
    show (PyData.eqv (tupD m.l) (tupD m.l) && PyData.eqvAll ((l.map M4.l).map tupD) ((l.map M4.l).map tupD)) = true
    rw [ih, eqv_tup, decide_eq_true rfl]
    rfl
theorem elm_is {D i j k : Nat} {q : Q4} (h : q ∈ elm D i j k) : q.a = q.c + (i + 1) ∧ q.d = q.b + (j + 1) ∧ q.c = k := by
  unfold elm at h
  split at h
  · rw [List.mem_singleton.mp h]
    exact ⟨rfl, rfl, rfl⟩
  · cases h
theorem elm_nodup (D i j k : Nat) : (elm D i j k).Nodup := by
  unfold elm
  split
  · exact List.nodup_cons.mpr ⟨List.not_mem_nil, List.nodup_nil⟩
  · exact List.nodup_nil
theorem elq_is {D i j : Nat} {q : Q4} (h : q ∈ elq D i j) : q.a = q.c + (i + 1) ∧ q.d = q.b + (j + 1) := by
  unfold elq at h
  obtain ⟨k, _, hk⟩ := List.mem_flatMap.mp h
  exact ⟨(elm_is hk).1, (elm_is hk).2.1⟩
theorem elp_is {D i : Nat} {q : Q4} (h : q ∈ elp D i) : q.a = q.c + (i + 1) := by
  unfold elp at h
  obtain ⟨k, _, hk⟩ := List.mem_flatMap.mp h
  exact (elq_is hk).1
theorem elq_nodup (D i j : Nat) : (elq D i j).Nodup :=
  flat_nodup (elm_nodup D i j) (fun k k' c hx hy => by
    have h1 := (elm_is hx).2.2
    have h2 := (elm_is hy).2.2
    omega)
theorem elp_nodup (D i : Nat) : (elp D i).Nodup :=
  flat_nodup (elq_nodup D i) (fun k k' c hx hy => by
    have h1 := (elq_is hx).2
    have h2 := (elq_is hy).2
    omega)
theorem lstd_nodup (D : Nat) : (lstd D).Nodup := by
  rw [lstd_eq]
  exact flat_nodup (elp_nodup D) (fun k k' c hx hy => by
    have h1 := elp_is hx
    have h2 := elp_is hy
    omega)
theorem q4_inj {q r : Q4} (h : q.m = r.m) : q = r := by
  obtain ⟨a, b, c, d⟩ := q
  obtain ⟨a', b', c', d'⟩ := r
  have h1 : (a : Int) = a' := congrArg M4.a h
  have h2 : (b : Int) = b' := congrArg M4.b h
  have h3 : (c : Int) = c' := congrArg M4.c h
  have h4 : (d : Int) = d' := congrArg M4.d h
  have e1 : a = a' := by omega
  have e2 : b = b' := by omega
  have e3 : c = c' := by omega
  have e4 : d = d' := by omega
  subst e1 e2 e3 e4
  rfl
theorem nodup_map {α β : Type} {f : α → β} (inj : ∀ x y, f x = f y → x = y) {l : List α} (h : l.Nodup) : (l.map f).Nodup := by
  unfold List.Nodup
  rw [List.pairwise_map]
  exact List.Pairwise.imp (fun {a b} n e => n (inj a b e)) h
theorem lsts_nodup (s : Bool) (D : Nat) : ((lsts s D).map Q4.m).Nodup := by
  refine nodup_map (fun _ _ => q4_inj) ?_
  unfold lsts
  refine List.Pairwise.filter _ ?_
  cases s
  · rw [if_neg (by decide)]
    refine nodup_map (fun x y e => ?_) (lstd_nodup D)
    have := congrArg Q4.swp e
    exact this
  · rw [if_pos rfl]
    exact lstd_nodup D
/-- all standings of a map, sorted, and the list of a size, sorted, are one -/
theorem stand_one {m : M4} (o : Okm m) (g : gl (out m).2.l = 1) {N : Nat} (fn : Fin (out m).2 N) {s : Bool} {D : Nat} (h1 : 1 ≤ D) (h12 : D ≤ 12) (de : m.det = sgnD s D) {l l' : List M4} (p : l.Perm (enm (out m).2 N)) (p' : l'.Perm ((lsts s D).map Q4.m))
    (w : l.Pairwise (fun x y => TS.code 20 x.l ≤ TS.code 20 y.l)) (w' : l'.Pairwise (fun x y => TS.code 20 x.l ≤ TS.code 20 y.l)) : l = l' := by
  obtain ⟨S0, L0, O0⟩ := out_ok o
  have lt0 := enm_ok o O0 N
  have gN := enm_gl o O0 g N
  have ok : ∀ x, x ∈ l ↔ Okr m x ∧ gl x.l = 1 := fun x => by
    rw [p.mem_iff]
    exact ⟨fun h => ⟨lt0.ok x h, gN x h⟩, fun h => all_come o O0 g fn h.1 h.2⟩
  have ok' : ∀ x, x ∈ l' ↔ Okr m x ∧ gl x.l = 1 := fun x => by
    rw [p'.mem_iff, List.mem_map]
    constructor
    · rintro ⟨q, hq, rfl⟩
      exact (lsts_mem h1 de).mp hq
    · rintro ⟨k, gx⟩
      obtain ⟨n1, n2, n3, n4⟩ := id k.nn
      have e : (⟨x.a.toNat, x.b.toNat, x.c.toNat, x.d.toNat⟩ : Q4).m = x := M4.ext (Int.toNat_of_nonneg n1) (Int.toNat_of_nonneg n2) (Int.toNat_of_nonneg n3) (Int.toNat_of_nonneg n4)
      exact ⟨⟨x.a.toNat, x.b.toNat, x.c.toNat, x.d.toNat⟩, (lsts_mem h1 de).mpr ⟨by rw [e]; exact k, by rw [e]; exact gx⟩, e⟩
  refine sorted_one (f := fun x => TS.code 20 x.l) (fun x hx y hy e => ?_) (p.nodup_iff.mpr lt0.nd) (p'.nodup_iff.mpr (lsts_nodup s D)) w w' (fun x => (ok x).trans (ok' x).symm)
  have kx := ((ok x).mp hx).1
  have ky := ((ok y).mp hy).1
  exact M4.l_inj (code_inj rfl (m_bd kx.nn (kx.le o) (by decide)) (m_bd ky.nn (ky.le o) (by decide)) e)
end Lr

set_option exponentiation.threshold 5000
namespace Lr
open PySem PySem.Spec PyProof.Rows L2
/-! machines of any kind -/
def rLenK (K : PySem.W.Frag) : List V → Hp → VK → Prop := fun xs H Q => ∃ p ys, xs = [V.ref p] ∧ (SqL K H p ys ∨ SqT K H p ys) ∧ Q (V.int (ys.length : Nat)) H
def Rw.to (y : Rw) (t : Bool) : List Bool × Nat := if t then (y.v, y.k) else (y.w, y.j)
def rowA (rs : List Rw) (s : Nat) : Rw := rs.getD s ⟨[], 0, [], 0, []⟩
def rdO (rs : List Rw) : Nat → List Bool → List Bool × Nat
  | s, [] => ([], s)
  | s, t :: x => (((rowA rs s).to t).1 ++ (rdO rs ((rowA rs s).to t).2 x).1, (rdO rs ((rowA rs s).to t).2 x).2)
structure OkR (rs : List Rw) : Prop where
  ne : 0 < rs.length
  ok : ∀ y ∈ rs, y.j < rs.length ∧ y.k < rs.length
def BdR (c : Nat) (rs : List Rw) : Prop := ∀ y ∈ rs, y.w.length ≤ c ∧ y.v.length ≤ c ∧ y.e.length ≤ c
theorem BdR.up {c d : Nat} {rs : List Rw} (h : BdR c rs) (l : c ≤ d) : BdR d rs := fun y hy => by
  obtain ⟨h1, h2, h3⟩ := h y hy
  exact ⟨by omega, by omega, by omega⟩
theorem rowA_get {rs : List Rw} {s : Nat} (h : s < rs.length) : rs[s]? = some (rowA rs s) := by
  unfold rowA
  rw [List.getElem?_eq_getElem h, List.getD_eq_getElem?_getD, List.getElem?_eq_getElem h]
  rfl
theorem rowA_mem {rs : List Rw} {s : Nat} (h : s < rs.length) : rowA rs s ∈ rs := List.mem_of_getElem? (rowA_get h)
theorem OkR.to {rs : List Rw} (o : OkR rs) {s : Nat} (h : s < rs.length) (t : Bool) : ((rowA rs s).to t).2 < rs.length := by
  obtain ⟨h1, h2⟩ := o.ok _ (rowA_mem h)
  cases t
  · exact h1
  · exact h2
theorem BdR.to {c : Nat} {rs : List Rw} (b : BdR c rs) {s : Nat} (h : s < rs.length) (t : Bool) : ((rowA rs s).to t).1.length ≤ c := by
  obtain ⟨h1, h2, _⟩ := b _ (rowA_mem h)
  cases t
  · exact h1
  · exact h2
theorem rdO_snoc (rs : List Rw) (x : List Bool) (t : Bool) : ∀ s, rdO rs s (x ++ [t]) = ((rdO rs s x).1 ++ ((rowA rs (rdO rs s x).2).to t).1, ((rowA rs (rdO rs s x).2).to t).2) := by
  induction x with
  | nil =>
    intro s
    show (((rowA rs s).to t).1 ++ [], ((rowA rs s).to t).2) = ([] ++ ((rowA rs s).to t).1, ((rowA rs s).to t).2)
    simp
  | cons u x ih =>
    intro s
    show (((rowA rs s).to u).1 ++ (rdO rs ((rowA rs s).to u).2 (x ++ [t])).1, (rdO rs ((rowA rs s).to u).2 (x ++ [t])).2) = _
    rw [ih]
    show (_, _) = ((((rowA rs s).to u).1 ++ (rdO rs ((rowA rs s).to u).2 x).1) ++ _, _)
    rw [List.append_assoc]
    rfl
theorem rdO_app (rs : List Rw) (y : List Bool) : ∀ (x : List Bool) (s : Nat), rdO rs s (x ++ y) = ((rdO rs s x).1 ++ (rdO rs (rdO rs s x).2 y).1, (rdO rs (rdO rs s x).2 y).2)
  | [], s => by
    show rdO rs s y = ([] ++ (rdO rs s y).1, (rdO rs s y).2)
    simp
  | u :: x, s => by
    show (((rowA rs s).to u).1 ++ (rdO rs ((rowA rs s).to u).2 (x ++ y)).1, (rdO rs ((rowA rs s).to u).2 (x ++ y)).2) = _
    rw [rdO_app rs y x]
    show (_, _) = ((((rowA rs s).to u).1 ++ (rdO rs ((rowA rs s).to u).2 x).1) ++ _, _)
    rw [List.append_assoc]
    rfl
theorem rdO_lt {rs : List Rw} (o : OkR rs) : ∀ (x : List Bool) {s : Nat}, s < rs.length → (rdO rs s x).2 < rs.length
  | [], _, h => h
  | t :: x, s, h => rdO_lt o x (o.to h t)
theorem rdO_len {rs : List Rw} {c : Nat} (o : OkR rs) (b : BdR c rs) : ∀ (x : List Bool) {s : Nat}, s < rs.length → (rdO rs s x).1.length ≤ c * x.length
  | [], _, _ => Nat.zero_le _
  | t :: x, s, h => by
    show (((rowA rs s).to t).1 ++ (rdO rs ((rowA rs s).to t).2 x).1).length ≤ c * (x.length + 1)
    rw [List.length_append, Nat.mul_succ]
    have := b.to h t
    have := rdO_len o b x (o.to h t)
    omega
/-- what a machine writes for a road -/
def rstO (rs : List Rw) (s : Nat) (x : List Bool) : List Bool := (rdO rs s x).1 ++ (rowA rs (rdO rs s x).2).e
def runO (f : List Bool) (rs : List Rw) (x : List Bool) : List Bool := f ++ rstO rs 0 x
theorem rstO_len {rs : List Rw} {c : Nat} (o : OkR rs) (b : BdR c rs) (x : List Bool) {s : Nat} (h : s < rs.length) : (rstO rs s x).length ≤ c * x.length + c := by
  unfold rstO
  rw [List.length_append]
  have := rdO_len o b x h
  have := (b _ (rowA_mem (rdO_lt o x h))).2.2
  omega
/-- a machine in the heap: its tuple at p, the list of its rows at q -/
structure MachA (H : Hp) (p q : Addr) (as : List Addr) (f : List Bool) (rs : List Rw) : Prop where
  hp : H p = some (.tup [.str (rd f), .ref q])
  hq : H q = some (.lst (as.map V.ref))
  rows : RowsL H as rs
theorem MachA.same {H H' : Hp} {p q : Addr} {as : List Addr} {f : List Bool} {rs : List Rw} (h : MachA H p q as f rs) (s : Same H H') : MachA H' p q as f rs := ⟨s _ _ h.hp, s _ _ h.hq, h.rows.up (.of s)⟩
theorem MachA.up {H H' : Hp} {p q : Addr} {as : List Addr} {f : List Bool} {rs : List Rw} (h : MachA H p q as f rs) (t : TupS H H') (e : H' q = H q) : MachA H' p q as f rs := ⟨t _ _ h.hp, by rw [e]; exact h.hq, h.rows.up t⟩
theorem RowsL.row {H : Hp} {as : List Addr} {rs : List Rw} (h : RowsL H as rs) {s : Nat} (l : s < rs.length) : ∃ a, as[s]? = some a ∧ RowAt H a (rowA rs s) := by
  have lt : s < as.length := by rw [h.1]; exact l
  exact ⟨as[s], List.getElem?_eq_getElem lt, h.2 s _ _ (List.getElem?_eq_getElem lt) (rowA_get l)⟩
theorem RowAt.to {H : Hp} {a : Addr} {y : Rw} (h : RowAt H a y) (t : Bool) : ∃ b : Addr, (∀ xs, H a = some (.tup xs) → xs[if t then 1 else 0]? = some (.ref b) ∧ xs.length = 3) ∧ H b = some (.tup [.str (rd (y.to t).1), .int ((y.to t).2 : Nat)]) := by
  obtain ⟨b, c, h1, h2, h3⟩ := h
  cases t
  · exact ⟨b, fun xs e => by rw [h1] at e; cases e; exact ⟨rfl, rfl⟩, h2⟩
  · exact ⟨c, fun xs e => by rw [h1] at e; cases e; exact ⟨rfl, rfl⟩, h3⟩
theorem lay_row (y : Rw) : PyData.canLay0 (rowD y) = true := by
  simp [rowD, PyData.canLay0, PyData.canLayAll0, str_ok (rd_sok y.w), str_ok (rd_sok y.v), str_ok (rd_sok y.e)]
theorem lay_rows : ∀ rs : List Rw, PyData.canLayAll0 (rs.map rowD) = true ∧ PyData.depthAll (rs.map rowD) ≤ 2
  | [] => ⟨rfl, Nat.zero_le _⟩
  | y :: rs => by
    obtain ⟨h1, h2⟩ := lay_rows rs
    constructor
    · show (PyData.canLay0 (rowD y) && PyData.canLayAll0 (rs.map rowD)) = true
      rw [lay_row, h1]
      rfl
    · show max (rowD y).depth (PyData.depthAll (rs.map rowD)) ≤ 2
      have : (rowD y).depth ≤ 2 := by show max (max 0 (max 0 0) + 1) (max (max 0 (max 0 0) + 1) (max 0 0)) + 1 ≤ 2; decide
      omega
theorem shaped_rows (rs : List Rw) : SeqAt.shaped (.list (rs.map rowD)) = true := by
  unfold SeqAt.shaped
  rw [Bool.and_eq_true_iff]
  refine ⟨(lay_rows rs).1, decide_eq_true ?_⟩
  show PyData.depthAll (rs.map rowD) + 1 ≤ 64
  have := (lay_rows rs).2
  omega
theorem shaped_mach (f : List Bool) (rs : List Rw) : SeqAt.shaped (machD f rs) = true := by
  unfold SeqAt.shaped
  rw [Bool.and_eq_true_iff]
  constructor
  · show (PyData.strOk (rd f) && (PyData.canLayAll0 (rs.map rowD) && true)) = true
    rw [str_ok (rd_sok f), (lay_rows rs).1]
    rfl
  · refine decide_eq_true ?_
    show max 0 (max (PyData.depthAll (rs.map rowD) + 1) 0) + 1 ≤ 64
    have := (lay_rows rs).2
    omega
theorem eqv_row (y : Rw) : PyData.eqv (rowD y) (rowD y) = true := by
  show (((rd y.w == rd y.w) && ((PyData.eqv (.int (y.j : Nat)) (.int (y.j : Nat))) && true)) && (((rd y.v == rd y.v) && ((PyData.eqv (.int (y.k : Nat)) (.int (y.k : Nat))) && true)) && ((rd y.e == rd y.e) && true))) = true
  simp [PyData.eqv]
theorem eqv_rows (rs : List Rw) : PyData.eqvAll (rs.map rowD) (rs.map rowD) = true := by
  induction rs with
  | nil => rfl
  | cons y rs ih =>
    show (PyData.eqv (rowD y) (rowD y) && PyData.eqvAll (rs.map rowD) (rs.map rowD)) = true
    rw [eqv_row, ih]
    rfl
theorem eqv_mach (f : List Bool) (rs : List Rw) : PyData.eqv (machD f rs) (machD f rs) = true := by
  show ((rd f == rd f) && (PyData.eqvAll (rs.map rowD) (rs.map rowD) && true)) = true
  rw [eqv_rows]
  simp
theorem eqv_rows_nil {rs : List Rw} (h : 0 < rs.length) : PyData.eqv (.list (rs.map rowD)) (.list []) = false := by
  cases rs with
  | nil => simp at h
  | cons y rs => rfl
theorem MachA.dp {K : PySem.W.Frag} {H : Hp} {p q : Addr} {as : List Addr} {f : List Bool} {rs : List Rw} (h : MachA H p q as f rs) : Dp K H (.ref p) (machD f rs) := mach_dp h.hp h.hq h.rows
theorem find_LR (t : Bool) : Txt.find ("LR" : Str) (rd [t]) = ((if t then 1 else 0 : Nat) : Int) := by cases t <;> decide +kernel
theorem flat1 (w : List Bool) : (w.map (fun t => [t])).flatten = w := by
  induction w with
  | nil => rfl
  | cons t w ih =>
    show [t] ++ (w.map (fun t => [t])).flatten = _
    rw [ih]
    rfl
theorem occ_LR (t : Bool) : Builtin.Str.occurrences ("LR" : Str) (rd [t]) 0 (("LR" : Str)).length 1 = [if t then 1 else 0] := by cases t <;> decide +kernel
/-- the pieces of a drawn road -/
def pcs0 : List V := [.str (rd [false]), .str (rd [true])]
def pcs1 : List V := [.str (rd [false]), .str (rd [true]), .str (rd [false, false, false, false]), .str (rd [true, true, true, true, true]), .str (rd [false, true]), .str (rd [true, false])]
theorem pcs_eq : [V.str "L", .str "R"] = pcs0 ∧ [V.str "L", .str "R", .str "LLLL", .str "RRRRR", .str "LR", .str "RL"] = pcs1 := by
  constructor <;> decide +kernel
theorem pcs_at {xs : List V} (h : xs = pcs0 ∨ xs = pcs1) {r : Int} (h0 : 0 ≤ r) (h1 : r < (xs.length : Nat)) : ∃ u : List Bool, u.length ≤ 5 ∧ atI xs r = some (.str (rd u)) := by
  obtain ⟨j, rfl⟩ := nat_of h0
  rcases h with rfl | rfl
  · have hj : j < 2 := by have : (pcs0.length : Nat) = 2 := rfl; omega
    match j, hj with
    | 0, _ => exact ⟨[false], by decide, rfl⟩
    | 1, _ => exact ⟨[true], by decide, rfl⟩
  · have hj : j < 6 := by have : (pcs1.length : Nat) = 6 := rfl; omega
    match j, hj with
    | 0, _ => exact ⟨[false], by decide, rfl⟩
    | 1, _ => exact ⟨[true], by decide, rfl⟩
    | 2, _ => exact ⟨[false, false, false, false], by decide, rfl⟩
    | 3, _ => exact ⟨[true, true, true, true, true], by decide, rfl⟩
    | 4, _ => exact ⟨[false, true], by decide, rfl⟩
    | 5, _ => exact ⟨[true, false], by decide, rfl⟩
end Lr

set_option exponentiation.threshold 5000
namespace Lr
open PySem PySem.Spec PyProof.Rows L2
/-! drawn machines -/
/-- a list at R of rows, and the purse -/
structure BQ (H : Hp) (a R : Addr) (as : List Addr) (rs : List Rw) (n : Nat) (H' : Hp) : Prop where
  r : H' R = some (.lst (as.map V.ref))
  rows : RowsL H' as rs
  pu : Pu H' a n
  kp : Kp a H H'
  ne : R ≠ a
theorem BQ.le {H H' : Hp} {a R : Addr} {as : List Addr} {rs : List Rw} {n m : Nat} (h : BQ H a R as rs n H') (l : n ≤ m) : BQ H a R as rs m H' := ⟨h.r, h.rows, h.pu.le l, h.kp, h.ne⟩
theorem BQ.same {H H1 H2 : Hp} {a R : Addr} {as : List Addr} {rs : List Rw} {n : Nat} (h : BQ H a R as rs n H1) (s : Same H1 H2) : BQ H a R as rs n H2 := ⟨s _ _ h.r, h.rows.up (.of s), h.pu.same s, h.kp.trans (Kp.of s), h.ne⟩
theorem BQ.on {H H1 H2 : Hp} {a R : Addr} {as : List Addr} {rs : List Rw} {n m : Nat} (h : BQ H a R as rs n H1) (k : Kp a H1 H2) (p : Pu H2 a m) : BQ H a R as rs m H2 := ⟨k _ _ h.ne h.r, h.rows.up (TupS.kp h.pu k), p, h.kp.trans k, h.ne⟩
/-- a list that was not there before is written -/
theorem BQ.upd {H H1 : Hp} {a R D : Addr} {as : List Addr} {rs : List Rw} {n : Nat} {xs ys : List V} (h : BQ H a R as rs n H1) (e : H1 D = some (.lst xs)) (nR : D ≠ R) (na : D ≠ a) (h0 : H D = none) : BQ H a R as rs n (L2.upd H1 D (.lst ys)) :=
  ⟨by rw [upd_ne (Ne.symm nR)]; exact h.r, h.rows.up (TupS.lst e), h.pu.upd (Ne.symm na), h.kp.upd' h0, h.ne⟩
theorem BQ.free {H H1 : Hp} {a R D : Addr} {as : List Addr} {rs : List Rw} {n : Nat} (h : BQ H a R as rs n H1) (e : H1 D = none) : H D = none ∧ D ≠ R ∧ D ≠ a := ⟨h.kp.free h.pu e, Ne.symm (ne_of_none h.r e), fun z => (h.pu.ne e) z.symm⟩
/-- a list of texts -/
def TxL (H : Hp) (X : Addr) (c : Nat) (ts : List (List Bool)) : Prop := H X = some (.lst ((ts.map rd).map V.str)) ∧ ∀ t ∈ ts, t.length ≤ c
theorem TxL.same {H H' : Hp} {X : Addr} {c : Nat} {ts : List (List Bool)} (h : TxL H X c ts) (s : Same H H') : TxL H' X c ts := ⟨s _ _ h.1, h.2⟩
theorem TxL.kp {H H' : Hp} {X a : Addr} {c : Nat} {ts : List (List Bool)} (h : TxL H X c ts) (ne : X ≠ a) (k : Kp a H H') : TxL H' X c ts := ⟨k _ _ ne h.1, h.2⟩
theorem TxL.at_ {H : Hp} {X : Addr} {c : Nat} {ts : List (List Bool)} (h : TxL H X c ts) {i : Nat} {t : List Bool} (e : ts[i]? = some t) : ((ts.map rd).map V.str)[i]? = some (.str (rd t)) ∧ t.length ≤ c := ⟨by rw [List.getElem?_map, List.getElem?_map, e]; rfl, h.2 t (List.mem_of_getElem? e)⟩
theorem TxL.lst {H : Hp} {X D : Addr} {c : Nat} {ts : List (List Bool)} (h : TxL H X c ts) (o : HO) (ne : X ≠ D) : TxL (L2.upd H D o) X c ts := ⟨by rw [upd_ne ne]; exact h.1, h.2⟩
theorem len3 {ts : List (List Bool)} (h : ts.length = 3) : ∃ u v e, ts = [u, v, e] := by
  match ts, h with
  | [u, v, e], _ => exact ⟨u, v, e, rfl⟩
theorem rep01 (w : List Bool) {n : Int} (h : n = 0 ∨ n = 1) : ∃ u, repT (rd w) n = rd u ∧ u.length ≤ w.length := by
  refine ⟨repR w n.toNat, rep_rd w n, ?_⟩
  rw [repR_len]
  rcases h with rfl | rfl
  · simp
  · simp
theorem shwF_rd {w : List Bool} (h : w.length ≤ 400000) : ShwF (.str (rd w)) := by
  have lv : PyData.leavesShort 20 (.str (rd w)) = true := by
    show ((rd w).cps.toList.all fun c => decide (c < 16 ^ 8)) = true
    rw [rd_cps, List.all_map, List.all_eq_true]
    intro t _
    cases t <;> decide
  have bk : PyData.bulk (.str (rd w)) ≤ 400000 := by
    show (rd w).cps.size ≤ 400000
    exact Nat.le_trans (Nat.le_of_eq (rd_len w)) h
  refine ⟨rfl, rfl, by show (0 : Nat) ≤ 60; omega, ?_⟩
  have z := PyData.shown_le_bulk 20 (by decide) _ lv
  have e : sizeLine = 16777216 := by decide
  omega
theorem rws_ok {m r0 : M4} (o : Okm m) (O0 : Okr m r0) {N : Nat} (fn : Fin r0 N) {rs : List Rw} (h : Rws (enm r0 N) rs) (l : rs.length = N) : OkR rs ∧ BdR 48 rs := by
  have lt0 := enm_ok o O0 N
  have n0 : 0 < N := by
    have e := fn.eq
    refine Nat.pos_of_ne_zero fun z => ?_
    subst z
    have : (enm r0 0).length = 1 := rfl
    omega
  refine ⟨⟨by omega, fun y hy => ?_⟩, fun y hy => ?_⟩
  · obtain ⟨i, hi⟩ := List.getElem?_of_mem hy
    obtain ⟨r, hr, k⟩ := h.at_ i y hi
    have h1 := (List.getElem?_eq_some_iff.mp k.j).1
    have h2 := (List.getElem?_eq_some_iff.mp k.k).1
    rw [fn.eq] at h1 h2
    exact ⟨by omega, by omega⟩
  · obtain ⟨i, hi⟩ := List.getElem?_of_mem hy
    obtain ⟨r, hr, k⟩ := h.at_ i y hi
    have Or := lt0.ok r (List.mem_of_getElem? hr)
    obtain ⟨e, he, le⟩ := end_ex Or.nn (by rw [Or.de]; exact o.d0) (Or.le o)
    have ee := k.e.one he
    refine ⟨by rw [k.w]; exact (read1 o Or false).2.1, by rw [k.v]; exact (read1 o Or true).2.1, by rw [ee]; exact le⟩
theorem RowsL.set {H : Hp} {as : List Addr} {rs : List Rw} {i : Nat} {a : Addr} {y : Rw} (h : RowsL H as rs) (e : RowAt H a y) : RowsL H (as.set i a) (rs.set i y) := by
  refine ⟨by rw [List.length_set, List.length_set, h.1], fun k b x hb hx => ?_⟩
  by_cases c : i = k
  · subst c
    rw [List.getElem?_set_self' ] at hb hx
    cases eb : as[i]? with
    | none => rw [eb] at hb; cases hb
    | some b' =>
      cases ex : rs[i]? with
      | none => rw [ex] at hx; cases hx
      | some x' =>
        rw [eb] at hb
        rw [ex] at hx
        cases hb
        cases hx
        exact e
  · rw [List.getElem?_set_ne c] at hb hx
    exact h.2 k b x hb hx
theorem MachA.set {H : Hp} {p q : Addr} {as : List Addr} {f : List Bool} {rs : List Rw} {a : Addr} {y : Rw} (m : MachA H p q as f rs) (e : RowAt H a y) (i : Nat) : MachA (L2.upd H q (.lst ((as.map V.ref).set i (.ref a)))) p q (as.set i a) f (rs.set i y) := by
  have t := TupS.lst (o := .lst ((as.map V.ref).set i (.ref a))) m.hq
  exact ⟨t _ _ m.hp, by rw [upd_same, List.map_set], (m.rows.set e).up t⟩
theorem MachA.push {H : Hp} {p q : Addr} {as : List Addr} {f : List Bool} {rs : List Rw} {a : Addr} {y : Rw} (m : MachA H p q as f rs) (e : RowAt H a y) : MachA (L2.upd H q (.lst (as.map V.ref ++ [.ref a]))) p q (as ++ [a]) f (rs ++ [y]) := by
  have t := TupS.lst (o := .lst (as.map V.ref ++ [.ref a])) m.hq
  exact ⟨t _ _ m.hp, by rw [upd_same]; simp, (m.rows.snoc e).up t⟩
theorem MachA.off {H : Hp} {p q r : Addr} {as : List Addr} {f : List Bool} {rs : List Rw} {xs ys : List V} (m : MachA H p q as f rs) (hr : H r = some (.lst xs)) (ne : q ≠ r) : MachA (L2.upd H r (.lst ys)) p q as f rs := m.up (TupS.lst hr) (upd_ne ne)
theorem MachA.kp {H H' : Hp} {p q a : Addr} {as : List Addr} {f : List Bool} {rs : List Rw} {n : Nat} (m : MachA H p q as f rs) (hp : Pu H a n) (k : Kp a H H') : MachA H' p q as f rs := by
  refine m.up (TupS.kp hp k) ?_
  rw [k _ _ (fun z => ?_) m.hq, m.hq]
  have e := m.hq
  rw [z] at e
  obtain ⟨_, _, _, h1, _⟩ := hp
  rw [h1] at e
  have e := congrArg (fun o => match o with | some (HO.lst xs) => xs | _ => []) e
  have e : [V.int _, V.int _, V.int _] = as.map V.ref := e
  cases as with
  | nil => cases e
  | cons b as => cases e
theorem MachA.ne {H : Hp} {p q a : Addr} {as : List Addr} {f : List Bool} {rs : List Rw} {n : Nat} (m : MachA H p q as f rs) (hp : Pu H a n) : q ≠ a := fun z => by
  have e := m.hq
  rw [z] at e
  obtain ⟨_, _, _, h1, _⟩ := hp
  rw [h1] at e
  have e := congrArg (fun o => match o with | some (HO.lst xs) => xs | _ => []) e
  have e : [V.int _, V.int _, V.int _] = as.map V.ref := e
  cases as with
  | nil => cases e
  | cons b as => cases e
theorem okr_set {rs : List Rw} (o : OkR rs) {y : Rw} (hj : y.j < rs.length) (hk : y.k < rs.length) (i : Nat) : OkR (rs.set i y) := by
  refine ⟨by rw [List.length_set]; exact o.ne, fun x hx => ?_⟩
  rw [List.length_set]
  rcases List.mem_or_eq_of_mem_set hx with h | h
  · exact o.ok x h
  · rw [h]
    exact ⟨hj, hk⟩
theorem okr_push {rs : List Rw} (o : OkR rs) {y : Rw} (hj : y.j < rs.length + 1) (hk : y.k < rs.length + 1) : OkR (rs ++ [y]) := by
  refine ⟨by rw [List.length_append]; have := o.ne; omega, fun x hx => ?_⟩
  rw [List.length_append]
  rcases List.mem_append.mp hx with h | h
  · obtain ⟨h1, h2⟩ := o.ok x h
    exact ⟨Nat.lt_succ_of_lt h1, Nat.lt_succ_of_lt h2⟩
  · rw [List.mem_singleton.mp h]
    exact ⟨hj, hk⟩
theorem bdr_set {c : Nat} {rs : List Rw} (b : BdR c rs) {y : Rw} (h : y.w.length ≤ c ∧ y.v.length ≤ c ∧ y.e.length ≤ c) (i : Nat) : BdR c (rs.set i y) := fun x hx => by
  rcases List.mem_or_eq_of_mem_set hx with z | z
  · exact b x z
  · rw [z]
    exact h
theorem bdr_push {c : Nat} {rs : List Rw} (b : BdR c rs) {y : Rw} (h : y.w.length ≤ c ∧ y.v.length ≤ c ∧ y.e.length ≤ c) : BdR c (rs ++ [y]) := fun x hx => by
  rcases List.mem_append.mp hx with z | z
  · exact b x z
  · rw [List.mem_singleton.mp z]
    exact h
/-- a row newly laid -/
theorem row_new {H : Hp} {b c a : Addr} {y : Rw} (nb : H b = none) (nc : L2.upd H b (.tup [.str (rd y.w), .int (y.j : Nat)]) c = none) (na : L2.upd (L2.upd H b (.tup [.str (rd y.w), .int (y.j : Nat)])) c (.tup [.str (rd y.v), .int (y.k : Nat)]) a = none) :
    Same H (L2.upd (L2.upd (L2.upd H b (.tup [.str (rd y.w), .int (y.j : Nat)])) c (.tup [.str (rd y.v), .int (y.k : Nat)])) a (.tup [.ref b, .ref c, .str (rd y.e)])) ∧ RowAt (L2.upd (L2.upd (L2.upd H b (.tup [.str (rd y.w), .int (y.j : Nat)])) c (.tup [.str (rd y.v), .int (y.k : Nat)])) a (.tup [.ref b, .ref c, .str (rd y.e)])) a y := by
  have s1 := (L2.Same.refl H).new (o := .tup [.str (rd y.w), .int (y.j : Nat)]) nb
  have s2 := (L2.Same.refl (L2.upd H b (.tup [.str (rd y.w), .int (y.j : Nat)]))).new (o := .tup [.str (rd y.v), .int (y.k : Nat)]) nc
  have s3 := (L2.Same.refl (L2.upd (L2.upd H b (.tup [.str (rd y.w), .int (y.j : Nat)])) c (.tup [.str (rd y.v), .int (y.k : Nat)]))).new (o := .tup [.ref b, .ref c, .str (rd y.e)]) na
  exact ⟨(s1.trans s2).trans s3, b, c, upd_same, s3 _ _ (s2 _ _ upd_same), s3 _ _ upd_same⟩
theorem ixn_nat {n j : Nat} (h : j < n) : ixN n (j : Int) = some j := by
  unfold ixN
  rw [if_pos (by omega), if_pos (by omega)]
  simp
end Lr

set_option exponentiation.threshold 5000
namespace Lr
open PySem PySem.Spec PyProof.Rows L2
/-! a ring read again and again -/
def sgO (rs : List Rw) (s : Nat) (w : List Bool) : Nat → Nat
  | 0 => s
  | i + 1 => (rdO rs (sgO rs s w i) w).2
def wgO (rs : List Rw) (s : Nat) (w : List Bool) (i : Nat) : List Bool := (rdO rs (sgO rs s w i) w).1
def wlO (rs : List Rw) (s : Nat) (w : List Bool) (n : Nat) : List (List Bool) := (List.range n).map (wgO rs s w)
theorem wlO_succ (rs : List Rw) (s : Nat) (w : List Bool) (n : Nat) : wlO rs s w (n + 1) = wlO rs s w n ++ [wgO rs s w n] := by
  unfold wlO
  rw [List.range_succ, List.map_append]
  rfl
theorem wlO_len (rs : List Rw) (s : Nat) (w : List Bool) (n : Nat) : (wlO rs s w n).length = n := by
  unfold wlO
  rw [List.length_map, List.length_range]
theorem wlO_take (rs : List Rw) (s : Nat) (w : List Bool) {j n : Nat} (h : j ≤ n) : (wlO rs s w n).take j = wlO rs s w j := by
  unfold wlO
  rw [← List.map_take, List.take_range, Nat.min_eq_left h]
theorem sgO_lt {rs : List Rw} (o : OkR rs) {s : Nat} (h : s < rs.length) (w : List Bool) : ∀ i, sgO rs s w i < rs.length
  | 0 => h
  | i + 1 => rdO_lt o w (sgO_lt o h w i)
theorem wgO_len {rs : List Rw} {c : Nat} (o : OkR rs) (b : BdR c rs) {s : Nat} (h : s < rs.length) (w : List Bool) (i : Nat) : (wgO rs s w i).length ≤ c * w.length := rdO_len o b w (sgO_lt o h w i)
theorem flat_le {l : List (List Bool)} {c : Nat} (h : ∀ x ∈ l, x.length ≤ c) : l.flatten.length ≤ l.length * c := by
  induction l with
  | nil => simp
  | cons x l ih =>
    rw [List.flatten_cons, List.length_append, List.length_cons, Nat.succ_mul]
    have := h x List.mem_cons_self
    have := ih fun y hy => h y (List.mem_cons_of_mem _ hy)
    omega
theorem wlO_size {rs : List Rw} {c : Nat} (o : OkR rs) (b : BdR c rs) {s : Nat} (h : s < rs.length) (w : List Bool) (n : Nat) : (wlO rs s w n).flatten.length ≤ n * (c * w.length) := by
  have z := flat_le (l := wlO rs s w n) (c := c * w.length) fun x hx => by
    unfold wlO at hx
    obtain ⟨i, _, rfl⟩ := List.mem_map.mp hx
    exact wgO_len o b h w i
  rw [wlO_len] at z
  exact z
/-- where a state comes again for the first time -/
structure FsN (R : Nat → Nat) (n j : Nat) : Prop where
  lt : j < n
  eq : R n = R j
  no : ∀ b, b < n → ∀ a, a < b → R b ≠ R a
theorem pigeon : ∀ (N : Nat) (R : Nat → Nat), (∀ i, i ≤ N → R i < N) → ∃ k, k ≤ N ∧ ∃ j, j < k ∧ R k = R j
  | 0, R, h => absurd (h 0 (Nat.le_refl _)) (Nat.not_lt_zero _)
  | N + 1, R, h => by
    -- the value at N + 1 taken out
    by_cases c : ∃ j, j < N + 1 ∧ R (N + 1) = R j
    · exact ⟨N + 1, Nat.le_refl _, c⟩
    · have ne : ∀ j, j < N + 1 → R (N + 1) ≠ R j := fun j hj e => c ⟨j, hj, e⟩
      obtain ⟨k, hk, j, hj, e⟩ := pigeon N (fun i => if R i < R (N + 1) then R i else R i - 1) (fun i hi => by
        have h1 := h i (by omega)
        have h2 := h (N + 1) (Nat.le_refl _)
        have h3 := ne i (by omega)
        show (if R i < R (N + 1) then R i else R i - 1) < N
        split <;> omega)
      refine ⟨k, by omega, j, hj, ?_⟩
      have e : (if R k < R (N + 1) then R k else R k - 1) = (if R j < R (N + 1) then R j else R j - 1) := e
      have n1 := ne k (by omega)
      have n2 := ne j (by omega)
      split at e <;> split at e <;> omega
theorem fsN_ex {N : Nat} {R : Nat → Nat} (h : ∀ i, R i < N) : ∃ n j, n ≤ N ∧ FsN R n j := by
  obtain ⟨k, hk, j0, hj0, e0⟩ := pigeon N R fun i _ => h i
  obtain ⟨n, ⟨j, hj, e⟩, no⟩ := first_ex (p := fun n => ∃ j, j < n ∧ R n = R j) ⟨k, j0, hj0, e0⟩
  refine ⟨n, j, ?_, hj, e, fun b hb a ha z => no b hb ⟨a, ha, z⟩⟩
  exact Nat.le_trans (Nat.not_lt.mp fun z => no k z ⟨j0, hj0, e0⟩) hk
/-- keys that are integers -/
def ky (i : Nat) : Key := .inl (i : Nat)
theorem ky_inj {i j : Nat} (h : ky i = ky j) : i = j := by
  unfold ky at h
  injection h with h
  omega
theorem keyN_put {kvs : List (Key × V)} {R : Nat → Nat} {L : Nat → V} {i : Nat} (h1 : ∀ a, a < i → valV kvs (ky (R a)) = some (L a)) (h2 : ∀ r : Nat, (∀ a, a < i → R a ≠ r) → valV kvs (ky r) = none) (n : ∀ a, a < i → R a ≠ R i) :
    (putK kvs (ky (R i)) (L i)).length = kvs.length + 1 ∧ (∀ a, a < i + 1 → valV (putK kvs (ky (R i)) (L i)) (ky (R a)) = some (L a)) ∧ ∀ r : Nat, (∀ a, a < i + 1 → R a ≠ r) → valV (putK kvs (ky (R i)) (L i)) (ky r) = none := by
  have e := h2 (R i) n
  refine ⟨by rw [putK_new _ e, List.length_append]; rfl, fun a ha => ?_, fun r hr => ?_⟩
  · rw [valV_put]
    by_cases z : a = i
    · rw [z, if_pos rfl]
    · rw [if_neg (fun y => n a (by omega) (ky_inj y))]
      exact h1 a (by omega)
  · rw [valV_put, if_neg (fun y => hr i (by omega) (ky_inj y).symm)]
    exact h2 r fun a ha => hr a (by omega)
theorem keyN_some {kvs : List (Key × V)} {R : Nat → Nat} {i r : Nat} (h2 : ∀ r : Nat, (∀ a, a < i → R a ≠ r) → valV kvs (ky r) = none) (h : (valV kvs (ky r)).isSome = true) : ∃ a, a < i ∧ R a = r := by
  refine Classical.byContradiction fun z => ?_
  rw [h2 r fun a ha e => z ⟨a, ha, e⟩] at h
  cases h
theorem DGet.n {H : Hp} {a : Addr} {kvs : List (Key × V)} (e : H a = some (.dK kvs)) (r : Nat) : DGet H a (.int (r : Nat)) (valV kvs (ky r)) := DGet.k (k := ky r) e
theorem DPut.n {H : Hp} {a : Addr} {kvs : List (Key × V)} {v : V} (e : H a = some (.dK kvs)) (hl : kvs.length < sizeLine) (r : Nat) : DPut H a (.int (r : Nat)) v (L2.upd H a (.dK (putK kvs (ky r) v))) := DPut.k (k := ky r) e hl
theorem TupS.dK {H : Hp} {a : Addr} {xs : List (Key × V)} {o : HO} (h : H a = some (.dK xs)) : TupS H (L2.upd H a o) := fun b ys e => by
  rw [upd_ne (fun z => by rw [z, h] at e; cases e)]
  exact e
/-! what is written for a course -/
theorem sgO_per {rs : List Rw} {s : Nat} {w : List Bool} {n j : Nat} (h : sgO rs s w n = sgO rs s w j) : ∀ k, sgO rs s w (n + k) = sgO rs s w (j + k)
  | 0 => h
  | k + 1 => by
    show (rdO rs (sgO rs s w (n + k)) w).2 = (rdO rs (sgO rs s w (j + k)) w).2
    rw [sgO_per h k]
theorem wgO_per {rs : List Rw} {s : Nat} {w : List Bool} {n j : Nat} (h : sgO rs s w n = sgO rs s w j) (k : Nat) : wgO rs s w (n + k) = wgO rs s w (j + k) := by
  unfold wgO
  rw [sgO_per h k]
theorem rdO_rep (rs : List Rw) (s : Nat) (w : List Bool) : ∀ n, rdO rs s (repR w n) = ((wlO rs s w n).flatten, sgO rs s w n)
  | 0 => rfl
  | n + 1 => by
    have e : repR w (n + 1) = repR w n ++ w := by
      unfold repR
      rw [List.replicate_succ', List.flatten_append]
      simp
    rw [e, rdO_app, rdO_rep rs s w n, wlO_succ, List.flatten_append]
    show (_ ++ wgO rs s w n, _) = _
    simp
    rfl
theorem wlO_round {rs : List Rw} {s : Nat} {w : List Bool} {n j : Nat} (lt : j < n) (h : sgO rs s w n = sgO rs s w j) : ∀ a, (wlO rs s w (j + a * (n - j))).flatten = (wlO rs s w j).flatten ++ repR ((wlO rs s w n).drop j).flatten a
  | 0 => by
    rw [Nat.zero_mul]
    show _ = _ ++ []
    rw [List.append_nil]
    rfl
  | a + 1 => by
    have e1 : wlO rs s w (j + (a + 1) * (n - j)) = wlO rs s w (j + a * (n - j)) ++ (wlO rs s w n).drop j := by
      refine List.ext_getElem? fun i => ?_
      have k : (a + 1) * (n - j) = a * (n - j) + (n - j) := Nat.succ_mul _ _
      have per : ∀ b x, wgO rs s w (j + b * (n - j) + x) = wgO rs s w (j + x) := fun b => by
        induction b with
        | zero => intro x; rw [Nat.zero_mul]; rfl
        | succ b ih =>
          intro x
          have e2 : j + (b + 1) * (n - j) + x = n + (b * (n - j) + x) := by
            rw [Nat.succ_mul]
            omega
          rw [e2, wgO_per h]
          have e3 : j + (b * (n - j) + x) = j + b * (n - j) + x := by omega
          rw [e3, ih]
      by_cases c : i < j + a * (n - j)
      · rw [List.getElem?_append_left (by rw [wlO_len]; exact c)]
        unfold wlO
        rw [List.getElem?_map, List.getElem?_map, List.getElem?_range (by omega), List.getElem?_range c]
      · rw [List.getElem?_append_right (by rw [wlO_len]; omega), wlO_len, List.getElem?_drop]
        by_cases d : i < j + (a + 1) * (n - j)
        · unfold wlO
          rw [List.getElem?_map, List.getElem?_map, List.getElem?_range d, List.getElem?_range (by omega)]
          show some (wgO rs s w i) = some (wgO rs s w (j + (i - (j + a * (n - j)))))
          have := per a (i - (j + a * (n - j)))
          rw [← this, show j + a * (n - j) + (i - (j + a * (n - j))) = i by omega]
        · rw [List.getElem?_eq_none (by rw [wlO_len]; omega), List.getElem?_eq_none (by rw [wlO_len]; omega)]
    have e8 : repR ((wlO rs s w n).drop j).flatten (a + 1) = repR ((wlO rs s w n).drop j).flatten a ++ ((wlO rs s w n).drop j).flatten := by
      unfold repR
      rw [List.replicate_succ', List.flatten_append]
      simp
    rw [e1, List.flatten_append, wlO_round lt h a, e8, List.append_assoc]
/-- so many turns of a course -/
theorem long_eq {F R x : List Bool} {c : List Bool × List Bool} {a : Nat} (hc : Lw F R c) (hR : R ≠ []) (c2 : c.2 ≠ []) {y : List Bool} (ht : x ++ y = F ++ repR R a) : (c.1 ++ repR c.2 (x.length / c.2.length + 1)).take x.length = x := by
  have l2 : 0 < c.2.length := List.length_pos_iff.mpr c2
  have big : x.length < c.1.length + (x.length / c.2.length + 1) * c.2.length := by
    have := Nat.div_add_mod x.length c.2.length
    have := Nat.mod_lt x.length l2
    rw [Nat.succ_mul, Nat.mul_comm]
    omega
  have e := hc.sq
  refine List.ext_getElem? fun i => ?_
  by_cases h : i < x.length
  · rw [List.getElem?_take_of_lt h, sq_any (by omega), e]
    have h1 : (x ++ y)[i]? = x[i]? := List.getElem?_append_left h
    rw [← h1, ht]
    have lx : x.length ≤ F.length + a * R.length := by
      have := congrArg List.length ht
      rw [List.length_append, List.length_append, repR_len] at this
      omega
    rw [sq_any (by omega)]
  · rw [List.getElem?_eq_none (by rw [List.length_take]; omega), List.getElem?_eq_none (by omega)]
end Lr

set_option exponentiation.threshold 5000
namespace Lr
open PySem PySem.Spec PyProof.Rows L2
/-! all that a machine writes for a course -/
def gO (f : List Bool) (rs : List Rw) (u w : List Bool) (k : Nat) : List Bool := f ++ (rdO rs 0 (u ++ repR w k)).1
theorem repR_add (w : List Bool) (a b : Nat) : repR w (a + b) = repR w a ++ repR w b := by
  unfold repR
  rw [← List.replicate_append_replicate, List.flatten_append]
theorem gO_add (f : List Bool) (rs : List Rw) (u w : List Bool) (k m : Nat) : ∃ x, gO f rs u w (k + m) = gO f rs u w k ++ x := by
  refine ⟨(rdO rs (rdO rs 0 (u ++ repR w k)).2 (repR w m)).1, ?_⟩
  unfold gO
  rw [repR_add, ← List.append_assoc u, rdO_app, List.append_assoc]
theorem gO_step (f : List Bool) (rs : List Rw) (u w : List Bool) (k : Nat) : gO f rs (u ++ w) w k = gO f rs u w (k + 1) := by
  unfold gO
  rw [Nat.add_comm k 1, repR_add, show repR w 1 = w by unfold repR; simp, List.append_assoc]
/-- what stands ahead, and the ring -/
def hdO (f : List Bool) (rs : List Rw) (u w : List Bool) (j : Nat) : List Bool := f ++ (rdO rs 0 u).1 ++ (wlO rs (rdO rs 0 u).2 w j).flatten
def rgO (rs : List Rw) (u w : List Bool) (n j : Nat) : List Bool := ((wlO rs (rdO rs 0 u).2 w n).drop j).flatten
theorem gO_round {f : List Bool} {rs : List Rw} {u w : List Bool} {n j : Nat} (h : FsN (sgO rs (rdO rs 0 u).2 w) n j) (a : Nat) : hdO f rs u w j ++ repR (rgO rs u w n j) a = gO f rs u w (j + a * (n - j)) := by
  unfold hdO rgO gO
  rw [rdO_app, rdO_rep, wlO_round h.lt h.eq]
  simp only [List.append_assoc]
theorem sq_gO {f : List Bool} {rs : List Rw} {u w : List Bool} {n j : Nat} (h : FsN (sgO rs (rdO rs 0 u).2 w) n j) (r : rgO rs u w n j ≠ []) {k i : Nat} (hi : i < (gO f rs u w k).length) : (gO f rs u w k)[i]? = sq (hdO f rs u w j) (rgO rs u w n j) i := by
  have l1 := List.length_pos_iff.mpr r
  have lt := h.lt
  have big : i < (hdO f rs u w j).length + (i + 1 + k) * (rgO rs u w n j).length := by
    have : (i + 1 + k) * 1 ≤ (i + 1 + k) * (rgO rs u w n j).length := Nat.mul_le_mul_left _ l1
    omega
  rw [← sq_any big, gO_round h]
  have ge : (i + 1 + k) * 1 ≤ (i + 1 + k) * (n - j) := Nat.mul_le_mul_left _ (by omega)
  obtain ⟨x, hx⟩ := gO_add f rs u w k (j + (i + 1 + k) * (n - j) - k)
  rw [show k + (j + (i + 1 + k) * (n - j) - k) = j + (i + 1 + k) * (n - j) by omega] at hx
  rw [hx, List.getElem?_append_left hi]
/-- the ring is empty where at last nothing more is written -/
theorem rgO_nil {rs : List Rw} {u w : List Bool} {n j : Nat} (h : FsN (sgO rs (rdO rs 0 u).2 w) n j) : rgO rs u w n j = [] ↔ ∃ N, ∀ i, N ≤ i → wgO rs (rdO rs 0 u).2 w i = [] := by
  have lt := h.lt
  have per : ∀ b x, wgO rs (rdO rs 0 u).2 w (j + b * (n - j) + x) = wgO rs (rdO rs 0 u).2 w (j + x) := fun b => by
    induction b with
    | zero => intro x; rw [Nat.zero_mul]; rfl
    | succ b ih =>
      intro x
      have e2 : j + (b + 1) * (n - j) + x = n + (b * (n - j) + x) := by
        rw [Nat.succ_mul]
        omega
      rw [e2, wgO_per h.eq]
      have e3 : j + (b * (n - j) + x) = j + b * (n - j) + x := by omega
      rw [e3, ih]
  have flat : ∀ l : List (List Bool), l.flatten = [] ↔ ∀ x ∈ l, x = [] := fun l => List.flatten_eq_nil_iff
  have mem : rgO rs u w n j = [] ↔ ∀ i, j ≤ i → i < n → wgO rs (rdO rs 0 u).2 w i = [] := by
    unfold rgO
    rw [flat]
    constructor
    · intro z i h1 h2
      refine z _ (List.mem_of_getElem? (i := i - j) ?_)
      rw [List.getElem?_drop, show j + (i - j) = i by omega]
      unfold wlO
      rw [List.getElem?_map, List.getElem?_range h2]
      rfl
    · intro z x hx
      obtain ⟨i, hi⟩ := List.getElem?_of_mem hx
      rw [List.getElem?_drop] at hi
      have l := (List.getElem?_eq_some_iff.mp hi).1
      rw [wlO_len] at l
      unfold wlO at hi
      rw [List.getElem?_map, List.getElem?_range l] at hi
      cases hi
      exact z _ (by omega) l
  rw [mem]
  constructor
  · intro z
    refine ⟨j, fun i hi => ?_⟩
    have e : i = j + (i - j) / (n - j) * (n - j) + (i - j) % (n - j) := by
      have := Nat.div_add_mod (i - j) (n - j)
      rw [Nat.mul_comm] at this
      omega
    have m := Nat.mod_lt (i - j) (show 0 < n - j by omega)
    rw [e, per]
    exact z _ (by omega) (by omega)
  · rintro ⟨N, z⟩ i h1 h2
    have e := per N (i - j)
    rw [show j + (i - j) = i by omega] at e
    rw [← e]
    refine z _ ?_
    have : N * 1 ≤ N * (n - j) := Nat.mul_le_mul_left _ (by omega)
    omega
theorem wgO_step (rs : List Rw) (u w : List Bool) : ∀ i, sgO rs (rdO rs 0 (u ++ w)).2 w i = sgO rs (rdO rs 0 u).2 w (i + 1)
  | 0 => by
    show (rdO rs 0 (u ++ w)).2 = (rdO rs (rdO rs 0 u).2 w).2
    rw [rdO_app]
  | i + 1 => by
    show (rdO rs (sgO rs (rdO rs 0 (u ++ w)).2 w i) w).2 = (rdO rs (sgO rs (rdO rs 0 u).2 w (i + 1)) w).2
    rw [wgO_step rs u w i]
/-- one ring more ahead: the same course -/
theorem rgO_one {rs : List Rw} {u w : List Bool} {n j n' j' : Nat} (h : FsN (sgO rs (rdO rs 0 u).2 w) n j) (h' : FsN (sgO rs (rdO rs 0 (u ++ w)).2 w) n' j') : rgO rs u w n j = [] ↔ rgO rs (u ++ w) w n' j' = [] := by
  have e : ∀ i, wgO rs (rdO rs 0 (u ++ w)).2 w i = wgO rs (rdO rs 0 u).2 w (i + 1) := fun i => by
    unfold wgO
    rw [wgO_step]
  rw [rgO_nil h, rgO_nil h']
  constructor
  · rintro ⟨N, z⟩
    exact ⟨N, fun i hi => by rw [e]; exact z _ (by omega)⟩
  · rintro ⟨N, z⟩
    refine ⟨N + 1, fun i hi => ?_⟩
    have := z (i - 1) (by omega)
    rw [e, show i - 1 + 1 = i by omega] at this
    exact this
theorem lw_one {f : List Bool} {rs : List Rw} {u w : List Bool} {n j n' j' : Nat} (h : FsN (sgO rs (rdO rs 0 u).2 w) n j) (h' : FsN (sgO rs (rdO rs 0 (u ++ w)).2 w) n' j') (r : rgO rs u w n j ≠ []) {c d : List Bool × List Bool} (hc : Lw (hdO f rs u w j) (rgO rs u w n j) c) (hd : Lw (hdO f rs (u ++ w) w j') (rgO rs (u ++ w) w n' j') d) : c = d := by
  have r' : rgO rs (u ++ w) w n' j' ≠ [] := fun z => r ((rgO_one h h').mpr z)
  refine sq_one hc.prim hd.prim hc.fix hd.fix ?_
  rw [hc.sq, hd.sq]
  funext i
  have l1 := List.length_pos_iff.mpr r'
  have len : i < (gO f rs (u ++ w) w (j' + (i + 1) * (n' - j'))).length := by
    rw [← gO_round h', List.length_append, repR_len]
    have : (i + 1) * 1 ≤ (i + 1) * (rgO rs (u ++ w) w n' j').length := Nat.mul_le_mul_left _ l1
    omega
  rw [← sq_gO h' r' len]
  rw [gO_step] at len ⊢
  rw [sq_gO h r len]
theorem long_is {x F R : List Bool} {c : List Bool × List Bool} (hc : Lw F R c) (c2 : c.2 ≠ []) (hx : ∀ i, i < x.length → x[i]? = sq F R i) : (c.1 ++ repR c.2 (x.length / c.2.length + 1)).take x.length = x := by
  have l2 : 0 < c.2.length := List.length_pos_iff.mpr c2
  have big : x.length < c.1.length + (x.length / c.2.length + 1) * c.2.length := by
    have := Nat.div_add_mod x.length c.2.length
    have := Nat.mod_lt x.length l2
    rw [Nat.succ_mul, Nat.mul_comm]
    omega
  refine List.ext_getElem? fun i => ?_
  by_cases h : i < x.length
  · rw [List.getElem?_take_of_lt h, sq_any (by omega), hc.sq, hx i h]
  · rw [List.getElem?_eq_none (by rw [List.length_take]; omega), List.getElem?_eq_none (by omega)]
theorem dp_non {K : PySem.W.Frag} {H : Hp} : Dp K H .non .none := .non
theorem shwF_non : ShwF .none := ⟨rfl, rfl, by decide, by decide⟩
/-- the course that is written, or none -/
def VO (H : Hp) (F R : List Bool) (v : V) : Prop := (R = [] ∧ v = .non) ∨ (R ≠ [] ∧ ∃ (c : List Bool × List Bool) (p : Addr), Lw F R c ∧ v = .ref p ∧ H p = some (.tup [.str (rd c.1), .str (rd c.2)]))
theorem VO.same {H H' : Hp} {F R : List Bool} {v : V} (h : VO H F R v) (s : Same H H') : VO H' F R v := by
  rcases h with h | ⟨r, c, p, hc, e, hp⟩
  · exact .inl h
  · exact .inr ⟨r, c, p, hc, e, s _ _ hp⟩
theorem VO.step {H : Hp} {f : List Bool} {rs : List Rw} {u w : List Bool} {n j n' j' : Nat} {v : V} (h : FsN (sgO rs (rdO rs 0 u).2 w) n j) (h' : FsN (sgO rs (rdO rs 0 (u ++ w)).2 w) n' j') (k : VO H (hdO f rs (u ++ w) w j') (rgO rs (u ++ w) w n' j') v) (ex : rgO rs u w n j ≠ [] → ∃ c, Lw (hdO f rs u w j) (rgO rs u w n j) c) : VO H (hdO f rs u w j) (rgO rs u w n j) v := by
  rcases k with ⟨r, e⟩ | ⟨r, c, p, hc, e, hp⟩
  · exact .inl ⟨(rgO_one h h').mpr r, e⟩
  · have r0 : rgO rs u w n j ≠ [] := fun z => r ((rgO_one h h').mp z)
    obtain ⟨d, hd⟩ := ex r0
    have := lw_one h h' r0 hd hc
    subst this
    exact .inr ⟨r0, d, p, hd, e, hp⟩
theorem lw_ex {F R : List Bool} (h : R ≠ []) : ∃ c, Lw F R c := by
  obtain ⟨p, lp⟩ := least_ex h
  exact ⟨_, p, lp, rfl⟩
theorem fsN_one {R : Nat → Nat} {n j n' j' : Nat} (h : FsN R n j) (h' : FsN R n' j') : n = n' ∧ j = j' := by
  have e : n = n' := by
    rcases Nat.lt_trichotomy n n' with c | c | c
    · exact absurd h.eq (h'.no n c j h.lt)
    · exact c
    · exact absurd h'.eq (h.no n' c j' h'.lt)
  subst e
  refine ⟨rfl, ?_⟩
  have k := h.eq.symm.trans h'.eq
  rcases Nat.lt_trichotomy j j' with c | c | c
  · exact absurd k.symm (h.no j' h'.lt j c)
  · exact c
  · exact absurd k (h.no j h.lt j' c)
end Lr

namespace Lr
open PySem PySem.Spec PyProof.Rows L2
def top (i : Nat) : Stmt := PySem.Challenge.pw_leftroads_k56_roots_of_squares.main.body.getD i (.Pass ⟨0, 0, 0, 0⟩)
abbrev s__law_coin : Stmt := top 15
abbrev n__law_coin : List Str := ["purse", "many", "drawn", "stirred"]
theorem sc__law_coin : FnScope n__law_coin ["purse", "many"] (defScope s__law_coin) := ⟨rfl, rfl, rfl, by decide +kernel, rfl, by decide +kernel, by decide +kernel⟩
abbrev s__law_rt_numbers : Stmt := top 25
abbrev n__law_rt_numbers : List Str := ["purse", "style", "top", "a", "b", "c", "p", "r", "q", "s", "many"]
theorem sc__law_rt_numbers : FnScope n__law_rt_numbers ["purse"] (defScope s__law_rt_numbers) := ⟨rfl, rfl, rfl, by decide +kernel, rfl, by decide +kernel, by decide +kernel⟩
abbrev s_check_square : Stmt := top 5
abbrev n_check_square : List Str := ["square"]
theorem sc_check_square : FnScope n_check_square ["square"] (defScope s_check_square) := ⟨rfl, rfl, rfl, by decide +kernel, rfl, by decide +kernel, by decide +kernel⟩
abbrev s_fractions_above_zero : Stmt := top 12
abbrev n_fractions_above_zero : List Str := ["aboves", "below", "found", "above", "divisor", "fraction"]
theorem sc_fractions_above_zero : FnScope n_fractions_above_zero ["aboves", "below"] (defScope s_fractions_above_zero) := ⟨rfl, rfl, rfl, by decide +kernel, rfl, by decide +kernel, by decide +kernel⟩
abbrev s_is_above_one : Stmt := top 9
abbrev n_is_above_one : List Str := ["a", "b", "under_root", "bound", "is_root_greater"]
theorem sc_is_above_one : FnScope n_is_above_one ["a", "b", "under_root"] (defScope s_is_above_one) := ⟨rfl, rfl, rfl, by decide +kernel, rfl, by decide +kernel, by decide +kernel⟩
abbrev s_ring_of_root : Stmt := top 7
abbrev n_ring_of_root : List Str := ["a", "b", "c", "start", "turns", "at_one"]
theorem sc_ring_of_root : FnScope n_ring_of_root ["a", "b", "c"] (defScope s_ring_of_root) := ⟨rfl, rfl, rfl, by decide +kernel, rfl, by decide +kernel, by decide +kernel⟩
abbrev s_course_of_root : Stmt := top 8
abbrev n_course_of_root : List Str := ["a", "b", "c", "under_root", "turns", "at_one"]
theorem sc_course_of_root : FnScope n_course_of_root ["a", "b", "c"] (defScope s_course_of_root) := ⟨rfl, rfl, rfl, by decide +kernel, rfl, by decide +kernel, by decide +kernel⟩
abbrev s_roots_of : Stmt := top 11
abbrev n_roots_of : List Str := ["square", "a", "b", "c", "under_root", "root"]
theorem sc_roots_of : FnScope n_roots_of ["square"] (defScope s_roots_of) := ⟨rfl, rfl, rfl, by decide +kernel, rfl, by decide +kernel, by decide +kernel⟩
abbrev s__law_rt_is_square : Stmt := top 26
abbrev n__law_rt_is_square : List Str := ["many", "low", "high", "step", "middle"]
theorem sc__law_rt_is_square : FnScope n__law_rt_is_square ["many"] (defScope s__law_rt_is_square) := ⟨rfl, rfl, rfl, by decide +kernel, rfl, by decide +kernel, by decide +kernel⟩
abbrev s__law_many : Stmt := top 28
abbrev n__law_many : List Str := ["a", "b", "c", "inside"]
theorem sc__law_many : FnScope n__law_many ["a", "b", "c"] (defScope s__law_many) := ⟨rfl, rfl, rfl, by decide +kernel, rfl, by decide +kernel, by decide +kernel⟩
abbrev s__law_rt_shared : Stmt := top 16
abbrev n__law_rt_shared : List Str := ["numbers", "found", "count", "left"]
theorem sc__law_rt_shared : FnScope n__law_rt_shared ["numbers"] (defScope s__law_rt_shared) := ⟨rfl, rfl, rfl, by decide +kernel, rfl, by decide +kernel, by decide +kernel⟩
abbrev s__law_rt_is_pair : Stmt := top 23
abbrev n__law_rt_is_pair : List Str := ["pair"]
theorem sc__law_rt_is_pair : FnScope n__law_rt_is_pair ["pair"] (defScope s__law_rt_is_pair) := ⟨rfl, rfl, rfl, by decide +kernel, rfl, by decide +kernel, by decide +kernel⟩
abbrev s__law_rt_is_told : Stmt := top 24
abbrev n__law_rt_is_told : List Str := ["pair", "count"]
theorem sc__law_rt_is_told : FnScope n__law_rt_is_told ["pair"] (defScope s__law_rt_is_told) := ⟨rfl, rfl, rfl, by decide +kernel, rfl, by decide +kernel, by decide +kernel⟩
abbrev s__law_rt_course : Stmt := top 21
abbrev n__law_rt_course : List Str := ["front", "loop", "many", "step"]
theorem sc__law_rt_course : FnScope n__law_rt_course ["front", "loop"] (defScope s__law_rt_course) := ⟨rfl, rfl, rfl, by decide +kernel, rfl, by decide +kernel, by decide +kernel⟩
abbrev s__law_rt_is_course : Stmt := top 27
abbrev n__law_rt_is_course : List Str := ["entry", "sign", "strange"]
theorem sc__law_rt_is_course : FnScope n__law_rt_is_course ["entry"] (defScope s__law_rt_is_course) := ⟨rfl, rfl, rfl, by decide +kernel, rfl, by decide +kernel, by decide +kernel⟩
abbrev s__law_rt_ends : Stmt := top 18
abbrev n__law_rt_ends : List Str := ["wording", "low", "high", "sign", "middle"]
theorem sc__law_rt_ends : FnScope n__law_rt_ends ["wording"] (defScope s__law_rt_ends) := ⟨rfl, rfl, rfl, by decide +kernel, rfl, by decide +kernel, by decide +kernel⟩
abbrev s__law_rt_turns : Stmt := top 20
abbrev n__law_rt_turns : List Str := ["wording", "low", "high"]
theorem sc__law_rt_turns : FnScope n__law_rt_turns ["wording"] (defScope s__law_rt_turns) := ⟨rfl, rfl, rfl, by decide +kernel, rfl, by decide +kernel, by decide +kernel⟩
abbrev s__law_rt_times : Stmt := top 19
abbrev n__law_rt_times : List Str := ["left", "right", "p", "q", "r", "s", "t", "u", "v", "w"]
theorem sc__law_rt_times : FnScope n__law_rt_times ["left", "right"] (defScope s__law_rt_times) := ⟨rfl, rfl, rfl, by decide +kernel, rfl, by decide +kernel, by decide +kernel⟩
abbrev s__law_rt_low : Stmt := top 17
abbrev n__law_rt_low : List Str := ["numbers", "many", "count"]
theorem sc__law_rt_low : FnScope n__law_rt_low ["numbers"] (defScope s__law_rt_low) := ⟨rfl, rfl, rfl, by decide +kernel, rfl, by decide +kernel, by decide +kernel⟩
abbrev s__law_rt_square : Stmt := top 22
abbrev n__law_rt_square : List Str := ["front", "loop", "p", "q", "r", "s", "around", "found", "count"]
theorem sc__law_rt_square : FnScope n__law_rt_square ["front", "loop"] (defScope s__law_rt_square) := ⟨rfl, rfl, rfl, by decide +kernel, rfl, by decide +kernel, by decide +kernel⟩
abbrev s__law_right : Stmt := top 29
abbrev n__law_right : List Str := ["purse", "numbers", "a", "b", "c", "found", "shown", "plain", "entry", "up", "down", "many", "left", "right"]
theorem sc__law_right : FnScope n__law_right ["purse"] (defScope s__law_right) := ⟨rfl, rfl, rfl, by decide +kernel, rfl, by decide +kernel, by decide +kernel⟩
abbrev s__law_purse : Stmt := top 14
abbrev n__law_purse : List Str := ["script", "place", "cell"]
theorem sc__law_purse : FnScope n__law_purse ["script", "place"] (defScope s__law_purse) := ⟨rfl, rfl, rfl, by decide +kernel, rfl, by decide +kernel, by decide +kernel⟩
abbrev s_law : Stmt := top 30
abbrev n_law : List Str := ["script", "spot"]
theorem sc_law : FnScope n_law ["script"] (defScope s_law) := ⟨rfl, rfl, rfl, by decide +kernel, rfl, by decide +kernel, by decide +kernel⟩
/-- what the top leaves: where each def stands, which names are still the built-in ones -/
structure Tx (K : PySem.W.Frag) (mg : Str → Option Value) where
  a__law_coin : Addr
  fd__law_coin : FuncData
  F__law_coin : Fun K "_law_coin" "_law_coin" s__law_coin a__law_coin fd__law_coin
  g__law_coin : mg "_law_coin" = some (.ref a__law_coin)
  a__law_rt_numbers : Addr
  fd__law_rt_numbers : FuncData
  F__law_rt_numbers : Fun K "_law_rt_numbers" "_law_rt_numbers" s__law_rt_numbers a__law_rt_numbers fd__law_rt_numbers
  g__law_rt_numbers : mg "_law_rt_numbers" = some (.ref a__law_rt_numbers)
  a_check_square : Addr
  fd_check_square : FuncData
  F_check_square : Fun K "check_square" "check_square" s_check_square a_check_square fd_check_square
  g_check_square : mg "check_square" = some (.ref a_check_square)
  a_fractions_above_zero : Addr
  fd_fractions_above_zero : FuncData
  F_fractions_above_zero : Fun K "fractions_above_zero" "fractions_above_zero" s_fractions_above_zero a_fractions_above_zero fd_fractions_above_zero
  g_fractions_above_zero : mg "fractions_above_zero" = some (.ref a_fractions_above_zero)
  a_is_above_one : Addr
  fd_is_above_one : FuncData
  F_is_above_one : Fun K "is_above_one" "is_above_one" s_is_above_one a_is_above_one fd_is_above_one
  g_is_above_one : mg "is_above_one" = some (.ref a_is_above_one)
  a_ring_of_root : Addr
  fd_ring_of_root : FuncData
  F_ring_of_root : Fun K "ring_of_root" "ring_of_root" s_ring_of_root a_ring_of_root fd_ring_of_root
  g_ring_of_root : mg "ring_of_root" = some (.ref a_ring_of_root)
  a_course_of_root : Addr
  fd_course_of_root : FuncData
  F_course_of_root : Fun K "course_of_root" "course_of_root" s_course_of_root a_course_of_root fd_course_of_root
  g_course_of_root : mg "course_of_root" = some (.ref a_course_of_root)
  a_roots_of : Addr
  fd_roots_of : FuncData
  F_roots_of : Fun K "roots_of" "roots_of" s_roots_of a_roots_of fd_roots_of
  g_roots_of : mg "roots_of" = some (.ref a_roots_of)
  a__law_rt_is_square : Addr
  fd__law_rt_is_square : FuncData
  F__law_rt_is_square : Fun K "_law_rt_is_square" "_law_rt_is_square" s__law_rt_is_square a__law_rt_is_square fd__law_rt_is_square
  g__law_rt_is_square : mg "_law_rt_is_square" = some (.ref a__law_rt_is_square)
  a__law_many : Addr
  fd__law_many : FuncData
  F__law_many : Fun K "_law_many" "_law_many" s__law_many a__law_many fd__law_many
  g__law_many : mg "_law_many" = some (.ref a__law_many)
  a__law_rt_shared : Addr
  fd__law_rt_shared : FuncData
  F__law_rt_shared : Fun K "_law_rt_shared" "_law_rt_shared" s__law_rt_shared a__law_rt_shared fd__law_rt_shared
  g__law_rt_shared : mg "_law_rt_shared" = some (.ref a__law_rt_shared)
  a__law_rt_is_pair : Addr
  fd__law_rt_is_pair : FuncData
  F__law_rt_is_pair : Fun K "_law_rt_is_pair" "_law_rt_is_pair" s__law_rt_is_pair a__law_rt_is_pair fd__law_rt_is_pair
  g__law_rt_is_pair : mg "_law_rt_is_pair" = some (.ref a__law_rt_is_pair)
  a__law_rt_is_told : Addr
  fd__law_rt_is_told : FuncData
  F__law_rt_is_told : Fun K "_law_rt_is_told" "_law_rt_is_told" s__law_rt_is_told a__law_rt_is_told fd__law_rt_is_told
  g__law_rt_is_told : mg "_law_rt_is_told" = some (.ref a__law_rt_is_told)
  a__law_rt_course : Addr
  fd__law_rt_course : FuncData
  F__law_rt_course : Fun K "_law_rt_course" "_law_rt_course" s__law_rt_course a__law_rt_course fd__law_rt_course
  g__law_rt_course : mg "_law_rt_course" = some (.ref a__law_rt_course)
  a__law_rt_is_course : Addr
  fd__law_rt_is_course : FuncData
  F__law_rt_is_course : Fun K "_law_rt_is_course" "_law_rt_is_course" s__law_rt_is_course a__law_rt_is_course fd__law_rt_is_course
  g__law_rt_is_course : mg "_law_rt_is_course" = some (.ref a__law_rt_is_course)
  a__law_rt_ends : Addr
  fd__law_rt_ends : FuncData
  F__law_rt_ends : Fun K "_law_rt_ends" "_law_rt_ends" s__law_rt_ends a__law_rt_ends fd__law_rt_ends
  g__law_rt_ends : mg "_law_rt_ends" = some (.ref a__law_rt_ends)
  a__law_rt_turns : Addr
  fd__law_rt_turns : FuncData
  F__law_rt_turns : Fun K "_law_rt_turns" "_law_rt_turns" s__law_rt_turns a__law_rt_turns fd__law_rt_turns
  g__law_rt_turns : mg "_law_rt_turns" = some (.ref a__law_rt_turns)
  a__law_rt_times : Addr
  fd__law_rt_times : FuncData
  F__law_rt_times : Fun K "_law_rt_times" "_law_rt_times" s__law_rt_times a__law_rt_times fd__law_rt_times
  g__law_rt_times : mg "_law_rt_times" = some (.ref a__law_rt_times)
  a__law_rt_low : Addr
  fd__law_rt_low : FuncData
  F__law_rt_low : Fun K "_law_rt_low" "_law_rt_low" s__law_rt_low a__law_rt_low fd__law_rt_low
  g__law_rt_low : mg "_law_rt_low" = some (.ref a__law_rt_low)
  a__law_rt_square : Addr
  fd__law_rt_square : FuncData
  F__law_rt_square : Fun K "_law_rt_square" "_law_rt_square" s__law_rt_square a__law_rt_square fd__law_rt_square
  g__law_rt_square : mg "_law_rt_square" = some (.ref a__law_rt_square)
  a__law_right : Addr
  fd__law_right : FuncData
  F__law_right : Fun K "_law_right" "_law_right" s__law_right a__law_right fd__law_right
  g__law_right : mg "_law_right" = some (.ref a__law_right)
  a__law_purse : Addr
  fd__law_purse : FuncData
  F__law_purse : Fun K "_law_purse" "_law_purse" s__law_purse a__law_purse fd__law_purse
  g__law_purse : mg "_law_purse" = some (.ref a__law_purse)
  a_law : Addr
  fd_law : FuncData
  F_law : Fun K "law" "law" s_law a_law fd_law
  g_law : mg "law" = some (.ref a_law)
  z_int : mg "int" = none
  z_abs : mg "abs" = none
  z_max : mg "max" = none
  z_range : mg "range" = none
  z_min : mg "min" = none
  z_isinstance : mg "isinstance" = none
  z_tuple : mg "tuple" = none
  z_len : mg "len" = none
  z_bool : mg "bool" = none
  z_str : mg "str" = none
  z_repr : mg "repr" = none
  z_list : mg "list" = none
  m_gcd : mg "gcd" = some (.builtin "math.gcd")
  m_isqrt : mg "isqrt" = some (.builtin "math.isqrt")
section
variable {P : Program} {w : World} {K : PySem.W.Frag} {mg : Str → Option Value} {base : Heap}
theorem b__law_coin {f : Addr} {fd : FuncData} (F : Fun K "_law_coin" "_law_coin" s__law_coin f fd) : Binds K fd ["purse", "many"] [] :=
  F.binds fun _ _ _ _ _ _ us hl => match us, hl with | [_, _], _ => rfl
theorem b__law_rt_numbers {f : Addr} {fd : FuncData} (F : Fun K "_law_rt_numbers" "_law_rt_numbers" s__law_rt_numbers f fd) : Binds K fd ["purse"] [] :=
  F.binds fun _ _ _ _ _ _ us hl => match us, hl with | [_], _ => rfl
theorem b_check_square {f : Addr} {fd : FuncData} (F : Fun K "check_square" "check_square" s_check_square f fd) : Binds K fd ["square"] [] :=
  F.binds fun _ _ _ _ _ _ us hl => match us, hl with | [_], _ => rfl
theorem b_fractions_above_zero {f : Addr} {fd : FuncData} (F : Fun K "fractions_above_zero" "fractions_above_zero" s_fractions_above_zero f fd) : Binds K fd ["aboves", "below"] [] :=
  F.binds fun _ _ _ _ _ _ us hl => match us, hl with | [_, _], _ => rfl
theorem b_is_above_one {f : Addr} {fd : FuncData} (F : Fun K "is_above_one" "is_above_one" s_is_above_one f fd) : Binds K fd ["a", "b", "under_root"] [] :=
  F.binds fun _ _ _ _ _ _ us hl => match us, hl with | [_, _, _], _ => rfl
theorem b_ring_of_root {f : Addr} {fd : FuncData} (F : Fun K "ring_of_root" "ring_of_root" s_ring_of_root f fd) : Binds K fd ["a", "b", "c"] [] :=
  F.binds fun _ _ _ _ _ _ us hl => match us, hl with | [_, _, _], _ => rfl
theorem b_course_of_root {f : Addr} {fd : FuncData} (F : Fun K "course_of_root" "course_of_root" s_course_of_root f fd) : Binds K fd ["a", "b", "c"] [] :=
  F.binds fun _ _ _ _ _ _ us hl => match us, hl with | [_, _, _], _ => rfl
theorem b_roots_of {f : Addr} {fd : FuncData} (F : Fun K "roots_of" "roots_of" s_roots_of f fd) : Binds K fd ["square"] [] :=
  F.binds fun _ _ _ _ _ _ us hl => match us, hl with | [_], _ => rfl
theorem b__law_rt_is_square {f : Addr} {fd : FuncData} (F : Fun K "_law_rt_is_square" "_law_rt_is_square" s__law_rt_is_square f fd) : Binds K fd ["many"] [] :=
  F.binds fun _ _ _ _ _ _ us hl => match us, hl with | [_], _ => rfl
theorem b__law_many {f : Addr} {fd : FuncData} (F : Fun K "_law_many" "_law_many" s__law_many f fd) : Binds K fd ["a", "b", "c"] [] :=
  F.binds fun _ _ _ _ _ _ us hl => match us, hl with | [_, _, _], _ => rfl
theorem b__law_rt_shared {f : Addr} {fd : FuncData} (F : Fun K "_law_rt_shared" "_law_rt_shared" s__law_rt_shared f fd) : Binds K fd ["numbers"] [] :=
  F.binds fun _ _ _ _ _ _ us hl => match us, hl with | [_], _ => rfl
theorem b__law_rt_is_pair {f : Addr} {fd : FuncData} (F : Fun K "_law_rt_is_pair" "_law_rt_is_pair" s__law_rt_is_pair f fd) : Binds K fd ["pair"] [] :=
  F.binds fun _ _ _ _ _ _ us hl => match us, hl with | [_], _ => rfl
theorem b__law_rt_is_told {f : Addr} {fd : FuncData} (F : Fun K "_law_rt_is_told" "_law_rt_is_told" s__law_rt_is_told f fd) : Binds K fd ["pair"] [] :=
  F.binds fun _ _ _ _ _ _ us hl => match us, hl with | [_], _ => rfl
theorem b__law_rt_course {f : Addr} {fd : FuncData} (F : Fun K "_law_rt_course" "_law_rt_course" s__law_rt_course f fd) : Binds K fd ["front", "loop"] [] :=
  F.binds fun _ _ _ _ _ _ us hl => match us, hl with | [_, _], _ => rfl
theorem b__law_rt_is_course {f : Addr} {fd : FuncData} (F : Fun K "_law_rt_is_course" "_law_rt_is_course" s__law_rt_is_course f fd) : Binds K fd ["entry"] [] :=
  F.binds fun _ _ _ _ _ _ us hl => match us, hl with | [_], _ => rfl
theorem b__law_rt_ends {f : Addr} {fd : FuncData} (F : Fun K "_law_rt_ends" "_law_rt_ends" s__law_rt_ends f fd) : Binds K fd ["wording"] [] :=
  F.binds fun _ _ _ _ _ _ us hl => match us, hl with | [_], _ => rfl
theorem b__law_rt_turns {f : Addr} {fd : FuncData} (F : Fun K "_law_rt_turns" "_law_rt_turns" s__law_rt_turns f fd) : Binds K fd ["wording"] [] :=
  F.binds fun _ _ _ _ _ _ us hl => match us, hl with | [_], _ => rfl
theorem b__law_rt_times {f : Addr} {fd : FuncData} (F : Fun K "_law_rt_times" "_law_rt_times" s__law_rt_times f fd) : Binds K fd ["left", "right"] [] :=
  F.binds fun _ _ _ _ _ _ us hl => match us, hl with | [_, _], _ => rfl
theorem b__law_rt_low {f : Addr} {fd : FuncData} (F : Fun K "_law_rt_low" "_law_rt_low" s__law_rt_low f fd) : Binds K fd ["numbers"] [] :=
  F.binds fun _ _ _ _ _ _ us hl => match us, hl with | [_], _ => rfl
theorem b__law_rt_square {f : Addr} {fd : FuncData} (F : Fun K "_law_rt_square" "_law_rt_square" s__law_rt_square f fd) : Binds K fd ["front", "loop"] [] :=
  F.binds fun _ _ _ _ _ _ us hl => match us, hl with | [_, _], _ => rfl
theorem b__law_right {f : Addr} {fd : FuncData} (F : Fun K "_law_right" "_law_right" s__law_right f fd) : Binds K fd ["purse"] [] :=
  F.binds fun _ _ _ _ _ _ us hl => match us, hl with | [_], _ => rfl
theorem b__law_purse {f : Addr} {fd : FuncData} (F : Fun K "_law_purse" "_law_purse" s__law_purse f fd) : Binds K fd ["script", "place"] [] :=
  F.binds fun _ _ _ _ _ _ us hl => match us, hl with | [_, _], _ => rfl
theorem b_law {f : Addr} {fd : FuncData} (F : Fun K "law" "law" s_law f fd) : Binds K fd ["script"] [] :=
  F.binds fun _ _ _ _ _ _ us hl => match us, hl with | [_], _ => rfl
def kg_roots_of_0 {α : Type} : List α → List α → List α
  | [], [x0] => [x0]
  | _, _ => []
theorem kb_roots_of_0 {f : Addr} {fd : FuncData} (F : Fun K "roots_of" "roots_of" s_roots_of f fd) : KBinds K fd ["square"] ["square"] kg_roots_of_0 kg_roots_of_0 := by
  obtain ⟨oc, od, kV, doc, pm, an, cdv, ct, osl, rfl, _, _⟩ := F.ex
  refine ⟨fun s us ws _ hl => ?_, fun r z => ?_⟩
  · unfold kg_roots_of_0 at hl ⊢
    split at hl
    · exact .of_eq rfl
    · exact absurd hl (by decide)
  · unfold kg_roots_of_0
    cases r with
    | nil => (cases z with | nil => exact .nil | cons r0 z => (cases z with | nil => exact (.cons r0 .nil) | cons _ _ => exact .nil))
    | cons _ _ => (cases z with | nil => exact .nil | cons r0 z => (cases z with | nil => exact .nil | cons _ _ => exact .nil))
end
section
variable {P : Program} {w : World} {K : PySem.W.Frag} {mg : Str → Option Value} {base : Heap}
/-! _law_coin -/
def sp__law_coin (K : PySem.W.Frag) : Sp := fun vs H Q _ => ∃ (a : Addr) (many : Int) (n : Nat), vs = [.ref a, .int many] ∧ 1 ≤ many ∧ many < 1073741824 ∧ n < 1000000000 ∧ Pu H a n ∧
  ∀ (r : Int) H', 0 ≤ r → r < many → Pu H' a (n + 1) → Kp a H H' → Q (.int r) H'
theorem ok__law_coin (T : Tx K mg) : FnOk P w K mg base CX0 1 T.a__law_coin T.fd__law_coin ["purse", "many"] (sp__law_coin K) := by
  refine T.F__law_coin.ok sc__law_coin (fun vs H Q E h => ?_) (fun cdv A outer s H vs Q E hr h => ?_)
  · obtain ⟨a, many, n, rfl, _⟩ := h
    rfl
  · obtain ⟨a, many, n, rfl, m1, m2, hn, ⟨p0, p1, p2, hp, g0, g1, g2, g3, g4⟩, q⟩ := h
    refine ⟨_, (pss_cons (ps_if (pt_cmpR op_gt (pe_ix ix_list (pv 0) pe_int (fun _ _ => rfl)) pe_int (nomark _)) (pss_cons (ps_set (i := 2) sc__law_coin.nd rfl (Or.inl rfl) (pe_op op_modN (pe_callTy call_int1 (by rfl) T.z_int (by decide +kernel) (pa_cons (pe_ix ix_list (pv 0) pe_int (fun _ _ => rfl)) pa_nil)) (pv 1)))
  (pss_cons (ps_asg (pe_op op_fdivL (pe_ix ix_list (pv 0) pe_int (fun _ _ => rfl)) (pv 1)) (pg_sub (pv 0) pe_int set_list))
  (pss_one (ps_ret (pv 2))))) pss_nil)
  (pss_cons (ps_asg (pe_op op_add (pe_ix ix_list (pv 0) pe_int (fun _ _ => rfl)) pe_int) (pg_sub (pv 0) pe_int set_list))
  (pss_cons (ps_set (i := 3) sc__law_coin.nd rfl (Or.inl rfl) (pe_op op_modN (pe_op op_powL (pe_callTy call_int1 (by rfl) T.z_int (by decide +kernel) (pa_cons (pe_op op_add (pe_ix ix_list (pv 0) pe_int (fun _ _ => rfl)) (pe_op op_mulL pe_int (pe_ix ix_list (pv 0) pe_int (fun _ _ => rfl)))) pa_nil)) pe_int) (pe_op op_add (pe_op op_powL pe_int pe_int) pe_int)))
  (pss_cons (ps_set (i := 3) sc__law_coin.nd rfl (Or.inl rfl) (pe_op op_modN (pe_op op_powL (pe_callTy call_int1 (by rfl) T.z_int (by decide +kernel) (pa_cons (pe_op op_add (pv 3) (pe_op op_mulL pe_int (pe_ix ix_list (pv 0) pe_int (fun _ _ => rfl)))) pa_nil)) pe_int) (pe_op op_add (pe_op op_powL pe_int pe_int) pe_int)))
  (pss_one (ps_ret (pe_op op_modN (pe_callTy call_int1 (by rfl) T.z_int (by decide +kernel) (pa_cons (pe_op op_fdivL (pv 3) pe_int) pa_nil)) (pv 1)))))))), ?_⟩
    have at0 {x y z : V} : atI [x, y, z] 0 = some x := rfl
    have at1 {x y z : V} : atI [x, y, z] 1 = some y := rfl
    have at2 {x y z : V} : atI [x, y, z] 2 = some z := rfl
    have mod_lo (x : Int) : 0 ≤ x.fmod many := by
      rw [Int.fmod_eq_emod_of_nonneg _ (by omega)]
      exact Int.emod_nonneg _ (by omega)
    have mod_hi (x : Int) : x.fmod many < many := by
      rw [Int.fmod_eq_emod_of_nonneg _ (by omega)]
      exact Int.emod_lt_of_pos _ (by omega)
    refine ⟨_, rfl, a, _, _, _, rfl, rfl, SqL.of hp, at0, _, _, rfl, rfl, _, rfl, ite2 (fun e => ?_) (fun e => ?_)⟩
    · refine ⟨_, rfl, a, _, _, _, rfl, rfl, SqL.of hp, at0, .inl ⟨_, rfl, _, rfl, _, _, rfl, rfl, (by show many ≠ 0; omega), ?_⟩⟩
      refine ⟨_, rfl, a, _, _, _, rfl, rfl, SqL.of hp, at0, _, rfl, _, _, rfl, rfl, .inl ⟨by omega, by omega⟩, _, rfl, a, _, _, 0, rfl, rfl, hp, rfl, ?_⟩
      refine ⟨_, rfl, q _ _ (mod_lo _) (mod_hi _) ⟨_, _, _, upd_same, ?_, g1, g2, g3, by omega⟩ (Kp.upd a H _)⟩
      rw [Int.fdiv_eq_ediv_of_nonneg _ (by omega)]
      exact Int.ediv_nonneg g0 (by omega)
    · -- purse[2] grows by one; what is stirred of it lies below 10 ** 24 + 7
      refine ⟨_, rfl, a, _, _, _, rfl, rfl, SqL.of hp, at2, _, _, rfl, rfl, _, rfl, a, _, _, 2, rfl, rfl, hp, rfl, ?_⟩
      have hp' : (upd H a (.lst [.int p0, .int p1, .int (p2 + 1)])) a = some (.lst [.int p0, .int p1, .int (p2 + 1)]) := upd_same
      have e25 : (10 : Int) ^ (25 : Int).toNat + 13 = 10000000000000000000000013 := by decide
      have e24 : (10 : Int) ^ (24 : Int).toNat + 7 = 1000000000000000000000007 := by decide
      have b1 : (p1 + 2038074743 * (p2 + 1)).natAbs < 2 ^ 100 := by
        have : (2 : Nat) ^ 100 = 1267650600228229401496703205376 := by decide
        have : (2 : Int) ^ 80 = 1208925819614629174706176 := by decide
        omega
      refine ⟨_, rfl, a, _, _, _, rfl, rfl, SqL.of hp', at1, _, rfl, a, _, _, _, rfl, rfl, SqL.of hp', at2, _, _, rfl, rfl, cml_l (by decide), _, _, rfl, rfl, .inl ⟨_, rfl, ?_⟩⟩
      refine ⟨_, _, rfl, rfl, cpw 100 b1 (by decide) (by decide), _, _, rfl, rfl, cpw 4 (by decide) (by decide) (by decide), _, _, rfl, rfl, _, _, rfl, rfl, (by show ((10 : Int) ^ (25 : Int).toNat + 13) ≠ 0; decide), ?_⟩
      have bs (x : Int) : (x.fmod (10 ^ (25 : Int).toNat + 13) + 982451653 * (p2 + 1)).natAbs < 2 ^ 100 := by
        rw [e25, Int.fmod_eq_emod_of_nonneg _ (by decide)]
        have h1 := Int.emod_nonneg x (show (10000000000000000000000013 : Int) ≠ 0 by decide)
        have h2 := Int.emod_lt_of_pos x (show (0 : Int) < 10000000000000000000000013 by decide)
        have : (2 : Nat) ^ 100 = 1267650600228229401496703205376 := by decide
        omega
      refine ⟨_, rfl, _, rfl, a, _, _, _, rfl, rfl, SqL.of hp', at2, _, _, rfl, rfl, cml_l (by decide), _, _, rfl, rfl, .inl ⟨_, rfl, ?_⟩⟩
      refine ⟨_, _, rfl, rfl, cpw 100 (bs _) (by decide) (by decide), _, _, rfl, rfl, cpw 4 (by decide) (by decide) (by decide), _, _, rfl, rfl, _, _, rfl, rfl, (by show ((10 : Int) ^ (24 : Int).toNat + 7) ≠ 0; decide), ?_⟩
      refine ⟨_, rfl, _, _, rfl, rfl, .inl ⟨by decide, by decide⟩, .inl ⟨_, rfl, _, rfl, _, _, rfl, rfl, (by show many ≠ 0; omega), ?_⟩⟩
      exact q _ _ (mod_lo _) (mod_hi _) ⟨_, _, _, hp', g0, g1, g2, by omega, by omega⟩ (Kp.upd a H _)

/-! _law_rt_numbers -/
def sp__law_rt_numbers (K : PySem.W.Frag) : Sp := fun vs H Q _ => ∃ (a : Addr) (n : Nat), vs = [.ref a] ∧ n ≤ 1000000 ∧ Pu H a n ∧
  ∀ H' p (t : T3) n', n' ≤ n + 12 → Pu H' a n' → Kp a H H' → H p = none → H' p = some (.tup (t.l.map V.int)) → 1 ≤ t.x → t.x ≤ 60 → t.y.natAbs ≤ 60 → t.z.natAbs ≤ 60 → Q (.ref p) H'
theorem max3 (x y z : Int) : ∃ m : Int, nuMax3 (.int x) (.int y) (.int z) = some (.int m) ∧ x ≤ m ∧ y ≤ m ∧ z ≤ m ∧ (m = x ∨ m = y ∨ m = z) := by
  have two : ∀ x y : Int, ∃ m : Int, nuMax2 (.int x) (.int y) = some (.int m) ∧ x ≤ m ∧ y ≤ m ∧ (m = x ∨ m = y) := by
    intro x y
    have e : nuMax2 (.int x) (.int y) = some (if decide (x < y) = true then V.int y else V.int x) := rfl
    rw [e]
    by_cases c : x < y
    · rw [if_pos (decide_eq_true c)]
      exact ⟨y, rfl, by omega, by omega, .inr rfl⟩
    · rw [if_neg (by simpa using c)]
      exact ⟨x, rfl, by omega, by omega, .inl rfl⟩
  obtain ⟨m, e, h1, h2, h3⟩ := two x y
  obtain ⟨m', e', h1', h2', h3'⟩ := two m z
  refine ⟨m', ?_, by omega, by omega, by omega, by omega⟩
  unfold nuMax3
  rw [e]
  exact e'
theorem ok__law_rt_numbers (T : Tx K mg) : FnOk P w K mg base CX0 2 T.a__law_rt_numbers T.fd__law_rt_numbers ["purse"] (sp__law_rt_numbers K) := by
  have G__law_coin := ok__law_coin (P := P) (w := w) (base := base) T
  refine T.F__law_rt_numbers.ok sc__law_rt_numbers (fun vs H Q E h => ?_) (fun cdv A outer s H vs Q E hr h => ?_)
  · obtain ⟨a, n, rfl, _⟩ := h
    rfl
  · obtain ⟨a, n, rfl, hn, hp, q⟩ := h
    refine ⟨_, (pss_cons (ps_par (i := 1) (j := 2) (by rfl) sc__law_rt_numbers.nd rfl rfl (by decide) rfl rfl (pa_cons (pe_call G__law_coin (hr.mono (by decide)) (by rfl) T.g__law_coin T.F__law_coin.kp (b__law_coin T.F__law_coin) .nil pass0 (pa_cons (pv 0) (pa_cons pe_int pa_nil))) (pa_cons (pe_ix ix_list (pe_lst (pa_cons pe_int (pa_cons pe_int (pa_cons pe_int pa_nil)))) (pe_call G__law_coin (hr.mono (by decide)) (by rfl) T.g__law_coin T.F__law_coin.kp (b__law_coin T.F__law_coin) .nil pass0 (pa_cons (pv 0) (pa_cons pe_int pa_nil))) (fun _ _ => rfl)) pa_nil)) (by rfl))
  (pss_cons (ps_par3 (i := 3) (j := 4) (l := 5) (by rfl) sc__law_rt_numbers.nd rfl rfl rfl (by decide) (by decide) (by decide) rfl rfl rfl (pa_cons (pe_op op_add pe_int (pe_call G__law_coin (hr.mono (by decide)) (by rfl) T.g__law_coin T.F__law_coin.kp (b__law_coin T.F__law_coin) .nil pass0 (pa_cons (pv 0) (pa_cons (pv 2) pa_nil)))) (pa_cons (pe_op op_sub (pe_call G__law_coin (hr.mono (by decide)) (by rfl) T.g__law_coin T.F__law_coin.kp (b__law_coin T.F__law_coin) .nil pass0 (pa_cons (pv 0) (pa_cons (pe_op op_add (pe_op op_mulL pe_int (pv 2)) pe_int) pa_nil))) (pv 2)) (pa_cons (pe_op op_sub (pe_call G__law_coin (hr.mono (by decide)) (by rfl) T.g__law_coin T.F__law_coin.kp (b__law_coin T.F__law_coin) .nil pass0 (pa_cons (pv 0) (pa_cons (pe_op op_add (pe_op op_mulL pe_int (pv 2)) pe_int) pa_nil))) (pv 2)) pa_nil))) (by rfl))
  (pss_cons (ps_if (pt_cmpR op_eq (pv 1) pe_int (nomark _)) (pss_cons (ps_par (i := 6) (j := 7) (by rfl) sc__law_rt_numbers.nd rfl rfl (by decide) rfl rfl (pa_cons (pe_op op_add pe_int (pe_call G__law_coin (hr.mono (by decide)) (by rfl) T.g__law_coin T.F__law_coin.kp (b__law_coin T.F__law_coin) .nil pass0 (pa_cons (pv 0) (pa_cons pe_int pa_nil)))) (pa_cons (pe_op op_add pe_int (pe_call G__law_coin (hr.mono (by decide)) (by rfl) T.g__law_coin T.F__law_coin.kp (b__law_coin T.F__law_coin) .nil pass0 (pa_cons (pv 0) (pa_cons pe_int pa_nil)))) pa_nil)) (by rfl))
  (pss_cons (ps_par (i := 8) (j := 9) (by rfl) sc__law_rt_numbers.nd rfl rfl (by decide) rfl rfl (pa_cons (pe_op op_sub (pe_call G__law_coin (hr.mono (by decide)) (by rfl) T.g__law_coin T.F__law_coin.kp (b__law_coin T.F__law_coin) .nil pass0 (pa_cons (pv 0) (pa_cons pe_int pa_nil))) pe_int) (pa_cons (pe_op op_sub (pe_call G__law_coin (hr.mono (by decide)) (by rfl) T.g__law_coin T.F__law_coin.kp (b__law_coin T.F__law_coin) .nil pass0 (pa_cons (pv 0) (pa_cons pe_int pa_nil))) pe_int) pa_nil)) (by rfl))
  (pss_one (ps_ret (pe_tup (pa_cons (pe_op op_mulL (pv 6) (pv 7)) (pa_cons (pe_op op_add (pe_op op_mulL (pv 6) (pv 9)) (pe_op op_mulL (pv 8) (pv 7))) (pa_cons (pe_op op_mulL (pv 8) (pv 9)) pa_nil)))))))) pss_nil)
  (pss_cons (ps_if (pt_cmpR op_eq (pv 1) pe_int (nomark _)) (pss_one (ps_set (i := 5) sc__law_rt_numbers.nd rfl (Or.inl rfl) pe_int)) pss_nil)
  (pss_cons (ps_if (pt_cmpR op_eq (pv 1) pe_int (nomark _)) (pss_cons (ps_set (i := 4) sc__law_rt_numbers.nd rfl (Or.inl rfl) (pe_un un_neg (pe_callB call_abs (by rfl) T.z_abs (by decide +kernel) (pa_cons (pv 4) pa_nil))))
  (pss_one (ps_set (i := 5) sc__law_rt_numbers.nd rfl (Or.inl rfl) (pe_callB call_abs (by rfl) T.z_abs (by decide +kernel) (pa_cons (pv 5) pa_nil))))) pss_nil)
  (pss_cons (ps_if (pt_cmpR op_eq (pv 1) pe_int (nomark _)) (pss_cons (ps_set (i := 10) sc__law_rt_numbers.nd rfl (Or.inl rfl) (pe_op op_fdivL pe_int (pe_callB (call_max3Nu rfl) (by rfl) T.z_max (by decide +kernel) (pa_cons (pv 3) (pa_cons (pe_callB call_abs (by rfl) T.z_abs (by decide +kernel) (pa_cons (pv 4) pa_nil)) (pa_cons (pe_callB call_abs (by rfl) T.z_abs (by decide +kernel) (pa_cons (pv 5) pa_nil)) pa_nil))))))
  (pss_one (ps_ret (pe_tup (pa_cons (pe_op op_mulL (pv 3) (pv 10)) (pa_cons (pe_op op_mulL (pv 4) (pv 10)) (pa_cons (pe_op op_mulL (pv 5) (pv 10)) pa_nil))))))) pss_nil)
  (pss_one (ps_ret (pe_tup (pa_cons (pv 3) (pa_cons (pv 4) (pa_cons (pv 5) pa_nil)))))))))))), ?_⟩
    refine ⟨_, rfl, a, 5, n, rfl, by decide, by decide, by omega, hp, fun st H1 st0 st1 hp1 k1 => ?_⟩
    refine ⟨sz (by show 3 ≤ 1000000; decide), fun L nL => ?_⟩
    refine ⟨_, rfl, a, 3, n + 1, rfl, by decide, by decide, by omega, hp1.new nL, fun r H2 r0 r1 hp2 k2 => ?_⟩
    have e1 : H2 L = some (.lst [.int 3, .int 12, .int 60]) := k2 L _ (hp1.ne nL).symm upd_same
    obtain ⟨t, ht, et⟩ := menu_at (l := [3, 12, 60]) r0 r1
    have t1 : 3 ≤ t ∧ t ≤ 60 := by
      simp only [List.mem_cons, List.not_mem_nil, or_false] at ht
      rcases ht with rfl | rfl | rfl <;> decide
    have k02 : Kp a H H2 := (k1.new nL).trans k2
    refine ⟨L, _, r, _, rfl, rfl, SqL.of e1, et, _, _, rfl, ?_⟩
    have b2 : Cml 2 t := cml_l (by decide)
    refine ⟨_, rfl, _, rfl, a, _, n + 2, rfl, by omega, by omega, by omega, hp2, fun ra H3 ra0 ra1 hp3 k3 => ⟨_, _, rfl, rfl, ?_⟩⟩
    refine ⟨_, rfl, _, rfl, _, _, rfl, rfl, b2, _, _, rfl, rfl, a, _, n + 3, rfl, by omega, by omega, by omega, hp3, fun rb H4 rb0 rb1 hp4 k4 => ⟨_, rfl, _, _, rfl, rfl, ?_⟩⟩
    refine ⟨_, rfl, _, rfl, _, _, rfl, rfl, b2, _, _, rfl, rfl, a, _, n + 4, rfl, by omega, by omega, by omega, hp4, fun rc H5 rc0 rc1 hp5 k5 => ⟨_, rfl, _, _, rfl, rfl, ?_⟩⟩
    have k05 := ((k02.trans k3).trans k4).trans k5
    have hb : (rb - t).natAbs ≤ 60 := by omega
    have hc : (rc - t).natAbs ≤ 60 := by omega
    have ha : 1 ≤ 1 + ra ∧ 1 + ra ≤ 60 := by omega
    dsimp only
    generalize 1 + ra = A at ha ⊢
    generalize rb - t = B at hb ⊢
    generalize rc - t = C at hc ⊢
    refine ⟨_, _, _, rfl, ?_⟩
    have fin : ∀ (n' : Nat) (H' : Hp) (X Y Z : Int), n' ≤ n + 12 → Pu H' a n' → Kp a H H' → 1 ≤ X → X ≤ 60 → Y.natAbs ≤ 60 → Z.natAbs ≤ 60 → ∀ p, H' p = none → Q (.ref p) (upd H' p (.tup [.int X, .int Y, .int Z])) := fun n' H' X Y Z hn' hp' k' h1 h2 h3 h4 p np => q _ p ⟨X, Y, Z⟩ n' hn' (hp'.new np) (k'.new np) (k'.free hp' np) upd_same h1 h2 h3 h4
    have sml : ∀ {i j : Int}, i.natAbs ≤ 60 → Cml i j := fun {i j} h => cml_l (Nat.lt_of_le_of_lt h (by decide))
    have mle : ∀ {i j : Int} {u v w : Nat}, i.natAbs ≤ u → j.natAbs ≤ v → u * v ≤ w → (i * j).natAbs ≤ w := fun {i j u v w} h1 h2 h3 => by
      rw [Int.natAbs_mul]
      exact Nat.le_trans (Nat.mul_le_mul h1 h2) h3
    have nabs : ∀ {i : Int}, ((if i < 0 then -i else i) : Int) = (i.natAbs : Int) := fun {i} => by split <;> omega
    have cs : st = 0 ∨ st = 1 ∨ st = 2 ∨ st = 3 ∨ st = 4 := by omega
    rcases cs with rfl | rfl | rfl | rfl | rfl
    · refine ⟨_, rfl, rfl, _, rfl, ifY rfl ?_⟩
      refine ⟨_, rfl, a, _, n + 5, rfl, by decide, by decide, by omega, hp5, fun p1 H6 p10 p11 hp6 k6 => ⟨_, _, rfl, rfl, ?_⟩⟩
      refine ⟨_, rfl, a, _, n + 6, rfl, by decide, by decide, by omega, hp6, fun p2 H7 p20 p21 hp7 k7 => ⟨_, _, rfl, rfl, _, _, rfl, ?_⟩⟩
      refine ⟨_, rfl, a, _, n + 7, rfl, by decide, by decide, by omega, hp7, fun p3 H8 p30 p31 hp8 k8 => ⟨_, _, rfl, rfl, ?_⟩⟩
      refine ⟨_, rfl, a, _, n + 8, rfl, by decide, by decide, by omega, hp8, fun p4 H9 p40 p41 hp9 k9 => ⟨_, _, rfl, rfl, _, _, rfl, ?_⟩⟩
      have k09 := (((k05.trans k6).trans k7).trans k8).trans k9
      have l1 : (1 + p1).natAbs ≤ 6 := by omega
      have l2 : (1 + p2).natAbs ≤ 6 := by omega
      have l3 : (p3 - 5).natAbs ≤ 5 := by omega
      have l4 : (p4 - 5).natAbs ≤ 5 := by omega
      have m1 : 1 ≤ (1 + p1) * (1 + p2) := Int.mul_pos (show 0 < 1 + p1 by omega) (show 0 < 1 + p2 by omega)
      have m2 := mle (w := 36) l1 l2 (by decide)
      have m3 := mle (w := 30) l1 l4 (by decide)
      have m4 := mle (w := 30) l3 l2 (by decide)
      have m5 := mle (w := 30) l3 l4 (by decide)
      refine ⟨_, rfl, _, rfl, _, _, rfl, rfl, sml (by omega), _, rfl, _, rfl, _, _, rfl, rfl, sml (by omega), _, rfl, _, rfl, _, _, rfl, rfl, sml (by omega), _, _, rfl, rfl, _, rfl, _, rfl, _, _, rfl, rfl, sml (by omega), sz (by show 3 ≤ 1000000; decide), fun p np => ?_⟩
      exact fin _ _ _ _ _ (by omega) hp9 k09 m1 (by omega) (by omega) (by omega) p np
    · refine ⟨_, rfl, rfl, _, rfl, ifN (fun z => absurd (V.int.inj z) (by decide)) ?_⟩
      refine ⟨_, rfl, rfl, _, rfl, ifY rfl ?_⟩
      refine ⟨_, rfl, rfl, _, rfl, ifN (fun z => absurd (V.int.inj z) (by decide)) ?_⟩
      refine ⟨_, rfl, rfl, _, rfl, ifN (fun z => absurd (V.int.inj z) (by decide)) ?_⟩
      refine ⟨_, rfl, _, rfl, _, rfl, sz (by show 3 ≤ 1000000; decide), fun p np => ?_⟩
      exact fin _ _ _ _ _ (by omega) hp5 k05 ha.1 ha.2 hb (by decide) p np
    · refine ⟨_, rfl, rfl, _, rfl, ifN (fun z => absurd (V.int.inj z) (by decide)) ?_⟩
      refine ⟨_, rfl, rfl, _, rfl, ifN (fun z => absurd (V.int.inj z) (by decide)) ?_⟩
      refine ⟨_, rfl, rfl, _, rfl, ifY rfl ?_⟩
      refine ⟨_, rfl, _, rfl, _, rfl, _, rfl, _, rfl, ?_⟩
      refine ⟨_, rfl, rfl, _, rfl, ifN (fun z => absurd (V.int.inj z) (by decide)) ?_⟩
      refine ⟨_, rfl, _, rfl, _, rfl, sz (by show 3 ≤ 1000000; decide), fun p np => ?_⟩
      exact fin _ _ _ _ _ (by omega) hp5 k05 ha.1 ha.2 (by rw [nabs]; omega) (by rw [nabs]; omega) p np
    · refine ⟨_, rfl, rfl, _, rfl, ifN (fun z => absurd (V.int.inj z) (by decide)) ?_⟩
      refine ⟨_, rfl, rfl, _, rfl, ifN (fun z => absurd (V.int.inj z) (by decide)) ?_⟩
      refine ⟨_, rfl, rfl, _, rfl, ifN (fun z => absurd (V.int.inj z) (by decide)) ?_⟩
      refine ⟨_, rfl, rfl, _, rfl, ifY rfl ?_⟩
      refine ⟨_, rfl, _, rfl, _, rfl, _, rfl, _, rfl, ?_⟩
      rw [nabs, nabs]
      obtain ⟨m, em, m1, m2, m3, m4⟩ := max3 A (B.natAbs : Int) (C.natAbs : Int)
      have mm : 1 ≤ m ∧ m ≤ 60 := by omega
      refine ⟨_, _, _, _, rfl, em, _, _, rfl, rfl, .inr ⟨by omega, Nat.lt_trans (PySem.Flt.log2_lt_of (k := 100) (by decide) (Nat.lt_of_le_of_lt (show m.natAbs ≤ 60 by omega) (by decide))) (by decide)⟩, ?_⟩
      obtain ⟨f, ef, f1, f2⟩ : ∃ f : Int, (60 : Int).fdiv m = f ∧ 1 ≤ f ∧ f * m ≤ 60 := by
        refine ⟨_, rfl, ?_⟩
        rw [Int.fdiv_eq_ediv_of_nonneg _ (by omega)]
        exact ⟨(Int.le_ediv_iff_mul_le (by omega)).mpr (by omega), Int.ediv_mul_le _ (by omega)⟩
      dsimp only
      rw [ef]
      have up : ∀ {i : Int}, (i.natAbs : Int) ≤ m → (i * f).natAbs ≤ 60 := fun {i} h => by
        have := Int.mul_le_mul_of_nonneg_left h (show 0 ≤ f by omega)
        have e : ((i * f).natAbs : Int) = f * (i.natAbs : Int) := by
          rw [Int.natAbs_mul, Int.natCast_mul, Int.mul_comm, show ((f.natAbs : Nat) : Int) = f by omega]
        omega
      have a1 := up (i := A) (by omega)
      have a2 := Int.mul_pos (show 0 < A by omega) (show 0 < f by omega)
      refine ⟨_, rfl, _, rfl, _, _, rfl, rfl, sml (by omega), _, rfl, _, rfl, _, _, rfl, rfl, sml (by omega), _, rfl, _, rfl, _, _, rfl, rfl, sml (by omega), sz (by show 3 ≤ 1000000; decide), fun p np => ?_⟩
      exact fin _ _ _ _ _ (by omega) hp5 k05 a2 (by omega) (up m2) (up m3) p np
    · refine ⟨_, rfl, rfl, _, rfl, ifN (fun z => absurd (V.int.inj z) (by decide)) ?_⟩
      refine ⟨_, rfl, rfl, _, rfl, ifN (fun z => absurd (V.int.inj z) (by decide)) ?_⟩
      refine ⟨_, rfl, rfl, _, rfl, ifN (fun z => absurd (V.int.inj z) (by decide)) ?_⟩
      refine ⟨_, rfl, rfl, _, rfl, ifN (fun z => absurd (V.int.inj z) (by decide)) ?_⟩
      refine ⟨_, rfl, _, rfl, _, rfl, sz (by show 3 ≤ 1000000; decide), fun p np => ?_⟩
      exact fin _ _ _ _ _ (by omega) hp5 k05 ha.1 ha.2 hb hc p np

/-! check_square -/
def sp_check_square (K : PySem.W.Frag) : Sp := fun vs H Q _ => ∃ (p : Addr) (t : T3), vs = [.ref p] ∧ SqT K H p (t.l.map V.int) ∧ 0 < t.x ∧ Q .non H
theorem ok_check_square (T : Tx K mg) : FnOk P w K mg base CX0 1 T.a_check_square T.fd_check_square ["square"] (sp_check_square K) := by
  refine T.F_check_square.ok sc_check_square (fun vs H Q E h => ?_) (fun cdv A outer s H vs Q E hr h => ?_)
  · obtain ⟨p, t, rfl, _⟩ := h
    rfl
  · obtain ⟨p, t, rfl, hp, hx, q⟩ := h
    refine ⟨_, (pss_one (ps_if (pt_cmpR op_lt (pe_ix ix_tup (pv 0) pe_int (fun _ _ => rfl)) pe_int (nomark _)) (pss_one ps_never) pss_nil)), ?_⟩
    refine ⟨_, rfl, p, _, _, _, rfl, rfl, hp, rfl, _, _, rfl, rfl, _, rfl, ifN (by show ¬ t.x < 1; omega) q⟩

/-! fractions_above_zero -/
def sp_fractions_above_zero (K : PySem.W.Frag) : Sp := fun vs H Q _ => ∃ (p : Addr) (r1 r2 q : Int), vs = [.ref p, .int q] ∧ H p = some (.lst [.int r1, .int r2]) ∧ 0 < q ∧ Bd 100 r1 ∧ Bd 100 r2 ∧ Bd 100 q ∧ ∀ H' v, Same H H' → RtAt H H' v (frR q [r1, r2]) → Q v H'
theorem ok_fractions_above_zero (T : Tx K mg) : FnOk P w K mg base CX0 1 T.a_fractions_above_zero T.fd_fractions_above_zero ["aboves", "below"] (sp_fractions_above_zero K) := by
  refine T.F_fractions_above_zero.ok sc_fractions_above_zero (fun vs H Q E h => ?_) (fun cdv A outer s H vs Q E hr h => ?_)
  · obtain ⟨p, r1, r2, q, rfl, _⟩ := h
    rfl
  · obtain ⟨p, r1, r2, q, rfl, hp, q0, b1, b2, bq, q'⟩ := h
    refine ⟨_, (pss_cons (ps_set (i := 2) sc_fractions_above_zero.nd rfl (Or.inl rfl) (pe_lst pa_nil))
  (pss_cons (ps_for PassesOwn.never rfl (pi_list (pv 0)) (pg_name (i := 3) sc_fractions_above_zero.nd rfl (Or.inl rfl))
    (pss_cons (ps_set (i := 4) sc_fractions_above_zero.nd rfl (Or.inl rfl) (pe_callBfun cr_gcdN (by rfl) T.m_gcd (pa_cons (pv 3) (pa_cons (pv 1) pa_nil))))
  (pss_cons (ps_set (i := 5) sc_fractions_above_zero.nd rfl (Or.inl rfl) (pe_tup (pa_cons (pe_op op_fdivL (pv 3) (pv 4)) (pa_cons (pe_op op_fdivL (pv 1) (pv 4)) pa_nil))))
  (pss_one (ps_if (PW.pt (pw_and (pt_cmpR op_gt (pv 3) pe_int (nomark _)) (pw_and1 (pt_cmpR (op_notInD (units65 hr)) (pv 5) (pv 2) rfl)))) (pss_one (ps_expr (pe_bm PySem.F.plainAttrs_list PySem.F.slot_list_append PySem.F.type_list_append mt_append (pv 2) (pa_cons (pv 5) pa_nil)))) pss_nil)))))
  (pss_one (ps_ret (pv 2))))), ?_⟩
    refine ⟨sz (by show 0 ≤ 1000000; decide), fun r nr => ?_⟩
    refine ⟨_, rfl, p, rfl, ⟨_, SqL.of (((L2.Same.refl H).new nr) _ _ hp)⟩, for_list (xs := [.int r1, .int r2]) (fun i σ H' => ∃ (qs : List Addr) (x y z : Option V), σ = [some (.ref p), some (.int q), some (.ref r), x, y, z] ∧ Same H H' ∧ H' r = some (.lst (qs.map V.ref)) ∧ Ents H' qs (frR q ([r1, r2].take i))) ⟨[], none, none, none, rfl, (L2.Same.refl H).new nr, upd_same, trivial⟩ (fun i σ H' _ hh => by
      obtain ⟨_, _, _, _, _, s, _⟩ := hh
      exact SqL.of (s _ _ hp)) ?_ ?_⟩
    · rintro i v σ H2 hv ⟨qs, x, y, z, rfl, s2, e2, en⟩
      obtain ⟨ri, rfl, bi, ti, hi⟩ : ∃ ri, v = .int ri ∧ Bd 100 ri ∧ [r1, r2].take (i + 1) = [r1, r2].take i ++ [ri] ∧ i < 2 := by
        match i, hv with
        | 0, hv => exact ⟨r1, (Option.some.inj hv).symm, b1, rfl, by decide⟩
        | 1, hv => exact ⟨r2, (Option.some.inj hv).symm, b2, rfl, by decide⟩
      rw [ti, frR_snoc]
      generalize hR : frR q ([r1, r2].take i) = R at *
      have fR : ∀ e ∈ R, ∃ x y, e = .fr x y := fun e he => by
        rw [← hR] at he
        obtain ⟨r', _, _, e'⟩ := frR_fr _ _ e he
        exact ⟨_, _, e'⟩
      have lR : R.length ≤ 2 := by
        have := frR_len q ([r1, r2].take i)
        rw [hR, List.length_take] at this
        exact Nat.le_trans this (Nat.min_le_right _ _)
      have gp := gl_pos (x := q) (l := [ri, q]) (by simp) (by omega)
      refine ⟨_, rfl, _, rfl, .inl ⟨_, _, rfl, ?_⟩⟩
      rw [← gl2]
      have gq : gl [ri, q] ≤ q.natAbs := gl_le (l := [ri, q]) (x := q) (by simp) (by omega)
      generalize hg : gl [ri, q] = g at *
      have cg : ∀ {i : Int}, Cfd i (g : Int) := fun {i} => .inr ⟨by omega, Nat.lt_trans (PySem.Flt.log2_lt_of (k := 100) (by decide) (Nat.lt_of_le_of_lt (show ((g : Nat) : Int).natAbs ≤ q.natAbs by omega) bq)) (by decide)⟩
      refine ⟨_, rfl, _, rfl, _, _, rfl, rfl, ?_, _, rfl, _, rfl, _, _, rfl, rfl, ?_, sz (by show 2 ≤ 1000000; decide), fun t nt => ?_⟩
      · exact cg
      · exact cg
      have s3 := s2.trans ((L2.Same.refl H2).new (o := .tup [.int (ri.fdiv g), .int (q.fdiv g)]) nt)
      have e3 := ((L2.Same.refl H2).new (o := .tup [.int (ri.fdiv g), .int (q.fdiv g)]) nt) _ _ e2
      have en3 := en.same ((L2.Same.refl H2).new (o := .tup [.int (ri.fdiv g), .int (q.fdiv g)]) nt)
      have et : (upd H2 t (.tup [.int (ri.fdiv g), .int (q.fdiv g)])) t = some (.tup (frE q ri).vs) := by
        rw [upd_same, Int.fdiv_eq_ediv_of_nonneg _ (by omega), Int.fdiv_eq_ediv_of_nonneg _ (by omega)]
        unfold frE
        rw [hg]
        rfl
      generalize (upd H2 t (.tup [.int (ri.fdiv g), .int (q.fdiv g)])) = H3 at *
      have no : ¬ (0 < ri ∧ frE q ri ∉ R) → addF q R ri = R := fun h => by
        unfold addF
        rw [if_neg h]
      refine ⟨_, rfl, _, _, rfl, rfl, _, rfl, bl2 (fun g1 => ?_) (fun g1 => ?_)⟩
      · have g1 := of_decide_eq_true g1
        refine ⟨_, rfl, _, rfl, _, _, Ent.dp (e := frE q ri) et, .lst (SqL.of e3) en3.dp, shaped_tup _, ents_shaped fR, _, rfl, ?_⟩
        have ea : ((R.map Ent.data).any fun z => PyData.eqv z (frE q ri).data) = decide (frE q ri ∈ R) := any_fr fR
        rw [ea]
        by_cases mem : frE q ri ∈ R
        · rw [decide_eq_true mem]
          refine iteF ⟨qs, _, _, _, rfl, s3, e3, ?_⟩
          rw [no fun h => h.2 mem]
          exact en3
        · rw [decide_eq_false mem]
          have lq : (qs.map V.ref).length < sizeLine := by
            rw [List.length_map, en3.len]
            exact Nat.lt_of_le_of_lt lR (by decide)
          refine iteT ⟨_, rfl, .inl ⟨rfl, _, SqL.of e3⟩, _, rfl, r, _, _, rfl, rfl, e3, lq, qs ++ [t], _, _, _, rfl, ?_, ?_, ?_⟩
          · exact fun b o hb => by
              rw [upd_ne (ne_of_none hb nr)]
              exact s3 b o hb
          · rw [upd_same, List.map_append]
            rfl
          · rw [show addF q R ri = R ++ [frE q ri] from if_pos ⟨g1, mem⟩]
            exact (en3.upd e3).snoc (by rw [upd_ne (ne_of_tup et e3)]; exact et)
      · have g1 := of_decide_eq_false g1
        refine iteF ⟨qs, _, _, _, rfl, s3, e3, ?_⟩
        rw [no fun h => g1 h.1]
        exact en3
    · rintro σ H2 ⟨qs, x, y, z, rfl, s2, e2, en⟩
      exact ⟨_, rfl, q' _ _ s2 ⟨r, qs, rfl, nr, e2, en⟩⟩

/-! is_above_one -/
def sp_is_above_one (K : PySem.W.Frag) : Sp := fun vs H Q _ => ∃ (t : T3), vs = [.int t.x, .int t.y, .int t.disc] ∧ (∀ i ∈ t.l, Bd 600 i) ∧ Q (.bl t.abv) H
theorem ok_is_above_one (T : Tx K mg) : FnOk P w K mg base CX0 1 T.a_is_above_one T.fd_is_above_one ["a", "b", "under_root"] (sp_is_above_one K) := by
  refine T.F_is_above_one.ok sc_is_above_one (fun vs H Q E h => ?_) (fun cdv A outer s H vs Q E hr h => ?_)
  · obtain ⟨t, rfl, _⟩ := h
    rfl
  · obtain ⟨t, rfl, b, q⟩ := h
    refine ⟨_, (pss_cons (ps_set (i := 3) sc_is_above_one.nd rfl (Or.inl rfl) (pe_op op_add (pe_op op_mulL pe_int (pv 0)) (pv 1)))
  (pss_cons (ps_set (i := 4) sc_is_above_one.nd rfl (Or.inl rfl) (pe_or (pe_cmpR op_lt (pv 3) pe_int (nomark _)) (pe_one (pe_cmpR op_gt (pv 2) (pe_op op_mulL (pv 3) (pv 3)) (nomark _)))))
  (pss_one (ps_ret (pe_cmpR op_eq (pv 4) (pe_cmpR op_gt (pv 0) pe_int (nomark _)) (nomark _)))))), ?_⟩
    have bx := b t.x (by simp [T3.l])
    have by0 := b t.y (by simp [T3.l])
    have hb : Bd 604 (2 * t.x + t.y) := by
      unfold Bd at *
      have : 2 ^ 604 = 16 * 2 ^ 600 := by decide
      omega
    have fin : ∀ b : Bool, (b == decide (t.x > 0)) = t.abv → Q (V.bl (decide (V.bl b = V.bl (decide (0 < t.x))))) H := fun b e => by
      have : decide (V.bl b = V.bl (decide (0 < t.x))) = t.abv := by
        rw [← e]
        cases b <;> cases (decide (0 < t.x)) <;> decide
      rw [this]
      exact q
    refine ⟨_, rfl, _, _, rfl, rfl, cml_l (by decide), _, rfl, _, _, rfl, rfl, ?_⟩
    refine ⟨_, rfl, _, _, rfl, rfl, _, rfl, bl2 (fun c => ?_) (fun c => ?_)⟩
    · refine ⟨_, rfl, _, rfl, _, _, rfl, rfl, rfl, fin true ?_⟩
      unfold T3.abv
      rw [c, Bool.true_or]
    · refine ⟨_, rfl, _, rfl, _, rfl, _, _, rfl, rfl, hb.ml hb, _, _, rfl, rfl, ?_⟩
      refine ⟨_, rfl, _, rfl, _, _, rfl, rfl, rfl, fin _ ?_⟩
      unfold T3.abv
      rw [c, Bool.false_or]

/-! ring_of_root -/
def sp_ring_of_root (K : PySem.W.Frag) : Sp := fun vs H Q _ => ∃ (t : T3) (D : Int) (n : Nat), vs = [.int t.x, .int t.y, .int t.z] ∧ Met D t ∧ (∀ s : Int, s * s ≠ D) ∧ Ret t n ∧ n ≤ 1000000 ∧ ∀ H', Same H H' → Q (.str (rd (t.way n))) H'
theorem flatR_one (w : List Bool) : (w.map (fun t => [t])).flatten = w := by
  induction w with
  | nil => rfl
  | cons t w ih =>
    show [t] ++ (w.map (fun t => [t])).flatten = _
    rw [ih]
    rfl
theorem ok_ring_of_root (T : Tx K mg) : FnOk P w K mg base CX0 1 T.a_ring_of_root T.fd_ring_of_root ["a", "b", "c"] (sp_ring_of_root K) := by
  refine T.F_ring_of_root.ok sc_ring_of_root (fun vs H Q E h => ?_) (fun cdv A outer s H vs Q E hr h => ?_)
  · obtain ⟨t, D, n, rfl, _⟩ := h
    rfl
  · obtain ⟨t, D, n, rfl, m, ns, hr', hn, q⟩ := h
    refine ⟨_, (pss_cons (ps_set (i := 3) sc_ring_of_root.nd rfl (Or.inl rfl) (pe_tup (pa_cons (pv 0) (pa_cons (pv 1) (pa_cons (pv 2) pa_nil)))))
  (pss_cons (ps_set (i := 4) sc_ring_of_root.nd rfl (Or.inl rfl) (pe_lst pa_nil))
  (pss_cons (ps_while PassesOwn.never (PW.pt (pw_or (pt_not (pt_truth (pv 4) (fun _ => rfl))) (pw_or1 (pt_cmpR (op_neD hr.units) (pe_tup (pa_cons (pv 0) (pa_cons (pv 1) (pa_cons (pv 2) pa_nil)))) (pv 3) (nomark _)))))
    (pss_cons (ps_set (i := 5) sc_ring_of_root.nd rfl (Or.inl rfl) (pe_op op_add (pe_op op_add (pv 0) (pv 1)) (pv 2)))
  (pss_one (ps_if (pt_cmpR op_lt (pv 5) pe_int (nomark _)) (pss_cons (ps_expr (pe_bm PySem.F.plainAttrs_list PySem.F.slot_list_append PySem.F.type_list_append mt_append (pv 4) (pa_cons pe_str pa_nil)))
  (pss_one (ps_par (i := 1) (j := 2) (by rfl) sc_ring_of_root.nd rfl rfl (by decide) rfl rfl (pa_cons (pe_op op_add (pe_op op_mulL pe_int (pv 0)) (pv 1)) (pa_cons (pv 5) pa_nil)) (by rfl)))) (pss_cons (ps_expr (pe_bm PySem.F.plainAttrs_list PySem.F.slot_list_append PySem.F.type_list_append mt_append (pv 4) (pa_cons pe_str pa_nil)))
  (pss_one (ps_par (i := 0) (j := 1) (by rfl) sc_ring_of_root.nd rfl rfl (by decide) rfl rfl (pa_cons (pv 5) (pa_cons (pe_op op_add (pv 1) (pe_op op_mulL pe_int (pv 2))) pa_nil)) (by rfl))))))))
  (pss_one (ps_ret (pe_join pe_str (pv 4))))))), ?_⟩
    refine ⟨_, rfl, _, rfl, _, rfl, sz (by show 3 ≤ 1000000; decide), fun p np => ?_⟩
    refine ⟨sz (by show 0 ≤ 1000000; decide), fun r nr => ?_⟩
    have s1 := (L2.Same.refl H).new (o := .tup [.int t.x, .int t.y, .int t.z]) np
    have hp1 : (upd (upd H p (.tup [.int t.x, .int t.y, .int t.z])) r (.lst [])) p = some (.tup (t.l.map V.int)) := by rw [upd_ne (ne_of_none upd_same nr)]; exact upd_same
    refine ⟨fun k σ H2 => ∃ (i : Nat) (z : Option V), k = n - i ∧ i ≤ n ∧ σ = [some (.int (t.gos (t.way i)).x), some (.int (t.gos (t.way i)).y), some (.int (t.gos (t.way i)).z), some (.ref p), some (.ref r), z] ∧ Same H H2 ∧ H2 p = some (.tup (t.l.map V.int)) ∧ H2 r = some (.lst ((((t.way i).map (fun t => [t])).map rd).map V.str)), ⟨n, 0, none, rfl, Nat.zero_le _, rfl, s1.new nr, hp1, upd_same⟩, ?_⟩
    rintro k σ H2 ⟨i, z, rfl, hi, rfl, sm, hp, hr2⟩
    have hr0 : H r = none := s1.free nr
    have npr : p ≠ r := ne_of_none upd_same nr
    have ln : ((((t.way i).map (fun t => [t])).map rd).map V.str).length = i := by simp [way_len]
    refine testM (decide (i < n)) (fun H3 => Same H2 H3) (fun R hR => ?_) (fun H3 s3 => ?_)
    · by_cases c0 : i = 0
      · subst c0
        have z := hR H2 (L2.Same.refl _)
        rw [decide_eq_true (show 0 < n by have := hr'.pos; omega)] at z
        exact ⟨_, rfl, false, .inl ⟨_, SqL.of hr2, rfl⟩, z⟩
      · refine ⟨_, rfl, true, .inl ⟨_, SqL.of hr2, ?_⟩, ?_⟩
        · cases e : ((((t.way i).map (fun t => [t])).map rd).map V.str) with
          | nil => rw [e] at ln; exact absurd ln.symm c0
          | cons _ _ => rfl
        · refine ⟨_, rfl, _, rfl, _, rfl, sz (by show 3 ≤ 1000000; decide), fun u nu => ?_⟩
          have s4 := (L2.Same.refl H2).new (o := .tup ((t.gos (t.way i)).l.map V.int)) nu
          refine ⟨_, rfl, _, _, dp_tup (l := (t.gos (t.way i)).l) (SqT.of upd_same), dp_tup (l := t.l) (SqT.of (s4 _ _ hp)), shaped_tup _, shaped_tup _, ?_⟩
          rw [eqv_tup]
          have e : (!decide ((t.gos (t.way i)).l = t.l)) = decide (i < n) := by
            by_cases c : i < n
            · rw [decide_eq_true c, decide_eq_false fun z => hr'.no i (by omega) c (T3.ext' (by injection z) (by injection z with _ z; injection z) (by injection z with _ z; injection z with _ z; injection z))]
              rfl
            · have : i = n := by omega
              subst this
              rw [decide_eq_false c, hr'.eq, decide_eq_true rfl]
              rfl
          rw [e]
          exact ⟨_, rfl, hR _ s4⟩
    · have hp3 := s3 _ _ hp
      have hr3 := s3 _ _ hr2
      by_cases c : i < n
      · refine ifY c ?_
        have ws : t.gos (t.way (i + 1)) = (t.gos (t.way i)).go (t.gos (t.way i)).nx := way_st t i
        have wy : t.way (i + 1) = t.way i ++ [(t.gos (t.way i)).nx] := rfl
        have room : ((((t.way i).map (fun t => [t])).map rd).map V.str).length < sizeLine := by
          rw [ln]
          exact Nat.lt_of_le_of_lt (show i ≤ 1000000 by omega) (by decide)
        have keep : ∀ o, Same H (upd H3 r o) := fun o b u z => by rw [upd_ne (ne_of_none z hr0)]; exact (sm.trans s3) b u z
        refine ⟨fun σ' H' => ∃ z, σ' = [some (.int (t.gos (t.way (i + 1))).x), some (.int (t.gos (t.way (i + 1))).y), some (.int (t.gos (t.way (i + 1))).z), some (.ref p), some (.ref r), z] ∧ Same H H' ∧ H' p = some (.tup (t.l.map V.int)) ∧ H' r = some (.lst ((((t.way (i + 1)).map (fun t => [t])).map rd).map V.str)), ?_, ?_⟩
        · rintro σ' H' ⟨z, e⟩
          exact ⟨n - (i + 1), by omega, i + 1, z, rfl, c, e⟩
        · rw [ws, wy]
          generalize t.gos (t.way i) = F at *
          refine ⟨_, rfl, _, rfl, _, _, rfl, rfl, _, rfl, _, _, rfl, rfl, ?_⟩
          refine ⟨_, rfl, _, _, rfl, rfl, _, rfl, ?_⟩
          by_cases g : F.x + F.y + F.z < 0
          · have nx : F.nx = true := decide_eq_true g
            refine ifY g ⟨_, rfl, .inl ⟨rfl, _, SqL.of hr3⟩, r, _, _, rfl, rfl, hr3, room, ?_⟩
            refine ⟨_, rfl, _, _, rfl, rfl, cml_l (by decide), _, rfl, _, _, rfl, rfl, _, rfl, ?_⟩
            rw [nx]
            refine ⟨_, _, rfl, _, rfl, keep _, by rw [upd_ne npr]; exact hp3, ?_⟩
            rw [upd_same, show Str.ofString "R" = rd [true] from rd_R.symm]
            simp
          · have nx : F.nx = false := decide_eq_false g
            refine ifN g ⟨_, rfl, .inl ⟨rfl, _, SqL.of hr3⟩, r, _, _, rfl, rfl, hr3, room, ?_⟩
            refine ⟨_, rfl, _, rfl, _, rfl, _, _, rfl, rfl, cml_l (by decide), _, _, rfl, rfl, ?_⟩
            rw [nx]
            refine ⟨_, _, rfl, _, rfl, keep _, by rw [upd_ne npr]; exact hp3, ?_⟩
            rw [upd_same, show Str.ofString "L" = rd [false] from rd_L.symm]
            simp
      · have ei : i = n := by omega
        subst ei
        refine ifN c ?_
        refine ⟨⟨_, rfl⟩, _, rfl, ("" : Str), r, ((t.way i).map (fun t => [t])).map rd, rfl, rfl, .inl (SqL.of hr3), join_room (by rw [flatR_one, way_len]; omega), ?_⟩
        rw [join_rd, flatR_one]
        exact q _ (sm.trans s3)

/-! course_of_root -/
def sp_course_of_root (K : PySem.W.Frag) : Sp := fun vs H Q _ => ∃ (t : T3) (f w : List Bool), vs = [.int t.x, .int t.y, .int t.z] ∧ Tp f w t ∧ t.Ns ∧ 0 < t.disc ∧ t.disc ≤ 18000 ∧ f.length ≤ 70 ∧ (∀ i ∈ t.l, Bd 400 i) ∧
  ∀ c (i n : Nat), Lw f w c → i ≤ f.length → (∀ k, k < i → 0 < (t.gos (f.take k)).x * (t.gos (f.take k)).z) → Met t.disc (t.gos (f.take i)) → Ret (t.gos (f.take i)) n → n ≤ 7290 → c = (f.take i, (t.gos (f.take i)).way n) →
    ∀ H' p, Same H H' → H p = none → H' p = some (.tup [.str (rd c.1), .str (rd c.2)]) → Q (.ref p) H'
theorem ok_course_of_root (T : Tx K mg) : FnOk P w K mg base CX0 2 T.a_course_of_root T.fd_course_of_root ["a", "b", "c"] (sp_course_of_root K) := by
  have G_is_above_one := ok_is_above_one (P := P) (w := w) (base := base) T
  have G_ring_of_root := ok_ring_of_root (P := P) (w := w) (base := base) T
  refine T.F_course_of_root.ok sc_course_of_root (fun vs H Q E h => ?_) (fun cdv A outer s H vs Q E hr h => ?_)
  · obtain ⟨t, f, w, rfl, _⟩ := h
    rfl
  · obtain ⟨t, f, w, rfl, tp, ns, d0, d1, hf, bd, q⟩ := h
    refine ⟨_, (pss_cons (ps_set (i := 3) sc_course_of_root.nd rfl (Or.inl rfl) (pe_op op_sub (pe_op op_mulL (pv 1) (pv 1)) (pe_op op_mulL (pe_op op_mulL pe_int (pv 0)) (pv 2))))
  (pss_cons (ps_set (i := 4) sc_course_of_root.nd rfl (Or.inl rfl) (pe_lst pa_nil))
  (pss_cons (ps_while PassesOwn.never (pt_cmpR op_gt (pe_op op_mulL (pv 0) (pv 2)) pe_int (nomark _))
    (pss_cons (ps_set (i := 5) sc_course_of_root.nd rfl (Or.inl rfl) (pe_op op_add (pe_op op_add (pv 0) (pv 1)) (pv 2)))
  (pss_one (ps_if (pt_val (pe_call G_is_above_one (hr.mono (by decide)) (by rfl) T.g_is_above_one T.F_is_above_one.kp (b_is_above_one T.F_is_above_one) .nil pass0 (pa_cons (pv 0) (pa_cons (pv 1) (pa_cons (pv 3) pa_nil))))) (pss_cons (ps_expr (pe_bm PySem.F.plainAttrs_list PySem.F.slot_list_append PySem.F.type_list_append mt_append (pv 4) (pa_cons pe_str pa_nil)))
  (pss_one (ps_par (i := 1) (j := 2) (by rfl) sc_course_of_root.nd rfl rfl (by decide) rfl rfl (pa_cons (pe_op op_add (pe_op op_mulL pe_int (pv 0)) (pv 1)) (pa_cons (pv 5) pa_nil)) (by rfl)))) (pss_cons (ps_expr (pe_bm PySem.F.plainAttrs_list PySem.F.slot_list_append PySem.F.type_list_append mt_append (pv 4) (pa_cons pe_str pa_nil)))
  (pss_one (ps_par (i := 0) (j := 1) (by rfl) sc_course_of_root.nd rfl rfl (by decide) rfl rfl (pa_cons (pv 5) (pa_cons (pe_op op_add (pv 1) (pe_op op_mulL pe_int (pv 2))) pa_nil)) (by rfl))))))))
  (pss_one (ps_ret (pe_tup (pa_cons (pe_join pe_str (pv 4)) (pa_cons (pe_call G_ring_of_root (hr.mono (by decide)) (by rfl) T.g_ring_of_root T.F_ring_of_root.kp (b_ring_of_root T.F_ring_of_root) .nil pass0 (pa_cons (pv 0) (pa_cons (pv 1) (pa_cons (pv 2) pa_nil)))) pa_nil)))))))), ?_⟩
    have bd600 : ∀ i ≤ f.length, ∀ j ∈ (t.gos (f.take i)).l, Bd 600 j := fun i hi j hj => (gos_bd bd j hj).up (by rw [List.length_take]; omega)
    have bx := fun i hi => bd600 i hi _ (show (t.gos (f.take i)).x ∈ _ by simp [T3.l])
    have bz := fun i hi => bd600 i hi _ (show (t.gos (f.take i)).z ∈ _ by simp [T3.l])
    have x0 : Bd 600 t.x := bx 0 (Nat.zero_le _)
    have y0 : Bd 600 t.y := bd600 0 (Nat.zero_le _) _ (by show t.y ∈ t.l; simp [T3.l])
    have z0 : Bd 600 t.z := bz 0 (Nat.zero_le _)
    have x4 : Bd 610 (4 * t.x) := by
      unfold Bd at *
      have : 2 ^ 610 = 1024 * 2 ^ 600 := by decide
      omega
    refine ⟨_, rfl, _, rfl, _, _, rfl, rfl, y0.ml y0, _, rfl, _, _, rfl, rfl, cml_l (by decide), _, rfl, _, _, rfl, rfl, x4.ml z0, _, _, rfl, rfl, ?_⟩
    refine ⟨sz (by show 0 ≤ 1000000; decide), fun r nr => ?_⟩
    have dropT : ∀ (i : Nat), i ≤ f.length → Tp (f.drop i) w (t.gos (f.take i)) := by
      have : ∀ (i : Nat) {f : List Bool} {t : T3}, Tp f w t → i ≤ f.length → Tp (f.drop i) w (t.gos (f.take i)) := by
        intro i
        induction i with
        | zero => intro f t h _; exact h
        | succ i ih =>
          intro f t h j
          cases f with
          | nil => exact absurd j (by simp)
          | cons u f => exact ih h.tail (by simpa using j)
      exact fun i hi => this i tp hi
    refine ⟨fun k σ H2 => ∃ (i : Nat) (z : Option V), k = f.length - i ∧ i ≤ f.length ∧ (∀ k, k < i → 0 < (t.gos (f.take k)).x * (t.gos (f.take k)).z) ∧ σ = [some (.int (t.gos (f.take i)).x), some (.int (t.gos (f.take i)).y), some (.int (t.gos (f.take i)).z), some (.int (t.gos (f.take i)).disc), some (.ref r), z] ∧ Same H H2 ∧ H2 r = some (.lst ((((f.take i).map (fun t => [t])).map rd).map V.str)), ⟨f.length, 0, none, rfl, Nat.zero_le _, fun k h => absurd h (by omega), rfl, (L2.Same.refl H).new nr, upd_same⟩, ?_⟩
    rintro k σ H2 ⟨i, z, rfl, hi, nm, rfl, sm, hr2⟩
    have ln : ((((f.take i).map (fun t => [t])).map rd).map V.str).length = i := by simp [List.length_take]; omega
    have nsi := Ns.gos ns (f.take i)
    have tpi := dropT i hi
    have b6 := bd600 i hi
    have hxi := bx i hi
    have hzi := bz i hi
    refine ⟨_, rfl, _, rfl, _, _, rfl, rfl, hxi.ml hzi, _, _, rfl, rfl, _, rfl, ?_⟩
    by_cases c : 0 < (t.gos (f.take i)).x * (t.gos (f.take i)).z
    · refine ifY c ?_
      have i1 : i < f.length := by
        refine Nat.lt_of_not_le fun z => ?_
        rw [List.drop_eq_nil_of_le z] at tpi
        have := tpi.nil
        have := Int.mul_neg_of_pos_of_neg this.1 this.2
        omega
      obtain ⟨u, hu⟩ : ∃ u, f[i]? = some u := ⟨_, List.getElem?_eq_getElem i1⟩
      have ed : f.drop i = u :: f.drop (i + 1) := by
        rw [List.drop_eq_getElem_cons i1]
        rw [List.getElem?_eq_getElem i1] at hu
        rw [Option.some.inj hu]
      have et : f.take (i + 1) = f.take i ++ [u] := by rw [List.take_add_one, hu]; rfl
      rw [ed] at tpi
      have tn : (t.gos (f.take i)).abv = u := tpi.turn nsi (by rw [gos_disc]; exact d0) c
      have nm' : ∀ k, k < i + 1 → 0 < (t.gos (f.take k)).x * (t.gos (f.take k)).z := fun k hk => by
        by_cases e : k = i
        · subst e; exact c
        · exact nm k (by omega)
      refine ⟨fun σ' H' => ∃ z, σ' = [some (.int (t.gos (f.take (i + 1))).x), some (.int (t.gos (f.take (i + 1))).y), some (.int (t.gos (f.take (i + 1))).z), some (.int (t.gos (f.take (i + 1))).disc), some (.ref r), z] ∧ Same H H' ∧ H' r = some (.lst ((((f.take (i + 1)).map (fun t => [t])).map rd).map V.str)), ?_, ?_⟩
      · rintro σ' H' ⟨z, e⟩
        exact ⟨f.length - (i + 1), by omega, i + 1, z, rfl, i1, nm', e⟩
      · have hr0 : H r = none := nr
        have room : ((((f.take i).map (fun t => [t])).map rd).map V.str).length < sizeLine := by
          rw [ln]
          exact Nat.lt_of_le_of_lt (show i ≤ 1000000 by omega) (by decide)
        have keep : ∀ o, Same H (upd H2 r o) := fun o b u z => by rw [upd_ne (ne_of_none z hr0)]; exact sm b u z
        rw [et, gos_snoc]
        clear bd600 bx bz dropT nm nm' tpi q tp et hxi hzi
        generalize t.gos (f.take i) = F at *
        refine ⟨_, rfl, _, rfl, _, _, rfl, rfl, _, rfl, _, _, rfl, rfl, ?_⟩
        refine ⟨_, rfl, _, rfl, _, rfl, F, rfl, b6, _, rfl, ?_⟩
        cases u
        · rw [tn]
          refine iteF ⟨_, rfl, .inl ⟨rfl, _, SqL.of hr2⟩, r, _, _, rfl, rfl, hr2, room, ?_⟩
          refine ⟨_, rfl, _, rfl, _, rfl, _, _, rfl, rfl, cml_l (by decide), _, _, rfl, rfl, ?_⟩
          refine ⟨_, _, rfl, _, by rw [go_disc]; rfl, keep _, ?_⟩
          rw [upd_same, show Str.ofString "L" = rd [false] from rd_L.symm]
          simp
        · rw [tn]
          refine iteT ⟨_, rfl, .inl ⟨rfl, _, SqL.of hr2⟩, r, _, _, rfl, rfl, hr2, room, ?_⟩
          refine ⟨_, rfl, _, _, rfl, rfl, cml_l (by decide), _, rfl, _, _, rfl, rfl, _, rfl, ?_⟩
          refine ⟨_, _, rfl, _, by rw [go_disc]; rfl, keep _, ?_⟩
          rw [upd_same, show Str.ofString "R" = rd [true] from rd_R.symm]
          simp
    · refine ifN c ?_
      have ne : (t.gos (f.take i)).x * (t.gos (f.take i)).z ≠ 0 := Int.mul_ne_zero nsi.x nsi.z
      have xz := tpi.x nsi (by omega)
      have m : Met t.disc (t.gos (f.take i)) := ⟨xz.1, xz.2, gos_disc _ _⟩
      obtain ⟨n, hn, ret⟩ := ret_ex2 m ns d1
      obtain ⟨p, lp⟩ := least_ex tp.b.ne
      have lw : Lw f w (its f.length (f, w.take p)) := ⟨p, lp, rfl⟩
      have fin := tp.least ns hi nm m ret lw
      have q' := q _ i n lw hi nm m ret hn fin
      rw [fin] at q'
      refine ⟨⟨_, rfl⟩, _, rfl, ("" : Str), r, ((f.take i).map (fun t => [t])).map rd, rfl, rfl, .inl (SqL.of hr2), join_room (by rw [flatR_one, List.length_take]; omega), ?_⟩
      rw [join_rd, flatR_one]
      refine ⟨_, rfl, _, rfl, _, rfl, t.gos (f.take i), t.disc, n, rfl, m, ns, ret, by omega, fun H3 s3 => ?_⟩
      refine ⟨sz (by show 2 ≤ 1000000; decide), fun p2 np2 => ?_⟩
      exact q' _ p2 ((sm.trans s3).new np2) ((sm.trans s3).free np2) upd_same

/-! roots_of -/
def sp_roots_of (K : PySem.W.Frag) : Sp := fun vs H Q _ => ∃ (p : Addr) (t : T3) (R : List Ent), vs = [.ref p] ∧ SqT K H p (t.l.map V.int) ∧ 0 < t.x ∧ t.x.natAbs ≤ 60 ∧ t.y.natAbs ≤ 60 ∧ t.z.natAbs ≤ 60 ∧ RtIs t R ∧ ∀ H' v, Same H H' → RtAt H H' v R → Q v H'
theorem ok_roots_of (T : Tx K mg) : FnOk P w K mg base CX0 3 T.a_roots_of T.fd_roots_of ["square"] (sp_roots_of K) := by
  have G_check_square := ok_check_square (P := P) (w := w) (base := base) T
  have G_fractions_above_zero := ok_fractions_above_zero (P := P) (w := w) (base := base) T
  have G_course_of_root := ok_course_of_root (P := P) (w := w) (base := base) T
  refine T.F_roots_of.ok sc_roots_of (fun vs H Q E h => ?_) (fun cdv A outer s H vs Q E hr h => ?_)
  · obtain ⟨p, t, R, rfl, _⟩ := h
    rfl
  · obtain ⟨p, t, R, rfl, hp, x0, hx, hy, hz, is, q⟩ := h
    refine ⟨_, (pss_cons (ps_expr (pe_call G_check_square (hr.mono (by decide)) (by rfl) T.g_check_square T.F_check_square.kp (b_check_square T.F_check_square) .nil pass0 (pa_cons (pv 0) pa_nil)))
  (pss_cons (ps_asg (pv 0) (pg_tup (by rfl) (pgs_cons (pg_name (i := 1) sc_roots_of.nd rfl (Or.inl rfl)) (pgs_cons (pg_name (i := 2) sc_roots_of.nd rfl (Or.inl rfl)) (pgs_cons (pg_name (i := 3) sc_roots_of.nd rfl (Or.inl rfl)) pgs_nil)))))
  (pss_cons (ps_set (i := 4) sc_roots_of.nd rfl (Or.inl rfl) (pe_op op_sub (pe_op op_mulL (pv 2) (pv 2)) (pe_op op_mulL (pe_op op_mulL pe_int (pv 1)) (pv 3))))
  (pss_cons (ps_if (pt_cmpR op_lt (pv 4) pe_int (nomark _)) (pss_one (ps_ret (pe_lst pa_nil))) pss_nil)
  (pss_cons (ps_set (i := 5) sc_roots_of.nd rfl (Or.inl rfl) (pe_callBfun cr_isqrt (by rfl) T.m_isqrt (pa_cons (pv 4) pa_nil)))
  (pss_cons (ps_if (pt_cmpR op_eq (pe_op op_mulL (pv 5) (pv 5)) (pv 4) (nomark _)) (pss_one (ps_ret (pe_call G_fractions_above_zero (hr.mono (by decide)) (by rfl) T.g_fractions_above_zero T.F_fractions_above_zero.kp (b_fractions_above_zero T.F_fractions_above_zero) .nil pass0 (pa_cons (pe_lst (pa_cons (pe_op op_sub (pe_un un_neg (pv 2)) (pv 5)) (pa_cons (pe_op op_add (pe_un un_neg (pv 2)) (pv 5)) pa_nil))) (pa_cons (pe_op op_mulL pe_int (pv 1)) pa_nil))))) pss_nil)
  (pss_cons (ps_if (pt_cmpR op_lt (pv 3) pe_int (nomark _)) (pss_one (ps_ret (pe_lst (pa_cons (pe_call G_course_of_root (hr.mono (by decide)) (by rfl) T.g_course_of_root T.F_course_of_root.kp (b_course_of_root T.F_course_of_root) .nil pass0 (pa_cons (pv 1) (pa_cons (pv 2) (pa_cons (pv 3) pa_nil)))) pa_nil)))) pss_nil)
  (pss_cons (ps_if (pt_cmpR op_lt (pv 2) pe_int (nomark _)) (pss_one (ps_ret (pe_lst (pa_cons (pe_call G_course_of_root (hr.mono (by decide)) (by rfl) T.g_course_of_root T.F_course_of_root.kp (b_course_of_root T.F_course_of_root) .nil pass0 (pa_cons (pe_un un_neg (pv 1)) (pa_cons (pe_un un_neg (pv 2)) (pa_cons (pe_un un_neg (pv 3)) pa_nil)))) (pa_cons (pe_call G_course_of_root (hr.mono (by decide)) (by rfl) T.g_course_of_root T.F_course_of_root.kp (b_course_of_root T.F_course_of_root) .nil pass0 (pa_cons (pv 1) (pa_cons (pv 2) (pa_cons (pv 3) pa_nil)))) pa_nil))))) pss_nil)
  (pss_one (ps_ret (pe_lst pa_nil))))))))))), ?_⟩
    have d1 := disc_le hx hy hz
    have sml : ∀ {k : Nat} {i : Int}, 7 ≤ k → i.natAbs ≤ 60 → Bd k i := fun {k i} hk h => by
      have := Nat.pow_le_pow_right (n := 2) (by decide) hk
      unfold Bd
      omega
    have x1 : Bd 400 t.x := sml (by decide) hx
    have y1 : Bd 400 t.y := sml (by decide) hy
    have z1 : Bd 400 t.z := sml (by decide) hz
    have bd : ∀ i ∈ t.l, Bd 400 i := by
      intro i hi
      simp only [T3.l, List.mem_cons, List.not_mem_nil, or_false] at hi
      rcases hi with rfl | rfl | rfl <;> assumption
    have x4 : Bd 410 (4 * t.x) := by
      unfold Bd at *
      have : 2 ^ 410 = 1024 * 2 ^ 400 := by decide
      omega
    refine ⟨_, rfl, p, t, rfl, hp, x0, ?_⟩
    refine ⟨_, rfl, p, _, rfl, hp, rfl, _, _, rfl, _, _, rfl, _, _, rfl, rfl, ?_⟩
    refine ⟨_, rfl, _, rfl, _, _, rfl, rfl, y1.ml y1, _, rfl, _, _, rfl, rfl, cml_l (by decide), _, rfl, _, _, rfl, rfl, x4.ml z1, _, _, rfl, rfl, ?_⟩
    have ed : t.y * t.y - 4 * t.x * t.z = t.disc := rfl
    dsimp only
    rw [ed]
    refine ⟨_, rfl, _, _, rfl, rfl, _, rfl, ?_⟩
    by_cases neg : t.disc < 0
    · refine ifY neg ⟨sz (by show 0 ≤ 1000000; decide), fun r nr => ?_⟩
      refine q _ _ ((L2.Same.refl H).new nr) ⟨r, [], rfl, nr, upd_same, ?_⟩
      rw [is.neg neg]
      trivial
    refine ifN neg ?_
    refine ⟨_, rfl, t.disc, rfl, by omega, by have : (2 : Int) ^ 64 = 18446744073709551616 := by decide
                                              omega, fun s s0 s1 s2 => ?_⟩
    have s134 : s ≤ 134 := Int.not_lt.mp fun h => by
      have := Int.mul_le_mul (show (135 : Int) ≤ s by omega) (show (135 : Int) ≤ s by omega) (by omega) (by omega)
      omega
    have sB : Bd 20 s := bd_le s0 (by have : (2 : Int) ^ 20 = 1048576 := by decide
                                      omega)
    refine ⟨_, rfl, _, rfl, _, _, rfl, rfl, sB.ml sB, _, rfl, rfl, _, rfl, ?_⟩
    by_cases e : s * s = t.disc
    · refine ifY (congrArg V.int e) ?_
      refine ⟨_, rfl, _, rfl, _, rfl, _, _, rfl, rfl, _, rfl, _, rfl, _, rfl, _, _, rfl, rfl, sz (by show 2 ≤ 1000000; decide), fun u nu => ?_⟩
      have s1 := (L2.Same.refl H).new (o := .lst [.int (-t.y - s), .int (-t.y + s)]) nu
      refine ⟨_, rfl, _, _, rfl, rfl, cml_l (by decide), u, -t.y - s, -t.y + s, 2 * t.x, rfl, upd_same, by omega, ?_, ?_, ?_, fun H' v sm at' => ?_⟩
      · unfold Bd; omega
      · unfold Bd; omega
      · unfold Bd; omega
      · refine q _ _ (s1.trans sm) ?_
        rw [is.pl s s0 e]
        obtain ⟨r, qs, ev, nr, h1, h2⟩ := at'
        exact ⟨r, qs, ev, s1.free nr, h1, h2⟩
    refine ifN (fun z => e (by injection z)) ?_
    have ns : t.Ns := fun u eu => by
      obtain ⟨k, k0, ek⟩ : ∃ k : Int, 0 ≤ k ∧ k * k = u * u := by
        rcases Int.le_total 0 u with c | c
        · exact ⟨u, c, rfl⟩
        · exact ⟨-u, by omega, Int.neg_mul_neg u u⟩
      have := sq_lt s0 (by omega : s * s < k * k) k0
      have := sq_lt k0 (by omega : k * k < (s + 1) * (s + 1)) (by omega)
      omega
    have d0 : 0 < t.disc := by
      have := ns 0
      omega
    have zz := ns.z
    refine ⟨_, rfl, _, _, rfl, rfl, _, rfl, ?_⟩
    by_cases z0 : t.z < 0
    · obtain ⟨f, w, c, tp, hf, lc, rfl⟩ := is.one d0 ns z0
      refine ifY z0 ?_
      refine ⟨_, rfl, _, rfl, _, rfl, t, f, w, rfl, tp, ns, d0, d1, hf, bd, fun c' i n lw _ _ _ _ _ _ H' a sm na ea => ?_⟩
      obtain rfl := lc.eq lw
      refine ⟨sz (by show 1 ≤ 1000000; decide), fun r nr => ?_⟩
      exact q _ _ (sm.new nr) ⟨r, [a], rfl, sm.free nr, upd_same, ((L2.Same.refl H').new nr) _ _ ea, trivial⟩
    refine ifN z0 ?_
    refine ⟨_, rfl, _, _, rfl, rfl, _, rfl, ?_⟩
    by_cases y0 : t.y < 0
    · obtain ⟨f, w, g, m, c, e, tp, hf, tp2, hg, lc, le, rfl⟩ := is.two d0 ns (by omega) y0
      refine ifY y0 ?_
      have e : t.sc (-1) = ⟨-t.x, -t.y, -t.z⟩ := T3.ext' (Int.neg_one_mul _) (Int.neg_one_mul _) (Int.neg_one_mul _)
      have nsn := Ns.neg ns
      have dn := disc_neg t
      rw [e] at tp nsn dn
      refine ⟨_, rfl, _, rfl, _, rfl, _, rfl, _, rfl, _, rfl, ⟨-t.x, -t.y, -t.z⟩, f, w, rfl, tp, nsn, by rw [dn]; exact d0, by rw [dn]; exact d1, hf, ?_, fun c' i n lw _ _ _ _ _ _ H' a sm na ea => ?_⟩
      · intro i hi
        simp only [T3.l, List.mem_cons, List.not_mem_nil, or_false] at hi
        unfold Bd at *
        rcases hi with rfl | rfl | rfl <;> rw [Int.natAbs_neg] <;> assumption
      obtain rfl := lc.eq lw
      refine ⟨_, rfl, _, rfl, _, rfl, t, g, m, rfl, tp2, ns, d0, d1, hg, bd, fun d i n lw2 _ _ _ _ _ _ H2 b sm2 nb eb => ?_⟩
      obtain rfl := le.eq lw2
      refine ⟨sz (by show 2 ≤ 1000000; decide), fun r nr => ?_⟩
      have s3 := (L2.Same.refl H2).new (o := .lst [.ref a, .ref b]) nr
      exact q _ _ ((sm.trans sm2).trans s3) ⟨r, [a, b], rfl, (sm.trans sm2).free nr, upd_same, s3 _ _ (sm2 _ _ ea), s3 _ _ eb, trivial⟩
    · refine ifN y0 ⟨sz (by show 0 ≤ 1000000; decide), fun r nr => ?_⟩
      refine q _ _ ((L2.Same.refl H).new nr) ⟨r, [], rfl, nr, upd_same, ?_⟩
      rw [is.no d0 ns (by omega) (by omega)]
      trivial

/-! _law_rt_is_square -/
def sp__law_rt_is_square (K : PySem.W.Frag) : Sp := fun vs H Q _ => ∃ m : Int, vs = [.int m] ∧ 0 ≤ m ∧ m ≤ 1000000 ∧ ∀ b : Bool, (b = true → ∃ s, 0 ≤ s ∧ s * s = m) → (b = false → ∀ s, s * s ≠ m) → Q (.bl b) H
theorem lt_bits {m : Int} (h : 0 ≤ m) : m < 2 ^ Builtin.Int.intBits m := by
  unfold Builtin.Int.intBits
  by_cases e : m = 0
  · subst e
    decide
  · rw [if_neg (by simpa using e)]
    have := Nat.lt_log2_self (n := m.natAbs)
    have : ((m.natAbs : Nat) : Int) < ((2 ^ (m.natAbs.log2 + 1) : Nat) : Int) := by omega
    rw [Int.natCast_pow] at this
    have e2 : ((2 : Nat) : Int) = 2 := rfl
    rw [e2] at this
    omega
theorem ok__law_rt_is_square (T : Tx K mg) : FnOk P w K mg base CX0 1 T.a__law_rt_is_square T.fd__law_rt_is_square ["many"] (sp__law_rt_is_square K) := by
  refine T.F__law_rt_is_square.ok sc__law_rt_is_square (fun vs H Q E h => ?_) (fun cdv A outer s H vs Q E hr h => ?_)
  · obtain ⟨m, rfl, _⟩ := h
    rfl
  · obtain ⟨m, rfl, m0, m1, q⟩ := h
    refine ⟨_, (pss_cons (ps_par (i := 1) (j := 2) (by rfl) sc__law_rt_is_square.nd rfl rfl (by decide) rfl rfl (pa_cons pe_int (pa_cons (pe_op op_add (pv 0) pe_int) pa_nil)) (by rfl))
  (pss_cons (ps_for PassesOwn.never rfl (pi_range1 (by rfl) T.z_range (pa_cons (pe_op op_add pe_int (pe_bits (pv 0))) pa_nil)) (pg_name (i := 3) sc__law_rt_is_square.nd rfl (Or.inl rfl))
    (pss_cons (ps_set (i := 4) sc__law_rt_is_square.nd rfl (Or.inl rfl) (pe_op op_fdivL (pe_op op_add (pv 1) (pv 2)) pe_int))
  (pss_one (ps_if (pt_cmpR op_le (pe_op op_mulL (pv 4) (pv 4)) (pv 0) (nomark _)) (pss_one (ps_set (i := 1) sc__law_rt_is_square.nd rfl (Or.inl rfl) (pv 4))) (pss_one (ps_set (i := 2) sc__law_rt_is_square.nd rfl (Or.inl rfl) (pv 4)))))))
  (pss_one (ps_ret (pe_cmpR op_eq (pe_op op_mulL (pv 1) (pv 1)) (pv 0) (nomark _)))))), ?_⟩
    have bm : Bd 20 m := bd_le m0 (by have : (2 : Int) ^ 20 = 1048576 := by decide
                                      omega)
    have bb := bits_le bm
    have b1 : Bd 21 (m + 1) := bm.add (bd_le (by decide) (by decide))
    refine ⟨_, rfl, _, _, rfl, rfl, _, _, rfl, ?_⟩
    refine ⟨_, rfl, _, rfl, _, _, rfl, rfl, _, rfl, ?_, ?_, for_range (lo := 0) (fun i σ H' => ∃ (x y : Int) (u v : Option V), σ = [some (.int m), some (.int x), some (.int y), u, v] ∧ 0 ≤ x ∧ y ≤ m + 1 ∧ x < y ∧ (y - x - 1) * 2 ^ i ≤ m ∧ x * x ≤ m ∧ m < y * y ∧ H' = H) ⟨0, m + 1, none, none, rfl, by omega, by omega, by omega, by omega, by omega, ?_, rfl⟩ ?_ ?_⟩
    · have : (0 : Int) ≤ ((Builtin.Int.intBits m : Nat) : Int) := by omega
      omega
    · have : ((Builtin.Int.intBits m : Nat) : Int) ≤ 20 := by omega
      omega
    · have : (m + 1) * (m + 1) = m * m + 2 * m + 1 := by grind
      have := Int.mul_nonneg m0 m0
      omega
    · rintro i σ H' hi ⟨x, y, u, v, rfl, x0, y1, xy, hw, hx, hy, rfl⟩
      refine ⟨_, rfl, _, rfl, _, _, rfl, rfl, _, _, rfl, rfl, .inl ⟨by decide, by decide⟩, ?_⟩
      have ef : (x + y).fdiv 2 = (x + y) / 2 := Int.fdiv_eq_ediv_of_nonneg _ (by decide)
      have h0 : x ≤ (x + y).fdiv 2 := by rw [ef]; omega
      have h1 : (x + y).fdiv 2 < y := by rw [ef]; omega
      have h2 : ((x + y).fdiv 2 - x - 1) * 2 ≤ y - x - 1 := by rw [ef]; omega
      have h3 : (y - (x + y).fdiv 2 - 1) * 2 ≤ y - x - 1 := by rw [ef]; omega
      have bmid : Bd 21 ((x + y).fdiv 2) := b1.le' (by omega)
      have p0 : (0 : Int) ≤ 2 ^ i := Int.le_of_lt (Int.pow_pos (by decide))
      refine ⟨_, rfl, _, rfl, _, _, rfl, rfl, bmid.ml bmid, _, rfl, _, _, rfl, rfl, _, rfl, bl2 (fun c => ?_) (fun c => ?_)⟩
      · have c := of_decide_eq_true c
        refine ⟨_, rfl, _, _, _, _, rfl, by omega, y1, h1, ?_, c, hy, rfl⟩
        rw [Int.pow_succ, Int.mul_comm (2 ^ i) 2, ← Int.mul_assoc]
        exact Int.le_trans (Int.mul_le_mul_of_nonneg_right h3 p0) hw
      · have c := of_decide_eq_false c
        by_cases e : (x + y).fdiv 2 = x
        · rw [e] at c
          exact absurd hx c
        refine ⟨_, rfl, _, _, _, _, rfl, x0, by omega, by omega, ?_, hx, by omega, rfl⟩
        rw [Int.pow_succ, Int.mul_comm (2 ^ i) 2, ← Int.mul_assoc]
        exact Int.le_trans (Int.mul_le_mul_of_nonneg_right h2 p0) hw
    · rintro σ H' ⟨x, y, u, v, rfl, x0, y1, xy, hw, hx, hy, rfl⟩
      have bx : Bd 21 x := b1.le' (by omega)
      have one : y = x + 1 := by
        have lt := lt_bits m0
        refine Classical.byContradiction fun c => ?_
        generalize hB : Builtin.Int.intBits m = B at *
        have e : ((2 : Int) + (B : Nat)).toNat = B + 2 := by omega
        rw [e] at hw
        have p0 : (0 : Int) ≤ 2 ^ (B + 2) := Int.le_of_lt (Int.pow_pos (by decide))
        have := Int.mul_le_mul_of_nonneg_right (show 1 ≤ y - x - 1 by omega) p0
        have : (2 : Int) ^ (B + 2) = 4 * 2 ^ B := by rw [Int.pow_succ, Int.pow_succ]; omega
        omega
      subst one
      refine ⟨_, rfl, _, rfl, _, _, rfl, rfl, bx.ml bx, _, rfl, rfl, ?_⟩
      refine q _ (fun c => ⟨x, x0, ?_⟩) (fun c s e => ?_)
      · have c := of_decide_eq_true c
        injection c
      · have c := of_decide_eq_false c
        obtain ⟨k, k0, ek⟩ : ∃ k : Int, 0 ≤ k ∧ k * k = s * s := by
          rcases Int.le_total 0 s with c | c
          · exact ⟨s, c, rfl⟩
          · exact ⟨-s, by omega, Int.neg_mul_neg s s⟩
        rw [← e, ← ek] at hx hy
        have k1 : x ≤ k := Int.not_lt.mp fun z => by
          have := Int.mul_le_mul (show k + 1 ≤ x by omega) (show k + 1 ≤ x by omega) (by omega) (by omega)
          have e : (k + 1) * (k + 1) = k * k + 2 * k + 1 := by grind
          omega
        have k2 : k < x + 1 := Int.not_le.mp fun z => by
          have := Int.mul_le_mul z z (by omega) (by omega)
          omega
        have : x = k := by omega
        exact c (by rw [this]; show V.int (k * k) = V.int m; rw [ek, e])

/-! _law_many -/
-- types:
-- ret: i
-- imports: Q11 F1
def sp__law_many (K : PySem.W.Frag) : Sp := fun vs H Q _ => ∃ t : T3, vs = [.int t.x, .int t.y, .int t.z] ∧ t.x.natAbs ≤ 60 ∧ t.y.natAbs ≤ 60 ∧ t.z.natAbs ≤ 60 ∧ Q (.int (manyR t : Nat)) H
theorem ok__law_many (T : Tx K mg) : FnOk P w K mg base CX0 1 T.a__law_many T.fd__law_many ["a", "b", "c"] (sp__law_many K) := by
  refine T.F__law_many.ok sc__law_many (fun vs H Q E h => ?_) (fun cdv A outer s H vs Q E hr h => ?_)
  · obtain ⟨t, rfl, _⟩ := h
    rfl
  · obtain ⟨t, rfl, hx, hy, hz, q⟩ := h
    refine ⟨_, (pss_cons (ps_set (i := 3) sc__law_many.nd rfl (Or.inl rfl) (pe_op op_sub (pe_op op_mulL (pv 1) (pv 1)) (pe_op op_mulL (pe_op op_mulL pe_int (pv 0)) (pv 2))))
  (pss_cons (ps_if (pt_cmpR op_lt (pv 3) pe_int (nomark _)) (pss_one (ps_ret pe_int)) pss_nil)
  (pss_cons (ps_if (pt_cmpR op_lt (pv 2) pe_int (nomark _)) (pss_one (ps_ret pe_int)) pss_nil)
  (pss_cons (ps_if (pt_cmpR op_eq (pv 2) pe_int (nomark _)) (pss_one (ps_ret (pe_callTy call_int1 (by rfl) T.z_int (by decide +kernel) (pa_cons (pe_cmpR op_lt (pv 1) pe_int (nomark _)) pa_nil)))) pss_nil)
  (pss_one (ps_ret (pe_op op_mulL (pe_op op_add pe_int (pe_callTy call_int1 (by rfl) T.z_int (by decide +kernel) (pa_cons (pe_cmpR op_gt (pv 3) pe_int (nomark _)) pa_nil))) (pe_callTy call_int1 (by rfl) T.z_int (by decide +kernel) (pa_cons (pe_cmpR op_lt (pv 1) pe_int (nomark _)) pa_nil))))))))), ?_⟩
    have sml : ∀ {k : Nat} {i : Int}, 7 ≤ k → i.natAbs ≤ 60 → Bd k i := fun {k i} hk h => by
      have := Nat.pow_le_pow_right (n := 2) (by decide) hk
      unfold Bd
      omega
    have y1 : Bd 400 t.y := sml (by decide) hy
    have z1 : Bd 400 t.z := sml (by decide) hz
    have x4 : Bd 410 (4 * t.x) := by
      have : Bd 9 (4 * t.x) := by
        unfold Bd
        omega
      exact this.up (by decide)
    refine ⟨_, rfl, _, rfl, _, _, rfl, rfl, y1.ml y1, _, rfl, _, _, rfl, rfl, cml_l (by decide), _, rfl, _, _, rfl, rfl, x4.ml z1, _, _, rfl, rfl, ?_⟩
    have ed : t.y * t.y - 4 * t.x * t.z = t.disc := rfl
    dsimp only
    rw [ed]
    unfold manyR at q
    refine ⟨_, rfl, _, _, rfl, rfl, _, rfl, ?_⟩
    by_cases neg : t.disc < 0
    · rw [if_pos neg] at q
      exact ifY neg q
    rw [if_neg neg] at q
    refine ifN neg ?_
    refine ⟨_, rfl, _, _, rfl, rfl, _, rfl, ?_⟩
    by_cases z0 : t.z < 0
    · rw [if_pos z0] at q
      exact ifY z0 q
    rw [if_neg z0] at q
    refine ifN z0 ?_
    refine ⟨_, rfl, rfl, _, rfl, ?_⟩
    by_cases zz : t.z = 0
    · rw [if_pos zz] at q
      refine ifY (congrArg V.int zz) ?_
      refine ⟨_, rfl, _, _, rfl, rfl, .inr ⟨_, rfl, ?_⟩⟩
      by_cases y0 : t.y < 0
      · rw [if_pos y0] at q
        rw [decide_eq_true y0]
        exact q
      · rw [if_neg y0] at q
        rw [decide_eq_false y0]
        exact q
    rw [if_neg zz] at q
    refine ifN (fun z => zz (by injection z)) ?_
    refine ⟨_, rfl, _, _, rfl, rfl, .inr ⟨_, rfl, _, _, rfl, rfl, _, rfl, _, _, rfl, rfl, .inr ⟨_, rfl, _, _, rfl, rfl, ?_, ?_⟩⟩⟩
    · refine cml_l ?_
      split <;> decide
    · show Q (V.int ((1 + if decide (0 < t.disc) = true then 1 else 0) * (if decide (t.y < 0) = true then 1 else 0))) H
      by_cases y0 : t.y < 0
      · rw [if_pos y0] at q
        rw [if_pos (decide_eq_true y0)]
        by_cases d0 : 0 < t.disc
        · rw [if_pos d0] at q
          rw [if_pos (decide_eq_true d0)]
          exact q
        · rw [if_neg d0] at q
          rw [if_neg (by simpa using d0)]
          exact q
      · rw [if_neg y0] at q
        rw [show (if decide (t.y < 0) = true then (1 : Int) else 0) = 0 from if_neg (by simpa using y0), Int.mul_zero]
        exact q

/-! _law_rt_shared -/
def sp__law_rt_shared (K : PySem.W.Frag) : Sp := fun vs H Q _ => ∃ (a : Addr) (l : List Int), vs = [.ref a] ∧ Sq K H a (l.map V.int) ∧ Q (.int (gl l : Nat)) H
theorem ok__law_rt_shared (T : Tx K mg) : FnOk P w K mg base CX0 1 T.a__law_rt_shared T.fd__law_rt_shared ["numbers"] (sp__law_rt_shared K) := by
  refine T.F__law_rt_shared.ok sc__law_rt_shared (fun vs H Q E h => ?_) (fun cdv A outer s H vs Q E hr h => ?_)
  · obtain ⟨a, l, rfl, _⟩ := h
    rfl
  · obtain ⟨a, l, rfl, hs, q⟩ := h
    refine ⟨_, (pss_cons (ps_set (i := 1) sc__law_rt_shared.nd rfl (Or.inl rfl) pe_int)
  (pss_cons (ps_for PassesOwn.never rfl (pi_seq (pv 0)) (pg_name (i := 2) sc__law_rt_shared.nd rfl (Or.inl rfl))
    (pss_cons (ps_set (i := 3) sc__law_rt_shared.nd rfl (Or.inl rfl) (pe_callB call_abs (by rfl) T.z_abs (by decide +kernel) (pa_cons (pv 2) pa_nil)))
  (pss_one (ps_while PassesOwn.never (pt_cmpR op_ne (pv 3) pe_int (nomark _))
    (pss_one (ps_par (i := 1) (j := 3) (by rfl) sc__law_rt_shared.nd rfl rfl (by decide) rfl rfl (pa_cons (pv 3) (pa_cons (pe_op op_modN (pe_callTy call_int1 (by rfl) T.z_int (by decide +kernel) (pa_cons (pv 1) pa_nil)) (pe_callTy call_int1 (by rfl) T.z_int (by decide +kernel) (pa_cons (pv 3) pa_nil))) pa_nil)) (by rfl)))))))
  (pss_one (ps_ret (pv 1))))), ?_⟩
    refine ⟨_, rfl, a, _, rfl, hs, fun J hJ => for_it hJ.walk (fun i σ H' => ∃ x y : Option V, σ = [some (.ref a), some (.int (gl (l.take i) : Nat)), x, y] ∧ H' = H) ⟨none, none, rfl, rfl⟩ (fun i σ H' _ hp => ?_) ?_ ?_⟩
    · obtain ⟨_, _, _, rfl⟩ := hp
      exact L2.Same.refl _
    · rintro i x σ H' H2 hi ⟨x', y', rfl, rfl⟩ ⟨rfl, hx⟩
      rw [List.length_map] at hi
      rw [List.getElem?_map, List.getElem?_eq_getElem hi] at hx
      have ex := (Option.some.inj hx).symm
      subst ex
      generalize hc : l[i] = c
      have step : gl (l.take (i + 1)) = Nat.gcd (gl (l.take i)) c.natAbs := by
        rw [← hc, ← gl_snoc, List.take_append_getElem]
      have ea : (if c < 0 then -c else c) = (c.natAbs : Int) := by split <;> omega
      refine ⟨_, rfl, _, rfl, ?_⟩
      show tWhile _ _ _ [some (V.ref a), some (V.int (gl (l.take i) : Nat)), some (V.int c), some (V.int (if c < 0 then -c else c))] _
      rw [ea]
      refine ⟨fun m σ H' => ∃ f k : Nat, σ = [some (.ref a), some (.int (f : Nat)), some (.int c), some (.int (k : Nat))] ∧ m = k ∧ Nat.gcd f k = gl (l.take (i + 1)) ∧ H' = H2, ⟨c.natAbs, gl (l.take i), c.natAbs, rfl, rfl, step.symm, rfl⟩, ?_⟩
      rintro m σ H' ⟨f, k, rfl, rfl, hg, rfl⟩
      refine ⟨_, rfl, rfl, _, rfl, ?_⟩
      by_cases h0 : m = 0
      · subst h0
        refine iteNS rfl ?_
        rw [Nat.gcd_zero_right] at hg
        rw [← hg]
        exact ⟨_, _, rfl, rfl⟩
      · have e0 : (!decide (V.int ((m : Nat) : Int) = V.int 0)) = true := by
          rw [decide_eq_false (fun z => h0 (by have := V.int.inj z; omega))]
          rfl
        rw [e0]
        refine iteT ⟨_, fun σ' H' hn => hn, _, rfl, _, rfl, .inl ⟨_, rfl, _, rfl, .inl ⟨_, rfl, _, _, rfl, rfl, (by show ((m : Nat) : Int) ≠ 0; omega), _, _, rfl, ?_⟩⟩⟩
        have em : ((f : Nat) : Int).fmod ((m : Nat) : Int) = ((f % m : Nat) : Int) := by
          rw [Int.fmod_eq_emod_of_nonneg _ (by omega)]
          rfl
        refine ⟨f % m, Nat.mod_lt _ (by omega), m, f % m, ?_, rfl, ?_, rfl⟩
        · show [some (V.ref a), some (V.int (m : Nat)), some (V.int c), some (V.int (((f : Nat) : Int).fmod ((m : Nat) : Int)))] = _
          rw [em]
        · rw [← hg, Nat.gcd_comm f m, Nat.gcd_rec m f, Nat.gcd_comm]
    · rintro σ H' ⟨x, y, rfl, rfl⟩
      refine ⟨_, rfl, ?_⟩
      rw [List.length_map, List.take_length]
      exact q

/-! _law_rt_is_pair -/
def sp__law_rt_is_pair (K : PySem.W.Frag) : Sp := fun vs H Q _ => ∃ (p : Addr) (x y : Int), vs = [.ref p] ∧ SqT K H p [.int x, .int y] ∧ 1 ≤ x ∧ 1 ≤ y ∧ gl [x, y] = 1 ∧ Q (.bl true) H
theorem ok__law_rt_is_pair (T : Tx K mg) : FnOk P w K mg base CX0 2 T.a__law_rt_is_pair T.fd__law_rt_is_pair ["pair"] (sp__law_rt_is_pair K) := by
  have G__law_rt_shared := ok__law_rt_shared (P := P) (w := w) (base := base) T
  refine T.F__law_rt_is_pair.ok sc__law_rt_is_pair (fun vs H Q E h => ?_) (fun cdv A outer s H vs Q E hr h => ?_)
  · obtain ⟨p, x, y, rfl, _⟩ := h
    rfl
  · obtain ⟨p, x, y, rfl, hp, x1, y1, xy, q⟩ := h
    refine ⟨_, (pss_one (ps_ret (pe_and (pe_cmpR op_gt (pe_callB (cr_minT hr) (by rfl) T.z_min (by decide +kernel) (pa_cons (pv 0) pa_nil)) pe_int (nomark _)) (pe_one (pe_cmpR op_eq (pe_call G__law_rt_shared (hr.mono (by decide)) (by rfl) T.g__law_rt_shared T.F__law_rt_shared.kp (b__law_rt_shared T.F__law_rt_shared) .nil pass0 (pa_cons (pv 0) pa_nil)) pe_int (nomark _)))))), ?_⟩
    refine ⟨_, rfl, p, x, [y], rfl, hp, by show 1 ≤ 100; decide, fun m hm _ => ⟨_, _, rfl, rfl, _, rfl, bl2 (fun _ => ?_) (fun h => ?_)⟩⟩
    · refine ⟨_, rfl, p, [x, y], rfl, .inr hp, rfl, ?_⟩
      rw [xy]
      exact q
    · exfalso
      have h := of_decide_eq_false h
      simp only [List.mem_cons, List.not_mem_nil, or_false] at hm
      rcases hm with rfl | rfl <;> omega

/-! _law_rt_is_told -/
def sp__law_rt_is_told (K : PySem.W.Frag) : Sp := fun vs H Q _ => ∃ (p : Addr) (x y : Int), vs = [.ref p] ∧ H p = some (.tup [.int x, .int y]) ∧ 1 ≤ x ∧ 1 ≤ y ∧ gl [x, y] = 1 ∧ Q (.bl true) H
theorem ok__law_rt_is_told (T : Tx K mg) : FnOk P w K mg base CX0 3 T.a__law_rt_is_told T.fd__law_rt_is_told ["pair"] (sp__law_rt_is_told K) := by
  have G__law_rt_is_pair := ok__law_rt_is_pair (P := P) (w := w) (base := base) T
  refine T.F__law_rt_is_told.ok sc__law_rt_is_told (fun vs H Q E h => ?_) (fun cdv A outer s H vs Q E hr h => ?_)
  · obtain ⟨p, x, y, rfl, _⟩ := h
    rfl
  · obtain ⟨p, x, y, rfl, hp, x1, y1, xy, q⟩ := h
    refine ⟨_, (pss_cons (ps_if (PW.pt (pw_or (pt_not (pt_val (pe_callB call_isi (by rfl) T.z_isinstance (by decide +kernel) (pa_cons (pv 0) (pa_cons (pe_bltn (v := .ty "tuple") (u := .type "tuple") (by rfl) T.z_tuple (by decide +kernel) rfl) pa_nil))))) (pw_or1 (pt_cmpR op_ne (pe_callB call_len_seq (by rfl) T.z_len (by decide +kernel) (pa_cons (pv 0) pa_nil)) pe_int (nomark _))))) (pss_one (ps_ret pe_bl)) pss_nil)
  (pss_cons (ps_for PassesOwn.never rfl (pi_tup (pv 0)) (pg_name (i := 1) sc__law_rt_is_told.nd rfl (Or.inl rfl))
    (pss_one (ps_if (PW.pt (pw_or (pt_not (pt_val (pe_callB call_isi (by rfl) T.z_isinstance (by decide +kernel) (pa_cons (pv 1) (pa_cons (pe_bltn (v := .ty "int") (u := .type "int") (by rfl) T.z_int (by decide +kernel) rfl) pa_nil))))) (pw_or1 (pt_val (pe_callB call_isi (by rfl) T.z_isinstance (by decide +kernel) (pa_cons (pv 1) (pa_cons (pe_bltn (v := .ty "bool") (u := .type "bool") (by rfl) T.z_bool (by decide +kernel) rfl) pa_nil))))))) (pss_one (ps_ret pe_bl)) pss_nil)))
  (pss_one (ps_ret (pe_call G__law_rt_is_pair (hr.mono (by decide)) (by rfl) T.g__law_rt_is_pair T.F__law_rt_is_pair.kp (b__law_rt_is_pair T.F__law_rt_is_pair) .nil pass0 (pa_cons (pv 0) pa_nil)))))), ?_⟩
    refine ⟨_, rfl, .ref p, .ty "tuple", _, _, true, rfl, .ty _, .base (.tup hp), rfl, _, rfl, iteF ?_⟩
    refine ⟨_, rfl, p, _, rfl, .inr (SqT.of hp), rfl, _, rfl, iteNS rfl ?_⟩
    refine ⟨_, rfl, p, rfl, ⟨_, SqT.of hp⟩, for_tup (xs := [V.int x, .int y]) (fun i σ H' => (∃ z, σ = [some (.ref p), z]) ∧ H' = H) ⟨⟨none, rfl⟩, rfl⟩ (fun i σ H' _ hh => by rw [hh.2]; exact SqT.of hp) ?_ ?_⟩
    · rintro i z σ H' hz ⟨⟨c, rfl⟩, rfl⟩
      obtain ⟨k, rfl⟩ : ∃ k : Int, z = .int k := by
        match i, hz with
        | 0, hz => exact ⟨x, (Option.some.inj hz).symm⟩
        | 1, hz => exact ⟨y, (Option.some.inj hz).symm⟩
      refine ⟨_, rfl, .int k, .ty "int", _, _, true, rfl, .ty _, .base (.int k), rfl, _, rfl, iteF ?_⟩
      refine ⟨_, rfl, .int k, .ty "bool", _, _, false, rfl, .ty _, .base (.int k), rfl, _, rfl, iteF ?_⟩
      exact ⟨⟨_, rfl⟩, rfl⟩
    · rintro σ H' ⟨⟨c, rfl⟩, rfl⟩
      exact ⟨_, rfl, p, x, y, rfl, SqT.of hp, x1, y1, xy, q⟩

/-! _law_rt_course -/
def sp__law_rt_course (K : PySem.W.Frag) : Sp := fun vs H Q _ => ∃ (f w : List Bool), vs = [.str (rd f), .str (rd w)] ∧ f.length ≤ 200000 ∧ w.length ≤ 200000 ∧ w ≠ [] ∧
  ∀ c, Lw f w c → ∀ H' p, Same H H' → H p = none → H' p = some (.tup [.str (rd c.1), .str (rd c.2)]) → Q (.ref p) H'
theorem ok__law_rt_course (T : Tx K mg) : FnOk P w K mg base CX0 1 T.a__law_rt_course T.fd__law_rt_course ["front", "loop"] (sp__law_rt_course K) := by
  refine T.F__law_rt_course.ok sc__law_rt_course (fun vs H Q E h => ?_) (fun cdv A outer s H vs Q E hr h => ?_)
  · obtain ⟨f, w, rfl, _⟩ := h
    rfl
  · obtain ⟨f, w, rfl, hf, hw, h0, q⟩ := h
    refine ⟨_, (pss_cons (ps_for PassesOwn.never rfl (pi_range2 (by rfl) T.z_range (pa_cons pe_int (pa_cons (pe_op op_add (pe_callB call_len_str (by rfl) T.z_len (by decide +kernel) (pa_cons (pv 1) pa_nil)) pe_int) pa_nil))) (pg_name (i := 2) sc__law_rt_course.nd rfl (Or.inl rfl))
    (pss_one (ps_if (pt_cmpR op_eq (pe_op op_mulB (pe_slice sl_str (pv 1) po_none (po_some (pv 2))) (pe_op op_fdivL (pe_callB call_len_str (by rfl) T.z_len (by decide +kernel) (pa_cons (pv 1) pa_nil)) (pv 2))) (pv 1) (nomark _)) (pss_cons (ps_set (i := 1) sc__law_rt_course.nd rfl (Or.inl rfl) (pe_slice sl_str (pv 1) po_none (po_some (pv 2))))
  (pss_one ps_break)) pss_nil)))
  (pss_cons (ps_for PassesOwn.never rfl (pi_range1 (by rfl) T.z_range (pa_cons (pe_callB call_len_str (by rfl) T.z_len (by decide +kernel) (pa_cons (pv 0) pa_nil)) pa_nil)) (pg_name (i := 3) sc__law_rt_course.nd rfl (Or.inl rfl))
    (pss_one (ps_if (pt_cmpR op_eq (pe_slice sl_str (pv 0) (po_some (pe_un un_neg pe_int)) po_none) (pe_ix ix_str (pv 1) (pe_un un_neg pe_int) (fun _ _ => rfl)) (nomark _)) (pss_one (ps_par (i := 0) (j := 1) (by rfl) sc__law_rt_course.nd rfl rfl (by decide) rfl rfl (pa_cons (pe_slice sl_str (pv 0) po_none (po_some (pe_un un_neg pe_int))) (pa_cons (pe_op op_add_str (pe_ix ix_str (pv 1) (pe_un un_neg pe_int) (fun _ _ => rfl)) (pe_slice sl_str (pv 1) po_none (po_some (pe_un un_neg pe_int)))) pa_nil)) (by rfl))) pss_nil)))
  (pss_one (ps_ret (pe_tup (pa_cons (pv 0) (pa_cons (pv 1) pa_nil))))))), ?_⟩
    obtain ⟨p, lp⟩ := least_ex h0
    have pn := lp.2.1
    have p1 := lp.1
    have hp0 : w.take p ≠ [] := lp.prim.1
    refine ⟨_, rfl, rd w, rfl, by rw [rd_len]; exact sz (by omega), _, _, rfl, rfl, ?_⟩
    have ln : (((rd w).length : Nat) : Int) = (w.length : Int) := by rw [rd_len]
    refine ⟨1, _, rfl, ⟨by decide, by decide, ?_, ?_⟩, for_range (lo := 1)
      (fun i σ H' => ∃ x y : Option V, σ = [some (.str (rd f)), some (.str (rd w)), x, y] ∧ i < p ∧ H' = H) ⟨none, none, rfl, by omega, rfl⟩ ?_ ?_⟩
    · omega
    · omega
    · rintro i σ H' hi ⟨x, y, rfl, ip, rfl⟩
      have m1 : 1 ≤ 1 + i := by omega
      have mp : 1 + i ≤ w.length := by omega
      have mi : (1 : Int) + (i : Int) = ((1 + i : Nat) : Int) := by omega
      refine ⟨_, rfl, _, rfl, _, rfl, rd w, rfl, by rw [rd_len]; exact sz (by omega), ?_⟩
      rw [mi, cut_take]
      refine ⟨_, rfl, rd w, rfl, by rw [rd_len]; exact sz (by omega), _, rfl, _, _, rfl, rfl, .inl ⟨by omega, by omega⟩, ?_⟩
      have ed : (((rd w).length : Nat) : Int).fdiv ((1 + i : Nat) : Int) = ((w.length / (1 + i) : Nat) : Int) := by
        rw [ln, Int.fdiv_eq_ediv_of_nonneg _ (by omega)]
        rfl
      have dl : w.length / (1 + i) ≤ w.length := Nat.div_le_self _ _
      refine ⟨_, _, rfl, rfl, by rw [rd_len, List.length_take]; omega, by rw [ed]; exact Int.natCast_nonneg _, by rw [ed]; exact Int.ofNat_le.mpr (show w.length / (1 + i) ≤ 1000000 from Nat.le_trans dl (by omega)), by rw [ed, Int.toNat_natCast, rd_len, List.length_take]; exact Nat.le_trans (Nat.mul_le_mul_right _ (Nat.min_le_left _ _)) (Nat.le_trans (Nat.mul_div_le _ _) (by omega)), ?_⟩
      rw [ed, rep_rd, Int.toNat_natCast]
      refine ⟨_, rfl, rfl, _, rfl, ifRd (fun e => ?_) (fun e => ?_)⟩
      · have ⟨h1, _⟩ := (per_rep m1 mp).mp e
        have e1 : 1 + i = p := by
          by_cases z : 1 + i < p
          · exact absurd h1 (lp.2.2.2 _ m1 z)
          · omega
        refine ⟨_, rfl, _, rfl, _, rfl, rd w, rfl, by rw [rd_len]; exact sz (by omega), ?_⟩
        rw [cut_take, e1]
        have done : ∀ c, c = its f.length (f, w.take p) → ∀ H'' t, Same H' H'' → H' t = none → H'' t = some (.tup [.str (rd c.1), .str (rd c.2)]) → Q (.ref t) H'' := fun c hc => q c ⟨p, lp, hc⟩
        refine ⟨_, rfl, rd f, rfl, by rw [rd_len]; exact sz (by omega), _, rfl, by rw [rd_len]; omega, by rw [rd_len]; omega, for_range (lo := 0)
          (fun j σ H'' => ∃ y : Option V, σ = [some (.str (rd (its j (f, w.take p)).1)), some (.str (rd (its j (f, w.take p)).2)), some (.int (p : Int)), y] ∧ H'' = H') ⟨_, rfl, rfl⟩ ?_ ?_⟩
        · rintro j σ H2 hj ⟨y, rfl, rfl⟩
          obtain ⟨l1, l2⟩ := its_le (f, w.take p) j
          have c2 : (its j (f, w.take p)).2 ≠ [] := its_ring hp0 j
          have es' : stp (its j (f, w.take p)) = its (j + 1) (f, w.take p) := rfl
          have l1 : (its j (f, w.take p)).1.length ≤ f.length := l1
          have l2 : (its j (f, w.take p)).2.length ≤ w.length := by rw [l2]; show (w.take p).length ≤ _; rw [List.length_take]; omega
          rw [← es']
          generalize its j (f, w.take p) = c at *
          obtain ⟨t2, e2⟩ : ∃ t, c.2.getLast? = some t := by
            cases h : c.2.getLast? with
            | none => exact absurd (List.getLast?_eq_none_iff.mp h) c2
            | some t => exact ⟨t, rfl⟩
          have el : last1 c.2 = [t2] := by
            unfold last1
            rw [e2]
          refine ⟨_, rfl, _, rfl, _, rfl, rd c.1, rfl, by rw [rd_len]; exact sz (by omega), ?_⟩
          rw [show (-(1 : Int)) = -1 from rfl, cut_last]
          refine ⟨_, rfl, _, rfl, _, _, _, rfl, rfl, by rw [rd_len]; exact sz (by omega), at_last e2, ?_⟩
          refine ⟨rfl, _, rfl, ifRd (u := last1 c.1) (v := [t2]) (fun z => ?_) (fun z => ?_)⟩
          · have et : c.1.getLast? = c.2.getLast? := (last_eq c2).mp (by rw [z, el])
            have es : stp c = (c.1.dropLast, rr c.2) := by
              unfold stp
              rw [if_pos et]
            have er : rr c.2 = [t2] ++ c.2.dropLast := by rw [rr_last c2, el]
            refine ⟨_, rfl, _, rfl, _, rfl, rd c.1, rfl, by rw [rd_len]; exact sz (by omega), ?_⟩
            rw [show (-(1 : Int)) = -1 from rfl, cut_most]
            refine ⟨_, rfl, _, rfl, _, _, _, rfl, rfl, by rw [rd_len]; exact sz (by omega), at_last e2, ?_⟩
            refine ⟨_, rfl, _, rfl, _, rfl, rd c.2, rfl, by rw [rd_len]; exact sz (by omega), ?_⟩
            rw [show (-(1 : Int)) = -1 from rfl, cut_most]
            refine ⟨rd [t2], _, rfl, rfl, rd_app_len (by rw [List.length_dropLast]; show 1 + _ ≤ 1000000; omega), ?_⟩
            rw [rd_app, ← er]
            refine ⟨_, _, rfl, some (.int (0 + (j : Int))), ?_, rfl⟩
            rw [es]
            rfl
          · have z' : stp c = c := stp_ne (fun k => z (by rw [(last_eq c2).mpr k, el]))
            rw [z']
            exact ⟨_, rfl, rfl⟩
        · rintro σ H2 ⟨y, rfl, rfl⟩
          have ef : (((rd f).length : Nat) : Int).toNat = f.length := by rw [rd_len, Int.toNat_natCast]
          rw [ef]
          refine ⟨_, rfl, _, rfl, sz (by show 2 ≤ 1000000; decide), fun q1 nq1 => ?_⟩
          exact done _ rfl _ q1 ((L2.Same.refl _).new nq1) nq1 upd_same
      · refine ⟨_, _, rfl, ?_, rfl⟩
        by_cases z : i + 1 = p
        · exfalso
          apply e
          rw [show 1 + i = p by omega]
          exact (per_rep p1 pn).mpr ⟨lp.2.2.1, lp.dvd⟩
        · omega
    · rintro σ H' ⟨x, y, rfl, ip, rfl⟩
      omega

/-! _law_rt_is_course -/
def sp__law_rt_is_course (K : PySem.W.Frag) : Sp := fun vs H Q _ => ∃ (p : Addr) (f w : List Bool), vs = [.ref p] ∧ H p = some (.tup [.str (rd f), .str (rd w)]) ∧ f.length ≤ 70 ∧ w.length ≤ 8000 ∧ Both w ∧ Lw f w (f, w) ∧ ∀ H', Same H H' → Q (.bl true) H'
theorem ok__law_rt_is_course (T : Tx K mg) : FnOk P w K mg base CX0 2 T.a__law_rt_is_course T.fd__law_rt_is_course ["entry"] (sp__law_rt_is_course K) := by
  have G__law_rt_course := ok__law_rt_course (P := P) (w := w) (base := base) T
  refine T.F__law_rt_is_course.ok sc__law_rt_is_course (fun vs H Q E h => ?_) (fun cdv A outer s H vs Q E hr h => ?_)
  · obtain ⟨p, f, w, rfl, _⟩ := h
    rfl
  · obtain ⟨p, f, w, rfl, hp, hf, hw, bw, lw, q⟩ := h
    refine ⟨_, (pss_cons (ps_if (PW.pt (pw_or (pt_not (pt_val (pe_callB call_isi (by rfl) T.z_isinstance (by decide +kernel) (pa_cons (pv 0) (pa_cons (pe_bltn (v := .ty "tuple") (u := .type "tuple") (by rfl) T.z_tuple (by decide +kernel) rfl) pa_nil))))) (pw_or1 (pt_cmpR op_ne (pe_callB call_len_seq (by rfl) T.z_len (by decide +kernel) (pa_cons (pv 0) pa_nil)) pe_int (nomark _))))) (pss_one (ps_ret pe_bl)) pss_nil)
  (pss_cons (ps_if (PW.pt (pw_or (pt_not (pt_val (pe_callB call_isi (by rfl) T.z_isinstance (by decide +kernel) (pa_cons (pe_ix ix_tup (pv 0) pe_int (fun _ _ => rfl)) (pa_cons (pe_bltn (v := .ty "str") (u := .type "str") (by rfl) T.z_str (by decide +kernel) rfl) pa_nil))))) (pw_or1 (pt_not (pt_val (pe_callB call_isi (by rfl) T.z_isinstance (by decide +kernel) (pa_cons (pe_ix ix_tup (pv 0) pe_int (fun _ _ => rfl)) (pa_cons (pe_bltn (v := .ty "str") (u := .type "str") (by rfl) T.z_str (by decide +kernel) rfl) pa_nil)))))))) (pss_one (ps_ret pe_bl)) pss_nil)
  (pss_cons (ps_setLc (i := 2) (own := [("sign", 1)]) (g := (gName 1)) (by rfl) sc__law_rt_is_course.nd rfl rfl (sw_true rfl rfl rfl (by decide +kernel)) (pi_str (pe_op op_add_str (pe_ix ix_tup (pv 0) pe_int (fun _ _ => rfl)) (pe_ix ix_tup (pv 0) pe_int (fun _ _ => rfl)))) (blkOk_by (own := [("sign", 1)]) (N := n__law_rt_is_course) (sc := defScope s__law_rt_is_course) (by decide +kernel)) (fun _ _ _ _ _ => (pg_name (i := 1) sc__law_rt_is_course.nd rfl (Or.inl rfl))) (fun _ _ _ _ _ => (pts_one (pt_cmpR op_notIn_sign (pv 1) pe_str rfl))) (fun _ _ _ _ _ => (pv 1)))
  (pss_cons (ps_if (PW.pt (pw_or (pt_cmpR (op_neD hr.units) (pv 2) (pe_lst pa_nil) (nomark _)) (pw_or (pt_cmpR op_notIn_sign pe_str (pe_ix ix_tup (pv 0) pe_int (fun _ _ => rfl)) rfl) (pw_or1 (pt_cmpR op_notIn_sign pe_str (pe_ix ix_tup (pv 0) pe_int (fun _ _ => rfl)) rfl))))) (pss_one (ps_ret pe_bl)) pss_nil)
  (pss_one (ps_ret (pe_cmpR (op_eqD hr.units) (pe_call G__law_rt_course (hr.mono (by decide)) (by rfl) T.g__law_rt_course T.F__law_rt_course.kp (b__law_rt_course T.F__law_rt_course) .nil pass0 (pa_cons (pe_ix ix_tup (pv 0) pe_int (fun _ _ => rfl)) (pa_cons (pe_ix ix_tup (pv 0) pe_int (fun _ _ => rfl)) pa_nil))) (pv 0) (nomark _)))))))), ?_⟩
    have ht := hp
    replace hp : SqT K H p [.str (rd f), .str (rd w)] := SqT.of hp
    refine ⟨_, rfl, .ref p, .ty "tuple", _, _, true, rfl, .ty _, .base (.tup ht), rfl, _, rfl, iteF ?_⟩
    refine ⟨_, rfl, p, _, rfl, .inr hp, rfl, _, rfl, iteNS rfl ?_⟩
    refine ⟨_, rfl, p, _, _, _, rfl, rfl, hp, rfl, .str (rd f), .ty "str", _, _, true, rfl, .ty _, .base (.str _), rfl, _, rfl, iteF ?_⟩
    refine ⟨_, rfl, p, _, _, _, rfl, rfl, hp, rfl, .str (rd w), .ty "str", _, _, true, rfl, .ty _, .base (.str _), rfl, _, rfl, iteF ?_⟩
    refine ⟨_, rfl, p, _, _, _, rfl, rfl, hp, rfl, _, rfl, p, _, _, _, rfl, rfl, hp, rfl, _, _, rfl, rfl, rd_app_len (by omega), ?_⟩
    rw [rd_app]
    refine ⟨_, rfl, fun D hD => lc_rd (fun i H' => H' = L2.upd H D (.lst [])) rfl (fun i t H' ht e => ?_) (fun H' e => ?_)⟩
    · subst e
      refine ⟨rfl, _, rfl, sg t, rd [false, true], by cases t <;> decide +kernel, by decide +kernel, _, rfl, iteNS (in_rd.mpr (by cases t <;> decide)) rfl⟩
    · subst e
      have hp2 : SqT K (upd H D (.lst [])) p [.str (rd f), .str (rd w)] := tup_same ((L2.Same.refl H).new hD) hp
      refine ⟨_, rfl, sz (by show 0 ≤ 1000000; decide), fun r nr => ?_⟩
      have s2 := ((L2.Same.refl H).new (o := .lst []) hD).new (o := .lst []) nr
      have hp3 : SqT K (upd (upd H D (.lst [])) r (.lst [])) p [.str (rd f), .str (rd w)] := tup_same s2 hp
      refine ⟨.list [], .list [], .lst (SqL.of (by rw [upd_ne (ne_of_none upd_same nr)]; exact upd_same)) .nil, .lst (SqL.of upd_same) .nil, rfl, rfl, _, rfl, iteF ?_⟩
      refine ⟨_, rfl, p, _, _, _, rfl, rfl, hp3, rfl, sg false, rd w, congrArg V.str str_L, rfl, _, rfl, iteNS (in_rd.mpr bw.1) ?_⟩
      refine ⟨_, rfl, p, _, _, _, rfl, rfl, hp3, rfl, sg true, rd w, congrArg V.str str_R, rfl, _, rfl, iteNS (in_rd.mpr bw.2) ?_⟩
      refine ⟨_, rfl, p, _, _, _, rfl, rfl, hp3, rfl, _, rfl, p, _, _, _, rfl, rfl, hp3, rfl, f, w, rfl, by omega, by omega, bw.ne, fun c lc H4 p4 sm4 np4 e4 => ?_⟩
      obtain rfl := lw.eq lc
      refine ⟨_, rfl, _, _, dp_pair (SqT.of e4), dp_pair (tup_same (s2.trans sm4) hp), shaped_pair _ _, shaped_pair _ _, ?_⟩
      rw [eqv_pair_self]
      exact q _ (s2.trans sm4)

/-! _law_rt_ends -/
def sp__law_rt_ends (K : PySem.W.Frag) : Sp := fun vs H Q _ => ∃ (w : List Bool), vs = [.str (rd w)] ∧
  ∀ H' p l h, Same H H' → H p = none → H' p = some (.tup [.ref l, .ref h]) → H' l = some (.tup [.int (mat w).b, .int (mat w).d]) → H' h = some (.tup [.int (mat w).a, .int (mat w).c]) → Q (.ref p) H'
theorem ok__law_rt_ends (T : Tx K mg) : FnOk P w K mg base CX0 1 T.a__law_rt_ends T.fd__law_rt_ends ["wording"] (sp__law_rt_ends K) := by
  refine T.F__law_rt_ends.ok sc__law_rt_ends (fun vs H Q E h => ?_) (fun cdv A outer s H vs Q E hr h => ?_)
  · obtain ⟨w, rfl, _⟩ := h
    rfl
  · obtain ⟨w, rfl, q⟩ := h
    refine ⟨_, (pss_cons (ps_asg (pe_tup (pa_cons (pe_tup (pa_cons pe_int (pa_cons pe_int pa_nil))) (pa_cons (pe_tup (pa_cons pe_int (pa_cons pe_int pa_nil))) pa_nil))) (pg_tup (by rfl) (pgs_cons (pg_name (i := 1) sc__law_rt_ends.nd rfl (Or.inl rfl)) (pgs_cons (pg_name (i := 2) sc__law_rt_ends.nd rfl (Or.inl rfl)) pgs_nil))))
  (pss_cons (ps_for PassesOwn.never rfl (pi_str (pv 0)) (pg_name (i := 3) sc__law_rt_ends.nd rfl (Or.inl rfl))
    (pss_cons (ps_set (i := 4) sc__law_rt_ends.nd rfl (Or.inl rfl) (pe_tup (pa_cons (pe_op op_add (pe_ix ix_tup (pv 1) pe_int (fun _ _ => rfl)) (pe_ix ix_tup (pv 2) pe_int (fun _ _ => rfl))) (pa_cons (pe_op op_add (pe_ix ix_tup (pv 1) pe_int (fun _ _ => rfl)) (pe_ix ix_tup (pv 2) pe_int (fun _ _ => rfl))) pa_nil))))
  (pss_one (ps_if (pt_cmpR op_eq (pv 3) pe_str (nomark _)) (pss_one (ps_set (i := 1) sc__law_rt_ends.nd rfl (Or.inl rfl) (pv 4))) (pss_one (ps_set (i := 2) sc__law_rt_ends.nd rfl (Or.inl rfl) (pv 4)))))))
  (pss_one (ps_ret (pe_tup (pa_cons (pv 1) (pa_cons (pv 2) pa_nil))))))), ?_⟩
    have z2 : ([.int 0, .int 1] : List V).length ≤ sizeLine := sz (by show 2 ≤ 1000000; decide)
    refine ⟨z2, fun l nl => ⟨z2, fun g ng => ⟨sz (by show 2 ≤ 1000000; decide), fun e ne => ⟨e, _, rfl, .inl (.inl upd_same), rfl, _, _, rfl, _, _, rfl, rfl, ?_⟩⟩⟩⟩
    have nlg : l ≠ g := ne_of_none upd_same ng
    have nge : g ≠ e := ne_of_none upd_same ne
    have nle : l ≠ e := ne_of_none (by rw [upd_ne nlg]; exact upd_same) ne
    refine ⟨_, rfl, rd w, rfl, for_rd (fun pre σ H2 => ∃ (l g : Addr) (x y : Option V), σ = [some (.str (rd w)), some (.ref l), some (.ref g), x, y] ∧ Same H H2 ∧ H2 l = some (.tup [.int (mat pre).b, .int (mat pre).d]) ∧ H2 g = some (.tup [.int (mat pre).a, .int (mat pre).c]))
      ⟨l, g, none, none, rfl, (((L2.Same.refl H).new nl).new ng).new ne, by rw [upd_ne nle, upd_ne nlg, upd_same]; rfl, by rw [upd_ne nge, upd_same]; rfl⟩ ?_ ?_⟩
    · rintro pre t post σ H2 ew ⟨l, g, x, y, rfl, sm, hl, hg⟩
      refine ⟨_, rfl, l, _, _, _, rfl, rfl, SqT.of hl, rfl, _, rfl, g, _, _, _, rfl, rfl, SqT.of hg, rfl, _, _, rfl, rfl, ?_⟩
      refine ⟨_, rfl, l, _, _, _, rfl, rfl, SqT.of hl, rfl, _, rfl, g, _, _, _, rfl, rfl, SqT.of hg, rfl, _, _, rfl, rfl, sz (by show 2 ≤ 1000000; decide), fun m nm => ?_⟩
      have lm : l ≠ m := ne_of_none hl nm
      have gm : g ≠ m := ne_of_none hg nm
      refine ⟨_, rfl, rfl, _, rfl, ?_⟩
      rw [eq_R]
      cases t
      · refine iteF ⟨_, rfl, l, m, _, _, rfl, sm.new nm, by rw [upd_ne lm, hl, mat_snoc]; rfl, ?_⟩
        rw [upd_same, mat_snoc]
        show some (HO.tup [V.int ((mat pre).b + (mat pre).a), V.int ((mat pre).d + (mat pre).c)]) = some (HO.tup [V.int ((mat pre).a + (mat pre).b), V.int ((mat pre).c + (mat pre).d)])
        rw [Int.add_comm (mat pre).b, Int.add_comm (mat pre).d]
      · refine iteT ⟨_, rfl, m, g, _, _, rfl, sm.new nm, ?_, by rw [upd_ne gm, hg, mat_snoc]; rfl⟩
        rw [upd_same, mat_snoc]
        show some (HO.tup [V.int ((mat pre).b + (mat pre).a), V.int ((mat pre).d + (mat pre).c)]) = some (HO.tup [V.int ((mat pre).a + (mat pre).b), V.int ((mat pre).c + (mat pre).d)])
        rw [Int.add_comm (mat pre).b, Int.add_comm (mat pre).d]
    · rintro σ H2 ⟨l, g, x, y, rfl, sm, hl, hg⟩
      refine ⟨_, rfl, _, rfl, sz (by show 2 ≤ 1000000; decide), fun p np => ?_⟩
      exact q _ p l g (sm.new np) (sm.free np) upd_same (by rw [upd_ne (ne_of_none hl np)]; exact hl) (by rw [upd_ne (ne_of_none hg np)]; exact hg)

/-! _law_rt_turns -/
def sp__law_rt_turns (K : PySem.W.Frag) : Sp := fun vs H Q _ => ∃ (w : List Bool), vs = [.str (rd w)] ∧
  ∀ H' p, Same H H' → H p = none → H' p = some (.tup ((mat w).l.map V.int)) → Q (.ref p) H'
theorem ok__law_rt_turns (T : Tx K mg) : FnOk P w K mg base CX0 2 T.a__law_rt_turns T.fd__law_rt_turns ["wording"] (sp__law_rt_turns K) := by
  have G__law_rt_ends := ok__law_rt_ends (P := P) (w := w) (base := base) T
  refine T.F__law_rt_turns.ok sc__law_rt_turns (fun vs H Q E h => ?_) (fun cdv A outer s H vs Q E hr h => ?_)
  · obtain ⟨w, rfl, _⟩ := h
    rfl
  · obtain ⟨w, rfl, q⟩ := h
    refine ⟨_, (pss_cons (ps_asg (pe_call G__law_rt_ends (hr.mono (by decide)) (by rfl) T.g__law_rt_ends T.F__law_rt_ends.kp (b__law_rt_ends T.F__law_rt_ends) .nil pass0 (pa_cons (pv 0) pa_nil)) (pg_tup (by rfl) (pgs_cons (pg_name (i := 1) sc__law_rt_turns.nd rfl (Or.inl rfl)) (pgs_cons (pg_name (i := 2) sc__law_rt_turns.nd rfl (Or.inl rfl)) pgs_nil))))
  (pss_one (ps_ret (pe_tup (pa_cons (pe_ix ix_tup (pv 2) pe_int (fun _ _ => rfl)) (pa_cons (pe_ix ix_tup (pv 1) pe_int (fun _ _ => rfl)) (pa_cons (pe_ix ix_tup (pv 2) pe_int (fun _ _ => rfl)) (pa_cons (pe_ix ix_tup (pv 1) pe_int (fun _ _ => rfl)) pa_nil)))))))), ?_⟩
    refine ⟨_, rfl, w, rfl, fun H1 e l g sm ne he hl hg => ?_⟩
    refine ⟨e, _, rfl, .inl (.inl he), rfl, _, _, rfl, _, _, rfl, rfl, ?_⟩
    refine ⟨_, rfl, g, _, _, _, rfl, rfl, SqT.of hg, rfl, _, rfl, l, _, _, _, rfl, rfl, SqT.of hl, rfl, _, rfl, g, _, _, _, rfl, rfl, SqT.of hg, rfl, _, rfl, l, _, _, _, rfl, rfl, SqT.of hl, rfl, sz (by show 4 ≤ 1000000; decide), fun p np => ?_⟩
    exact q _ p (sm.new np) (sm.free np) upd_same

/-! _law_rt_times -/
def sp__law_rt_times (K : PySem.W.Frag) : Sp := fun vs H Q _ => ∃ (x y : Addr) (m n : M4) (k : Nat), vs = [.ref x, .ref y] ∧ SqT K H x (m.l.map V.int) ∧ SqT K H y (n.l.map V.int) ∧ k ≤ 400000 ∧ (∀ i ∈ m.l, Bd k i) ∧ (∀ i ∈ n.l, Bd k i) ∧
  ∀ H' p, Same H H' → H p = none → H' p = some (.tup ((m.mul n).l.map V.int)) → Q (.ref p) H'
theorem ok__law_rt_times (T : Tx K mg) : FnOk P w K mg base CX0 1 T.a__law_rt_times T.fd__law_rt_times ["left", "right"] (sp__law_rt_times K) := by
  refine T.F__law_rt_times.ok sc__law_rt_times (fun vs H Q E h => ?_) (fun cdv A outer s H vs Q E hr h => ?_)
  · obtain ⟨x, y, m, n, k, rfl, _⟩ := h
    rfl
  · obtain ⟨x, y, m, n, k, rfl, hx, hy, hk, bm, bn, q⟩ := h
    refine ⟨_, (pss_cons (ps_asg (pv 0) (pg_tup (by rfl) (pgs_cons (pg_name (i := 2) sc__law_rt_times.nd rfl (Or.inl rfl)) (pgs_cons (pg_name (i := 3) sc__law_rt_times.nd rfl (Or.inl rfl)) (pgs_cons (pg_name (i := 4) sc__law_rt_times.nd rfl (Or.inl rfl)) (pgs_cons (pg_name (i := 5) sc__law_rt_times.nd rfl (Or.inl rfl)) pgs_nil))))))
  (pss_cons (ps_asg (pv 1) (pg_tup (by rfl) (pgs_cons (pg_name (i := 6) sc__law_rt_times.nd rfl (Or.inl rfl)) (pgs_cons (pg_name (i := 7) sc__law_rt_times.nd rfl (Or.inl rfl)) (pgs_cons (pg_name (i := 8) sc__law_rt_times.nd rfl (Or.inl rfl)) (pgs_cons (pg_name (i := 9) sc__law_rt_times.nd rfl (Or.inl rfl)) pgs_nil))))))
  (pss_one (ps_ret (pe_tup (pa_cons (pe_op op_add (pe_op op_mulL (pv 2) (pv 6)) (pe_op op_mulL (pv 3) (pv 8))) (pa_cons (pe_op op_add (pe_op op_mulL (pv 2) (pv 7)) (pe_op op_mulL (pv 3) (pv 9))) (pa_cons (pe_op op_add (pe_op op_mulL (pv 4) (pv 6)) (pe_op op_mulL (pv 5) (pv 8))) (pa_cons (pe_op op_add (pe_op op_mulL (pv 4) (pv 7)) (pe_op op_mulL (pv 5) (pv 9))) pa_nil))))))))), ?_⟩
    have ba := bm m.a (by simp [M4.l])
    have bb := bm m.b (by simp [M4.l])
    have bc := bm m.c (by simp [M4.l])
    have bd := bm m.d (by simp [M4.l])
    have ca := bn n.a (by simp [M4.l])
    have cb := bn n.b (by simp [M4.l])
    have cc := bn n.c (by simp [M4.l])
    have cd := bn n.d (by simp [M4.l])
    refine ⟨_, rfl, x, _, rfl, hx, rfl, _, _, rfl, _, _, rfl, _, _, rfl, _, _, rfl, rfl, ?_⟩
    refine ⟨_, rfl, y, _, rfl, hy, rfl, _, _, rfl, _, _, rfl, _, _, rfl, _, _, rfl, rfl, ?_⟩
    refine ⟨_, rfl, _, rfl, _, _, rfl, rfl, cml_w k k ba ca (by omega), _, rfl, _, rfl, _, _, rfl, rfl, cml_w k k bb cc (by omega), _, _, rfl, rfl, ?_⟩
    refine ⟨_, rfl, _, rfl, _, _, rfl, rfl, cml_w k k ba cb (by omega), _, rfl, _, rfl, _, _, rfl, rfl, cml_w k k bb cd (by omega), _, _, rfl, rfl, ?_⟩
    refine ⟨_, rfl, _, rfl, _, _, rfl, rfl, cml_w k k bc ca (by omega), _, rfl, _, rfl, _, _, rfl, rfl, cml_w k k bd cc (by omega), _, _, rfl, rfl, ?_⟩
    refine ⟨_, rfl, _, rfl, _, _, rfl, rfl, cml_w k k bc cb (by omega), _, rfl, _, rfl, _, _, rfl, rfl, cml_w k k bd cd (by omega), _, _, rfl, rfl, sz (by show 4 ≤ 1000000; decide), fun p np => ?_⟩
    exact q _ p ((L2.Same.refl H).new np) np upd_same

/-! _law_rt_low -/
def sp__law_rt_low (K : PySem.W.Frag) : Sp := fun vs H Q _ => ∃ (a : Addr) (l : List Int), vs = [.ref a] ∧ Sq K H a (l.map V.int) ∧ 0 < gl l ∧ Bd 8900 (gl l : Nat) ∧ l.length ≤ 100 ∧
  ∀ H' p, Same H H' → H p = none → H' p = some (.tup ((lowl l).map V.int)) → Q (.ref p) H'
theorem ok__law_rt_low (T : Tx K mg) : FnOk P w K mg base CX0 2 T.a__law_rt_low T.fd__law_rt_low ["numbers"] (sp__law_rt_low K) := by
  have G__law_rt_shared := ok__law_rt_shared (P := P) (w := w) (base := base) T
  refine T.F__law_rt_low.ok sc__law_rt_low (fun vs H Q E h => ?_) (fun cdv A outer s H vs Q E hr h => ?_)
  · obtain ⟨a, l, rfl, _⟩ := h
    rfl
  · obtain ⟨a, l, rfl, hs, g0, gs, hl, q⟩ := h
    refine ⟨_, (pss_cons (ps_set (i := 1) sc__law_rt_low.nd rfl (Or.inr rfl) (pe_call G__law_rt_shared (hr.mono (by decide)) (by rfl) T.g__law_rt_shared T.F__law_rt_shared.kp (b__law_rt_shared T.F__law_rt_shared) .nil pass0 (pa_cons (pv 0) pa_nil)))
  (pss_one (ps_ret (pe_callTy call_tuple_of (by rfl) T.z_tuple (by decide +kernel) (pa_cons (pe_lc (own := [("count", 2)]) (g := (gName 2)) (by rfl) sc__law_rt_low.nd (pi_seq (pv 0)) (blkOk_by (own := [("count", 2)]) (N := n__law_rt_low) (sc := defScope s__law_rt_low) (by decide +kernel)) (fun _ _ _ _ _ => (pg_name (i := 2) sc__law_rt_low.nd rfl (Or.inl rfl))) (fun _ _ _ _ _ => pts_nil) (fun _ _ _ _ _ => (pe_op op_fdivL (pv 2) (pv 1)))) pa_nil))))), ?_⟩
    refine ⟨_, rfl, a, l, rfl, hs, ?_⟩
    have key : ∀ i, i < l.length → (lowl l)[i]? = some (l[i]! / (gl l : Int)) := fun i hi => by
      unfold lowl
      rw [List.getElem?_map, List.getElem?_eq_getElem hi, getElem!_pos l i hi]
      rfl
    refine ⟨_, rfl, a, _, rfl, hs, fun J hJ D hD => lc_it hJ.walk (fun i H' => Same H H' ∧ H' D = some (.lst (((lowl l).take i).map V.int))) ⟨(L2.Same.refl H).new hD, upd_same⟩ (fun i H' _ hp => hp.1) ?_ ?_⟩
    · rintro i x H1 H2 hi ⟨sm, eD⟩ ⟨rfl, hx⟩
      rw [List.length_map] at hi
      rw [List.getElem?_map, List.getElem?_eq_getElem hi] at hx
      have ex := (Option.some.inj hx).symm
      subst ex
      refine ⟨rfl, ?_⟩
      refine iteT (B := Same H H2 ∧ H2 D = some (HO.lst (List.map V.int (List.take (i + 1) (lowl l))))) ?_
      refine ⟨_, rfl, _, rfl, _, _, rfl, rfl, .inr ⟨by omega, Nat.lt_trans (PySem.Flt.log2_lt_of (k := 8900) (by decide) gs) (by decide)⟩, _, eD, ?_, ?_, ?_⟩
      · rw [List.length_map, List.length_take]
        exact Nat.lt_of_le_of_lt (show min i (lowl l).length ≤ 100 by omega) (by decide)
      · exact fun b o z => by rw [upd_ne (ne_of_none z hD)]; exact sm b o z
      · rw [upd_same, List.take_add_one, key i hi, List.map_append, getElem!_pos l i hi]
        show some (HO.lst (_ ++ [V.int (l[i].fdiv (gl l : Int))])) = _
        rw [Int.fdiv_eq_ediv_of_nonneg _ (by omega)]
        rfl
    · rintro H2 ⟨sm, eD⟩
      have e : (lowl l).take (List.length (List.map V.int l)) = lowl l := List.take_of_length_le (by unfold lowl; simp)
      rw [e] at eD
      refine ⟨D, _, rfl, .inl ⟨SqL.of eD, fun t nt => ?_⟩⟩
      exact q _ t (sm.new nt) (sm.free nt) upd_same

/-! _law_rt_square -/
def sp__law_rt_square (K : PySem.W.Frag) : Sp := fun vs H Q _ => ∃ (f w : List Bool), vs = [.str (rd f), .str (rd w)] ∧ f.length ≤ 70 ∧ w.length ≤ 8000 ∧ Both w ∧
  ∀ d, Nsq (arnd f w).tr3 d → ∀ H' p, Same H H' → H p = none → H' p = some (.tup (d.l.map V.int)) → Q (.ref p) H'
theorem ok__law_rt_square (T : Tx K mg) : FnOk P w K mg base CX0 3 T.a__law_rt_square T.fd__law_rt_square ["front", "loop"] (sp__law_rt_square K) := by
  have G__law_rt_turns := ok__law_rt_turns (P := P) (w := w) (base := base) T
  have G__law_rt_times := ok__law_rt_times (P := P) (w := w) (base := base) T
  have G__law_rt_low := ok__law_rt_low (P := P) (w := w) (base := base) T
  refine T.F__law_rt_square.ok sc__law_rt_square (fun vs H Q E h => ?_) (fun cdv A outer s H vs Q E hr h => ?_)
  · obtain ⟨f, w, rfl, _⟩ := h
    rfl
  · obtain ⟨f, w, rfl, hf, hw, bw, q⟩ := h
    refine ⟨_, (pss_cons (ps_asg (pe_call G__law_rt_turns (hr.mono (by decide)) (by rfl) T.g__law_rt_turns T.F__law_rt_turns.kp (b__law_rt_turns T.F__law_rt_turns) .nil pass0 (pa_cons (pv 0) pa_nil)) (pg_tup (by rfl) (pgs_cons (pg_name (i := 2) sc__law_rt_square.nd rfl (Or.inl rfl)) (pgs_cons (pg_name (i := 3) sc__law_rt_square.nd rfl (Or.inl rfl)) (pgs_cons (pg_name (i := 4) sc__law_rt_square.nd rfl (Or.inl rfl)) (pgs_cons (pg_name (i := 5) sc__law_rt_square.nd rfl (Or.inl rfl)) pgs_nil))))))
  (pss_cons (ps_set (i := 6) sc__law_rt_square.nd rfl (Or.inl rfl) (pe_call G__law_rt_times (hr.mono (by decide)) (by rfl) T.g__law_rt_times T.F__law_rt_times.kp (b__law_rt_times T.F__law_rt_times) .nil pass0 (pa_cons (pe_call G__law_rt_times (hr.mono (by decide)) (by rfl) T.g__law_rt_times T.F__law_rt_times.kp (b__law_rt_times T.F__law_rt_times) .nil pass0 (pa_cons (pe_tup (pa_cons (pv 2) (pa_cons (pv 3) (pa_cons (pv 4) (pa_cons (pv 5) pa_nil))))) (pa_cons (pe_call G__law_rt_turns (hr.mono (by decide)) (by rfl) T.g__law_rt_turns T.F__law_rt_turns.kp (b__law_rt_turns T.F__law_rt_turns) .nil pass0 (pa_cons (pv 1) pa_nil)) pa_nil))) (pa_cons (pe_tup (pa_cons (pv 5) (pa_cons (pe_un un_neg (pv 3)) (pa_cons (pe_un un_neg (pv 4)) (pa_cons (pv 2) pa_nil))))) pa_nil))))
  (pss_cons (ps_set (i := 7) sc__law_rt_square.nd rfl (Or.inl rfl) (pe_call G__law_rt_low (hr.mono (by decide)) (by rfl) T.g__law_rt_low T.F__law_rt_low.kp (b__law_rt_low T.F__law_rt_low) .nil pass0 (pa_cons (pe_tup (pa_cons (pe_ix ix_tup (pv 6) pe_int (fun _ _ => rfl)) (pa_cons (pe_op op_sub (pe_ix ix_tup (pv 6) pe_int (fun _ _ => rfl)) (pe_ix ix_tup (pv 6) pe_int (fun _ _ => rfl))) (pa_cons (pe_un un_neg (pe_ix ix_tup (pv 6) pe_int (fun _ _ => rfl))) pa_nil)))) pa_nil)))
  (pss_one (ps_ret (pe_ifExp (pt_cmpR op_gt (pe_ix ix_tup (pv 7) pe_int (fun _ _ => rfl)) pe_int (nomark _)) (pv 7) (pe_callTy call_tuple_of (by rfl) T.z_tuple (by decide +kernel) (pa_cons (pe_lc (own := [("count", 8)]) (g := (gName 8)) (by rfl) sc__law_rt_square.nd (pi_tup (pv 7)) (blkOk_by (own := [("count", 8)]) (N := n__law_rt_square) (sc := defScope s__law_rt_square) (by decide +kernel)) (fun _ _ _ _ _ => (pg_name (i := 8) sc__law_rt_square.nd rfl (Or.inl rfl))) (fun _ _ _ _ _ => pts_nil) (fun _ _ _ _ _ => (pe_un un_neg (pv 8)))) pa_nil)))))))), ?_⟩
    obtain ⟨b1, b2, b3, b4, b5⟩ := arnd_big hf hw
    refine ⟨_, rfl, f, rfl, fun H1 p1 sm1 np1 e1 => ?_⟩
    refine ⟨p1, _, rfl, .inl (.inl e1), rfl, _, _, rfl, _, _, rfl, _, _, rfl, _, _, rfl, rfl, ?_⟩
    refine ⟨_, rfl, _, rfl, _, rfl, _, rfl, sz (by show 4 ≤ 1000000; decide), fun t1 nt1 => ?_⟩
    have s1 := sm1.new (o := .tup ((mat f).l.map V.int)) nt1
    refine ⟨_, rfl, w, rfl, fun H2 p2 sm2 np2 e2 => ?_⟩
    refine ⟨t1, p2, mat f, mat w, 8300, rfl, SqT.of (sm2 _ _ upd_same), SqT.of e2, by decide, b1, b2, fun H3 p3 sm3 np3 e3 => ?_⟩
    refine ⟨_, rfl, _, rfl, _, rfl, _, rfl, _, rfl, _, rfl, sz (by show 4 ≤ 1000000; decide), fun t4 nt4 => ?_⟩
    have s3 := (s1.trans sm2).trans sm3
    have s4 := s3.new (o := .tup ((mat f).adj.l.map V.int)) nt4
    refine ⟨p3, t4, (mat f).mul (mat w), (mat f).adj, 8300, rfl, SqT.of (((L2.Same.refl H3).new nt4) _ _ e3), SqT.of upd_same, by decide, b3, b4, fun H5 p5 sm5 np5 e5 => ?_⟩
    have s5 := s4.trans sm5
    have e5 : H5 p5 = some (.tup ((arnd f w).l.map V.int)) := e5
    have x0 : (arnd f w).tr3.x ≠ 0 := arnd_ne bw
    generalize hB : arnd f w = B at *
    refine ⟨_, rfl, p5, _, _, _, rfl, rfl, SqT.of e5, rfl, _, rfl, p5, _, _, _, rfl, rfl, SqT.of e5, rfl, _, rfl, p5, _, _, _, rfl, rfl, SqT.of e5, rfl, _, _, rfl, rfl, _, rfl, p5, _, _, _, rfl, rfl, SqT.of e5, rfl, _, rfl, sz (by show 3 ≤ 1000000; decide), fun t6 nt6 => ?_⟩
    have s6 := s5.new (o := .tup (B.tr3.l.map V.int)) nt6
    have gp : 0 < gl B.tr3.l := gl_pos (x := B.tr3.x) (by simp [T3.l]) x0
    have bx : Bd 8300 B.tr3.x := b5 B.c (by simp [M4.l])
    refine ⟨t6, B.tr3.l, rfl, .inr (SqT.of upd_same), gp, (bd_gl (x := B.tr3.x) (by simp [T3.l]) x0 bx).up (by decide), by show 3 ≤ 100; decide, fun H7 p7 sm7 np7 e7 => ?_⟩
    have s7 := s6.trans sm7
    have n7 := s6.free np7
    have e7 : H7 p7 = some (.tup [.int (B.tr3.x / (gl B.tr3.l : Int)), .int (B.tr3.y / (gl B.tr3.l : Int)), .int (B.tr3.z / (gl B.tr3.l : Int))]) := e7
    have N := fun s hs => nsq_div (t := B.tr3) (s := s) x0 hs
    have dx := Int.mul_ediv_cancel' (gl_dvd B.tr3.l B.tr3.x (by simp [T3.l]))
    have gi : (0 : Int) < (gl B.tr3.l : Int) := by omega
    have sgn : 0 < B.tr3.x / (gl B.tr3.l : Int) ↔ 0 < B.tr3.x := by
      generalize B.tr3.x / (gl B.tr3.l : Int) = X at *
      rw [← dx]
      constructor
      · exact fun h => Int.mul_pos gi h
      · intro h
        refine Int.not_le.mp fun z => ?_
        have := Int.mul_nonneg (Int.le_of_lt gi) (show 0 ≤ -X by omega)
        rw [Int.mul_neg] at this
        omega
    generalize B.tr3.x / (gl B.tr3.l : Int) = X at *
    generalize B.tr3.y / (gl B.tr3.l : Int) = Y at *
    generalize B.tr3.z / (gl B.tr3.l : Int) = Z at *
    refine ⟨_, rfl, p7, _, _, _, rfl, rfl, SqT.of e7, rfl, _, _, rfl, rfl, _, rfl, bl2 (fun c => ?_) (fun c => ?_)⟩
    · have c := of_decide_eq_true c
      have n1 := N 1 (.inl ⟨rfl, sgn.mp c⟩)
      simp only [Int.one_mul] at n1
      exact ⟨_, rfl, q _ n1 H7 p7 s7 n7 e7⟩
    · have c := of_decide_eq_false c
      have n1 := N (-1) (.inr ⟨rfl, by have := mt sgn.mpr c; omega⟩)
      refine ⟨_, rfl, p7, rfl, ⟨_, SqT.of e7⟩, fun D hD => lc_tup (xs := [V.int X, .int Y, .int Z]) (fun i H' => Same H7 H' ∧ H' D = some (.lst (([X, Y, Z].take i).map fun z => V.int (-z)))) ⟨(L2.Same.refl H7).new hD, upd_same⟩ (fun i H' _ hp => SqT.of (hp.1 _ _ e7)) ?_ ?_⟩
      · rintro i x H8 hx ⟨sm, eD⟩
        obtain ⟨z, hz, rfl⟩ : ∃ z, [X, Y, Z][i]? = some z ∧ x = .int z := by
          match i, hx with
          | 0, hx => exact ⟨X, rfl, (Option.some.inj hx).symm⟩
          | 1, hx => exact ⟨Y, rfl, (Option.some.inj hx).symm⟩
          | 2, hx => exact ⟨Z, rfl, (Option.some.inj hx).symm⟩
        refine ⟨rfl, ?_⟩
        refine iteT (B := Same H7 H8 ∧ H8 D = some (.lst (([X, Y, Z].take (i + 1)).map fun z => V.int (-z)))) ?_
        refine ⟨_, rfl, _, rfl, _, eD, ?_, ?_, ?_⟩
        · rw [List.length_map, List.length_take]
          exact Nat.lt_of_le_of_lt (show min i 3 ≤ 3 by omega) (by decide)
        · exact fun b o z => by rw [upd_ne (ne_of_none z hD)]; exact sm b o z
        · rw [upd_same, List.take_add_one, hz, List.map_append]
          rfl
      · rintro H8 ⟨sm, eD⟩
        refine ⟨D, _, rfl, .inl ⟨SqL.of eD, fun t nt => ?_⟩⟩
        refine q _ n1 _ t ((s7.trans sm).new nt) ((s7.trans sm).free nt) ?_
        rw [upd_same]
        show some (HO.tup [V.int (-X), V.int (-Y), V.int (-Z)]) = some (HO.tup [V.int (-1 * X), V.int (-1 * Y), V.int (-1 * Z)])
        simp only [Int.neg_mul, Int.one_mul]

/-! _law_right -/
def sp__law_right (K : PySem.W.Frag) : Sp := fun vs H Q _ => ∃ (a : Addr) (n : Nat), vs = [.ref a] ∧ n ≤ 900000 ∧ Pu H a n ∧ ∀ H', Pu H' a (n + 30) → Kp a H H' → Q (.bl true) H'
theorem two {H : Hp} {qs : List Addr} {R : List Ent} (h : R.length = 2) (en : Ents H qs R) : ∃ d e q1 q2, R = [d, e] ∧ qs = [q1, q2] ∧ H q1 = some (.tup d.vs) ∧ H q2 = some (.tup e.vs) := by
  match R, qs, h, en with
  | [d, e], [q1, q2], _, en => exact ⟨d, e, q1, q2, rfl, rfl, en.1, en.2.1⟩
theorem lt_part (v a b : List Bool) : (v ++ false :: a).map sg < (v ++ true :: b).map sg := by
  induction v with
  | nil => exact List.cons_lt_cons_iff.mpr (.inl (by decide))
  | cons t v ih => exact List.cons_lt_cons_iff.mpr (.inr ⟨rfl, ih⟩)
theorem ok__law_right (T : Tx K mg) : FnG P w K mg base CX0 4 T.a__law_right T.fd__law_right ["purse"] (sp__law_right K) := by
  have G__law_rt_numbers := ok__law_rt_numbers (P := P) (w := w) (base := base) T
  have G_roots_of := ok_roots_of (P := P) (w := w) (base := base) T
  have G__law_rt_is_square := ok__law_rt_is_square (P := P) (w := w) (base := base) T
  have G__law_many := ok__law_many (P := P) (w := w) (base := base) T
  have G__law_rt_is_told := ok__law_rt_is_told (P := P) (w := w) (base := base) T
  have G__law_rt_is_course := ok__law_rt_is_course (P := P) (w := w) (base := base) T
  have G__law_rt_square := ok__law_rt_square (P := P) (w := w) (base := base) T
  have G__law_rt_low := ok__law_rt_low (P := P) (w := w) (base := base) T
  refine okG T.F__law_right sc__law_right (fun vs H Q E h => ?_) (fun cdv A outer s H vs Q E hG hr h => ?_)
  · obtain ⟨a, n, rfl, _⟩ := h
    rfl
  · obtain ⟨a, n, rfl, hn, hp, q⟩ := h
    refine ⟨_, (pss_cons (ps_set (i := 1) sc__law_right.nd rfl (Or.inl rfl) (pe_call G__law_rt_numbers (hr.mono (by decide)) (by rfl) T.g__law_rt_numbers T.F__law_rt_numbers.kp (b__law_rt_numbers T.F__law_rt_numbers) .nil pass0 (pa_cons (pv 0) pa_nil)))
  (pss_cons (ps_asg (pv 1) (pg_tup (by rfl) (pgs_cons (pg_name (i := 2) sc__law_right.nd rfl (Or.inl rfl)) (pgs_cons (pg_name (i := 3) sc__law_right.nd rfl (Or.inl rfl)) (pgs_cons (pg_name (i := 4) sc__law_right.nd rfl (Or.inl rfl)) pgs_nil)))))
  (pss_cons (ps_set (i := 5) sc__law_right.nd rfl (Or.inl rfl) (pe_call G_roots_of (hr.mono (by decide)) (by rfl) T.g_roots_of T.F_roots_of.kp (b_roots_of T.F_roots_of) .nil pass0 (pa_cons (pv 1) pa_nil)))
  (pss_cons (ps_set (i := 6) sc__law_right.nd rfl (Or.inl rfl) (pe_callB (call_reprF hG hr) (by rfl) T.z_repr (by decide +kernel) (pa_cons (pv 5) pa_nil)))
  (pss_cons (ps_if (PW.pt (pw_or (pt_not (pt_val (pe_callB call_isi (by rfl) T.z_isinstance (by decide +kernel) (pa_cons (pv 5) (pa_cons (pe_bltn (v := .ty "list") (u := .type "list") (by rfl) T.z_list (by decide +kernel) rfl) pa_nil))))) (pw_or (pt_cmpR op_ne (pe_callB call_len_seq (by rfl) T.z_len (by decide +kernel) (pa_cons (pv 5) pa_nil)) (pe_call G__law_many (hr.mono (by decide)) (by rfl) T.g__law_many T.F__law_many.kp (b__law_many T.F__law_many) .nil pass0 (pa_cons (pv 2) (pa_cons (pv 3) (pa_cons (pv 4) pa_nil)))) (nomark _)) (pw_or1 (pt_cmpR op_ne (pe_callB (call_reprF hG hr) (by rfl) T.z_repr (by decide +kernel) (pa_cons (pe_callK0 G_roots_of (hr.mono (by decide)) (by rfl) T.g_roots_of T.F_roots_of.kp (kb_roots_of_0 T.F_roots_of) pass0 (pk_cons (pv 1) pk_nil)) pa_nil)) (pv 6) (nomark _)))))) (pss_one (ps_ret pe_bl)) pss_nil)
  (pss_cons (ps_set (i := 7) sc__law_right.nd rfl (Or.inl rfl) (pe_and (pe_cmpR op_ge (pe_op op_mulL (pv 3) (pv 3)) (pe_op op_mulL (pe_op op_mulL pe_int (pv 2)) (pv 4)) (nomark _)) (pe_one (pe_call G__law_rt_is_square (hr.mono (by decide)) (by rfl) T.g__law_rt_is_square T.F__law_rt_is_square.kp (b__law_rt_is_square T.F__law_rt_is_square) .nil pass0 (pa_cons (pe_op op_sub (pe_op op_mulL (pv 3) (pv 3)) (pe_op op_mulL (pe_op op_mulL pe_int (pv 2)) (pv 4))) pa_nil)))))
  (pss_cons (ps_for PassesOwn.never rfl (pi_list (pv 5)) (pg_name (i := 8) sc__law_right.nd rfl (Or.inl rfl))
    (pss_one (ps_if (pt_truth (pv 7) (fun _ => rfl)) (pss_cons (ps_if (pt_not (pt_val (pe_call G__law_rt_is_told (hr.mono (by decide)) (by rfl) T.g__law_rt_is_told T.F__law_rt_is_told.kp (b__law_rt_is_told T.F__law_rt_is_told) .nil pass0 (pa_cons (pv 8) pa_nil)))) (pss_one (ps_ret pe_bl)) pss_nil)
  (pss_cons (ps_asg (pv 8) (pg_tup (by rfl) (pgs_cons (pg_name (i := 9) sc__law_right.nd rfl (Or.inl rfl)) (pgs_cons (pg_name (i := 10) sc__law_right.nd rfl (Or.inl rfl)) pgs_nil))))
  (pss_one (ps_if (pt_cmpR op_ne (pe_op op_add (pe_op op_add (pe_op op_mulL (pe_op op_mulL (pv 2) (pv 9)) (pv 9)) (pe_op op_mulL (pe_op op_mulL (pv 3) (pv 9)) (pv 10))) (pe_op op_mulL (pe_op op_mulL (pv 4) (pv 10)) (pv 10))) pe_int (nomark _)) (pss_one (ps_ret pe_bl)) pss_nil)))) (pss_one (ps_if (PW.pt (pw_or (pt_not (pt_val (pe_call G__law_rt_is_course (hr.mono (by decide)) (by rfl) T.g__law_rt_is_course T.F__law_rt_is_course.kp (b__law_rt_is_course T.F__law_rt_is_course) .nil pass0 (pa_cons (pv 8) pa_nil)))) (pw_or1 (pt_cmpR (op_neD hr.units) (pe_call G__law_rt_square (hr.mono (by decide)) (by rfl) T.g__law_rt_square T.F__law_rt_square.kp (b__law_rt_square T.F__law_rt_square) .nil pass0 (pa_cons (pe_ix ix_tup (pv 8) pe_int (fun _ _ => rfl)) (pa_cons (pe_ix ix_tup (pv 8) pe_int (fun _ _ => rfl)) pa_nil))) (pe_call G__law_rt_low (hr.mono (by decide)) (by rfl) T.g__law_rt_low T.F__law_rt_low.kp (b__law_rt_low T.F__law_rt_low) .nil pass0 (pa_cons (pv 1) pa_nil)) (nomark _))))) (pss_one (ps_ret pe_bl)) pss_nil)))))
  (pss_cons (ps_if (PW.pt (pw_and (pt_cmpR op_eq (pe_callB call_len_seq (by rfl) T.z_len (by decide +kernel) (pa_cons (pv 5) pa_nil)) pe_int (nomark _)) (pw_and (pt_truth (pv 7) (fun _ => rfl)) (pw_and1 (pt_cmpR op_ge (pe_op op_mulL (pe_ix ix_tup (pe_ix ix_list (pv 5) pe_int (fun _ _ => rfl)) pe_int (fun _ _ => rfl)) (pe_ix ix_tup (pe_ix ix_list (pv 5) pe_int (fun _ _ => rfl)) pe_int (fun _ _ => rfl))) (pe_op op_mulL (pe_ix ix_tup (pe_ix ix_list (pv 5) pe_int (fun _ _ => rfl)) pe_int (fun _ _ => rfl)) (pe_ix ix_tup (pe_ix ix_list (pv 5) pe_int (fun _ _ => rfl)) pe_int (fun _ _ => rfl))) (nomark _)))))) (pss_one (ps_ret pe_bl)) pss_nil)
  (pss_cons (ps_if (PW.pt (pw_and (pt_cmpR op_eq (pe_callB call_len_seq (by rfl) T.z_len (by decide +kernel) (pa_cons (pv 5) pa_nil)) pe_int (nomark _)) (pw_and1 (pt_not (pt_truth (pv 7) (fun _ => rfl)))))) (pss_cons (ps_set (i := 11) sc__law_right.nd rfl (Or.inr rfl) (pe_op op_add (pe_op op_add (pe_callB (call_max2 rfl) (by rfl) T.z_max (by decide +kernel) (pa_cons (pe_callB call_len_str (by rfl) T.z_len (by decide +kernel) (pa_cons (pe_ix ix_tup (pe_ix ix_list (pv 5) pe_int (fun _ _ => rfl)) pe_int (fun _ _ => rfl)) pa_nil)) (pa_cons (pe_callB call_len_str (by rfl) T.z_len (by decide +kernel) (pa_cons (pe_ix ix_tup (pe_ix ix_list (pv 5) pe_int (fun _ _ => rfl)) pe_int (fun _ _ => rfl)) pa_nil)) pa_nil))) (pe_callB call_len_str (by rfl) T.z_len (by decide +kernel) (pa_cons (pe_ix ix_tup (pe_ix ix_list (pv 5) pe_int (fun _ _ => rfl)) pe_int (fun _ _ => rfl)) pa_nil))) (pe_callB call_len_str (by rfl) T.z_len (by decide +kernel) (pa_cons (pe_ix ix_tup (pe_ix ix_list (pv 5) pe_int (fun _ _ => rfl)) pe_int (fun _ _ => rfl)) pa_nil))))
  (pss_cons (ps_asg (pe_lc (own := [("entry", 8)]) (g := (gName 8)) (by rfl) sc__law_right.nd (pi_list (pv 5)) (blkOk_by (own := [("entry", 8)]) (N := n__law_right) (sc := defScope s__law_right) (by decide +kernel)) (fun _ _ _ _ _ => (pg_name (i := 8) sc__law_right.nd rfl (Or.inl rfl))) (fun _ _ _ _ _ => pts_nil) (fun _ _ _ _ _ => (pe_op op_add_str (pe_ix (show IxR _ (rIxT K) from ix_tup) (pv 8) pe_int (fun _ _ => rfl)) (pe_op op_mulB (pe_ix (show IxR _ (rIxT K) from ix_tup) (pv 8) pe_int (fun _ _ => rfl)) (pe_op op_add pe_int (pe_op op_fdivL (pv 11) (pe_callB call_len_str (by rfl) T.z_len (by decide +kernel) (pa_cons (pe_ix (show IxR _ (rIxT K) from ix_tup) (pv 8) pe_int (fun _ _ => rfl)) pa_nil)))))))) (pg_unl (by rfl) (pgs_cons (pg_name (i := 12) sc__law_right.nd rfl (Or.inl rfl)) (pgs_cons (pg_name (i := 13) sc__law_right.nd rfl (Or.inl rfl)) pgs_nil))))
  (pss_one (ps_if (pt_cmpR op_ge_str (pe_slice sl_str (pv 12) po_none (po_some (pv 11))) (pe_slice sl_str (pv 13) po_none (po_some (pv 11))) (nomark _)) (pss_one (ps_ret pe_bl)) pss_nil)))) pss_nil)
  (pss_cons (ps_expr (pe_bm PySem.F.plainAttrs_list PySem.F.slot_list_append PySem.F.type_list_append mt_append (pv 5) (pa_cons (pe_tup (pa_cons pe_int (pa_cons pe_int pa_nil))) pa_nil)))
  (pss_one (ps_ret (pe_cmpR op_eq (pe_callB (call_reprF hG hr) (by rfl) T.z_repr (by decide +kernel) (pa_cons (pe_call G_roots_of (hr.mono (by decide)) (by rfl) T.g_roots_of T.F_roots_of.kp (b_roots_of T.F_roots_of) .nil pass0 (pa_cons (pv 1) pa_nil)) pa_nil)) (pv 6) (nomark _)))))))))))))), ?_⟩
    refine ⟨_, rfl, a, n, rfl, by omega, hp, fun H1 p t n1 hn1 hp1 k1 np1 e1 x0 x1 hy hz => ?_⟩
    obtain ⟨R, is⟩ := RtIs.ex (t := t) (by omega) hy (disc_le (by omega) hy hz)
    have ok := is.ok (by omega) (by omega) hy hz
    have rN := shwF_ents ok.sh (by have := ok.n; have := manyR_le t; omega)
    refine ⟨_, rfl, p, _, rfl, SqT.of e1, rfl, _, _, rfl, _, _, rfl, _, _, rfl, rfl, ?_⟩
    refine ⟨_, rfl, p, t, R, rfl, SqT.of e1, by omega, by omega, hy, hz, is, fun H2 v s2 at2 => ?_⟩
    refine ⟨_, rfl, _, _, rfl, at2.dp, rN, ?_⟩
    generalize hD : (PyData.list (R.map Ent.data)).shown = tx
    obtain ⟨r, qs, rfl, nr, hr, en⟩ := id at2
    refine ⟨_, rfl, .ref r, .ty "list", _, _, true, rfl, .ty _, .base (.lst hr), rfl, _, rfl, iteF ?_⟩
    refine ⟨_, rfl, r, _, rfl, .inl (SqL.of hr), _, rfl, _, rfl, _, rfl, t, rfl, by omega, hy, hz, rfl, _, rfl, iteNS (by rw [List.length_map, en.len, ok.n]) ?_⟩
    refine ⟨_, rfl, p, t, R, rfl, SqT.of (s2 _ _ e1), by omega, by omega, hy, hz, is, fun H3 v3 s3 at3 => ?_⟩
    refine ⟨_, _, rfl, at3.dp, rN, ?_⟩
    rw [hD]
    refine ⟨_, rfl, rfl, _, rfl, iteNS rfl ?_⟩
    have s13 := s2.trans s3
    have hr3 := s3 _ _ hr
    have en3 := en.same s3
    have sml : ∀ {k : Nat} {i : Int}, 7 ≤ k → i.natAbs ≤ 60 → Bd k i := fun {k i} hk h => by
      have := Nat.pow_le_pow_right (n := 2) (by decide) hk
      unfold Bd
      omega
    have y1 : Bd 400 t.y := sml (by decide) hy
    have z1 : Bd 400 t.z := sml (by decide) hz
    have x4 : Bd 410 (4 * t.x) := by
      have : Bd 9 (4 * t.x) := by
        unfold Bd
        omega
      exact this.up (by decide)
    have ed : t.y * t.y - 4 * t.x * t.z = t.disc := rfl
    have d1 := disc_le (t := t) (by omega) hy hz
    have x0' : 0 < t.x := by omega
    generalize hO : (none : Option V) = ON
    refine ⟨_, rfl, _, rfl, _, _, rfl, rfl, y1.ml y1, _, rfl, _, _, rfl, rfl, cml_l (by decide), _, rfl, _, _, rfl, rfl, x4.ml z1, _, _, rfl, rfl, _, rfl, meetE (tb := fun σ H Q => Q (.bl false) H) (fun v H' => ∃ pl : Bool, v = .bl pl ∧ (pl = true → ∃ s, 0 ≤ s ∧ s * s = t.disc) ∧ (pl = false → R ≠ [] → t.Ns) ∧ H' = H3) (fun c N hN => ?_) (fun c N hN => ?_) (fun v HH z => ?_)⟩
    · have c := of_decide_eq_true c
      refine ⟨_, rfl, _, rfl, _, _, rfl, rfl, y1.ml y1, _, rfl, _, _, rfl, rfl, cml_l (by decide), _, rfl, _, _, rfl, rfl, x4.ml z1, _, _, rfl, rfl, t.disc, rfl, by omega, by omega, fun b b1 b2 => hN _ _ ⟨b, rfl, b1, fun z _ => b2 z, rfl⟩⟩
    · have c := of_decide_eq_false c
      exact hN _ _ ⟨false, rfl, (fun z => nomatch z), fun _ ne => absurd (is.neg (by omega)) ne, rfl⟩
    obtain ⟨pl, rfl, pl1, pl2, rfl⟩ := z
    refine ⟨_, rfl, r, rfl, ⟨_, SqL.of hr3⟩, for_list (xs := qs.map V.ref) (fun i σ H' => ∃ (e u d : Option V), σ = [some (.ref a), some (.ref p), some (.int t.x), some (.int t.y), some (.int t.z), some (.ref r), some (.str tx), some (.bl pl), e, u, d, none, none, none] ∧ Same HH H') ⟨_, _, _, rfl, L2.Same.refl HH⟩ (fun i σ H' _ hh => by
      obtain ⟨_, _, _, _, s⟩ := hh
      exact SqL.of (s _ _ hr3)) ?_ ?_⟩
    · rintro i v σ H4 hv ⟨e0, u0, dn0, rfl, s4⟩
      obtain ⟨ea, e, rfl, he, hea⟩ := en3.at hv
      have hem : e ∈ R := List.mem_of_getElem? he
      have hne : R ≠ [] := List.ne_nil_of_mem hem
      have hea := s4 _ _ hea
      cases pl with
      | true =>
        obtain ⟨s, s0, es⟩ := pl1 rfl
        obtain ⟨u, w, rfl, u1, w1, gw, u4, w4, eq⟩ := ok.fr s s0 es e hem
        have cu : ∀ {i : Int}, Cml i u := fun {i} => cml_r (Nat.lt_of_le_of_lt (show u.natAbs ≤ 400 by omega) (by decide))
        have cw : ∀ {i : Int}, Cml i w := fun {i} => cml_r (Nat.lt_of_le_of_lt (show w.natAbs ≤ 400 by omega) (by decide))
        refine ⟨_, rfl, true, rfl, iteT ?_⟩
        refine ⟨_, rfl, ea, u, w, rfl, hea, u1, w1, gw, _, rfl, iteF ?_⟩
        refine ⟨_, rfl, ea, _, rfl, SqT.of hea, rfl, _, _, rfl, _, _, rfl, rfl, ?_⟩
        refine ⟨_, rfl, _, rfl, _, _, rfl, rfl, cu, _, rfl, _, _, rfl, rfl, cu, _, rfl, _, rfl, _, _, rfl, rfl, cu, _, rfl, _, _, rfl, rfl, cw, _, _, rfl, rfl, _, rfl, _, rfl, _, _, rfl, rfl, cw, _, rfl, _, _, rfl, rfl, cw, _, _, rfl, rfl, rfl, _, rfl, iteNS (congrArg V.int eq) ?_⟩
        exact ⟨_, _, _, rfl, s4⟩
      | false =>
        have ns := pl2 rfl hne
        obtain ⟨f, w, rfl, hf, hw, bw, lw, nq⟩ := ok.co ns e hem
        refine ⟨_, rfl, false, rfl, iteF ?_⟩
        refine ⟨_, rfl, ea, f, w, rfl, hea, hf, by omega, bw, lw, fun H5 s5 => ⟨_, rfl, iteF ?_⟩⟩
        have hea5 := s5 _ _ hea
        have e15 := s5 _ _ (s4 _ _ (s13 _ _ e1))
        have gp : 0 < gl t.l := gl_pos (x := t.x) (by simp [T3.l]) (by omega)
        have gle : gl t.l ≤ t.x.natAbs := gl_le (l := t.l) (x := t.x) (by simp [T3.l]) (by omega)
        refine ⟨_, rfl, ea, _, _, _, rfl, rfl, SqT.of hea5, rfl, _, rfl, ea, _, _, _, rfl, rfl, SqT.of hea5, rfl, f, w, rfl, hf, by omega, bw, fun d nd H6 p6 s6 np6 e6 => ?_⟩
        obtain rfl := nq.eq nd
        have b89 : Bd 8900 ((gl t.l : Nat) : Int) := Bd.up (j := 9) (by unfold Bd; omega) (by decide)
        refine ⟨_, rfl, p, t.l, rfl, .inr (SqT.of (s6 _ _ e15)), gp, b89, by show 3 ≤ 100; decide, fun H7 p7 s7 np7 e7 => ?_⟩
        refine ⟨_, _, dp_tup (SqT.of (s7 _ _ e6)), dp_tup (SqT.of e7), shaped_tup _, shaped_tup _, _, rfl, ?_⟩
        rw [eqv_tup, lw_l, decide_eq_true rfl]
        exact iteF ⟨_, _, _, rfl, ((s4.trans s5).trans s6).trans s7⟩
    · rintro σ H4 ⟨e0, u0, dn0, rfl, s4⟩
      have hr4 := s4 _ _ hr3
      have en4 := en3.same s4
      have lq : qs.length = R.length := en4.len
      -- fractions ascend
      dsimp only [gName, tSeq]
      refine meetS (fun σ' H' => ∃ (e u d : Option V), σ' = [some (.ref a), some (.ref p), some (.int t.x), some (.int t.y), some (.int t.z), some (.ref r), some (.str tx), some (.bl pl), e, u, d, none, none, none] ∧ Same HH H') (fun N hN => ?_) ?_
      · refine ⟨_, rfl, r, _, rfl, .inl (SqL.of hr4), rfl, _, rfl, ?_⟩
        by_cases l2 : R.length = 2
        · refine ifY (by rw [List.length_map, lq, l2]; rfl) ?_
          refine ⟨_, rfl, pl, rfl, ?_⟩
          cases pl with
          | false => exact iteF (iteF (hN _ _ ⟨_, _, _, rfl, s4⟩))
          | true =>
            refine iteT ?_
            obtain ⟨s, s0, es⟩ := pl1 rfl
            obtain ⟨d, e, q1, q2, eR, eq, h1, h2⟩ := two l2 en4
            obtain ⟨u, v, u', v', rfl, rfl, lt⟩ := ok.up s s0 es d e eR
            obtain ⟨_, _, z1, b1, b2, _, b3, b4, _⟩ := ok.fr s s0 es (.fr u v) (by rw [eR]; simp)
            obtain ⟨_, _, z2, b5, b6, _, b7, b8, _⟩ := ok.fr s s0 es (.fr u' v') (by rw [eR]; simp)
            injection z1 with z1 z1'
            injection z2 with z2 z2'
            subst z1 z1' z2 z2' eq
            refine ⟨_, rfl, r, _, _, _, rfl, rfl, SqL.of hr4, rfl, q1, _, _, _, rfl, rfl, SqT.of h1, rfl, _, rfl, r, _, _, _, rfl, rfl, SqL.of hr4, rfl, q2, _, _, _, rfl, rfl, SqT.of h2, rfl, _, _, rfl, rfl, cml_r (Nat.lt_of_le_of_lt (show v'.natAbs ≤ 400 by omega) (by decide)), ?_⟩
            refine ⟨_, rfl, r, _, _, _, rfl, rfl, SqL.of hr4, rfl, q2, _, _, _, rfl, rfl, SqT.of h2, rfl, _, rfl, r, _, _, _, rfl, rfl, SqL.of hr4, rfl, q1, _, _, _, rfl, rfl, SqT.of h1, rfl, _, _, rfl, rfl, cml_r (Nat.lt_of_le_of_lt (show v.natAbs ≤ 400 by omega) (by decide)), ?_⟩
            refine ⟨_, _, rfl, rfl, _, rfl, ifN (show ¬ u' * v ≤ u * v' by omega) ?_⟩
            exact hN _ _ ⟨_, _, _, rfl, s4⟩
        · refine ifN (fun z => l2 (by injection z with z; rw [List.length_map, lq] at z; omega)) ?_
          exact iteF (hN _ _ ⟨_, _, _, rfl, s4⟩)
      rintro σ' H5 ⟨e5, u5, d5, rfl, s5⟩
      have hr5 := s5 _ _ hr3
      have en5 := en3.same s5
      -- courses ascend
      dsimp only [gName, tSeq]
      refine meetS (fun σ' H' => ∃ (e u d m x y : Option V), σ' = [some (.ref a), some (.ref p), some (.int t.x), some (.int t.y), some (.int t.z), some (.ref r), some (.str tx), some (.bl pl), e, u, d, m, x, y] ∧ Same HH H') (fun N hN => ?_) ?_
      · refine ⟨_, rfl, r, _, rfl, .inl (SqL.of hr5), rfl, _, rfl, ?_⟩
        by_cases l2 : R.length = 2
        · refine ifY (by rw [List.length_map, lq, l2]; rfl) ?_
          refine ⟨_, rfl, pl, rfl, ?_⟩
          cases pl with
          | true => exact iteF (hN _ _ ⟨_, _, _, _, _, _, rfl, s5⟩)
          | false =>
            refine iteT ?_
            have ns := pl2 rfl (fun z => by rw [z] at l2; cases l2)
            obtain ⟨d, e, q1, q2, eR, eq, h1, h2⟩ := two l2 en5
            obtain ⟨v, w, w', rfl, rfl⟩ := ok.cu ns d e eR
            obtain ⟨_, _, z1, b1, b2, b3, _⟩ := ok.co ns (.co (v ++ [false]) w) (by rw [eR]; simp)
            obtain ⟨_, _, z2, b5, b6, b7, _⟩ := ok.co ns (.co (v ++ [true]) w') (by rw [eR]; simp)
            injection z1 with z1 z1'
            injection z2 with z2 z2'
            subst z1 z1' z2 z2' eq
            have lA : (v ++ [false]).length = v.length + 1 := by simp
            have lB : (v ++ [true]).length = v.length + 1 := by simp
            refine ⟨_, rfl, r, _, _, _, rfl, rfl, SqL.of hr5, rfl, q1, _, _, _, rfl, rfl, SqT.of h1, rfl, _, rfl, by rw [rd_len]; exact sz (by omega), ?_⟩
            refine ⟨_, rfl, r, _, _, _, rfl, rfl, SqL.of hr5, rfl, q2, _, _, _, rfl, rfl, SqT.of h2, rfl, _, rfl, by rw [rd_len]; exact sz (by omega), ?_⟩
            refine ⟨_, _, rfl, _, rfl, r, _, _, _, rfl, rfl, SqL.of hr5, rfl, q1, _, _, _, rfl, rfl, SqT.of h1, rfl, _, rfl, by rw [rd_len]; exact sz (by omega), _, _, rfl, rfl, ?_⟩
            refine ⟨_, rfl, r, _, _, _, rfl, rfl, SqL.of hr5, rfl, q2, _, _, _, rfl, rfl, SqT.of h2, rfl, _, rfl, by rw [rd_len]; exact sz (by omega), _, _, rfl, rfl, ?_⟩
            dsimp only
            rw [rd_len, rd_len, rd_len, rd_len, lA, lB, if_neg (by omega)]
            obtain ⟨M, hM⟩ : ∃ M : Nat, ((v.length + 1 : Nat) : Int) + (w.length : Int) + (w'.length : Int) = (M : Int) := ⟨v.length + 1 + w.length + w'.length, by omega⟩
            rw [hM]
            have wl : ∀ {x : List Bool}, Both x → x.length ≤ 7290 → 1 ≤ x.length := fun {x} b _ => by
              have := List.length_pos_iff.mpr b.ne
              omega
            have wl1 := wl b3 b2
            have wl2 := wl b7 b6
            have M1 : M ≤ 14650 := by omega
            have kf : ∀ {m : List Bool}, 1 ≤ m.length → m.length ≤ 7290 → ∃ k : Nat, (M : Int) / (m.length : Int) = (k : Int) ∧ m.length * (k + 1) ≤ 30000 ∧ k ≤ 14650 ∧ M ≤ m.length * (k + 1) := fun {m} m0 m1 => by
              obtain ⟨k, ek⟩ := nat_of (show 0 ≤ (M : Int) / (m.length : Int) from Int.ediv_nonneg (by omega) (by omega))
              have e1 := Int.ediv_mul_le (M : Int) (show (m.length : Int) ≠ 0 by omega)
              have e2 := Int.lt_ediv_add_one_mul_self (M : Int) (show (0 : Int) < m.length by omega)
              rw [ek] at e1 e2
              have e3 : (((m.length * (k + 1) : Nat)) : Int) = ((k : Int) + 1) * m.length := by rw [Int.natCast_mul, Int.mul_comm]; rfl
              have e4 : ((k : Int) + 1) * m.length = (k : Int) * m.length + m.length := by rw [Int.add_mul, Int.one_mul]
              have e5 : (k : Int) * 1 ≤ (k : Int) * m.length := Int.mul_le_mul_of_nonneg_left (by omega) (by omega)
              exact ⟨k, ek, by omega, by omega, by omega⟩
            refine ⟨_, rfl, r, rfl, ⟨_, SqL.of hr5⟩, fun D hD => lc_list (xs := [.ref q1, .ref q2]) (fun i H' => Same H5 H' ∧ H' D = some (.lst (([rd (v ++ [false] ++ repR w (1 + (M : Int) / (w.length : Int)).toNat), rd (v ++ [true] ++ repR w' (1 + (M : Int) / (w'.length : Int)).toNat)].take i).map V.str))) ⟨(L2.Same.refl H5).new hD, upd_same⟩ (fun i H' _ hp => SqL.of (hp.1 _ _ hr5)) ?_ ?_⟩
            · rintro i x H6 hx ⟨sm, eD⟩
              refine ⟨rfl, ?_⟩
              match i, hx with
              | 0, hx =>
                obtain rfl := Option.some.inj hx
                obtain ⟨k, ek, k1, k2, k3⟩ := kf wl1 b2
                have ef : (M : Int).fdiv ((rd w).length : Int) = (k : Int) := by rw [rd_len, Int.fdiv_eq_ediv_of_nonneg _ (by omega), ek]
                have en : (1 + (k : Int)).toNat = k + 1 := by omega
                refine iteT (B := Same H5 H6 ∧ H6 D = some (.lst (([rd (v ++ [false] ++ repR w (1 + (M : Int) / (w.length : Int)).toNat), rd (v ++ [true] ++ repR w' (1 + (M : Int) / (w'.length : Int)).toNat)].take (0 + 1)).map V.str))) ?_
                refine ⟨_, rfl, q1, _, _, _, rfl, rfl, SqT.of (sm _ _ h1), rfl, _, rfl, q1, _, _, _, rfl, rfl, SqT.of (sm _ _ h1), rfl, _, rfl, _, rfl, q1, _, _, _, rfl, rfl, SqT.of (sm _ _ h1), rfl, _, rfl, by rw [rd_len]; exact sz (by omega), _, _, rfl, rfl, ?_, ?_⟩
                · exact .inr ⟨by rw [rd_len]; omega, Nat.lt_trans (PySem.Flt.log2_lt_of (k := 100) (by decide) (Nat.lt_of_le_of_lt (show (((rd w).length : Nat) : Int).natAbs ≤ 7290 by rw [rd_len]; omega) (by decide))) (by decide)⟩
                dsimp only
                rw [ef]
                refine ⟨_, _, rfl, rfl, _, _, rfl, rfl, by rw [rd_len]; omega, by omega, by omega, by rw [rd_len, en]; exact Nat.le_trans k1 (by decide), _, _, rfl, rfl, ?_, _, eD, ?_, ?_, ?_⟩
                · rw [repT_len, rd_len, rd_len, en]
                  exact Nat.le_trans (Nat.add_le_add (show _ ≤ 100 by omega) k1) (by decide)
                · show 0 < sizeLine
                  decide
                · exact fun b o z => by
                    rw [upd_ne (ne_of_none z hD)]
                    exact sm b o z
                · rw [upd_same, rep_rd, rd_app, ek]
                  rfl
              | 1, hx =>
                obtain rfl := Option.some.inj hx
                obtain ⟨k, ek, k1, k2, k3⟩ := kf wl2 b6
                have ef : (M : Int).fdiv ((rd w').length : Int) = (k : Int) := by rw [rd_len, Int.fdiv_eq_ediv_of_nonneg _ (by omega), ek]
                have en : (1 + (k : Int)).toNat = k + 1 := by omega
                refine iteT (B := Same H5 H6 ∧ H6 D = some (.lst (([rd (v ++ [false] ++ repR w (1 + (M : Int) / (w.length : Int)).toNat), rd (v ++ [true] ++ repR w' (1 + (M : Int) / (w'.length : Int)).toNat)].take (1 + 1)).map V.str))) ?_
                refine ⟨_, rfl, q2, _, _, _, rfl, rfl, SqT.of (sm _ _ h2), rfl, _, rfl, q2, _, _, _, rfl, rfl, SqT.of (sm _ _ h2), rfl, _, rfl, _, rfl, q2, _, _, _, rfl, rfl, SqT.of (sm _ _ h2), rfl, _, rfl, by rw [rd_len]; exact sz (by omega), _, _, rfl, rfl, ?_, ?_⟩
                · exact .inr ⟨by rw [rd_len]; omega, Nat.lt_trans (PySem.Flt.log2_lt_of (k := 100) (by decide) (Nat.lt_of_le_of_lt (show (((rd w').length : Nat) : Int).natAbs ≤ 7290 by rw [rd_len]; omega) (by decide))) (by decide)⟩
                dsimp only
                rw [ef]
                refine ⟨_, _, rfl, rfl, _, _, rfl, rfl, by rw [rd_len]; omega, by omega, by omega, by rw [rd_len, en]; exact Nat.le_trans k1 (by decide), _, _, rfl, rfl, ?_, _, eD, ?_, ?_, ?_⟩
                · rw [repT_len, rd_len, rd_len, en]
                  exact Nat.le_trans (Nat.add_le_add (show _ ≤ 100 by omega) k1) (by decide)
                · show 1 < sizeLine
                  decide
                · exact fun b o z => by
                    rw [upd_ne (ne_of_none z hD)]
                    exact sm b o z
                · rw [upd_same, rep_rd, rd_app, ek]
                  rfl
            · rintro H6 ⟨sm, eD⟩
              obtain ⟨k, ek, k1, k2, k3⟩ := kf wl1 b2
              obtain ⟨k', ek', k1', k2', k3'⟩ := kf wl2 b6
              rw [ek, ek', show (1 + (k : Int)).toNat = k + 1 by omega, show (1 + (k' : Int)).toNat = k' + 1 by omega] at eD
              refine ⟨D, _, rfl, SqL.of eD, rfl, _, _, rfl, _, _, rfl, rfl, ?_⟩
              have r1 : (repR w (k + 1)).length = w.length * (k + 1) := by rw [repR_len, Nat.mul_comm]
              have r2 : (repR w' (k' + 1)).length = w'.length * (k' + 1) := by rw [repR_len, Nat.mul_comm]
              refine ⟨_, rfl, _, rfl, _, rfl, rd _, rfl, by rw [rd_len, List.length_append, r1]; exact sz (by omega), ?_⟩
              rw [cut_take]
              refine ⟨_, rfl, _, rfl, _, rfl, rd _, rfl, by rw [rd_len, List.length_append, r2]; exact sz (by omega), ?_⟩
              rw [cut_take]
              refine ⟨_, _, rfl, rfl, _, rfl, ?_⟩
              have hlt : (rd ((v ++ [false] ++ repR w (k + 1)).take M)).cps.toList < (rd ((v ++ [true] ++ repR w' (k' + 1)).take M)).cps.toList := by
                have mv : v.length + 1 ≤ M := by omega
                obtain ⟨j, ej⟩ : ∃ j, M - v.length = j + 1 := ⟨M - v.length - 1, by omega⟩
                have tk : ∀ (b : Bool) (x : List Bool), (v ++ [b] ++ x).take M = v ++ b :: x.take j := fun b x => by
                  rw [List.append_assoc, List.take_append, List.take_of_length_le (show v.length ≤ M by omega), ej]
                  rfl
                rw [rd_cps, rd_cps, tk, tk]
                exact lt_part v _ _
              rw [decide_eq_true hlt]
              exact iteF (hN _ _ ⟨_, _, _, _, _, _, rfl, s5.trans sm⟩)
        · refine ifN (fun z => l2 (by injection z with z; rw [List.length_map, lq] at z; omega)) ?_
          exact iteF (hN _ _ ⟨_, _, _, _, _, _, rfl, s5⟩)
      rintro σ' H6 ⟨e6, u6, d6, m6, x6, y6, rfl, s6⟩
      have hr6 := s6 _ _ hr3
      refine ⟨_, rfl, .inl ⟨rfl, _, SqL.of hr6⟩, sz (by show 2 ≤ 1000000; decide), fun u nu => ?_⟩
      have s7 := (L2.Same.refl H6).new (o := .tup [.int 1, .int 1]) nu
      have hr7 := s7 _ _ hr6
      have lq2 : (qs.map V.ref).length < sizeLine := by
        rw [List.length_map, lq, ok.n]
        exact Nat.lt_of_le_of_lt (manyR_le t) (by decide)
      refine ⟨r, _, _, rfl, rfl, hr7, lq2, ?_⟩
      have kz : Same H1 (upd (upd H6 u (.tup [.int 1, .int 1])) r (.lst (qs.map V.ref ++ [.ref u]))) := fun b o hb => by
        rw [upd_ne (ne_of_none hb nr)]
        exact ((s13.trans s6).trans s7) b o hb
      generalize upd (upd H6 u (.tup [.int 1, .int 1])) r (.lst (qs.map V.ref ++ [.ref u])) = H7 at kz ⊢
      refine ⟨_, rfl, p, t, R, rfl, SqT.of (kz _ _ e1), by omega, by omega, hy, hz, is, fun H8 v8 s8 at8 => ?_⟩
      refine ⟨_, _, rfl, at8.dp, rN, ?_⟩
      rw [hD]
      refine ⟨_, rfl, rfl, ?_⟩
      rw [decide_eq_true rfl]
      exact q _ ((hp1.same (kz.trans s8)).le (by omega)) (k1.trans (Kp.of (kz.trans s8)))

/-! _law_purse -/
def sp__law_purse (K : PySem.W.Frag) : Sp := fun vs H Q _ => ∃ (a : Addr) (ns : List Int) (place : Int), vs = [.ref a, .int place] ∧ SqL K H a (ns.map V.int) ∧ ns.length ≤ 63 ∧ 0 ≤ place ∧ place ≤ 63 ∧
  ∀ H' p, Same H H' → H p = none → Pu H' p 0 → Q (.ref p) H'
theorem ok__law_purse (T : Tx K mg) : FnOk P w K mg base CX0 1 T.a__law_purse T.fd__law_purse ["script", "place"] (sp__law_purse K) := by
  refine T.F__law_purse.ok sc__law_purse (fun vs H Q E h => ?_) (fun cdv A outer s H vs Q E hr h => ?_)
  · obtain ⟨a, ns, place, rfl, _⟩ := h
    rfl
  · obtain ⟨a, ns, place, rfl, hS, hl, h0, h1, q⟩ := h
    refine ⟨_, (pss_cons (ps_set (i := 2) sc__law_purse.nd rfl (Or.inl rfl) (pe_ifExp (pt_cmpR op_lt (pv 1) (pe_callB call_len_seq (by rfl) T.z_len (by decide +kernel) (pa_cons (pv 0) pa_nil)) (nomark _)) (pe_ix ix_list (pv 0) (pv 1) (fun _ _ => rfl)) pe_int))
  (pss_one (ps_ret (pe_lst (pa_cons (pe_callB (call_max2 rfl) (by rfl) T.z_max (by decide +kernel) (pa_cons pe_int (pa_cons (pe_op op_sub (pe_callB call_abs (by rfl) T.z_abs (by decide +kernel) (pa_cons (pv 2) pa_nil)) (pe_op op_powL pe_int pe_int)) pa_nil))) (pa_cons (pe_op op_modN (pe_callTy call_int1 (by rfl) T.z_int (by decide +kernel) (pa_cons (pe_op op_add (pe_op op_add (pe_op op_mulL (pv 2) pe_int) (pe_op op_mulL (pv 1) pe_int)) pe_int) pa_nil)) (pe_op op_add (pe_op op_powL pe_int pe_int) pe_int)) (pa_cons pe_int pa_nil))))))), ?_⟩
    obtain ⟨j, ej⟩ := nat_of h0
    -- the cell
    have hc : ∃ c : Int, decide (place < ((ns.map V.int).length : Int)) = true → (ns.map V.int)[j]? = some (.int c) := by
      by_cases hj : j < ns.length
      · exact ⟨ns[j], fun _ => by rw [List.getElem?_map, List.getElem?_eq_getElem hj]; rfl⟩
      · refine ⟨0, fun e => ?_⟩
        have e := of_decide_eq_true e
        rw [List.length_map] at e
        omega
    obtain ⟨c, hc⟩ : ∃ c : Int, (decide (place < ((ns.map V.int).length : Int)) = true → (ns.map V.int)[j]? = some (.int c)) ∧ (decide (place < ((ns.map V.int).length : Int)) = false → c = 0) := by
      cases e : decide (place < ((ns.map V.int).length : Int)) with
      | true =>
        obtain ⟨c, hc⟩ := hc
        exact ⟨c, fun _ => hc e, fun z => nomatch z⟩
      | false => exact ⟨0, (fun z => nomatch z), fun _ => rfl⟩
    refine if_val (decide (place < ((ns.map V.int).length : Int))) (.int c) (fun R r => ⟨_, rfl, _, rfl, a, _, rfl, .inl hS, _, _, rfl, rfl, _, rfl, r⟩) (fun e R r => ⟨_, rfl, _, rfl, a, _, _, _, rfl, rfl, hS, at_of ej (hc.1 e), r⟩) (fun e R r => ?_) ?_
    · rw [hc.2 e] at r
      exact r
    · refine ⟨_, rfl, _, rfl, _, _, rfl, rfl, cpw 4 (by decide) (by decide) (by decide), _, _, rfl, rfl, _, _, rfl, _, rfl, _, _, rfl, rfl, cml_r (by decide), _, rfl, _, _, rfl, rfl, cml_r (by decide), _, _, rfl, rfl, _, _, rfl, rfl, .inl ⟨_, rfl, ?_⟩⟩
      refine ⟨_, _, rfl, rfl, cpw 4 (by decide) (by decide) (by decide), _, _, rfl, rfl, _, _, rfl, rfl, (by show ((10 : Int) ^ (24 : Int).toNat + 7) ≠ 0; decide), ?_⟩
      refine ⟨sz (by show 3 ≤ 1000000; decide), fun p hp => ?_⟩
      have e24 : (10 : Int) ^ (24 : Int).toNat + 7 = 1000000000000000000000007 := by decide
      refine q _ p ((L2.Same.refl H).new hp) hp ⟨_, _, _, upd_same, ?_, ?_, ?_, by decide, by decide⟩
      · split <;> omega
      · rw [e24, Int.fmod_eq_emod_of_nonneg _ (by decide)]
        exact Int.emod_nonneg _ (by decide)
      · rw [e24, Int.fmod_eq_emod_of_nonneg _ (by decide)]
        exact Int.lt_trans (Int.emod_lt_of_pos _ (by decide)) (by decide)

/-! law -/
def sp_law (K : PySem.W.Frag) : Sp := fun vs H Q _ => ∃ (a : Addr) (ns : List Int), vs = [.ref a] ∧ SqL K H a (ns.map V.int) ∧ ns.length ≤ 63 ∧ ∀ H', Q (.bl true) H'
theorem ok_law (T : Tx K mg) : FnG P w K mg base CX0 5 T.a_law T.fd_law ["script"] (sp_law K) := by
  have G__law_right := ok__law_right (P := P) (w := w) (base := base) T
  have G__law_purse := ok__law_purse (P := P) (w := w) (base := base) T
  refine okG T.F_law sc_law (fun vs H Q E h => ?_) (fun cdv A outer s H vs Q E hG hr h => ?_)
  · obtain ⟨a, ns, rfl, _⟩ := h
    rfl
  · obtain ⟨a, ns, rfl, hS, hl, q⟩ := h
    refine ⟨_, (pss_cons (ps_for PassesOwn.never rfl (pi_range1 (by rfl) T.z_range (pa_cons (pe_callB (call_max2 rfl) (by rfl) T.z_max (by decide +kernel) (pa_cons pe_int (pa_cons (pe_callB (call_min2 rfl) (by rfl) T.z_min (by decide +kernel) (pa_cons pe_int (pa_cons (pe_callB call_len_seq (by rfl) T.z_len (by decide +kernel) (pa_cons (pv 0) pa_nil)) pa_nil))) pa_nil))) pa_nil)) (pg_name (i := 1) sc_law.nd rfl (Or.inl rfl))
    (pss_one (ps_if (pt_not (pt_val (pe_callG G__law_right hG (hr.mono (by decide)) (by rfl) T.g__law_right T.F__law_right.kp (b__law_right T.F__law_right) pass0 (pa_cons (pe_call G__law_purse (hr.mono (by decide)) (by rfl) T.g__law_purse T.F__law_purse.kp (b__law_purse T.F__law_purse) .nil pass0 (pa_cons (pv 0) (pa_cons (pv 1) pa_nil))) pa_nil)))) (pss_one (ps_ret pe_bl)) pss_nil)))
  (pss_one (ps_ret pe_bl))), ?_⟩
    refine ⟨_, rfl, a, _, rfl, .inl hS, _, _, rfl, _, _, rfl, ?_⟩
    have hn : (((ns.map V.int).length : Nat) : Int) ≤ 63 := by rw [List.length_map]; omega
    generalize (((ns.map V.int).length : Nat) : Int) = m at hn
    refine ⟨_, rfl, ?_, ?_, for_range (lo := 0) (fun i σ H2 => ∃ x, σ = [some (.ref a), x] ∧ SqL K H2 a (ns.map V.int)) ⟨none, rfl, hS⟩ ?_ ?_⟩
    · split <;> split <;> omega
    · split <;> split <;> omega
    · rintro i σ H2 hi ⟨x, rfl, hS2⟩
      have hi : i < 63 := law_i hi (by decide) (by decide)
      refine ⟨_, rfl, _, rfl, a, ns, _, rfl, hS2, hl, by omega, by omega, fun H3 p sm np hp => ⟨p, 0, rfl, by decide, hp, fun H4 hp4 k4 => ⟨true, rfl, iteF ⟨_, rfl, (same_kp sm np k4).seq hS2⟩⟩⟩⟩
    · rintro σ H2 ⟨x, rfl, hS2⟩
      exact q _
theorem law_in {K : PySem.W.Frag} {n : Nat} {H : Hp} {a : Addr} {ns : List Int} (hl : ns.length ≤ 63) (hb : ∀ z ∈ ns, Builtin.Int.intBits z ≤ 1048576) (hS : SqL K H a (ns.map V.int)) (ho : ∀ b, b ≠ a → H b = none) : sp_law K [.ref a] H (fun v _ => v = .bl true) fun _ _ _ => False :=
  ⟨a, ns, rfl, hS, hl, fun _ => rfl⟩

end
/-! what the top has left -/
theorem mk_tx {K : PySem.W.Frag} {h : Heap} {mg : Str → Option Value} {f0 f1 f2 f3 f4 f5 f6 f7 f8 f9 f10 f11 f12 f13 f14 f15 f16 f17 f18 f19 f20 f21 f22 : Addr} (X : K.In h) (G : h.Ns mainGlobals mg)
    {od0 an0 od1 an1 od2 an2 od3 an3 od4 an4 od5 an5 od6 an6 od7 an7 od8 an8 od9 an9 od10 an10 od11 an11 od12 an12 od13 an13 od14 an14 od15 an15 od16 an16 od17 an17 od18 an18 od19 an19 od20 an20 od21 an21 od22 an22 : Option Addr} {sl0 sl1 sl2 sl3 sl4 sl5 sl6 sl7 sl8 sl9 sl10 sl11 sl12 sl13 sl14 sl15 sl16 sl17 sl18 sl19 sl20 sl21 sl22 : Array (Option Value)} {oc0 kV0 dc0 pm0 cd0 ct0 oc1 kV1 dc1 pm1 cd1 ct1 oc2 kV2 dc2 pm2 cd2 ct2 oc3 kV3 dc3 pm3 cd3 ct3 oc4 kV4 dc4 pm4 cd4 ct4 oc5 kV5 dc5 pm5 cd5 ct5 oc6 kV6 dc6 pm6 cd6 ct6 oc7 kV7 dc7 pm7 cd7 ct7 oc8 kV8 dc8 pm8 cd8 ct8 oc9 kV9 dc9 pm9 cd9 ct9 oc10 kV10 dc10 pm10 cd10 ct10 oc11 kV11 dc11 pm11 cd11 ct11 oc12 kV12 dc12 pm12 cd12 ct12 oc13 kV13 dc13 pm13 cd13 ct13 oc14 kV14 dc14 pm14 cd14 ct14 oc15 kV15 dc15 pm15 cd15 ct15 oc16 kV16 dc16 pm16 cd16 ct16 oc17 kV17 dc17 pm17 cd17 ct17 oc18 kV18 dc18 pm18 cd18 ct18 oc19 kV19 dc19 pm19 cd19 ct19 oc20 kV20 dc20 pm20 cd20 ct20 oc21 kV21 dc21 pm21 cd21 ct21 oc22 kV22 dc22 pm22 cd22 ct22 : Value}
    (a0 : PySem.W.nsIn K mainGlobals "_law_coin" = some (some (.ref f0))) (l0 : K.lookup f0 = some ⟨oc0, od0, .func (PySem.W.fnOf "_law_coin" "_law_coin" (defArgs s__law_coin) (defBody s__law_coin) (defScope s__law_coin) .none kV0 dc0 pm0 an0 cd0 ct0), sl0⟩) (c0 : PySem.W.codeIn K cd0 "_law_coin" = true) (k0 : PySem.W.keepIn K (.ref f0) = true)
    (a1 : PySem.W.nsIn K mainGlobals "_law_rt_numbers" = some (some (.ref f1))) (l1 : K.lookup f1 = some ⟨oc1, od1, .func (PySem.W.fnOf "_law_rt_numbers" "_law_rt_numbers" (defArgs s__law_rt_numbers) (defBody s__law_rt_numbers) (defScope s__law_rt_numbers) .none kV1 dc1 pm1 an1 cd1 ct1), sl1⟩) (c1 : PySem.W.codeIn K cd1 "_law_rt_numbers" = true) (k1 : PySem.W.keepIn K (.ref f1) = true)
    (a2 : PySem.W.nsIn K mainGlobals "check_square" = some (some (.ref f2))) (l2 : K.lookup f2 = some ⟨oc2, od2, .func (PySem.W.fnOf "check_square" "check_square" (defArgs s_check_square) (defBody s_check_square) (defScope s_check_square) .none kV2 dc2 pm2 an2 cd2 ct2), sl2⟩) (c2 : PySem.W.codeIn K cd2 "check_square" = true) (k2 : PySem.W.keepIn K (.ref f2) = true)
    (a3 : PySem.W.nsIn K mainGlobals "fractions_above_zero" = some (some (.ref f3))) (l3 : K.lookup f3 = some ⟨oc3, od3, .func (PySem.W.fnOf "fractions_above_zero" "fractions_above_zero" (defArgs s_fractions_above_zero) (defBody s_fractions_above_zero) (defScope s_fractions_above_zero) .none kV3 dc3 pm3 an3 cd3 ct3), sl3⟩) (c3 : PySem.W.codeIn K cd3 "fractions_above_zero" = true) (k3 : PySem.W.keepIn K (.ref f3) = true)
    (a4 : PySem.W.nsIn K mainGlobals "is_above_one" = some (some (.ref f4))) (l4 : K.lookup f4 = some ⟨oc4, od4, .func (PySem.W.fnOf "is_above_one" "is_above_one" (defArgs s_is_above_one) (defBody s_is_above_one) (defScope s_is_above_one) .none kV4 dc4 pm4 an4 cd4 ct4), sl4⟩) (c4 : PySem.W.codeIn K cd4 "is_above_one" = true) (k4 : PySem.W.keepIn K (.ref f4) = true)
    (a5 : PySem.W.nsIn K mainGlobals "ring_of_root" = some (some (.ref f5))) (l5 : K.lookup f5 = some ⟨oc5, od5, .func (PySem.W.fnOf "ring_of_root" "ring_of_root" (defArgs s_ring_of_root) (defBody s_ring_of_root) (defScope s_ring_of_root) .none kV5 dc5 pm5 an5 cd5 ct5), sl5⟩) (c5 : PySem.W.codeIn K cd5 "ring_of_root" = true) (k5 : PySem.W.keepIn K (.ref f5) = true)
    (a6 : PySem.W.nsIn K mainGlobals "course_of_root" = some (some (.ref f6))) (l6 : K.lookup f6 = some ⟨oc6, od6, .func (PySem.W.fnOf "course_of_root" "course_of_root" (defArgs s_course_of_root) (defBody s_course_of_root) (defScope s_course_of_root) .none kV6 dc6 pm6 an6 cd6 ct6), sl6⟩) (c6 : PySem.W.codeIn K cd6 "course_of_root" = true) (k6 : PySem.W.keepIn K (.ref f6) = true)
    (a7 : PySem.W.nsIn K mainGlobals "roots_of" = some (some (.ref f7))) (l7 : K.lookup f7 = some ⟨oc7, od7, .func (PySem.W.fnOf "roots_of" "roots_of" (defArgs s_roots_of) (defBody s_roots_of) (defScope s_roots_of) .none kV7 dc7 pm7 an7 cd7 ct7), sl7⟩) (c7 : PySem.W.codeIn K cd7 "roots_of" = true) (k7 : PySem.W.keepIn K (.ref f7) = true)
    (a8 : PySem.W.nsIn K mainGlobals "_law_rt_is_square" = some (some (.ref f8))) (l8 : K.lookup f8 = some ⟨oc8, od8, .func (PySem.W.fnOf "_law_rt_is_square" "_law_rt_is_square" (defArgs s__law_rt_is_square) (defBody s__law_rt_is_square) (defScope s__law_rt_is_square) .none kV8 dc8 pm8 an8 cd8 ct8), sl8⟩) (c8 : PySem.W.codeIn K cd8 "_law_rt_is_square" = true) (k8 : PySem.W.keepIn K (.ref f8) = true)
    (a9 : PySem.W.nsIn K mainGlobals "_law_many" = some (some (.ref f9))) (l9 : K.lookup f9 = some ⟨oc9, od9, .func (PySem.W.fnOf "_law_many" "_law_many" (defArgs s__law_many) (defBody s__law_many) (defScope s__law_many) .none kV9 dc9 pm9 an9 cd9 ct9), sl9⟩) (c9 : PySem.W.codeIn K cd9 "_law_many" = true) (k9 : PySem.W.keepIn K (.ref f9) = true)
    (a10 : PySem.W.nsIn K mainGlobals "_law_rt_shared" = some (some (.ref f10))) (l10 : K.lookup f10 = some ⟨oc10, od10, .func (PySem.W.fnOf "_law_rt_shared" "_law_rt_shared" (defArgs s__law_rt_shared) (defBody s__law_rt_shared) (defScope s__law_rt_shared) .none kV10 dc10 pm10 an10 cd10 ct10), sl10⟩) (c10 : PySem.W.codeIn K cd10 "_law_rt_shared" = true) (k10 : PySem.W.keepIn K (.ref f10) = true)
    (a11 : PySem.W.nsIn K mainGlobals "_law_rt_is_pair" = some (some (.ref f11))) (l11 : K.lookup f11 = some ⟨oc11, od11, .func (PySem.W.fnOf "_law_rt_is_pair" "_law_rt_is_pair" (defArgs s__law_rt_is_pair) (defBody s__law_rt_is_pair) (defScope s__law_rt_is_pair) .none kV11 dc11 pm11 an11 cd11 ct11), sl11⟩) (c11 : PySem.W.codeIn K cd11 "_law_rt_is_pair" = true) (k11 : PySem.W.keepIn K (.ref f11) = true)
    (a12 : PySem.W.nsIn K mainGlobals "_law_rt_is_told" = some (some (.ref f12))) (l12 : K.lookup f12 = some ⟨oc12, od12, .func (PySem.W.fnOf "_law_rt_is_told" "_law_rt_is_told" (defArgs s__law_rt_is_told) (defBody s__law_rt_is_told) (defScope s__law_rt_is_told) .none kV12 dc12 pm12 an12 cd12 ct12), sl12⟩) (c12 : PySem.W.codeIn K cd12 "_law_rt_is_told" = true) (k12 : PySem.W.keepIn K (.ref f12) = true)
    (a13 : PySem.W.nsIn K mainGlobals "_law_rt_course" = some (some (.ref f13))) (l13 : K.lookup f13 = some ⟨oc13, od13, .func (PySem.W.fnOf "_law_rt_course" "_law_rt_course" (defArgs s__law_rt_course) (defBody s__law_rt_course) (defScope s__law_rt_course) .none kV13 dc13 pm13 an13 cd13 ct13), sl13⟩) (c13 : PySem.W.codeIn K cd13 "_law_rt_course" = true) (k13 : PySem.W.keepIn K (.ref f13) = true)
    (a14 : PySem.W.nsIn K mainGlobals "_law_rt_is_course" = some (some (.ref f14))) (l14 : K.lookup f14 = some ⟨oc14, od14, .func (PySem.W.fnOf "_law_rt_is_course" "_law_rt_is_course" (defArgs s__law_rt_is_course) (defBody s__law_rt_is_course) (defScope s__law_rt_is_course) .none kV14 dc14 pm14 an14 cd14 ct14), sl14⟩) (c14 : PySem.W.codeIn K cd14 "_law_rt_is_course" = true) (k14 : PySem.W.keepIn K (.ref f14) = true)
    (a15 : PySem.W.nsIn K mainGlobals "_law_rt_ends" = some (some (.ref f15))) (l15 : K.lookup f15 = some ⟨oc15, od15, .func (PySem.W.fnOf "_law_rt_ends" "_law_rt_ends" (defArgs s__law_rt_ends) (defBody s__law_rt_ends) (defScope s__law_rt_ends) .none kV15 dc15 pm15 an15 cd15 ct15), sl15⟩) (c15 : PySem.W.codeIn K cd15 "_law_rt_ends" = true) (k15 : PySem.W.keepIn K (.ref f15) = true)
    (a16 : PySem.W.nsIn K mainGlobals "_law_rt_turns" = some (some (.ref f16))) (l16 : K.lookup f16 = some ⟨oc16, od16, .func (PySem.W.fnOf "_law_rt_turns" "_law_rt_turns" (defArgs s__law_rt_turns) (defBody s__law_rt_turns) (defScope s__law_rt_turns) .none kV16 dc16 pm16 an16 cd16 ct16), sl16⟩) (c16 : PySem.W.codeIn K cd16 "_law_rt_turns" = true) (k16 : PySem.W.keepIn K (.ref f16) = true)
    (a17 : PySem.W.nsIn K mainGlobals "_law_rt_times" = some (some (.ref f17))) (l17 : K.lookup f17 = some ⟨oc17, od17, .func (PySem.W.fnOf "_law_rt_times" "_law_rt_times" (defArgs s__law_rt_times) (defBody s__law_rt_times) (defScope s__law_rt_times) .none kV17 dc17 pm17 an17 cd17 ct17), sl17⟩) (c17 : PySem.W.codeIn K cd17 "_law_rt_times" = true) (k17 : PySem.W.keepIn K (.ref f17) = true)
    (a18 : PySem.W.nsIn K mainGlobals "_law_rt_low" = some (some (.ref f18))) (l18 : K.lookup f18 = some ⟨oc18, od18, .func (PySem.W.fnOf "_law_rt_low" "_law_rt_low" (defArgs s__law_rt_low) (defBody s__law_rt_low) (defScope s__law_rt_low) .none kV18 dc18 pm18 an18 cd18 ct18), sl18⟩) (c18 : PySem.W.codeIn K cd18 "_law_rt_low" = true) (k18 : PySem.W.keepIn K (.ref f18) = true)
    (a19 : PySem.W.nsIn K mainGlobals "_law_rt_square" = some (some (.ref f19))) (l19 : K.lookup f19 = some ⟨oc19, od19, .func (PySem.W.fnOf "_law_rt_square" "_law_rt_square" (defArgs s__law_rt_square) (defBody s__law_rt_square) (defScope s__law_rt_square) .none kV19 dc19 pm19 an19 cd19 ct19), sl19⟩) (c19 : PySem.W.codeIn K cd19 "_law_rt_square" = true) (k19 : PySem.W.keepIn K (.ref f19) = true)
    (a20 : PySem.W.nsIn K mainGlobals "_law_right" = some (some (.ref f20))) (l20 : K.lookup f20 = some ⟨oc20, od20, .func (PySem.W.fnOf "_law_right" "_law_right" (defArgs s__law_right) (defBody s__law_right) (defScope s__law_right) .none kV20 dc20 pm20 an20 cd20 ct20), sl20⟩) (c20 : PySem.W.codeIn K cd20 "_law_right" = true) (k20 : PySem.W.keepIn K (.ref f20) = true)
    (a21 : PySem.W.nsIn K mainGlobals "_law_purse" = some (some (.ref f21))) (l21 : K.lookup f21 = some ⟨oc21, od21, .func (PySem.W.fnOf "_law_purse" "_law_purse" (defArgs s__law_purse) (defBody s__law_purse) (defScope s__law_purse) .none kV21 dc21 pm21 an21 cd21 ct21), sl21⟩) (c21 : PySem.W.codeIn K cd21 "_law_purse" = true) (k21 : PySem.W.keepIn K (.ref f21) = true)
    (a22 : PySem.W.nsIn K mainGlobals "law" = some (some (.ref f22))) (l22 : K.lookup f22 = some ⟨oc22, od22, .func (PySem.W.fnOf "law" "law" (defArgs s_law) (defBody s_law) (defScope s_law) .none kV22 dc22 pm22 an22 cd22 ct22), sl22⟩) (c22 : PySem.W.codeIn K cd22 "law" = true) (k22 : PySem.W.keepIn K (.ref f22) = true)
    (z0 : PySem.W.nsIn K mainGlobals "int" = some none)
    (z1 : PySem.W.nsIn K mainGlobals "abs" = some none)
    (z2 : PySem.W.nsIn K mainGlobals "max" = some none)
    (z3 : PySem.W.nsIn K mainGlobals "range" = some none)
    (z4 : PySem.W.nsIn K mainGlobals "min" = some none)
    (z5 : PySem.W.nsIn K mainGlobals "isinstance" = some none)
    (z6 : PySem.W.nsIn K mainGlobals "tuple" = some none)
    (z7 : PySem.W.nsIn K mainGlobals "len" = some none)
    (z8 : PySem.W.nsIn K mainGlobals "bool" = some none)
    (z9 : PySem.W.nsIn K mainGlobals "str" = some none)
    (z10 : PySem.W.nsIn K mainGlobals "repr" = some none)
    (z11 : PySem.W.nsIn K mainGlobals "list" = some none)
    (m0 : PySem.W.nsIn K mainGlobals "gcd" = some (some (.builtin "math.gcd")))
    (m1 : PySem.W.nsIn K mainGlobals "isqrt" = some (some (.builtin "math.isqrt")))
    : ∃ (T : Tx K mg) (kV dc pm cd ct : Value) (an : Option Addr), T.fd_law = PySem.W.fnOf "law" "law" (defArgs s_law) (defBody s_law) (defScope s_law) .none kV dc pm an cd ct := by
  refine ⟨{
    a__law_coin := f0, fd__law_coin := _, F__law_coin := fun_mk (st := s__law_coin) l0 c0 k0, g__law_coin := PySem.W.mg_of X G a0,
    a__law_rt_numbers := f1, fd__law_rt_numbers := _, F__law_rt_numbers := fun_mk (st := s__law_rt_numbers) l1 c1 k1, g__law_rt_numbers := PySem.W.mg_of X G a1,
    a_check_square := f2, fd_check_square := _, F_check_square := fun_mk (st := s_check_square) l2 c2 k2, g_check_square := PySem.W.mg_of X G a2,
    a_fractions_above_zero := f3, fd_fractions_above_zero := _, F_fractions_above_zero := fun_mk (st := s_fractions_above_zero) l3 c3 k3, g_fractions_above_zero := PySem.W.mg_of X G a3,
    a_is_above_one := f4, fd_is_above_one := _, F_is_above_one := fun_mk (st := s_is_above_one) l4 c4 k4, g_is_above_one := PySem.W.mg_of X G a4,
    a_ring_of_root := f5, fd_ring_of_root := _, F_ring_of_root := fun_mk (st := s_ring_of_root) l5 c5 k5, g_ring_of_root := PySem.W.mg_of X G a5,
    a_course_of_root := f6, fd_course_of_root := _, F_course_of_root := fun_mk (st := s_course_of_root) l6 c6 k6, g_course_of_root := PySem.W.mg_of X G a6,
    a_roots_of := f7, fd_roots_of := _, F_roots_of := fun_mk (st := s_roots_of) l7 c7 k7, g_roots_of := PySem.W.mg_of X G a7,
    a__law_rt_is_square := f8, fd__law_rt_is_square := _, F__law_rt_is_square := fun_mk (st := s__law_rt_is_square) l8 c8 k8, g__law_rt_is_square := PySem.W.mg_of X G a8,
    a__law_many := f9, fd__law_many := _, F__law_many := fun_mk (st := s__law_many) l9 c9 k9, g__law_many := PySem.W.mg_of X G a9,
    a__law_rt_shared := f10, fd__law_rt_shared := _, F__law_rt_shared := fun_mk (st := s__law_rt_shared) l10 c10 k10, g__law_rt_shared := PySem.W.mg_of X G a10,
    a__law_rt_is_pair := f11, fd__law_rt_is_pair := _, F__law_rt_is_pair := fun_mk (st := s__law_rt_is_pair) l11 c11 k11, g__law_rt_is_pair := PySem.W.mg_of X G a11,
    a__law_rt_is_told := f12, fd__law_rt_is_told := _, F__law_rt_is_told := fun_mk (st := s__law_rt_is_told) l12 c12 k12, g__law_rt_is_told := PySem.W.mg_of X G a12,
    a__law_rt_course := f13, fd__law_rt_course := _, F__law_rt_course := fun_mk (st := s__law_rt_course) l13 c13 k13, g__law_rt_course := PySem.W.mg_of X G a13,
    a__law_rt_is_course := f14, fd__law_rt_is_course := _, F__law_rt_is_course := fun_mk (st := s__law_rt_is_course) l14 c14 k14, g__law_rt_is_course := PySem.W.mg_of X G a14,
    a__law_rt_ends := f15, fd__law_rt_ends := _, F__law_rt_ends := fun_mk (st := s__law_rt_ends) l15 c15 k15, g__law_rt_ends := PySem.W.mg_of X G a15,
    a__law_rt_turns := f16, fd__law_rt_turns := _, F__law_rt_turns := fun_mk (st := s__law_rt_turns) l16 c16 k16, g__law_rt_turns := PySem.W.mg_of X G a16,
    a__law_rt_times := f17, fd__law_rt_times := _, F__law_rt_times := fun_mk (st := s__law_rt_times) l17 c17 k17, g__law_rt_times := PySem.W.mg_of X G a17,
    a__law_rt_low := f18, fd__law_rt_low := _, F__law_rt_low := fun_mk (st := s__law_rt_low) l18 c18 k18, g__law_rt_low := PySem.W.mg_of X G a18,
    a__law_rt_square := f19, fd__law_rt_square := _, F__law_rt_square := fun_mk (st := s__law_rt_square) l19 c19 k19, g__law_rt_square := PySem.W.mg_of X G a19,
    a__law_right := f20, fd__law_right := _, F__law_right := fun_mk (st := s__law_right) l20 c20 k20, g__law_right := PySem.W.mg_of X G a20,
    a__law_purse := f21, fd__law_purse := _, F__law_purse := fun_mk (st := s__law_purse) l21 c21 k21, g__law_purse := PySem.W.mg_of X G a21,
    a_law := f22, fd_law := _, F_law := fun_mk (st := s_law) l22 c22 k22, g_law := PySem.W.mg_of X G a22,
    z_int := PySem.W.mg_none_of X G z0, z_abs := PySem.W.mg_none_of X G z1, z_max := PySem.W.mg_none_of X G z2, z_range := PySem.W.mg_none_of X G z3, z_min := PySem.W.mg_none_of X G z4, z_isinstance := PySem.W.mg_none_of X G z5, z_tuple := PySem.W.mg_none_of X G z6, z_len := PySem.W.mg_none_of X G z7, z_bool := PySem.W.mg_none_of X G z8, z_str := PySem.W.mg_none_of X G z9, z_repr := PySem.W.mg_none_of X G z10, z_list := PySem.W.mg_none_of X G z11, m_gcd := PySem.W.mg_of X G m0, m_isqrt := PySem.W.mg_of X G m1
    }, _, _, _, _, _, _, rfl⟩
theorem law_F {l : PySem.W.OpenLaw} (el : l.prog = PySem.Challenge.pw_leftroads_k56_roots_of_squares) {w : World} {K : PySem.W.Frag} {mg : Str → Option Value} {fa : Addr} (hfa : mg "law" = some (.ref fa))
    (h : ∃ (T : Tx K mg) (kV dc pm cd ct : Value) (an : Option Addr), T.fd_law = PySem.W.fnOf "law" "law" (defArgs s_law) (defBody s_law) (defScope s_law) .none kV dc pm an cd ct) :
    ∃ fd : FuncData, (∀ (s : Shared) (v : Value), BindsTo s fd ⟨[v], []⟩ [("script", v)]) ∧ ∀ base : Heap, K.In base → base.Ns mainGlobals mg → FnG l.prog w K mg base CX0 5 fa fd ["script"] (sp_law K) := by
  obtain ⟨T, kV, dc, pm, cd, ct, an, e⟩ := h
  have z := hfa.symm.trans T.g_law
  cases z
  refine ⟨T.fd_law, fun s v => ?_, fun base _ _ => ok_law T⟩
  rw [e]
  exact .of_eq rfl
end Lr
open PySem PySem.W PyProof.Rows
set_option maxHeartbeats 0 in
theorem PySem.Challenge.cw_leftroads_k56_roots_of_squares_holds : PySem.Challenge.rw_leftroads_k56_roots_of_squares.Holds := by
  w_on; o_law; k_head; (case hw => w_witness2)
  k_fill
  refine Lr.walk_ofG (l := PySem.Challenge.rw_leftroads_k56_roots_of_squares) (n := 63) (k := 5) (x := "script") (sp := fun w => Lr.sp_law _) rfl (by decide) rfl ⟨rfl, by decide, by decide⟩ (fun w h Y => PySem.W.kIn_of Y) ?F (fun _ _ a ns hl hb hS ho => Lr.law_in (n := 0) hl hb hS ho)
  case F =>
    intro w mg fa h KX G hmg
    refine' Lr.law_F rfl hmg (Lr.mk_tx KX G ?a0 ?l0 ?c0 ?k0 ?a1 ?l1 ?c1 ?k1 ?a2 ?l2 ?c2 ?k2 ?a3 ?l3 ?c3 ?k3 ?a4 ?l4 ?c4 ?k4 ?a5 ?l5 ?c5 ?k5 ?a6 ?l6 ?c6 ?k6 ?a7 ?l7 ?c7 ?k7 ?a8 ?l8 ?c8 ?k8 ?a9 ?l9 ?c9 ?k9 ?a10 ?l10 ?c10 ?k10 ?a11 ?l11 ?c11 ?k11 ?a12 ?l12 ?c12 ?k12 ?a13 ?l13 ?c13 ?k13 ?a14 ?l14 ?c14 ?k14 ?a15 ?l15 ?c15 ?k15 ?a16 ?l16 ?c16 ?k16 ?a17 ?l17 ?c17 ?k17 ?a18 ?l18 ?c18 ?k18 ?a19 ?l19 ?c19 ?k19 ?a20 ?l20 ?c20 ?k20 ?a21 ?l21 ?c21 ?k21 ?a22 ?l22 ?c22 ?k22 ?z0 ?z1 ?z2 ?z3 ?z4 ?z5 ?z6 ?z7 ?z8 ?z9 ?z10 ?z11 ?m0 ?m1)
    (case a0 => k_is)
    (case l0 => k_is)
    (case c0 => k_is)
    (case k0 => k_is)
    (case a1 => k_is)
    (case l1 => k_is)
    (case c1 => k_is)
    (case k1 => k_is)
    (case a2 => k_is)
    (case l2 => k_is)
    (case c2 => k_is)
    (case k2 => k_is)
    (case a3 => k_is)
    (case l3 => k_is)
    (case c3 => k_is)
    (case k3 => k_is)
    (case a4 => k_is)
    (case l4 => k_is)
    (case c4 => k_is)
    (case k4 => k_is)
    (case a5 => k_is)
    (case l5 => k_is)
    (case c5 => k_is)
    (case k5 => k_is)
    (case a6 => k_is)
    (case l6 => k_is)
    (case c6 => k_is)
    (case k6 => k_is)
    (case a7 => k_is)
    (case l7 => k_is)
    (case c7 => k_is)
    (case k7 => k_is)
    (case a8 => k_is)
    (case l8 => k_is)
    (case c8 => k_is)
    (case k8 => k_is)
    (case a9 => k_is)
    (case l9 => k_is)
    (case c9 => k_is)
    (case k9 => k_is)
    (case a10 => k_is)
    (case l10 => k_is)
    (case c10 => k_is)
    (case k10 => k_is)
    (case a11 => k_is)
    (case l11 => k_is)
    (case c11 => k_is)
    (case k11 => k_is)
    (case a12 => k_is)
    (case l12 => k_is)
    (case c12 => k_is)
    (case k12 => k_is)
    (case a13 => k_is)
    (case l13 => k_is)
    (case c13 => k_is)
    (case k13 => k_is)
    (case a14 => k_is)
    (case l14 => k_is)
    (case c14 => k_is)
    (case k14 => k_is)
    (case a15 => k_is)
    (case l15 => k_is)
    (case c15 => k_is)
    (case k15 => k_is)
    (case a16 => k_is)
    (case l16 => k_is)
    (case c16 => k_is)
    (case k16 => k_is)
    (case a17 => k_is)
    (case l17 => k_is)
    (case c17 => k_is)
    (case k17 => k_is)
    (case a18 => k_is)
    (case l18 => k_is)
    (case c18 => k_is)
    (case k18 => k_is)
    (case a19 => k_is)
    (case l19 => k_is)
    (case c19 => k_is)
    (case k19 => k_is)
    (case a20 => k_is)
    (case l20 => k_is)
    (case c20 => k_is)
    (case k20 => k_is)
    (case a21 => k_is)
    (case l21 => k_is)
    (case c21 => k_is)
    (case k21 => k_is)
    (case a22 => k_is)
    (case l22 => k_is)
    (case c22 => k_is)
    (case k22 => k_is)
    (case z0 => k_is)
    (case z1 => k_is)
    (case z2 => k_is)
    (case z3 => k_is)
    (case z4 => k_is)
    (case z5 => k_is)
    (case z6 => k_is)
    (case z7 => k_is)
    (case z8 => k_is)
    (case z9 => k_is)
    (case z10 => k_is)
    (case z11 => k_is)
    (case m0 => k_is)
    (case m1 => k_is)
