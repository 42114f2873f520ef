import PyProof.Rows.All
import Wide.All
import OpenK.AllK
import Wide.FinOn
import HandS.ForMost
import HandS.Rev
import HandS.TupAny
import HandS.Wide
import PyProof.ReprRoads
import KE.SortData
import HandS.Conv
import HandS.IsInst
import HandS.Style
import KE.GoesMore
import HandS.DictComp
import HandS.TupLe
import HandS.TryOnly
import PyProof.SeqIndex
import HandS.Zip
import HandS.TupSets
import KE.KDictDisplayH
import KE.KDictSum
import HandS.ExcOwn
import HandS.ExcInit
import HandS.ExcField
import HandS.WordsExc
import KE.KExcIs
import KE.KTryMore
import HandS.ExcIs
import HandS.Star
import HandS.CallLocal
import HandS.CallSlots
import HandS.Defaults
import HandS.NamedTupGet
import KE.KCallOwn
import PyProof.WalksMore
import PyProof.CollectIter
import HandS.Head0
import HandS.Head1
import HandS.Head2
import HandS.HeadHook1
import HandS.HeadHook2
import HandS.HeadHook3
import HandS.WrittenGet
import HandS.Small
import PyProof.ExcBaseAll.ValueError
import HandS.SetFor
import PyProof.EqKinds
import PyProof.NeKinds
import HandS.FStr
import HandS.Text
import KE.DataMinMax
import HandS.Strs
import PySem.Challenge.RW_treelamps_k48_boards_created
set_option Elab.async false
set_option linter.all false
set_option maxRecDepth 100000
set_option maxHeartbeats 4000000
namespace TL
open PySem PySem.Spec PyProof.Rows L2

/-! ### defs that show data: they run where no text is being made -/
/-- as the layer's promise of a def, for callers outside of any showing -/
structure FnG (P : Program) (w : World) (K : PySem.W.Frag) (mg : Str → Option Value)
    (base : Heap) (k : Nat) (f : Addr) (fd : FuncData) (ps : List Str) (sp : Sp) : Prop where
  wide : ∀ vs H Q E, sp vs H Q E → vs.length = ps.length
  goes : ∀ (A : Around) (out : List Env) (s : Shared) (H : Hp) (args : Args) (us : List Value)
    (vs : List V) (Q : VK) (E : XK), Room k A → A.guards = some [] →
    Env0 P w K mg base A out s H → BindsTo s fd args (ps.zip us) → Vals vs us → sp vs H Q E →
    codeAny (model P w) A (.call (.ref f) args) (CR CX0 out P w H s Q E) s
section
variable {P : Program} {w : World} {K : PySem.W.Frag} {mg : Str → Option Value} {base : Heap}
theorem FnG.of {k : Nat} {f : Addr} {fd : FuncData} {ps : List Str} {sp : Sp}
    (F : FnOk P w K mg base CX0 k f fd ps sp) : FnG P w K mg base k f fd ps sp :=
  ⟨F.len, fun A out s H args us vs Q E hr _ => F.run A out s H args us vs Q E hr⟩

theorem okG {x qual : Str} {st : Stmt} {f : Addr} {fd : FuncData} {N ps : List Str} {k : Nat} {sp : Sp}
    (F : Fun K x qual st f fd) (S : FnScope N ps (defScope st))
    (len : ∀ vs H Q E, sp vs H Q E → vs.length = ps.length)
    (hb : ∀ (cdv : Value) (A : Around) (out : List Env) (s : Shared) (H : Hp) (vs : List V) (Q : VK) (E : XK),
      Room k (A.deeper (envOfC qual (defScope st) s.heap.objs.size f cdv)) → A.guards = some [] → sp vs H Q E →
      ∃ t, PSs (cxOf CX0 P w K mg base N qual (defScope st) f cdv A out s H E).nox (defBody st) t ∧
        t { nx := fun _ H' => Q .non H', rt := Q } (start N vs) H) :
    FnG P w K mg base (k + 1) f fd ps sp := by
  obtain ⟨oc, od, kV, doc, pm, an, cdv, ct, osl, rfl, lk, hcd⟩ := F.ex
  refine ⟨len, fun A out s H args us vs Q E hr gd e0 bnd r hsp => ?_⟩
  have stays : ∀ b o, base.get? b = some o → s.heap.get? b = some o := fun b o e => (e0.bs b o e).1
  have KX : K.In s.heap := e0.mod.kin.keeps stays
  have nl : s.heap.NoLimit := e0.mod.nolimit.keeps stays
  have kinds : ∀ y ∈ ps.zip us, (defScope st).names.lookup y.1 = some .local ∨
      ((defScope st).names.lookup y.1 = some .cell ∧
        ((cellsFrom (s.heap.objs.size + 1) (defScope st).names []).lookup y.1).isSome = true) := by
    rintro ⟨n, v⟩ hy
    exact (S.par n (List.of_mem_zip hy).1).imp id fun q => ⟨q, PySem.W.cellsFrom_some _ _ _ (.inl q)⟩
  refine codeAny_call_function hr.depth (KX _ _ lk) rfl S.co S.gen rfl
    (PySem.W.codeRec_of KX hcd) (bnd _ _ _ _ ?_)
  refine wpAny_newFunctionEnv_cells S.kind kinds fun env he s1 ic => ?_
  subst he
  refine ⟨nl.keeps ic.toInCall.keep, codeAny_func ?_⟩
  obtain ⟨t, ht, hq⟩ := hb cdv A out s H vs Q E (hr.deeper _) gd hsp
  have J := inv_start (CX := CX0) (E := E) S hr.hd e0 (len _ _ _ _ hsp) r ic
  refine wpAny_mono (ht.nox.run [] s1 (start N vs) H _ J hq) (fun fl s' hs => ?_) fun e s' hs => hs
  match fl, hs with
  | .ret u, ⟨v, σ', H', J', rv, q⟩ => exact ⟨v, H', J'.os, J'.bare, J'.base, J'.hok, rv, q⟩
  | .next, ⟨σ', H', J', q⟩ => exact ⟨V.non, H', J'.os, J'.bare, J'.base, J'.hok, rfl, q⟩
  | .brk, ⟨_, _, _, q⟩ => exact False.elim q
  | .cont, ⟨_, _, _, q⟩ => exact False.elim q
end

section
variable {X : Cx} {k : Nat} {f : Addr} {fd : FuncData} {ps : List Str} {sp : Sp} {x : Str} {p pos : Pos}
  {e : Expr} {es : List Expr} {t : TA}
theorem pe_callG (F : FnG X.prog X.w X.K X.mg X.base k f fd ps sp) (hr : Room k X.A) (gd : X.A.guards = some [])
    (hg : Gl X x) (hm : X.mg x = some (.ref f)) (hk : PySem.W.keepIn X.K (.ref f) = true) (hb : Binds X.K fd ps [])
    (ha : PA X (e :: es) t) (hdb : (x == ("__debug__" : Str)) = false := by decide)
    (he : starEach (e :: es) X.env = (false, eval e X.env) :: starEach es X.env := by rfl)
    (hpl : (backTo pos (starEach es X.env)).any (·.1) = false := by rfl) :
    PE X (.Call (.Name x p) (e :: es) [] pos) (tCall sp [] E0 t) := by
  refine ⟨fun pins s σ H Q I h => wpAny_Call_Name_kw (ld_glob I hg hm ?_ hdb)⟩
  refine PySem.W.callWith_K (h₀ := X.base) I.ok.mod.kin hk
    (thn (ha.run pos pins s σ H _ I h) fun us s1 ⟨vs, H1, I1, r, q⟩ => ⟨I1.kIn, ?_⟩) he hpl
  have q1 : sp (vs ++ []) H1 Q E0 := q
  have q2 : sp vs H1 Q E0 := by rw [List.append_nil] at q1; exact q1
  have bd := hb s1 us I1.kIn (by rw [List.append_nil, ← r.length]; exact F.wide _ _ _ _ q2)
  rw [List.append_nil] at bd
  refine wpAny_call (codeAny_mono (F.goes X.A X.stack s1 H1 ⟨us, []⟩ us vs Q E0 hr gd I1.env0 bd r q2)
    fun res s' hq => ?_)
  match res, hq with
  | .ok (.ret u), hq => exact I1.after hq
  | .ok .next, hq => exact False.elim hq
  | .ok .brk, hq => exact False.elim hq
  | .ok .cont, hq => exact False.elim hq
  | .error e, hq => exact False.elim hq
end

/-! ### the law's own call -/
theorem law_callG {P : Program} {w : World} {K : PySem.W.Frag} {mg mb : Str → Option Value} {k : Nat}
    {fa a : Addr} {fd : FuncData} {x : Str} {sp : Sp} {s : Shared} {vs : List Value} {ns : List Int}
    (KX : K.In s.heap) (hns : s.heap.Ns mainGlobals mg) (hb : s.heap.Ns builtinsNs mb)
    (hbb : ∀ x : Str, x ≠ "__name__" → mb x = bootBuiltins x) (nl : s.heap.NoLimit) (hg : s.gens = #[])
    (ha : s.heap.get? a = some { cls := .type "list", data := .seq vs.toArray }) (hi : IntsAre vs ns)
    (hl : ns.length ≤ sizeLine) (hr : Room k callerA)
    (F : ∀ base : Heap, K.In base → base.Ns mainGlobals mg → FnG P w K mg base k fa fd [x] sp)
    (bnd : ∀ (s : Shared) (u : Value), BindsTo s fd ⟨[u], []⟩ [(x, u)])
    (hsp : ∀ H : Hp, Only H → SqL K H a (ns.map V.int) → sp [.ref a] H (fun v _ => v = .bl true) E0) :
    codeAny (model P w) callerA (.call (.ref fa) ⟨[.ref a], []⟩)
      (fun r s' => r = .ok (.ret (.bool true)) ∧ OldK s.heap s'.heap ∧ s'.os = s.os ∧ AllBare s'.gens) s := by
  have rv := vals_ints hi
  have core : ∀ H : Hp, Only H → SqL K H a (ns.map V.int) → HOk P w H s.heap →
      (∀ b u, H b = some u → b = a) → ((∃ u, H a = some u) → K.lookup a = none) →
      codeAny (model P w) callerA (.call (.ref fa) ⟨[.ref a], []⟩)
        (fun r s' => r = .ok (.ret (.bool true)) ∧ OldK s.heap s'.heap ∧ s'.os = s.os ∧ AllBare s'.gens) s := by
    intro H hO hS hok hA hK
    have dictFree : ∀ {b : Addr} {o : Obj} {es : Array DictEntry} {ep : Nat},
        s.heap.get? b = some o → o.data = .dict es ep → H b = none := by
      intro b o es ep e d
      cases q : H b with
      | none => rfl
      | some u =>
        rw [hA b u q, ha] at e
        cases e
        exact nomatch d
    have nsK : ∀ {b : Addr} {m : Str → Option Value}, s.heap.Ns b m → (hidT s.heap H).Ns b m := by
      rintro b m ⟨o, es, ep, e, d, r⟩
      exact ⟨o, es, ep, hidT_get e (dictFree e d), d, r⟩
    have hKb : K.In (hidT s.heap H) := by
      intro b o e
      refine hidT_get (KX b o e) ?_
      cases q : H b with
      | none => rfl
      | some u =>
        have eb := hA b u q
        rw [eb] at e q
        rw [hK ⟨u, q⟩] at e
        cases e
    have hM : Mod K mg (hidT s.heap H) :=
      ⟨hKb, nsK hns, ⟨mb, nsK hb, hbb⟩, let ⟨mc, h1, h2⟩ := nl; ⟨mc, nsK h1, h2⟩⟩
    have e0 : Env0 P w K mg (hidT s.heap H) callerA [] s H :=
      ⟨rfl, hM, fun b o e => of_hidT e, Nat.le_of_eq (hidT_size _ _), trivial, fun b z => (nomatch z), hok, .of_eq hg⟩
    refine codeAny_mono ((F _ hKb (nsK hns)).goes callerA [] s H ⟨[.ref a], []⟩ [.ref a] [.ref a] _ _ hr rfl
      e0 (bnd s (.ref a)) (.cons rfl .nil) (hsp H hO hS)) fun r s' h => ?_
    match r, h with
    | .error e, h => exact False.elim h
    | .ok .next, h => exact False.elim h
    | .ok .brk, h => exact False.elim h
    | .ok .cont, h => exact False.elim h
    | .ok (.ret u), h =>
      obtain ⟨v, H', os, bare, un, hok', r', q⟩ := h
      obtain rfl : v = .bl true := q
      obtain rfl : u = Value.bool true := r'
      refine ⟨rfl, OldK.of_keep fun b o e => ?_, os, bare⟩
      rcases hO b with z | ⟨ob, xs, z⟩
      · exact un.keep b o e z (fun m => (nomatch m)) (fun m => (nomatch m))
      · have z2 := un.frzs b ob _ z
        have e1 := (hok b _ z).1
        have e2 := (hok' b _ z2).1
        rw [e] at e1
        cases e1
        exact e2
  cases hk : K.lookup a with
  | some o =>
    have e := KX a o hk
    rw [ha] at e
    cases e
    refine core (fun _ => none) (fun _ => .inl rfl) (.inr ⟨_, vs.toArray, _, hk, rfl, rfl, rfl, ?_, by simpa using rv⟩)
      (fun b u z => (nomatch z)) (fun b u z => (nomatch z)) fun ⟨u, z⟩ => (nomatch z)
    rw [List.size_toArray, hi.length]
    exact hl
  | none =>
    let ob : Obj := { cls := .type "list", data := .seq vs.toArray }
    let G : Hp := fun b => if b = a then some (.frz ob (.lst (ns.map V.int))) else none
    have at_a : G a = some (.frz ob (.lst (ns.map V.int))) := if_pos rfl
    have off : ∀ b, b ≠ a → G b = none := fun b z => if_neg z
    refine core G (fun b => ?_) (.inl (.inr ⟨ob, at_a⟩)) (fun b u z => ?_) (fun b u z => ?_) fun _ => hk
    · by_cases hb : b = a
      · exact .inr ⟨ob, _, by rw [hb]; exact at_a⟩
      · exact .inl (off b hb)
    · by_cases hb : b = a
      · rw [hb, at_a] at z
        cases z
        rw [hb]
        exact ⟨ha, by rw [List.length_map]; exact hl, vs, _, rv, ha⟩
      · rw [off b hb] at z
        cases z
    · by_cases hb : b = a
      · exact hb
      · rw [off b hb] at z
        cases z

theorem walk_ofG {l : PySem.W.OpenLaw} {n k : Nat} {q : Program} {loose : List Str}
    {XP : (Str → Option Value) → Heap → Prop} {YP : World → Heap → Prop} {d : DefRec}
    {K : Params → PySem.W.Frag} {sp : World → Sp} {x : Str}
    (hn : l.most = some n) (hn2 : n ≤ sizeLine) (hdf : d.params.defaults = []) (hr : Room k callerA)
    (hY : ∀ (w : World) (h : Heap), YP w h → (K w.params).In h)
    (F : ∀ (w : World) (mg : Str → Option Value) (fa : Addr) (h : Heap), (K w.params).In h →
      h.Ns mainGlobals mg → mg d.name = some (.ref fa) →
      ∃ fd : FuncData, (∀ (s : Shared) (u : Value), BindsTo s fd ⟨[u], []⟩ [(x, u)]) ∧
        ∀ base : Heap, (K w.params).In base → base.Ns mainGlobals mg →
          FnG l.prog w (K w.params) mg base k fa fd [x] (sp w))
    (hsp : ∀ (w : World) (H : Hp) (a : Addr) (ns : List Int), ns.length ≤ n → Only H →
      SqL (K w.params) H a (ns.map V.int) → sp w [.ref a] H (fun v _ => v = .bl true) E0) :
    PySem.W.WalkO q loose XP YP l.row.toRowW d [] (fun f vs => PySem.call f vs) := by
  refine Att.attach_call hn hdf fun w s₀ s₁ mg mb fa o pm cd doc a vs ns G Y ho hd hcd hmg hobj hints hlen hg => ?_
  obtain ⟨fd, hb, hF⟩ := F w mg fa _ (hY w _ Y) G.T.g hmg
  exact law_callG (hY w _ Y) G.T.g G.T.b G.T.builtins G.T.nolimit hg hobj hints
    (Nat.le_trans hlen hn2) hr hF hb fun H hO hS => hsp w H a ns hlen hO hS
end TL
namespace TL
open PySem PySem.Spec PyProof.Rows L2

/-! ### repr of data -/
structure Shows (d : PyData) : Prop where
  can : d.showable = true
  nod : d.hasDict = false
  deep : d.depth ≤ 60
  fits : d.shown.length ≤ sizeLine
def rRepr (K : PySem.W.Frag) : List V → Hp → VK → Prop := fun xs H Q =>
  ∃ (y : V) (d : PyData), xs = [y] ∧ Dp K H y d ∧ Shows d ∧ Q (.str d.shown) H
section
variable {X : Cx}
theorem call_reprD (gd : X.A.guards = some []) (hu : X.A.units + 64 < cLine) :
    CallR X (.builtin "repr") (rRepr X.K) := by
  intro pins s σ H xs us Q I r h
  obtain ⟨y, d, rfl, hd, sh, q⟩ := h
  cases r with
  | cons r1 r2 =>
    rename_i u us'
    cases r2
    obtain ⟨as, rd⟩ := Dp.reads I d y u hd r1
    have big : ∀ a, u = Value.ref a → wpAny (model X.prog X.w) X.A (call (.builtin "repr") [u]) (EP X pins σ Q) X.xe s := by
      intro a e
      subst e
      refine repr_of_reads' rd sh.can (fun z => ?_) gd (by have := sh.deep; omega) (fun _ _ e => e) (fun h' u tk hk => ?_) sh.fits
      · rw [sh.nod] at z
        cases z
      · exact ⟨.str d.shown, H, I.kept (t' := tk) hk, ⟨u, rfl⟩, q⟩
    cases hd with
    | non =>
      obtain rfl : u = Value.none := r1
      rw [PyData.shown_none] at q
      exact PySem.P.repr_of_none ⟨.str _, H, I.tok _, ⟨_, rfl⟩, q⟩
    | bl b =>
      obtain rfl : u = Value.bool b := r1
      rw [PyData.shown_bool] at q
      exact PySem.P.repr_of_bool ⟨.str _, H, I.tok _, ⟨_, rfl⟩, q⟩
    | int i =>
      obtain ⟨t, rfl⟩ := r1
      rw [PyData.shown_int] at q
      exact PySem.P.repr_of_int (by have := sh.can; simpa [PyData.showable] using this) ⟨.str _, H, I.tok _, ⟨_, rfl⟩, q⟩
    | str x =>
      obtain ⟨t, rfl⟩ := r1
      have z := sh.fits
      rw [PyData.shown_str] at q z
      exact PySem.P.repr_of_str ⟨.str _, H, I.tok _, ⟨_, rfl⟩, q⟩ z
    | lst hs ha => exact big _ r1
    | tup hs ha => exact big _ r1
end

/-! ### t[::-1], t a tuple -/
section
variable {prog : Program} {w : World} {A : Around} {E : Value → Shared → Prop} {s : Shared}
theorem fm_congr {α β : Type} (f g : α → Option β) : ∀ l : List α, (∀ x ∈ l, f x = g x) → l.filterMap f = l.filterMap g
  | [], _ => rfl
  | a :: r, h => by
    rw [List.filterMap_cons, List.filterMap_cons, h a List.mem_cons_self, fm_congr f g r fun x hx => h x (List.mem_cons_of_mem _ hx)]
theorem places_back (n : Nat) : Builtin.Slice.slicePlaces ((n : Int) - 1) (-1) (-1) = n := by
  unfold Builtin.Slice.slicePlaces
  rw [if_neg (by decide)]
  by_cases h : (n : Int) - 1 > -1
  · rw [if_pos h]
    have e : ((n : Int) - 1 - -1 - 1) / (- -1) + 1 = (n : Int) := by
      rw [show (- -1 : Int) = 1 by decide, Int.ediv_one]
      omega
    rw [e]
    exact Int.toNat_natCast n
  · rw [if_neg h]
    show (0 : Nat) = n
    omega
theorem pick_back (xs : Array Value) :
    ((List.range xs.size).filterMap fun (m : Nat) => xs[((xs.size : Int) - 1 + (m : Int) * (-1)).toNat]?).toArray = xs.toList.reverse.toArray := by
  have e : (List.range xs.size).filterMap (fun (m : Nat) => xs[((xs.size : Int) - 1 + (m : Int) * (-1)).toNat]?)
      = ((List.range xs.size).map fun k => xs.size - 1 - k).filterMap (xs[·]?) := by
    rw [List.filterMap_map]
    refine fm_congr _ _ _ fun m hm => ?_
    have := List.mem_range.mp hm
    have q : ((xs.size : Int) - 1 + (m : Int) * (-1)).toNat = xs.size - 1 - m := by omega
    rw [q]
    rfl
  rw [e, PySem.W.krv_range, List.filterMap_reverse, PySem.W.krv_all]
theorem back_applied {sl : Addr} {vk : Value} {n : Nat} {Q : Int × Int × Nat → Shared → Prop}
    (hs : s.heap.IsSliceOf sl .none .none vk) (pk : IsPart vk (some (-1)))
    (h : Q ((n : Int) - 1, -1, n) s) : wpAny (model prog w) A (Builtin.Slice.sliceApplied (.ref sl) (pure (n : Int))) Q E s := by
  obtain ⟨os, hos, hcs, hds⟩ := id hs
  unfold Builtin.Slice.sliceApplied Builtin.Slice.sliceFields
  refine wpAny_bind (wpAny_bind (wpAny_field hos hds (x := .none) rfl (wpAny_bind (wpAny_field hos hds (x := .none) rfl
    (wpAny_bind (wpAny_field hos hds (x := vk) rfl (wpAny_pure ?_)))))))
  refine wpAny_bind (HT.slicePart_ pk ?_)
  show wpAny _ _ (if ((-1 : Int) == 0) = true then _ else _) _ _ s
  rw [if_neg (by decide)]
  refine wpAny_bind (slicePart_none (wpAny_bind (slicePart_none (wpAny_bind (wpAny_pure ?_)))))
  show wpAny _ _ (pure ((n : Int) - 1, (-1 : Int), Builtin.Slice.slicePlaces ((n : Int) - 1) (-1) (-1))) _ _ s
  rw [places_back]
  exact wpAny_pure h
theorem getItem_back {t sl : Addr} {items : Array Value} {vk : Value} {Q : Value → Shared → Prop}
    (ht : IsTup s.heap t items) (hs : s.heap.IsSliceOf sl .none .none vk) (pk : IsPart vk (some (-1)))
    (h : Q (.ref s.heap.objs.size) { s with heap := s.heap.push { cls := .type "tuple", data := .seq items.toList.reverse.toArray } })
    (hsz : items.size ≤ sizeLine) : wpAny (model prog w) A (getItem (.ref t) (.ref sl)) Q E s := by
  have hz : sizeOk (.seq items.toList.reverse.toArray) := by
    show items.toList.reverse.toArray.size ≤ sizeLine
    rw [List.size_toArray, List.length_reverse, Array.length_toList]
    exact hsz
  obtain ⟨os, hos, hcs, hds⟩ := id hs
  have hTs : s.TypeIs (.ref sl) "slice" := ⟨os, hos, hcs⟩
  unfold getItem
  try with_reducible refine wpAny_holding ?_
  first | refine wpAny_bind (wpAny_pure ?_) | skip
  refine wpAny_bind (wpAny_sequenceKey ht.typeIs (by decide) ?_)
  refine wpAny_bind (wpAny_callSpecial?_slot (name := Str.ofString "__getitem__") ht.typeIs
    PyProof.Rows.slot_tuple_getitem (wpAny_call_entry PyProof.Rows.slot_tuple_getitem ht.typeIs
      entry_tuple_getitem ?_ (args_tuple_getitem _ _)))
  show wpAny _ _ (Builtin.Tuple.tupleItemsOf (.ref t) >>= _) _ _ s
  refine wpAny_bind (tupleItemsOf_ ht (wpAny_bind (wpAny_typeOf hTs ?_)))
  rw [if_pos (by decide)]
  refine wpAny_bind (back_applied hs pk ?_)
  show wpAny _ _ (if (((items.size : Int) - 1 == 0) && ((-1 : Int) == 1) && (items.size == items.size)) = true then _ else _) _ _ s
  rw [if_neg (by rw [show ((-1 : Int) == 1) = false by decide, Bool.and_false, Bool.false_and]; decide), pick_back]
  first
    | exact wpAny_bind (m := Builtin.Tuple.tupleExact _) (wpAny_newObj_type (wpAny_pure ⟨_, rfl, wpAny_pure h⟩) hz)
    | exact wpAny_bind (m := Builtin.Tuple.tupleExact _) (wpAny_newObj_type (wpAny_bind (wpAny_pure (wpAny_pure ⟨_, rfl, wpAny_pure h⟩))) hz)
    | exact wpAny_bind (wpAny_bind (m := Builtin.Tuple.tupleExact _) (wpAny_newObj_type (wpAny_pure (wpAny_pure ⟨_, rfl, wpAny_pure h⟩)) hz))
    | exact wpAny_bind (wpAny_bind (m := Builtin.Tuple.tupleExact _) (wpAny_newObj_type (wpAny_pure ⟨_, rfl, wpAny_pure h⟩) hz))
end
section
variable {X : Cx}
def tRevT (K : PySem.W.Frag) (te : TE) : TE := fun σ H Q => te σ H fun x H1 =>
  ∃ a xs, x = .ref a ∧ SqT K H1 a xs ∧ ∀ p, H1 p = none → Q (.ref p) (upd H1 p (.tup xs.reverse))
theorem pe_revT {e : Expr} {te : TE} {k : Nat} {p1 p2 p3 pos : Pos} (he : PE X e te) :
    PE X (.Subscript e (.Slice none none (some (.UnaryOp .USub (.Constant (.int 1) k p1) p2)) p3) pos) (tRevT X.K te) := by
  refine ⟨fun pins s σ H Q I h => Subscript_ (thn (he.run pins s σ H _ I h) fun v s1 ⟨x, H1, I1, r1, q1⟩ => ?_)⟩
  obtain ⟨a, xs, ex, hx, q⟩ := q1
  subst ex
  cases r1
  have hst : PO X (some (.UnaryOp .USub (.Constant (.int 1) k p1) p2))
    (tPart (tUn (rU fun i => .int (-i)) (tC (.int 1)))) := po_some (pe_un un_neg pe_int)
  refine wpAny_Slice ?_
  rw [evalPart_none]
  refine wpAny_pure ?_
  refine wpAny_pure ?_
  refine thn (hst.run pins s1 σ H1 (fun o H4 => o = some (-1) ∧ H4 = H1) I1 ⟨1, rfl, -1, rfl, rfl, rfl⟩)
    fun vk s4 ⟨o, H4, I4, pk, eo, e4⟩ => ?_
  subst eo e4
  have I5 : Inv X pins σ H4 { s4 with heap := s4.heap.push { cls := .type "slice", data := .fields #[.none, .none, vk] } } :=
    I4.kept (t' := s4.toks) fun b ob q => Heap.get?_push_of_some _ q
  obtain ⟨its, r, ht, hz⟩ := I5.tuple hx
  have hlen := r.length
  refine tail_any (ops := [.ref a, .ref s4.heap.objs.size]) ht.typeIs PyProof.Rows.slot_tuple_getitem.lookup ?_ (by with_unfolding_all rfl)
  refine getItem_back ht (Heap.IsSliceOf.new _ .none .none vk) pk ?_ (by rw [List.size_toArray]; omega)
  refine ⟨.ref _, _, I5.laid (t' := s4.toks) (o := .tup xs.reverse) (fun b ob q => Heap.get?_push_of_some _ q) (Nat.le_refl _) ?_,
    rfl, q _ (I5.hok.fresh (Nat.le_refl _))⟩
  exact ⟨by rw [List.length_reverse]; exact hz, _, r.reverse, IsTup.new _ _⟩
end
/-! ### the rules with the written part as a letter of its own (within comprehensions) -/
section
variable {X : Cx}
theorem ixTK (K : PySem.W.Frag) (h : X.K = K := by rfl) : IxR X (rIxT K) := h ▸ ix_tup
theorem ixLK (K : PySem.W.Frag) (h : X.K = K := by rfl) : IxR X (rIxL K) := h ▸ ix_list
def rLenK (K : PySem.W.Frag) : List V → Hp → VK → Prop := fun xs H Q => ∃ p ys, xs = [.ref p] ∧ (SqL K H p ys ∨ SqT K H p ys) ∧ Q (.int ys.length) H
theorem lenK (K : PySem.W.Frag) (h : X.K = K := by rfl) : CallR X (.builtin "len") (rLenK K) := h ▸ call_len_seq
def rTupK (K : PySem.W.Frag) : List V → Hp → VK → Prop := fun xs H Q => ∃ p ys, xs = [.ref p] ∧
  ((SqL K H p ys ∧ ∀ l, H l = none → Q (.ref l) (upd H l (.tup ys))) ∨ (SqT K H p ys ∧ Q (.ref p) H))
theorem tupleK (K : PySem.W.Frag) (h : X.K = K := by rfl) : CallR X (.type "tuple") (rTupK K) := h ▸ call_tuple_of
theorem catAK (K : PySem.W.Frag) (h : X.K = K := by rfl) : OpR X (binaryOp .Add) (rCatA K) := h ▸ op_catA
theorem revTK (K : PySem.W.Frag) {e : Expr} {te : TE} {k : Nat} {p1 p2 p3 pos : Pos} (he : PE X e te) (h : X.K = K := by rfl) :
    PE X (.Subscript e (.Slice none none (some (.UnaryOp .USub (.Constant (.int 1) k p1) p2)) p3) pos) (tRevT K te) := h ▸ pe_revT he
theorem reprK (K : PySem.W.Frag) (gd : X.A.guards = some []) (hu : X.A.units + 64 < cLine) (h : X.K = K := by rfl) :
    CallR X (.builtin "repr") (rRepr K) := h ▸ call_reprD gd hu
end
end TL
namespace TL
open PySem PySem.Spec PyProof.Rows L2

/-! ### heaps -/
theorem same_upd {H : Hp} {p : Addr} {o : HO} (h : H p = none) : Same H (upd H p o) := fun b x e => by
  rw [upd_ne (ne_of_none e h)]
  exact e
theorem same_at {H : Hp} {p : Addr} {o : HO} (_ : H p = none) : upd H p o p = some o := upd_same
theorem Same.tup {K : PySem.W.Frag} {H H' : Hp} {a : Addr} {xs : List V} (e : Same H H') (h : SqT K H a xs) : SqT K H' a xs := by
  rcases h with (h | ⟨o, h⟩) | h
  · exact .inl (.inl (e _ _ h))
  · exact .inl (.inr ⟨o, e _ _ h⟩)
  · exact .inr h
/-- every tuple stays -/
def KT (K : PySem.W.Frag) (H H' : Hp) : Prop := ∀ a xs, SqT K H a xs → SqT K H' a xs
theorem KT.refl {K : PySem.W.Frag} {H : Hp} : KT K H H := fun _ _ h => h
theorem KT.trans {K : PySem.W.Frag} {H H1 H2 : Hp} (a : KT K H H1) (b : KT K H1 H2) : KT K H H2 := fun c o h => b c o (a c o h)
theorem Same.kt {K : PySem.W.Frag} {H H' : Hp} (e : Same H H') : KT K H H' := fun _ _ h => Same.tup e h
/-- all but what stands at d and l is as it was -/
def Fm (d l : Addr) (H H' : Hp) : Prop := ∀ b o, b ≠ d → b ≠ l → H b = some o → H' b = some o
theorem Fm.refl {d l : Addr} {H : Hp} : Fm d l H H := fun _ _ _ _ h => h
theorem Fm.trans {d l : Addr} {H H1 H2 : Hp} (a : Fm d l H H1) (b : Fm d l H1 H2) : Fm d l H H2 :=
  fun c o h1 h2 h => b c o h1 h2 (a c o h1 h2 h)
theorem Same.fm {d l : Addr} {H H' : Hp} (e : Same H H') : Fm d l H H' := fun b o _ _ h => e b o h

/-! ### the deck: a list of cells and a count -/
def Deck (H : Hp) (d l : Addr) (n : Nat) : Prop := ∃ (c : Nat) (ns : List Int), c ≤ n ∧
  H d = some (.lst [.ref l, .int (c : Int)]) ∧ H l = some (.lst (ns.map V.int)) ∧ (∀ z ∈ ns, 0 ≤ z) ∧ ns.length ≤ 63
theorem Deck.ne {H : Hp} {d l : Addr} {n : Nat} (h : Deck H d l n) : d ≠ l := by
  obtain ⟨c, ns, _, h1, h2, _⟩ := h
  intro e
  rw [e, h2] at h1
  cases ns with
  | nil => cases h1
  | cons z r => cases h1
theorem Deck.same {H H' : Hp} {d l : Addr} {n : Nat} (h : Deck H d l n) (e : Same H H') : Deck H' d l n := by
  obtain ⟨c, ns, hc, h1, h2, h3⟩ := h
  exact ⟨c, ns, hc, e _ _ h1, e _ _ h2, h3⟩
theorem Deck.le {H : Hp} {d l : Addr} {n m : Nat} (h : Deck H d l n) (e : n ≤ m) : Deck H d l m := by
  obtain ⟨c, ns, hc, h3⟩ := h
  exact ⟨c, ns, Nat.le_trans hc e, h3⟩
theorem Fm.kt {K : PySem.W.Frag} {H H' : Hp} {d l : Addr} {n : Nat} (e : Fm d l H H') (h : Deck H d l n) : KT K H H' := by
  obtain ⟨c, ns, hc, h1, h2, h3⟩ := h
  intro a xs q
  rcases q with (q | ⟨o, q⟩) | q
  · refine .inl (.inl (e _ _ (fun z => ?_) (fun z => ?_) q))
    · rw [z, h1] at q; cases q
    · rw [z, h2] at q; cases q
  · refine .inl (.inr ⟨o, e _ _ (fun z => ?_) (fun z => ?_) q⟩)
    · rw [z, h1] at q; cases q
    · rw [z, h2] at q; cases q
  · exact .inr q
/-- a tracked thing that is neither -/
theorem Deck.off {H : Hp} {d l a : Addr} {n : Nat} (h : Deck H d l n) (ha : H a = none) : a ≠ d ∧ a ≠ l := by
  obtain ⟨c, ns, hc, h1, h2, h3⟩ := h
  exact ⟨fun z => (by rw [z, h1] at ha; cases ha), fun z => (by rw [z, h2] at ha; cases ha)⟩

theorem Deck.put {H : Hp} {d l a : Addr} {n : Nat} {o : HO} (h : Deck H d l n) (h1 : a ≠ d) (h2 : a ≠ l) : Deck (upd H a o) d l n := by
  obtain ⟨c, ns, hc, e1, e2, h3⟩ := h
  exact ⟨c, ns, hc, by rw [upd_ne h1.symm]; exact e1, by rw [upd_ne h2.symm]; exact e2, h3⟩
theorem kt_lst {K : PySem.W.Frag} {H : Hp} {a : Addr} {xs ys : List V} (h : H a = some (.lst xs)) : KT K H (upd H a (.lst ys)) := by
  intro b zs q
  rcases q with (q | ⟨o, q⟩) | q
  · refine .inl (.inl ?_)
    rw [upd_ne fun z => by rw [z, h] at q; cases q]
    exact q
  · refine .inl (.inr ⟨o, ?_⟩)
    rw [upd_ne fun z => by rw [z, h] at q; cases q]
    exact q
  · exact .inr q

/-! ### data -/
mutual
def only : PyData → Bool
  | .none => true
  | .bool _ => true
  | .int _ => true
  | .str _ => true
  | .tuple xs => onlyAll xs
  | .list _ => false
  | .dict _ => false
def onlyAll : List PyData → Bool
  | [] => true
  | x :: xs => only x && onlyAll xs
end
section
variable {K : PySem.W.Frag} {H H' : Hp}
mutual
theorem Dp.kt (e : KT K H H') : ∀ {v : V} {d : PyData}, Dp K H v d → only d = true → Dp K H' v d
  | _, _, .non, _ => .non
  | _, _, .bl b, _ => .bl b
  | _, _, .int i, _ => .int i
  | _, _, .str x, _ => .str x
  | _, _, .lst h a, o => by
    unfold only at o
    cases o
  | _, _, .tup h a, o => .tup (e _ _ h) (DpAll.kt e a (by unfold only at o; exact o))
theorem DpAll.kt (e : KT K H H') : ∀ {v : List V} {d : List PyData}, DpAll K H v d → onlyAll d = true → DpAll K H' v d
  | _, _, .nil, _ => .nil
  | _, _, .cons h a, o => by
    unfold onlyAll at o
    rw [Bool.and_eq_true] at o
    exact .cons (Dp.kt e h o.1) (DpAll.kt e a o.2)
end
mutual
theorem Dp.same (e : Same H H') : ∀ {v : V} {d : PyData}, Dp K H v d → Dp K H' v d
  | _, _, .non => .non
  | _, _, .bl b => .bl b
  | _, _, .int i => .int i
  | _, _, .str x => .str x
  | _, _, .lst h a => .lst (e.seq h) (DpAll.same e a)
  | _, _, .tup h a => .tup (Same.tup e h) (DpAll.same e a)
theorem DpAll.same (e : Same H H') : ∀ {v : List V} {d : List PyData}, DpAll K H v d → DpAll K H' v d
  | _, _, .nil => .nil
  | _, _, .cons h a => .cons (Dp.same e h) (DpAll.same e a)
end
theorem DpAll.length : ∀ {v : List V} {d : List PyData}, DpAll K H v d → v.length = d.length
  | _, _, .nil => rfl
  | _, _, .cons _ a => congrArg (· + 1) (DpAll.length a)
theorem DpAll.append : ∀ {v u : List V} {d e : List PyData}, DpAll K H v d → DpAll K H u e → DpAll K H (v ++ u) (d ++ e)
  | _, _, _, _, .nil, b => b
  | _, _, _, _, .cons h a, b => .cons h (DpAll.append a b)
theorem DpAll.reverse : ∀ {v : List V} {d : List PyData}, DpAll K H v d → DpAll K H v.reverse d.reverse
  | _, _, .nil => .nil
  | _, _, .cons h a => by
    rw [List.reverse_cons, List.reverse_cons]
    exact DpAll.append (DpAll.reverse a) (.cons h .nil)
theorem DpAll.get : ∀ {v : List V} {d : List PyData} {i : Nat} {x : V}, DpAll K H v d → v[i]? = some x → ∃ z, d[i]? = some z ∧ Dp K H x z
  | _, _, _, _, .nil, q => by simp at q
  | _, _, 0, _, .cons h a, q => by
    rw [List.getElem?_cons_zero] at q
    cases q
    exact ⟨_, List.getElem?_cons_zero, h⟩
  | _, _, i + 1, _, .cons h a, q => by
    rw [List.getElem?_cons_succ] at q
    obtain ⟨z, e, r⟩ := DpAll.get a q
    exact ⟨z, by rw [List.getElem?_cons_succ]; exact e, r⟩
theorem Dp.tupI {v : V} {ds : List PyData} (h : Dp K H v (.tuple ds)) : ∃ a xs, v = .ref a ∧ SqT K H a xs ∧ DpAll K H xs ds := by
  cases h with
  | tup h a => exact ⟨_, _, rfl, h, a⟩
theorem Dp.lstI {v : V} {ds : List PyData} (h : Dp K H v (.list ds)) : ∃ a xs, v = .ref a ∧ SqL K H a xs ∧ DpAll K H xs ds := by
  cases h with
  | lst h a => exact ⟨_, _, rfl, h, a⟩
theorem Dp.intI {v : V} {i : Int} (h : Dp K H v (.int i)) : v = .int i := by
  cases h
  rfl
theorem DpAll.ints : ∀ {xs : List V} {ns : List Int}, DpAll K H xs (ns.map .int) → xs = ns.map V.int
  | [], [], _ => rfl
  | _ :: _, n :: ns, .cons h a => by
    rw [Dp.intI h, DpAll.ints a]
    rfl
theorem DpAll.of_ints : ∀ (ns : List Int), DpAll K H (ns.map V.int) (ns.map .int)
  | [] => .nil
  | n :: ns => .cons (.int n) (DpAll.of_ints ns)
end

/-! ### pairs of ints -/
def prD (p : Int × Int) : PyData := .tuple [.int p.1, .int p.2]
def prsD (ps : List (Int × Int)) : PyData := .tuple (ps.map prD)
theorem only_pr (p : Int × Int) : only (prD p) = true := by simp [prD, only, onlyAll]
theorem only_prs : ∀ ps : List (Int × Int), onlyAll (ps.map prD) = true
  | [] => by simp [onlyAll]
  | p :: ps => by simp [onlyAll, only_pr p, only_prs ps]
theorem only_prsD (ps : List (Int × Int)) : only (prsD ps) = true := by
  unfold prsD only
  exact only_prs ps
section
variable {K : PySem.W.Frag} {H : Hp}
theorem Dp.prI {v : V} {p : Int × Int} (h : Dp K H v (prD p)) : ∃ a, v = .ref a ∧ SqT K H a [.int p.1, .int p.2] := by
  obtain ⟨a, xs, e, h1, h2⟩ := Dp.tupI h
  have q : xs = [p.1, p.2].map V.int := DpAll.ints (ns := [p.1, p.2]) h2
  subst q
  exact ⟨a, e, h1⟩
theorem Dp.pr {a : Addr} {i j : Int} (h : SqT K H a [.int i, .int j]) : Dp K H (.ref a) (prD (i, j)) :=
  .tup h (.cons (.int i) (.cons (.int j) .nil))
end

/-! ### showing small data -/
def sm (i : Int) : Prop := -1000 ≤ i ∧ i ≤ 1000
theorem sm_log {i : Int} (h : sm i) : i.natAbs.log2 < 10 := by
  have h2 : i.natAbs < 2 ^ 10 := by
    unfold sm at h
    omega
  exact PySem.Flt.log2_lt_of (by decide) h2
structure Sm (d : PyData) (n k : Nat) : Prop where
  can : d.showable = true
  nod : d.hasDict = false
  deep : d.depth ≤ k
  short : d.leavesShort 13 = true
  light : d.weight ≤ n
theorem Sm.shows {d : PyData} {n k : Nat} (h : Sm d n k) (hn : n ≤ 1000000) (hk : k ≤ 60) : Shows d :=
  ⟨h.can, h.nod, Nat.le_trans h.deep hk, PyData.shown_fits (by decide) (by decide) h.short (Nat.le_trans h.light (by omega))⟩
theorem Sm.le {d : PyData} {n k m j : Nat} (h : Sm d n k) (hn : n ≤ m) (hk : k ≤ j) : Sm d m j :=
  ⟨h.can, h.nod, Nat.le_trans h.deep hk, h.short, Nat.le_trans h.light hn⟩
theorem Sm.none : Sm .none 0 0 := ⟨rfl, rfl, Nat.le_refl _, rfl, Nat.le_refl _⟩
theorem Sm.bool (b : Bool) : Sm (.bool b) 0 0 := ⟨rfl, rfl, Nat.le_refl _, rfl, Nat.le_refl _⟩
theorem Sm.int {i : Int} (h : sm i) : Sm (.int i) 10 0 := by
  have h1 := sm_log h
  refine ⟨?_, by simp [PyData.hasDict], by simp [PyData.depth], ?_, ?_⟩
  · simp only [PyData.showable]
    exact decide_eq_true (by omega)
  · simp only [PyData.leavesShort]
    exact decide_eq_true (PyData.shown_int_le (by unfold sm at h; omega))
  · simp only [PyData.weight]
    split <;> omega
structure SmA (ds : List PyData) (n k : Nat) : Prop where
  can : PyData.showableAll ds = true
  nod : PyData.hasDictAll ds = false
  deep : PyData.depthAll ds ≤ k
  short : PyData.leavesShortAll 13 ds = true
  light : PyData.weightAll ds ≤ ds.length * (n + 1)
theorem SmA.of {n k : Nat} : ∀ {ds : List PyData}, (∀ d ∈ ds, Sm d n k) → SmA ds n k
  | [], _ => ⟨rfl, rfl, by simp [PyData.depthAll], rfl, by simp [PyData.weightAll]⟩
  | d :: ds, h => by
    have h1 := h d List.mem_cons_self
    have h2 := SmA.of (n := n) (k := k) fun e he => h e (List.mem_cons_of_mem _ he)
    refine ⟨?_, ?_, ?_, ?_, ?_⟩
    · simp only [PyData.showableAll, h1.can, h2.can, Bool.and_self]
    · simp only [PyData.hasDictAll, h1.nod, h2.nod, Bool.or_self]
    · simp only [PyData.depthAll]
      exact Nat.max_le.mpr ⟨h1.deep, h2.deep⟩
    · simp only [PyData.leavesShortAll, h1.short, h2.short, Bool.and_self]
    · have a := h1.light
      have b := h2.light
      simp only [PyData.weightAll, List.length_cons, Nat.add_mul, Nat.one_mul]
      omega
theorem Sm.tup {n k m : Nat} {ds : List PyData} (h : ∀ d ∈ ds, Sm d n k) (hm : ds.length ≤ m) : Sm (.tuple ds) (m * (n + 1)) (k + 1) := by
  have q := SmA.of h
  have z : ds.length * (n + 1) ≤ m * (n + 1) := Nat.mul_le_mul_right _ hm
  refine ⟨?_, ?_, ?_, ?_, ?_⟩
  · simp only [PyData.showable]; exact q.can
  · simp only [PyData.hasDict]; exact q.nod
  · simp only [PyData.depth]; have := q.deep; omega
  · simp only [PyData.leavesShort]; exact q.short
  · simp only [PyData.weight]; exact Nat.le_trans q.light z
theorem Sm.lst {n k m : Nat} {ds : List PyData} (h : ∀ d ∈ ds, Sm d n k) (hm : ds.length ≤ m) : Sm (.list ds) (m * (n + 1)) (k + 1) := by
  have q := SmA.of h
  have z : ds.length * (n + 1) ≤ m * (n + 1) := Nat.mul_le_mul_right _ hm
  refine ⟨?_, ?_, ?_, ?_, ?_⟩
  · simp only [PyData.showable]; exact q.can
  · simp only [PyData.hasDict]; exact q.nod
  · simp only [PyData.depth]; have := q.deep; omega
  · simp only [PyData.leavesShort]; exact q.short
  · simp only [PyData.weight]; exact Nat.le_trans q.light z
def smP (p : Int × Int) : Prop := sm p.1 ∧ sm p.2
theorem Sm.pr {p : Int × Int} (h : smP p) : Sm (prD p) 22 1 :=
  Sm.tup (n := 10) (k := 0) (m := 2) (fun d hd => by
    rcases List.mem_cons.mp hd with rfl | hd
    · exact Sm.int h.1
    · rcases List.mem_cons.mp hd with rfl | hd
      · exact Sm.int h.2
      · exact nomatch hd) (Nat.le_refl _)
theorem Sm.prs {ps : List (Int × Int)} {m : Nat} (h : ∀ p ∈ ps, smP p) (hm : ps.length ≤ m) : Sm (prsD ps) (m * 23) 2 :=
  Sm.tup (n := 22) (k := 1) (m := m) (fun d hd => by
    obtain ⟨p, hp, rfl⟩ := List.mem_map.mp hd
    exact Sm.pr (h p hp)) (by rw [List.length_map]; exact hm)
end TL
namespace TL
open PySem PySem.Spec PyProof.Rows L2
theorem yesI {σ : L2.St} {H : Hp} {Q : Bool → Hp → Prop} (h : Q true H) : tYes σ H Q := h
/-- what a comprehension asks of its turns -/
def LcGoal (J : It) (g : TG) (tt : TT) (te : TE) (vs : List Nat) (σ : L2.St) (H1 : Hp) (D : Addr) (Qd : Hp → Prop) : Prop :=
  ∃ W : Nat → Nat → Hp → Prop, (∃ m, W 0 m (upd H1 D (.lst []))) ∧ ∀ i m H, W i m H →
    (J.stop i H ∧ Qd H) ∨
    (J.go i H ∧ ∃ Nx : Hp → Prop, (∀ H', Nx H' → ∃ m', m' < m ∧ W (i + 1) m' H') ∧
      ∀ x H', J.yld i H x H' → g x (wipe σ vs) H' fun σ2 H2 =>
        wipe σ2 vs = wipe σ vs ∧ tt σ2 H2 fun b H3 =>
          if b = true then
            te σ2 H3 fun y H4 => ∃ acc, H4 D = some (.lst acc) ∧ acc.length < sizeLine ∧ Nx (upd H4 D (.lst (acc ++ [y])))
          else Nx H3)
/-- by the number of turns -/
theorem lc_by {J : It} {g : TG} {tt : TT} {te : TE} {vs : List Nat} {σ : L2.St} {H1 : Hp} {D : Addr} {Qd : Hp → Prop} (n : Nat)
    (Pv : Nat → Hp → Prop) (h0 : Pv 0 (upd H1 D (.lst []))) (hgo : ∀ i H, i < n → Pv i H → J.go i H) (hst : ∀ H, Pv n H → J.stop n H)
    (hs : ∀ i x H H', i < n → Pv i H → J.yld i H x H' → g x (wipe σ vs) H' fun σ2 H2 =>
      wipe σ2 vs = wipe σ vs ∧ tt σ2 H2 fun b H3 =>
        if b = true then
          te σ2 H3 fun y H4 => ∃ acc, H4 D = some (.lst acc) ∧ acc.length < sizeLine ∧ Pv (i + 1) (upd H4 D (.lst (acc ++ [y])))
        else Pv (i + 1) H3)
    (hd : ∀ H, Pv n H → Qd H) : LcGoal J g tt te vs σ H1 D Qd := by
  refine ⟨fun i m H => m = n - i ∧ i ≤ n ∧ Pv i H, ⟨n, rfl, Nat.zero_le _, h0⟩, fun i m H hW => ?_⟩
  obtain ⟨e, hi, p⟩ := hW
  by_cases hlt : i < n
  · refine .inr ⟨hgo i H hlt p, Pv (i + 1), fun H' p' => ⟨n - (i + 1), by omega, rfl, hlt, p'⟩, fun x H' y => hs i x H H' hlt p y⟩
  · obtain rfl : i = n := by omega
    exact .inl ⟨hst H p, hd H p⟩
/-- over reversed(a tuple) -/
theorem lc_revT {K : PySem.W.Frag} {a : Addr} {xs : List V} {g : TG} {tt : TT} {te : TE} {vs : List Nat} {σ : L2.St} {H1 : Hp} {D : Addr} {Qd : Hp → Prop}
    (Pv : Nat → Hp → Prop) (h0 : Pv 0 (upd H1 D (.lst []))) (hl : ∀ i H, Pv i H → SqT K H a xs)
    (hs : ∀ i x H, i < xs.length → xs[xs.length - 1 - i]? = some x → Pv i H → g x (wipe σ vs) H fun σ2 H2 =>
      wipe σ2 vs = wipe σ vs ∧ tt σ2 H2 fun b H3 =>
        if b = true then
          te σ2 H3 fun y H4 => ∃ acc, H4 D = some (.lst acc) ∧ acc.length < sizeLine ∧ Pv (i + 1) (upd H4 D (.lst (acc ++ [y])))
        else Pv (i + 1) H3)
    (hd : ∀ H, Pv xs.length H → Qd H) : LcGoal (RT.ItvT K a xs.length) g tt te vs σ H1 D Qd := by
  refine lc_by xs.length Pv h0 (fun i H hi p => ?_) (fun H p => Nat.le_refl _) (fun i x H H' hi p y => ?_) hd
  · have hj : xs.length - 1 - i < xs.length := by omega
    exact ⟨hi, xs, _, hl i H p, List.getElem?_eq_getElem hj⟩
  · obtain ⟨e, hy⟩ := y
    subst e
    exact hs i x _ hi (hy xs (hl i _ p)) p
end TL
namespace TL
open PySem PySem.Spec PyProof.Rows L2
/-! ### sorted, of any alike data -/
theorem each_of {K : PySem.W.Frag} {H : Hp} {β : Type} (enc : β → PyData) : ∀ {xs : List V} {us : List Value} {bs : List β},
    Vals xs us → DpAll K H xs (bs.map enc) → PySem.W.EachIs (fun (u : Value) (b : β) => ∃ x, RelV x u ∧ Dp K H x (enc b)) us bs
  | _, _, [], .nil, _ => .nil
  | _, _, _ :: _, .nil, h => nomatch h
  | _, _, [], .cons _ _, h => nomatch h
  | _, _, b :: bs, .cons r t, .cons h a => .cons ⟨_, r, h⟩ (each_of enc t a)
theorem of_each {K : PySem.W.Frag} {H : Hp} {β : Type} (enc : β → PyData) : ∀ {us : List Value} {bs : List β},
    PySem.W.EachIs (fun (u : Value) (b : β) => ∃ x, RelV x u ∧ Dp K H x (enc b)) us bs → ∃ ys, Vals ys us ∧ DpAll K H ys (bs.map enc)
  | _, _, .nil => ⟨[], .nil, .nil⟩
  | _, _, .cons ⟨x, r, h⟩ t => by
    obtain ⟨ys, a, b⟩ := of_each enc t
    exact ⟨x :: ys, .cons r a, .cons h b⟩
@[irreducible] def rSortD (K : PySem.W.Frag) : List V → Hp → VK → Prop := fun vs H Q => ∃ (β : Type) (enc : β → PyData) (bs : List β) (a : Addr) (xs : List V),
  vs = [.ref a] ∧ SqL K H a xs ∧ DpAll K H xs (bs.map enc) ∧ PySem.W.AllAlike (bs.map enc) ∧ PySem.W.Sortable (bs.map enc) ∧ (∀ b ∈ bs, (enc b).depth ≤ 50) ∧
  ∀ p ys, H p = none → DpAll K H ys ((bs.mergeSort (PySem.W.dataLe false enc)).map enc) → Q (.ref p) (upd H p (.lst ys))
section
variable {X : Cx}
theorem sorted_D (hu : X.A.units + 64 < cLine) : CallR X (.builtin "sorted") (rSortD X.K) := by
  intro pins s σ H vs us Q I r h
  unfold rSortD at h
  obtain ⟨β, enc, bs, a, xs, rfl, hs, ha, al, so, dp, q⟩ := h
  cases r with
  | cons r1 r2 =>
    cases r2
    rename_i u
    obtain rfl : u = Value.ref a := r1
    obtain ⟨its, rv, hl, hz⟩ := I.list hs
    have e1 := each_of enc rv ha
    have lb : xs.length = bs.length := by rw [DpAll.length ha, List.length_map]
    have e2 : PySem.W.EachIs (fun v b => ∃ as, Reads s.heap v (enc b) as) its bs :=
      e1.mono fun u b ⟨x, rx, hx⟩ => Dp.reads I _ x u hx rx
    refine PySem.W.sorted_data hl.isList e1 e2 al so (by omega) (fun b hb => by have := dp b hb; omega) fun out hlen eo => ?_
    obtain ⟨ys, ry, dy⟩ := of_each enc eo
    obtain ⟨c, hc⟩ := PyProof.Rows.sortedAll_at s.heap its out.toArray
    have fr : H (s.heap.objs.size + 1) = none := I.hok.fresh (Nat.le_succ _)
    refine ⟨.ref (s.heap.objs.size + 1), upd H (s.heap.objs.size + 1) (.lst ys), I.laid (t' := s.toks) (fun _ _ => PyProof.Rows.sortedAll_old) (Nat.le_succ _) ?_, rfl, q _ ys fr dy⟩
    exact ⟨by have := ry.length; omega, out, c, ry, hc⟩
/-! ### in, of data -/
def rInDt (K : PySem.W.Frag) (neg : Bool) : R2 := fun x y H Q => ∃ d ds, Dp K H x d ∧ (Dp K H y (.list ds) ∨ Dp K H y (.tuple ds)) ∧
  PyData.canLayAll0 ds = true ∧ d.canLay0 = true ∧ d.depth ≤ 50 ∧ Q (.bl (if neg then !(ds.any fun z => PyData.eqv z d) else ds.any fun z => PyData.eqv z d)) H
theorem room_in {d : PyData} {ds : List PyData} {u : Nat} (h : d.depth ≤ 50) (hu : u + 64 < cLine) : u + 1 + min (PyData.depthAll ds) d.depth < cLine := by
  have : min (PyData.depthAll ds) d.depth ≤ 50 := Nat.le_trans (Nat.min_le_right _ _) h
  omega
theorem op_inDt (hu : X.A.units + 64 < cLine) : OpR X (compareOp .In) (rInDt X.K false) := by
  intro pins s σ H x y v u Q I rx ry h
  obtain ⟨d, ds, hd, he, c1, c2, dp, q⟩ := h
  obtain ⟨as, r1⟩ := Dp.reads I d x v hd rx
  rcases he with he | he
  · obtain ⟨bs, r2⟩ := Dp.reads I _ y u he ry
    exact SeqAt.in_list_reads r2 r1 c1 c2 (room_in dp hu) ⟨.bl _, H, I, rfl, q⟩
  · obtain ⟨bs, r2⟩ := Dp.reads I _ y u he ry
    exact SeqAt.in_tuple_reads r2 r1 c1 c2 (room_in dp hu) ⟨.bl _, H, I, rfl, q⟩
theorem op_notInDt (hu : X.A.units + 64 < cLine) : OpR X (compareOp .NotIn) (rInDt X.K true) := by
  intro pins s σ H x y v u Q I rx ry h
  obtain ⟨d, ds, hd, he, c1, c2, dp, q⟩ := h
  obtain ⟨as, r1⟩ := Dp.reads I d x v hd rx
  rcases he with he | he
  · obtain ⟨bs, r2⟩ := Dp.reads I _ y u he ry
    exact SeqAt.notIn_list_reads r2 r1 c1 c2 (room_in dp hu) ⟨.bl _, H, I, rfl, q⟩
  · obtain ⟨bs, r2⟩ := Dp.reads I _ y u he ry
    exact SeqAt.notIn_tuple_reads r2 r1 c1 c2 (room_in dp hu) ⟨.bl _, H, I, rfl, q⟩
/-! ### the written part as a letter -/
theorem sortK (K : PySem.W.Frag) (hu : X.A.units + 64 < cLine) (h : X.K = K := by rfl) : CallR X (.builtin "sorted") (rSortD K) := h ▸ sorted_D hu
theorem inDK (K : PySem.W.Frag) (hu : X.A.units + 64 < cLine) (h : X.K = K := by rfl) : OpR X (compareOp .In) (rInDt K false) := h ▸ op_inDt hu
theorem notInDK (K : PySem.W.Frag) (hu : X.A.units + 64 < cLine) (h : X.K = K := by rfl) : OpR X (compareOp .NotIn) (rInDt K true) := h ▸ op_notInDt hu
theorem inK (K : PySem.W.Frag) (h : X.K = K := by rfl) : OpR X (compareOp .In) (rIn K false) := h ▸ op_in_seq
theorem notInK (K : PySem.W.Frag) (h : X.K = K := by rfl) : OpR X (compareOp .NotIn) (rIn K true) := h ▸ op_notIn_seq
theorem eqDK (K : PySem.W.Frag) (hu : X.A.units + 64 < cLine) (h : X.K = K := by rfl) : OpR X (compareOp .Eq) (rEqD K) := h ▸ op_eqD hu
theorem neDK (K : PySem.W.Frag) (hu : X.A.units + 64 < cLine) (h : X.K = K := by rfl) : OpR X (compareOp .NotEq) (rNeD K) := h ▸ op_neD hu
theorem anyK (K : PySem.W.Frag) (hc : X.calm = true) (h : X.K = K := by rfl) : CallR X (.builtin "any") (rAny K) := h ▸ cr_any hc
def rListK (K : PySem.W.Frag) : List V → Hp → VK → Prop := fun xs H Q => ∃ p ys, xs = [.ref p] ∧ (SqL K H p ys ∨ SqT K H p ys) ∧ ∀ l, H l = none → Q (.ref l) (upd H l (.lst ys))
theorem listK (K : PySem.W.Frag) (h : X.K = K := by rfl) : CallR X (.type "list") (rListK K) := h ▸ call_list_of
theorem slTK (K : PySem.W.Frag) (h : X.K = K := by rfl) : SlR X (rSlA K) := h ▸ sl_tupA
theorem slLK (K : PySem.W.Frag) (h : X.K = K := by rfl) : SlR X (rSlL K) := h ▸ sl_list
end
end TL
namespace TL
open PySem PySem.Spec PyProof.Rows L2
/-- a def of the text by its name, with its promise -/
structure Own (P : Program) (w : World) (K : PySem.W.Frag) (mg : Str → Option Value) (base : Heap)
    (x : Str) (k : Nat) (ps : List Str) (sp : Sp) : Prop where
  ex : ∃ (f : Addr) (fd : FuncData), FnOk P w K mg base CX0 k f fd ps sp ∧ mg x = some (.ref f) ∧
    PySem.W.keepIn K (.ref f) = true ∧ Binds K fd ps []
/-- .. that shows data -/
structure OwnG (P : Program) (w : World) (K : PySem.W.Frag) (mg : Str → Option Value) (base : Heap)
    (x : Str) (k : Nat) (ps : List Str) (sp : Sp) : Prop where
  ex : ∃ (f : Addr) (fd : FuncData), FnG P w K mg base k f fd ps sp ∧ mg x = some (.ref f) ∧
    PySem.W.keepIn K (.ref f) = true ∧ Binds K fd ps []
section
variable {X : Cx} {k : Nat} {ps : List Str} {sp : Sp} {x : Str} {p pos : Pos} {e : Expr} {es : List Expr} {t : TA}
theorem pe_own (O : Own X.prog X.w X.K X.mg X.base x k ps sp) (hr : Room k X.A) (hg : Gl X x) (ha : PA X (e :: es) t)
    (hdb : (x == ("__debug__" : Str)) = false := by decide)
    (he : starEach (e :: es) X.env = (false, eval e X.env) :: starEach es X.env := by rfl)
    (hpl : (backTo pos (starEach es X.env)).any (·.1) = false := by rfl) :
    PE X (.Call (.Name x p) (e :: es) [] pos) (tCall sp [] E0 t) := by
  obtain ⟨f, fd, F, hm, hk, hb⟩ := O.ex
  exact pe_call F hr hg hm hk hb .nil pass0 ha hdb he hpl
theorem pe_ownG (O : OwnG X.prog X.w X.K X.mg X.base x k ps sp) (hr : Room k X.A) (gd : X.A.guards = some []) (hg : Gl X x) (ha : PA X (e :: es) t)
    (hdb : (x == ("__debug__" : Str)) = false := by decide)
    (he : starEach (e :: es) X.env = (false, eval e X.env) :: starEach es X.env := by rfl)
    (hpl : (backTo pos (starEach es X.env)).any (·.1) = false := by rfl) :
    PE X (.Call (.Name x p) (e :: es) [] pos) (tCall sp [] E0 t) := by
  obtain ⟨f, fd, F, hm, hk, hb⟩ := O.ex
  exact pe_callG F hr gd hg hm hk hb ha hdb he hpl
theorem piTK (K : PySem.W.Frag) {tg a : Expr} {ta : TE} (ha : PE X a ta) (h : X.K = K := by rfl) : PI X tg a (iTup K ta) := h ▸ pi_tup ha
theorem piLK (K : PySem.W.Frag) {tg a : Expr} {ta : TE} (ha : PE X a ta) (h : X.K = K := by rfl) : PI X tg a (iList K ta) := h ▸ pi_list ha
theorem pgTK (K : PySem.W.Frag) {es : List Expr} {k : Nat} {t : TGs} {n : Nat} (h : PGs X es t) (hc : X.calm = true := by rfl) (hK : X.K = K := by rfl)
    (hn : (assignEach es X.env).length = n := by rfl) (hst : (assignEach es X.env).findIdx? (·.1) = none := by rfl) :
    PG X (.Tuple es k pos) (gTup K n t) := hK ▸ pg_tup hc h hn hst
theorem bmK (K : PySem.W.Frag) {o : Expr} {to : TE} {name : Str} {apos cpos : Pos} {T id : String}
    {r : V → List V → Hp → VK → Prop} (pa : PlainAttrs T) (slot : Slot T name id)
    (hty : typeOf (.builtin id) = pure (.type "method_descriptor")) (hm : MtR X id r) (ho : PE X o to)
    (ha : PA X (e :: es) t) (h : X.K = K := by rfl)
    (hbase : attributeBase o name X.env (eval o X.env) = eval o X.env := by rfl)
    (hfew : ((backTo cpos (starEach (e :: es) X.env)).all (fun x => !x.1)
        && (backToKw cpos (keywordEach [] X.env)).all (fun x => x.1.isSome)
        && decide ((e :: es).length + ([] : List Keyword).length
          + (if ([] : List Keyword).isEmpty then 0 else 1) < 30)) = true := by rfl)
    (hline : (apos.endLine == cpos.line) = true := by rfl)
    (hs : starEach (e :: es) X.env = (false, eval e X.env) :: starEach es X.env := by rfl)
    (hplain : (backTo cpos (starEach es X.env)).any (·.1) = false := by rfl) :
    PE X (.Call (.Attribute o name apos) (e :: es) [] cpos) (tBM K T r to t) :=
  h ▸ pe_bm pa slot hty hm ho ha hbase hfew hline hs hplain
theorem bm0K (K : PySem.W.Frag) {o : Expr} {to : TE} {name : Str} {apos cpos : Pos} {T id : String}
    {r : V → List V → Hp → VK → Prop} (pa : PlainAttrs T) (slot : Slot T name id)
    (hty : typeOf (.builtin id) = pure (.type "method_descriptor")) (hm : MtR X id r) (ho : PE X o to) (h : X.K = K := by rfl)
    (hbase : attributeBase o name X.env (eval o X.env) = eval o X.env := by rfl)
    (hline : (apos.endLine == cpos.line) = true := by rfl) :
    PE X (.Call (.Attribute o name apos) [] [] cpos) (tBM0 K T r to) := h ▸ pe_bm0 pa slot hty hm ho hbase hline
end
end TL
namespace TL
/-! ### ascending lists -/
abbrev Asc (l : List Int) : Prop := l.Pairwise (· < ·)
theorem asc_ext : ∀ {a b : List Int}, Asc a → Asc b → (∀ x, x ∈ a ↔ x ∈ b) → a = b
  | [], [], _, _, _ => rfl
  | [], y :: b, _, _, h => absurd ((h y).mpr List.mem_cons_self) (by simp)
  | x :: a, [], _, _, h => absurd ((h x).mp List.mem_cons_self) (by simp)
  | x :: a, y :: b, ha, hb, h => by
    have ha' := List.pairwise_cons.mp ha
    have hb' := List.pairwise_cons.mp hb
    have e : x = y := by
      rcases List.mem_cons.mp ((h x).mp List.mem_cons_self) with e | q
      · exact e
      · rcases List.mem_cons.mp ((h y).mpr List.mem_cons_self) with e | r
        · exact e.symm
        · have h1 := hb'.1 x q
          have h2 := ha'.1 y r
          omega
    subst e
    congr 1
    refine asc_ext ha'.2 hb'.2 fun z => ⟨fun hz => ?_, fun hz => ?_⟩
    · rcases List.mem_cons.mp ((h z).mp (List.mem_cons_of_mem _ hz)) with e | q
      · have := ha'.1 z hz
        omega
      · exact q
    · rcases List.mem_cons.mp ((h z).mpr (List.mem_cons_of_mem _ hz)) with e | q
      · have := hb'.1 z hz
        omega
      · exact q
theorem Asc.nodup {l : List Int} (h : Asc l) : l.Nodup := h.imp fun h => by omega
def leI (a b : Int) : Bool := decide (a ≤ b)
def srtI (l : List Int) : List Int := l.mergeSort leI
theorem srtI_perm (l : List Int) : (srtI l).Perm l := List.mergeSort_perm l _
theorem srtI_le (l : List Int) : (srtI l).Pairwise (· ≤ ·) :=
  (List.pairwise_mergeSort (le := leI) (fun a b c h1 h2 => by
    have h1 := of_decide_eq_true h1
    have h2 := of_decide_eq_true h2
    exact decide_eq_true (by omega)) (fun a b => by
    unfold leI
    by_cases h : a ≤ b
    · simp [h]
    · have : b ≤ a := by omega
      simp [this]) l).imp fun h => of_decide_eq_true h
theorem mem_srtI {l : List Int} {x : Int} : x ∈ srtI l ↔ x ∈ l := (srtI_perm l).mem_iff
theorem srtI_asc {l : List Int} (h : l.Nodup) : Asc (srtI l) := by
  have n : (srtI l).Nodup := (srtI_perm l).nodup_iff.mpr h
  exact ((srtI_le l).and n).imp fun h => by omega
theorem srtI_of_asc {l : List Int} (h : Asc l) : srtI l = l :=
  List.mergeSort_of_pairwise (h.imp fun h => decide_eq_true (by omega))
theorem srtI_congr {a b : List Int} (h : a.Perm b) : srtI a = srtI b := by
  have p : (srtI a).Perm (srtI b) := (srtI_perm a).trans (h.trans (srtI_perm b).symm)
  exact p.eq_of_pairwise (fun x y _ _ h1 h2 => by omega) (srtI_le a) (srtI_le b)
theorem srtI_length (l : List Int) : (srtI l).length = l.length := (srtI_perm l).length_eq
/-! ### pairs -/
abbrev LtP (p q : Int × Int) : Prop := p.1 < q.1 ∨ (p.1 = q.1 ∧ p.2 < q.2)
abbrev AscP (l : List (Int × Int)) : Prop := l.Pairwise LtP
def leP (p q : Int × Int) : Bool := decide (p.1 < q.1 ∨ (p.1 = q.1 ∧ p.2 ≤ q.2))
def srtP (l : List (Int × Int)) : List (Int × Int) := l.mergeSort leP
theorem srtP_perm (l : List (Int × Int)) : (srtP l).Perm l := List.mergeSort_perm l _
theorem srtP_le (l : List (Int × Int)) : (srtP l).Pairwise fun p q => p.1 < q.1 ∨ (p.1 = q.1 ∧ p.2 ≤ q.2) :=
  (List.pairwise_mergeSort (le := leP) (fun a b c h1 h2 => by
    have h1 := of_decide_eq_true h1
    have h2 := of_decide_eq_true h2
    exact decide_eq_true (by omega)) (fun a b => by
    unfold leP
    by_cases h : a.1 < b.1 ∨ (a.1 = b.1 ∧ a.2 ≤ b.2)
    · simp [h]
    · have : b.1 < a.1 ∨ (b.1 = a.1 ∧ b.2 ≤ a.2) := by omega
      simp [this]) l).imp fun h => of_decide_eq_true h
theorem mem_srtP {l : List (Int × Int)} {x : Int × Int} : x ∈ srtP l ↔ x ∈ l := (srtP_perm l).mem_iff
theorem srtP_asc {l : List (Int × Int)} (h : l.Nodup) : AscP (srtP l) := by
  have n : (srtP l).Nodup := (srtP_perm l).nodup_iff.mpr h
  refine ((srtP_le l).and n).imp fun {a b} h => ?_
  obtain ⟨h1, h2⟩ := h
  rcases h1 with h1 | ⟨h1, h3⟩
  · exact .inl h1
  · refine .inr ⟨h1, ?_⟩
    have : a.2 ≠ b.2 := fun e => h2 (Prod.ext h1 e)
    omega
theorem srtP_of_asc {l : List (Int × Int)} (h : AscP l) : srtP l = l :=
  List.mergeSort_of_pairwise (h.imp fun h => decide_eq_true (by rcases h with h | h <;> omega))
theorem srtP_length (l : List (Int × Int)) : (srtP l).length = l.length := (srtP_perm l).length_eq
/-! ### an edge between two vertices -/
def ordP (a b : Int) : Int × Int := if a ≤ b then (a, b) else (b, a)
theorem srt2 (a b : Int) : srtI [a, b] = [(ordP a b).1, (ordP a b).2] := by
  unfold ordP
  by_cases h : a ≤ b
  · rw [if_pos h]
    exact List.mergeSort_of_pairwise (le := leI) (List.pairwise_cons.mpr ⟨fun x hx => by
      obtain rfl := List.mem_singleton.mp hx
      exact decide_eq_true h, List.pairwise_singleton _ _⟩)
  · rw [if_neg h]
    have p : [a, b].Perm [b, a] := List.Perm.swap _ _ _
    rw [srtI_congr p]
    exact List.mergeSort_of_pairwise (le := leI) (List.pairwise_cons.mpr ⟨fun x hx => by
      obtain rfl := List.mem_singleton.mp hx
      exact decide_eq_true (by omega), List.pairwise_singleton _ _⟩)
theorem ordP_comm (a b : Int) : ordP a b = ordP b a := by
  unfold ordP
  by_cases h : a ≤ b
  · by_cases h2 : b ≤ a
    · obtain rfl : a = b := by omega
      rfl
    · rw [if_pos h, if_neg h2]
  · rw [if_neg h, if_pos (by omega)]
/-! ### forests as they are drawn -/
def rng (m : Nat) : List Int := (List.range m).map Int.ofNat
theorem mem_rng {m : Nat} {x : Int} : x ∈ rng m ↔ 0 ≤ x ∧ x < m := by
  unfold rng
  rw [List.mem_map]
  constructor
  · rintro ⟨i, hi, rfl⟩
    have := List.mem_range.mp hi
    simp only [Int.ofNat_eq_natCast]
    omega
  · intro h
    exact ⟨x.toNat, List.mem_range.mpr (by omega), by simp only [Int.ofNat_eq_natCast]; omega⟩
theorem rng_asc (m : Nat) : Asc (rng m) := by
  unfold rng Asc
  rw [List.pairwise_map]
  exact List.pairwise_lt_range.imp fun h => by simp only [Int.ofNat_eq_natCast]; omega
theorem rng_length (m : Nat) : (rng m).length = m := by
  unfold rng
  rw [List.length_map, List.length_range]
/-- edge k joins the k-th name with an earlier one -/
def edgeOf (nm : List Int) (q : Nat × Nat) : Int × Int := ordP (nm.getD q.1 0) (nm.getD q.2 0)
structure Grow (m : Nat) (nm : List Int) (ks : List (Nat × Nat)) : Prop where
  names : nm.Perm (rng m)
  up : ks.Pairwise fun a b => a.1 < b.1
  down : ∀ q ∈ ks, q.2 < q.1 ∧ q.1 < m
structure IsFor (m : Nat) (es : List (Int × Int)) : Prop where
  asc : AscP es
  rng : ∀ p ∈ es, 0 ≤ p.1 ∧ p.1 < p.2 ∧ p.2 < m
  grow : ∃ nm ks, Grow m nm ks ∧ es.Perm (ks.map (edgeOf nm))
theorem Grow.len {m : Nat} {nm : List Int} {ks : List (Nat × Nat)} (g : Grow m nm ks) : nm.length = m := by
  rw [g.names.length_eq, rng_length]
theorem Grow.nd {m : Nat} {nm : List Int} {ks : List (Nat × Nat)} (g : Grow m nm ks) : nm.Nodup := g.names.nodup_iff.mpr (rng_asc m).nodup
theorem Grow.name {m : Nat} {nm : List Int} {ks : List (Nat × Nat)} (g : Grow m nm ks) {i : Nat} (h : i < m) : 0 ≤ nm.getD i 0 ∧ nm.getD i 0 < m := by
  have hl : i < nm.length := by rw [g.len]; exact h
  have e : nm.getD i 0 = nm[i] := by rw [List.getD_eq_getElem?_getD, List.getElem?_eq_getElem hl]; rfl
  rw [e]
  exact mem_rng.mp (g.names.mem_iff.mp (List.getElem_mem hl))
theorem Grow.inj {m : Nat} {nm : List Int} {ks : List (Nat × Nat)} (g : Grow m nm ks) {i j : Nat} (hi : i < m) (hj : j < m) (e : nm.getD i 0 = nm.getD j 0) : i = j := by
  have hi' : i < nm.length := by rw [g.len]; exact hi
  have hj' : j < nm.length := by rw [g.len]; exact hj
  rw [List.getD_eq_getElem?_getD, List.getElem?_eq_getElem hi', List.getD_eq_getElem?_getD, List.getElem?_eq_getElem hj'] at e
  exact (List.getElem_inj g.nd).mp e
theorem Grow.edge {m : Nat} {nm : List Int} {ks : List (Nat × Nat)} (g : Grow m nm ks) {q : Nat × Nat} (h : q ∈ ks) :
    0 ≤ (edgeOf nm q).1 ∧ (edgeOf nm q).1 < (edgeOf nm q).2 ∧ (edgeOf nm q).2 < m := by
  obtain ⟨h1, h2⟩ := g.down q h
  have a := g.name h2
  have b := g.name (Nat.lt_trans h1 h2)
  have n : nm.getD q.1 0 ≠ nm.getD q.2 0 := fun e => by
    have := g.inj h2 (Nat.lt_trans h1 h2) e
    omega
  unfold edgeOf ordP
  split
  · exact ⟨a.1, by omega, b.2⟩
  · exact ⟨b.1, by omega, a.2⟩
theorem ordP_inj {a b c d : Int} (h : ordP a b = ordP c d) : (a = c ∧ b = d) ∨ (a = d ∧ b = c) := by
  unfold ordP at h
  split at h <;> split at h <;> (injection h with h1 h2; omega)
theorem Grow.nodup {m : Nat} {nm : List Int} {ks : List (Nat × Nat)} (g : Grow m nm ks) : (ks.map (edgeOf nm)).Nodup := by
  rw [List.Nodup, List.pairwise_map]
  have u := g.up
  have d := g.down
  refine (List.Pairwise.and_mem.mp u).imp ?_
  rintro a b ⟨ha, hb, hab⟩ e
  obtain ⟨a1, a2⟩ := d a ha
  obtain ⟨b1, b2⟩ := d b hb
  rcases ordP_inj e with ⟨e1, e2⟩ | ⟨e1, e2⟩
  · have := g.inj a2 b2 e1
    omega
  · have h1 := g.inj a2 (Nat.lt_trans b1 b2) e1
    have h2 := g.inj (Nat.lt_trans a1 a2) b2 e2
    omega
theorem Grow.isFor {m : Nat} {nm : List Int} {ks : List (Nat × Nat)} (g : Grow m nm ks) : IsFor m (srtP (ks.map (edgeOf nm))) where
  asc := srtP_asc g.nodup
  rng := fun p hp => by
    obtain ⟨q, hq, rfl⟩ := List.mem_map.mp (mem_srtP.mp hp)
    exact g.edge hq
  grow := ⟨nm, ks, g, srtP_perm _⟩
theorem rise_len {m : Nat} : ∀ {ks : List (Nat × Nat)} {lo : Nat}, ks.Pairwise (fun a b => a.1 < b.1) → (∀ q ∈ ks, lo ≤ q.1 ∧ q.1 < m) → ks.length ≤ m - lo
  | [], _, _, _ => Nat.zero_le _
  | q :: ks, lo, h, b => by
    have h' := List.pairwise_cons.mp h
    have hq := b q List.mem_cons_self
    have := rise_len (lo := q.1 + 1) h'.2 fun r hr => ⟨h'.1 r hr, (b r (List.mem_cons_of_mem _ hr)).2⟩
    rw [List.length_cons]
    omega
theorem Grow.count {m : Nat} {nm : List Int} {ks : List (Nat × Nat)} (g : Grow m nm ks) : ks.length ≤ m := by
  have := rise_len (lo := 0) g.up fun q hq => ⟨Nat.zero_le _, (g.down q hq).2⟩
  omega
theorem IsFor.count {m : Nat} {es : List (Int × Int)} (f : IsFor m es) : es.length ≤ m := by
  obtain ⟨nm, ks, g, p⟩ := f.grow
  rw [p.length_eq, List.length_map]
  exact g.count
/-! ### neighbours -/
def nearL (m : Nat) (es : List (Int × Int)) (v : Int) : List Int := (rng m).filter fun o => decide (ordP o v ∈ es)
def nbL (es : List (Int × Int)) (v : Int) : List Int := (es.filter fun p => decide (p.2 = v)).map (·.1) ++ (es.filter fun p => decide (p.1 = v)).map (·.2)
theorem nearL_asc (m : Nat) (es : List (Int × Int)) (v : Int) : Asc (nearL m es v) := (rng_asc m).filter _
theorem mem_nearL {m : Nat} {es : List (Int × Int)} {v o : Int} : o ∈ nearL m es v ↔ (0 ≤ o ∧ o < m) ∧ ordP o v ∈ es := by
  unfold nearL
  rw [List.mem_filter, mem_rng, decide_eq_true_eq]
theorem mem_nbL {es : List (Int × Int)} {v o : Int} : o ∈ nbL es v ↔ (o, v) ∈ es ∨ (v, o) ∈ es := by
  unfold nbL
  rw [List.mem_append, List.mem_map, List.mem_map]
  constructor
  · rintro (⟨⟨a, b⟩, h, rfl⟩ | ⟨⟨a, b⟩, h, rfl⟩)
    · obtain ⟨h1, h2⟩ := List.mem_filter.mp h
      have : b = v := of_decide_eq_true h2
      subst this
      exact .inl h1
    · obtain ⟨h1, h2⟩ := List.mem_filter.mp h
      have : a = v := of_decide_eq_true h2
      subst this
      exact .inr h1
  · rintro (h | h)
    · exact .inl ⟨(o, v), List.mem_filter.mpr ⟨h, decide_eq_true rfl⟩, rfl⟩
    · exact .inr ⟨(v, o), List.mem_filter.mpr ⟨h, decide_eq_true rfl⟩, rfl⟩
theorem IsFor.mem_ord {m : Nat} {es : List (Int × Int)} (f : IsFor m es) {o v : Int} : ordP o v ∈ es ↔ (o, v) ∈ es ∨ (v, o) ∈ es := by
  unfold ordP
  by_cases h : o ≤ v
  · rw [if_pos h]
    refine ⟨.inl, fun q => q.elim id fun q => ?_⟩
    have := f.rng _ q
    simp only at this
    omega
  · rw [if_neg h]
    refine ⟨.inr, fun q => q.elim (fun q => ?_) id⟩
    have := f.rng _ q
    simp only at this
    omega
theorem IsFor.nb {m : Nat} {es : List (Int × Int)} (f : IsFor m es) (v : Int) : nbL es v = nearL m es v := by
  refine asc_ext ?_ (nearL_asc m es v) fun o => ?_
  · unfold nbL
    refine List.pairwise_append.mpr ⟨?_, ?_, ?_⟩
    · rw [List.pairwise_map]
      refine (List.Pairwise.and_mem.mp (f.asc.filter fun p => decide (p.2 = v))).imp ?_
      rintro a b ⟨ha, hb, hab⟩
      have h1 : a.2 = v := of_decide_eq_true (List.mem_filter.mp ha).2
      have h2 : b.2 = v := of_decide_eq_true (List.mem_filter.mp hb).2
      rcases hab with h | h <;> omega
    · rw [List.pairwise_map]
      refine (List.Pairwise.and_mem.mp (f.asc.filter fun p => decide (p.1 = v))).imp ?_
      rintro a b ⟨ha, hb, hab⟩
      have h1 : a.1 = v := of_decide_eq_true (List.mem_filter.mp ha).2
      have h2 : b.1 = v := of_decide_eq_true (List.mem_filter.mp hb).2
      rcases hab with h | h <;> omega
    · intro x hx y hy
      obtain ⟨a, ha, rfl⟩ := List.mem_map.mp hx
      obtain ⟨b, hb, rfl⟩ := List.mem_map.mp hy
      have a1 := f.rng _ (List.mem_filter.mp ha).1
      have b1 := f.rng _ (List.mem_filter.mp hb).1
      have h1 : a.2 = v := of_decide_eq_true (List.mem_filter.mp ha).2
      have h2 : b.1 = v := of_decide_eq_true (List.mem_filter.mp hb).2
      omega
  · rw [mem_nbL, mem_nearL, f.mem_ord]
    refine ⟨fun h => ⟨?_, h⟩, fun h => h.2⟩
    rcases h with h | h
    · have := f.rng _ h
      simp only at this
      omega
    · have := f.rng _ h
      simp only at this
      omega
/-! ### settings -/
structure IsSet (m : Nat) (es : List (Int × Int)) (S : List Int) : Prop where
  asc : Asc S
  rng : ∀ v ∈ S, 0 ≤ v ∧ v < m
  free : ∀ u ∈ S, ∀ v ∈ S, ordP u v ∉ es
end TL
namespace TL
open PySem PySem.Spec PyProof.Rows L2
/-! ### sorting ints, pairs -/
theorem le_int_fun : PySem.W.dataLe false PyData.int = leI := by
  funext a b
  exact congrFun (congrFun (PySem.W.dataLe_int (β := Int) id) a) b
theorem le_pr_fun : PySem.W.dataLe false prD = leP := by
  funext p q
  exact congrFun (congrFun (PySem.W.dataLe_ii (β := Int × Int) Prod.fst Prod.snd) p) q
section
variable {K : PySem.W.Frag} {H : Hp} {Q : VK}
theorem sortInts {a : Addr} {ns : List Int} (hS : SqL K H a (ns.map V.int)) (q : ∀ p, H p = none → Q (.ref p) (upd H p (.lst ((srtI ns).map V.int)))) : rSortD K [.ref a] H Q := by
  unfold rSortD
  refine ⟨Int, PyData.int, ns, a, ns.map V.int, rfl, hS, DpAll.of_ints ns, ?_, .inr fun d hd => ?_, fun b _ => by simp [PyData.depth], fun p ys np dy => ?_⟩
  · intro d hd e he
    obtain ⟨x, _, rfl⟩ := List.mem_map.mp hd
    obtain ⟨y, _, rfl⟩ := List.mem_map.mp he
    simp [PySem.W.alike]
  · obtain ⟨x, _, rfl⟩ := List.mem_map.mp hd
    exact ⟨fun z => (nomatch z), fun _ z => (nomatch z)⟩
  · rw [le_int_fun] at dy
    have e := DpAll.ints dy
    subst e
    exact q p np
theorem sortPairs {a : Addr} {xs : List V} {ps : List (Int × Int)} (hS : SqL K H a xs) (hA : DpAll K H xs (ps.map prD))
    (q : ∀ p ys, H p = none → DpAll K H ys ((srtP ps).map prD) → Q (.ref p) (upd H p (.lst ys))) : rSortD K [.ref a] H Q := by
  unfold rSortD
  refine ⟨Int × Int, prD, ps, a, xs, rfl, hS, hA, ?_, .inl fun d hd => ?_, fun b _ => by simp [prD, PyData.depth, PyData.depthAll], fun p ys np dy => ?_⟩
  · intro d hd e he
    obtain ⟨x, _, rfl⟩ := List.mem_map.mp hd
    obtain ⟨y, _, rfl⟩ := List.mem_map.mp he
    simp [prD, PySem.W.alike, PySem.W.alikeAll]
  · obtain ⟨x, _, rfl⟩ := List.mem_map.mp hd
    exact ⟨_, _, rfl⟩
  · rw [le_pr_fun] at dy
    exact q p ys np dy
end
/-! ### forests as data -/
def forD (m : Nat) (es : List (Int × Int)) : PyData := .tuple [.int (m : Int), prsD es]
def intsD (ns : List Int) : PyData := .tuple (ns.map .int)
theorem only_ints : ∀ ns : List Int, onlyAll (ns.map .int) = true
  | [] => by simp [onlyAll]
  | n :: ns => by simp [onlyAll, only, only_ints ns]
theorem only_intsD (ns : List Int) : only (intsD ns) = true := by
  unfold intsD only
  exact only_ints ns
theorem only_forD (m : Nat) (es : List (Int × Int)) : only (forD m es) = true := by
  unfold forD
  simp [only, onlyAll, only_prsD]
section
variable {K : PySem.W.Frag} {H : Hp}
theorem Dp.forI {x : V} {m : Nat} {es : List (Int × Int)} (h : Dp K H x (forD m es)) :
    ∃ a b xs, x = .ref a ∧ SqT K H a [.int (m : Int), .ref b] ∧ SqT K H b xs ∧ DpAll K H xs (es.map prD) := by
  obtain ⟨a, xs, e, h1, h2⟩ := Dp.tupI h
  cases h2 with
  | cons ha hb =>
    cases hb with
    | cons hc hd =>
      cases hd
      obtain ⟨b, ys, e2, h3, h4⟩ := Dp.tupI hc
      subst e2
      rw [Dp.intI ha] at h1
      exact ⟨a, b, ys, e, h1, h3, h4⟩
theorem Dp.intsI {x : V} {ns : List Int} (h : Dp K H x (intsD ns)) : ∃ a, x = .ref a ∧ SqT K H a (ns.map V.int) := by
  obtain ⟨a, xs, e, h1, h2⟩ := Dp.tupI h
  have := DpAll.ints h2
  subst this
  exact ⟨a, e, h1⟩
theorem Dp.ints {a : Addr} {ns : List Int} (h : SqT K H a (ns.map V.int)) : Dp K H (.ref a) (intsD ns) := .tup h (DpAll.of_ints ns)
end
/-! ### equal data -/
theorem eqv_pr (a b : Int × Int) : PyData.eqv (prD a) (prD b) = decide (a = b) := by
  have e : PyData.eqv (prD a) (prD b) = ((a.1 == b.1) && ((a.2 == b.2) && true)) := by simp only [prD, PyData.eqv, PyData.eqvAll]
  rw [e]
  obtain ⟨x, y⟩ := a
  obtain ⟨u, v⟩ := b
  by_cases h1 : x = u
  · by_cases h2 : y = v
    · subst h1 h2; simp
    · have : ¬ ((x, y) : Int × Int) = (u, v) := fun z => h2 (Prod.mk.inj z).2
      rw [decide_eq_false this]; simp [h2]
  · have : ¬ ((x, y) : Int × Int) = (u, v) := fun z => h1 (Prod.mk.inj z).1
    rw [decide_eq_false this]; simp [h1]
theorem any_pr (p : Int × Int) : ∀ es : List (Int × Int), (es.map prD).any (fun z => PyData.eqv z (prD p)) = decide (p ∈ es)
  | [] => by simp
  | e :: es => by
    rw [List.map_cons, List.any_cons, any_pr p es, eqv_pr]
    by_cases h : e = p
    · subst h; simp
    · have h' : ¬ p = e := fun z => h z.symm
      simp [h, h']
theorem lay_pr (p : Int × Int) : (prD p).canLay0 = true := by simp [prD, PyData.canLay0, PyData.canLayAll0]
theorem lay_prs : ∀ es : List (Int × Int), PyData.canLayAll0 (es.map prD) = true
  | [] => by simp [PyData.canLayAll0]
  | e :: es => by simp [PyData.canLayAll0, lay_pr e, lay_prs es]
theorem dep_pr (p : Int × Int) : (prD p).depth ≤ 50 := by simp [prD, PyData.depth, PyData.depthAll]
theorem lay_ints : ∀ ns : List Int, PyData.canLayAll0 (ns.map PyData.int) = true
  | [] => by simp [PyData.canLayAll0]
  | n :: ns => by simp [PyData.canLayAll0, PyData.canLay0, lay_ints ns]
theorem dep_ints : ∀ ns : List Int, PyData.depthAll (ns.map PyData.int) = 0
  | [] => by simp [PyData.depthAll]
  | n :: ns => by simp [PyData.depthAll, PyData.depth, dep_ints ns]
theorem shaped_ints (ns : List Int) : SeqAt.shaped (.list (ns.map PyData.int)) = true := by
  unfold SeqAt.shaped
  simp only [PyData.canLay0, PyData.depth, lay_ints, dep_ints]
  decide
theorem eqv_nil (ns : List Int) : PyData.eqv (.list (ns.map PyData.int)) (.list []) = decide (ns = []) := by
  cases ns with
  | nil => simp [PyData.eqv, PyData.eqvAll]
  | cons n r => simp [PyData.eqv, PyData.eqvAll]
/-! ### ints in lists of ints -/
theorem flat_ints (ns : List Int) : (ns.map V.int).all flatV = true := by
  rw [List.all_map]
  exact List.all_eq_true.mpr fun _ _ => rfl
theorem inV_ints (x : Int) : ∀ ns : List Int, inV (.int x) (ns.map V.int) = decide (x ∈ ns)
  | [] => by simp [inV]
  | n :: ns => by
    have ih := inV_ints x ns
    unfold inV at ih ⊢
    rw [List.map_cons, List.any_cons, ih]
    show (decide (n = x) || decide (x ∈ ns)) = _
    by_cases h : n = x
    · subst h; simp
    · have h' : ¬ x = n := fun z => h z.symm
      simp [h, h']
/-! ### an if whose test is read for any end -/
theorem ifJ {c : TT} {t u : TS} {D : Ends} {σ : L2.St} {H : Hp} (R : Bool → Hp → Prop)
    (h1 : ∀ Q : Bool → Hp → Prop, (∀ b H1, R b H1 → Q b H1) → c σ H Q) (h2 : ∀ H1, R true H1 → t D σ H1) (h3 : ∀ H1, R false H1 → u D σ H1) : tIfS c t u D σ H := by
  refine h1 _ fun b H1 r => ?_
  cases b with
  | true => exact iteT (h2 H1 r)
  | false => exact iteF (h3 H1 r)
end TL
namespace TL
open PySem PySem.Spec PyProof.Rows L2
/-! ### comprehensions that leave all that was tracked as it was -/
theorem lc_gen {K : PySem.W.Frag} {J : It} {g : TG} {tt : TT} {te : TE} {vs : List Nat} {σ : L2.St} {H1 : Hp} {D : Addr} {Qd : Hp → Prop} {β : Type}
    (bs : List β) (σb : β → L2.St) (p : β → Bool) (d : β → PyData) (nD : H1 D = none)
    (hgo : ∀ j H', j < bs.length → Same H1 H' → J.go j H') (hst : ∀ H', Same H1 H' → J.stop bs.length H')
    (hg : ∀ j b x H' H'', bs[j]? = some b → Same H1 H' → J.yld j H' x H'' → H'' = H' ∧ ∀ Q : L2.St → Hp → Prop, Q (σb b) H' → g x (wipe σ vs) H' Q)
    (hw : ∀ b, wipe (σb b) vs = wipe σ vs)
    (ht : ∀ b ∈ bs, ∀ H' (Q : Bool → Hp → Prop), Same H1 H' → (∀ H2, Same H' H2 → Q (p b) H2) → tt (σb b) H' Q)
    (he : ∀ b ∈ bs, p b = true → ∀ H' (Q : VK), Same H1 H' → (∀ H2 y, Same H' H2 → Dp K H2 y (d b) → Q y H2) → te (σb b) H' Q)
    (ho : ∀ b, only (d b) = true) (hl : bs.length ≤ 1000)
    (hd : ∀ H' ys, Same H1 H' → H' D = some (.lst ys) → DpAll K H' ys ((bs.filter p).map d) → Qd H') : LcGoal J g tt te vs σ H1 D Qd := by
  have oa : ∀ l : List β, onlyAll (l.map d) = true := by
    intro l
    induction l with
    | nil => simp [onlyAll]
    | cons b l ih => simp [onlyAll, ho b, ih]
  refine lc_by bs.length (fun i H' => ∃ ys, Same H1 H' ∧ H' D = some (.lst ys) ∧ DpAll K H' ys (((bs.take i).filter p).map d) ∧ ys.length ≤ i) ?_ ?_ ?_ ?_ ?_
  · exact ⟨[], same_upd nD, upd_same, .nil, Nat.le_refl _⟩
  · rintro i H' hi ⟨ys, s, _⟩
    exact hgo i H' hi s
  · rintro H' ⟨ys, s, _⟩
    exact hst H' s
  · rintro i x H' H'' hi ⟨ys, s, eD, a, ln⟩ y
    obtain ⟨rfl, k⟩ := hg i bs[i] x H' H'' (List.getElem?_eq_getElem hi) s y
    have mb : bs[i] ∈ bs := List.getElem_mem hi
    have tk : bs.take (i + 1) = bs.take i ++ [bs[i]] := by rw [List.take_add_one, List.getElem?_eq_getElem hi]; rfl
    refine k _ ⟨hw _, ht _ mb _ _ s fun H2 s2 => ?_⟩
    by_cases hp : p bs[i] = true
    · rw [if_pos hp]
      refine he _ mb hp _ _ (s.trans s2) fun H3 z s3 dz => ?_
      have e3 := s3 _ _ (s2 _ _ eD)
      have kt : KT K H3 (upd H3 D (.lst (ys ++ [z]))) := kt_lst e3
      refine ⟨ys, e3, small1000 (by omega), ys ++ [z], ?_, upd_same, ?_, ?_⟩
      · intro b o e
        rw [upd_ne (ne_of_none e nD)]
        exact s3 _ _ (s2 _ _ (s _ _ e))
      · rw [tk, List.filter_append, List.map_append, List.filter_cons_of_pos hp]
        exact DpAll.append (DpAll.kt kt (DpAll.same (s2.trans s3) a) (oa _)) (.cons (Dp.kt kt dz (ho _)) .nil)
      · rw [List.length_append, List.length_singleton]
        omega
    · rw [if_neg hp]
      refine ⟨ys, s.trans s2, s2 _ _ eD, ?_, by omega⟩
      rw [tk, List.filter_append, List.filter_cons_of_neg hp, List.filter_nil, List.append_nil]
      exact DpAll.same s2 a
  · rintro H' ⟨ys, s, eD, a, _⟩
    rw [List.take_length] at a
    exact hd H' ys s eD a
section
variable {K : PySem.W.Frag} {tt : TT} {te : TE} {vs : List Nat} {σ : L2.St} {H1 : Hp} {D : Addr} {Qd : Hp → Prop}
/-- over a list of ints, the element any data -/
theorem lc_listI {a : Addr} {ns : List Int} {i : Nat} (p : Int → Bool) (d : Int → PyData) (nD : H1 D = none) (hS : SqL K H1 a (ns.map V.int))
    (hw : ∀ v, wipe ((wipe σ vs).set i (some v)) vs = wipe σ vs)
    (ht : ∀ o ∈ ns, ∀ H' (Q : Bool → Hp → Prop), Same H1 H' → (∀ H2, Same H' H2 → Q (p o) H2) → tt ((wipe σ vs).set i (some (.int o))) H' Q)
    (he : ∀ o ∈ ns, p o = true → ∀ H' (Q : VK), Same H1 H' → (∀ H2 y, Same H' H2 → Dp K H2 y (d o) → Q y H2) → te ((wipe σ vs).set i (some (.int o))) H' Q)
    (ho : ∀ o, only (d o) = true) (hl : ns.length ≤ 1000)
    (hd : ∀ H' ys, Same H1 H' → H' D = some (.lst ys) → DpAll K H' ys ((ns.filter p).map d) → Qd H') : LcGoal (Itl K a) (gName i) tt te vs σ H1 D Qd := by
  refine lc_gen ns (fun o => (wipe σ vs).set i (some (.int o))) p d nD (fun j H' hj s => ⟨_, _, s.seq hS, List.getElem?_eq_getElem (by rw [List.length_map]; exact hj)⟩)
    (fun H' s => ⟨_, s.seq hS, by rw [List.length_map]; exact Nat.le_refl _⟩) (fun j b x H' H'' hb s y => ?_) (fun b => hw _) ht he ho hl hd
  obtain ⟨e, hy⟩ := y
  have := hy _ (s.seq hS)
  rw [List.getElem?_map, hb] at this
  cases this
  exact ⟨e, fun Q q => q⟩
/-- over a tuple of ints -/
theorem lc_tupI {a : Addr} {ns : List Int} {i : Nat} (p : Int → Bool) (d : Int → PyData) (nD : H1 D = none) (hS : SqT K H1 a (ns.map V.int))
    (hw : ∀ v, wipe ((wipe σ vs).set i (some v)) vs = wipe σ vs)
    (ht : ∀ o ∈ ns, ∀ H' (Q : Bool → Hp → Prop), Same H1 H' → (∀ H2, Same H' H2 → Q (p o) H2) → tt ((wipe σ vs).set i (some (.int o))) H' Q)
    (he : ∀ o ∈ ns, p o = true → ∀ H' (Q : VK), Same H1 H' → (∀ H2 y, Same H' H2 → Dp K H2 y (d o) → Q y H2) → te ((wipe σ vs).set i (some (.int o))) H' Q)
    (ho : ∀ o, only (d o) = true) (hl : ns.length ≤ 1000)
    (hd : ∀ H' ys, Same H1 H' → H' D = some (.lst ys) → DpAll K H' ys ((ns.filter p).map d) → Qd H') : LcGoal (Itt K a) (gName i) tt te vs σ H1 D Qd := by
  refine lc_gen ns (fun o => (wipe σ vs).set i (some (.int o))) p d nD (fun j H' hj s => ⟨_, _, Same.tup s hS, List.getElem?_eq_getElem (by rw [List.length_map]; exact hj)⟩)
    (fun H' s => ⟨_, Same.tup s hS, by rw [List.length_map]; exact Nat.le_refl _⟩) (fun j b x H' H'' hb s y => ?_) (fun b => hw _) ht he ho hl hd
  obtain ⟨e, hy⟩ := y
  have := hy _ (Same.tup s hS)
  rw [List.getElem?_map, hb] at this
  cases this
  exact ⟨e, fun Q q => q⟩
/-- over range(m) -/
theorem lc_rng {m i : Nat} (p : Int → Bool) (d : Int → PyData) (nD : H1 D = none)
    (hw : ∀ v, wipe ((wipe σ vs).set i (some v)) vs = wipe σ vs)
    (ht : ∀ o ∈ rng m, ∀ H' (Q : Bool → Hp → Prop), Same H1 H' → (∀ H2, Same H' H2 → Q (p o) H2) → tt ((wipe σ vs).set i (some (.int o))) H' Q)
    (he : ∀ o ∈ rng m, p o = true → ∀ H' (Q : VK), Same H1 H' → (∀ H2 y, Same H' H2 → Dp K H2 y (d o) → Q y H2) → te ((wipe σ vs).set i (some (.int o))) H' Q)
    (ho : ∀ o, only (d o) = true) (hl : m ≤ 1000)
    (hd : ∀ H' ys, Same H1 H' → H' D = some (.lst ys) → DpAll K H' ys (((rng m).filter p).map d) → Qd H') : LcGoal (Itr 0 m) (gName i) tt te vs σ H1 D Qd := by
  refine lc_gen (rng m) (fun o => (wipe σ vs).set i (some (.int o))) p d nD (fun j H' hj s => by rw [rng_length] at hj; exact hj)
    (fun H' s => by rw [rng_length]; exact Nat.le_refl _) (fun j b x H' H'' hb s y => ?_) (fun b => hw _) ht he ho (by rw [rng_length]; exact hl) hd
  obtain ⟨e, hy⟩ := y
  unfold rng at hb
  rw [List.getElem?_map] at hb
  obtain ⟨z, hz, rfl⟩ := Option.map_eq_some_iff.mp hb
  obtain ⟨h1, rfl⟩ := List.getElem?_eq_some_iff.mp hz
  rw [List.getElem_range] at *
  subst hy
  refine ⟨e, fun Q q => ?_⟩
  show Q ((wipe σ vs).set i (some (.int (0 + (j : Int))))) H'
  rw [Int.zero_add]
  exact q
/-- over a tuple of pairs, the target two names -/
theorem lc_tupP {a : Addr} {xs : List V} {es : List (Int × Int)} {i j : Nat} (p : Int × Int → Bool) (d : Int × Int → PyData) (nD : H1 D = none) (hS : SqT K H1 a xs) (hA : DpAll K H1 xs (es.map prD))
    (hw : ∀ v u, wipe (((wipe σ vs).set i (some v)).set j (some u)) vs = wipe σ vs)
    (ht : ∀ o ∈ es, ∀ H' (Q : Bool → Hp → Prop), Same H1 H' → (∀ H2, Same H' H2 → Q (p o) H2) → tt (((wipe σ vs).set i (some (.int o.1))).set j (some (.int o.2))) H' Q)
    (he : ∀ o ∈ es, p o = true → ∀ H' (Q : VK), Same H1 H' → (∀ H2 y, Same H' H2 → Dp K H2 y (d o) → Q y H2) → te (((wipe σ vs).set i (some (.int o.1))).set j (some (.int o.2))) H' Q)
    (ho : ∀ o, only (d o) = true) (hl : es.length ≤ 1000)
    (hd : ∀ H' ys, Same H1 H' → H' D = some (.lst ys) → DpAll K H' ys ((es.filter p).map d) → Qd H') :
    LcGoal (Itt K a) (gTup K 2 (gCons (gName i) (gCons (gName j) gNil))) tt te vs σ H1 D Qd := by
  have xl : xs.length = es.length := by rw [DpAll.length hA, List.length_map]
  refine lc_gen es (fun o => ((wipe σ vs).set i (some (.int o.1))).set j (some (.int o.2))) p d nD (fun j H' hj s => ⟨_, _, Same.tup s hS, List.getElem?_eq_getElem (by rw [xl]; exact hj)⟩)
    (fun H' s => ⟨_, Same.tup s hS, by rw [xl]; exact Nat.le_refl _⟩) (fun k b x H' H'' hb s y => ?_) (fun b => hw _ _) ht he ho hl hd
  obtain ⟨e, hy⟩ := y
  obtain ⟨z, hz, dz⟩ := DpAll.get hA (hy _ (Same.tup s hS))
  rw [List.getElem?_map, hb] at hz
  cases hz
  obtain ⟨t, rfl, hT⟩ := Dp.prI (Dp.same s dz)
  exact ⟨e, fun Q q => ⟨t, _, rfl, hT, rfl, _, _, rfl, _, _, rfl, rfl, q⟩⟩
/-- over a list of pairs -/
theorem lc_listP {a : Addr} {xs : List V} {es : List (Int × Int)} {i j : Nat} (p : Int × Int → Bool) (d : Int × Int → PyData) (nD : H1 D = none) (hS : SqL K H1 a xs) (hA : DpAll K H1 xs (es.map prD))
    (hw : ∀ v u, wipe (((wipe σ vs).set i (some v)).set j (some u)) vs = wipe σ vs)
    (ht : ∀ o ∈ es, ∀ H' (Q : Bool → Hp → Prop), Same H1 H' → (∀ H2, Same H' H2 → Q (p o) H2) → tt (((wipe σ vs).set i (some (.int o.1))).set j (some (.int o.2))) H' Q)
    (he : ∀ o ∈ es, p o = true → ∀ H' (Q : VK), Same H1 H' → (∀ H2 y, Same H' H2 → Dp K H2 y (d o) → Q y H2) → te (((wipe σ vs).set i (some (.int o.1))).set j (some (.int o.2))) H' Q)
    (ho : ∀ o, only (d o) = true) (hl : es.length ≤ 1000)
    (hd : ∀ H' ys, Same H1 H' → H' D = some (.lst ys) → DpAll K H' ys ((es.filter p).map d) → Qd H') :
    LcGoal (Itl K a) (gTup K 2 (gCons (gName i) (gCons (gName j) gNil))) tt te vs σ H1 D Qd := by
  have xl : xs.length = es.length := by rw [DpAll.length hA, List.length_map]
  refine lc_gen es (fun o => ((wipe σ vs).set i (some (.int o.1))).set j (some (.int o.2))) p d nD (fun j H' hj s => ⟨_, _, s.seq hS, List.getElem?_eq_getElem (by rw [xl]; exact hj)⟩)
    (fun H' s => ⟨_, s.seq hS, by rw [xl]; exact Nat.le_refl _⟩) (fun k b x H' H'' hb s y => ?_) (fun b => hw _ _) ht he ho hl hd
  obtain ⟨e, hy⟩ := y
  obtain ⟨z, hz, dz⟩ := DpAll.get hA (hy _ (s.seq hS))
  rw [List.getElem?_map, hb] at hz
  cases hz
  obtain ⟨t, rfl, hT⟩ := Dp.prI (Dp.same s dz)
  exact ⟨e, fun Q q => ⟨t, _, rfl, hT, rfl, _, _, rfl, _, _, rfl, rfl, q⟩⟩
end
theorem only_int (i : Int) : only (.int i) = true := by simp [only]
theorem lst_ints {K : PySem.W.Frag} {H : Hp} {ys : List V} {ns : List Int} (h : DpAll K H ys (ns.map .int)) : ys = ns.map V.int := DpAll.ints h
end TL
namespace TL
open PySem PySem.Spec PyProof.Rows L2
theorem onlyAll_app : ∀ a b : List PyData, onlyAll (a ++ b) = (onlyAll a && onlyAll b)
  | [], b => by simp [onlyAll]
  | x :: a, b => by
    rw [List.cons_append]
    simp only [onlyAll, onlyAll_app a b, Bool.and_assoc]
theorem onlyAll_map {β : Type} {d : β → PyData} (h : ∀ b, only (d b) = true) : ∀ l : List β, onlyAll (l.map d) = true
  | [] => by simp [onlyAll]
  | x :: l => by simp [onlyAll, h x, onlyAll_map h l]
/-- [e for u in a tuple of ints for v in what f gives] -/
theorem lc2_tup {K : PySem.W.Frag} {a : Addr} {S : List Int} {i j : Nat} {wi1 : TI} {te : TE} {vs vs1 : List Nat} {σ : L2.St} {H1 : Hp} {D : Addr} {Qd : Hp → Prop}
    (f : Int → List Int) (d : Int → Int → PyData) (nD : H1 D = none) (hS : SqT K H1 a (S.map V.int))
    (hw : ∀ v, wipe ((wipe σ vs).set i (some v)) vs = wipe σ vs)
    (hw1 : ∀ u v, wipe ((wipe ((wipe σ vs).set i (some u)) vs1).set j (some v)) vs1 = wipe ((wipe σ vs).set i (some u)) vs1)
    (hin : ∀ u ∈ S, ∀ H' (R : It → Hp → Prop), Same H1 H' → (∀ H2 b, Same H' H2 → SqT K H2 b ((f u).map V.int) → R (Itt K b) H2) → wi1 ((wipe σ vs).set i (some (.int u))) H' R)
    (he : ∀ u ∈ S, ∀ v ∈ f u, ∀ H' (Q : VK), Same H1 H' → (∀ H2 y, Same H' H2 → Dp K H2 y (d u v) → Q y H2) → te ((wipe ((wipe σ vs).set i (some (.int u))) vs1).set j (some (.int v))) H' Q)
    (ho : ∀ u v, only (d u v) = true) (hl : S.length ≤ 100) (hf : ∀ u ∈ S, (f u).length ≤ 100)
    (hd : ∀ H' ys, Same H1 H' → H' D = some (.lst ys) → DpAll K H' ys (S.flatMap fun u => (f u).map (d u)) → Qd H') :
    ∃ W : Nat → Nat → Hp → Prop, (∃ m, W 0 m (upd H1 D (.lst []))) ∧ ∀ k m H, W k m H →
      ((Itt K a).stop k H ∧ Qd H) ∨
      ((Itt K a).go k H ∧ ∃ Nx : Hp → Prop, (∀ H', Nx H' → ∃ m', m' < m ∧ W (k + 1) m' H') ∧
        ∀ x H', (Itt K a).yld k H x H' → (gName i) x (wipe σ vs) H' fun σ2 H2 =>
          wipe σ2 vs = wipe σ vs ∧ tYes σ2 H2 fun b H3 =>
            if b = true then
              wi1 σ2 H3 fun J1 H4 => ∃ W1 : Nat → Nat → Hp → Prop, (∃ m, W1 0 m H4) ∧ ∀ j' k H, W1 j' k H →
                (J1.stop j' H ∧ Nx H) ∨
                (J1.go j' H ∧ ∃ Nx1 : Hp → Prop, (∀ H', Nx1 H' → ∃ k', k' < k ∧ W1 (j' + 1) k' H') ∧
                  ∀ x H', J1.yld j' H x H' → (gName j) x (wipe σ2 vs1) H' fun σ3 H5 =>
                    wipe σ3 vs1 = wipe σ2 vs1 ∧ tYes σ3 H5 fun b H6 =>
                      if b = true then
                        te σ3 H6 fun y H7 => ∃ acc, H7 D = some (.lst acc) ∧ acc.length < sizeLine ∧ Nx1 (upd H7 D (.lst (acc ++ [y])))
                      else Nx1 H6)
            else Nx H3) := by
  have ofl : ∀ l : List Int, onlyAll (l.flatMap fun u => (f u).map (d u)) = true := by
    intro l
    induction l with
    | nil => simp [onlyAll]
    | cons u l ih => rw [List.flatMap_cons, onlyAll_app, ih, onlyAll_map (ho u)]; rfl
  let Pv : Nat → Hp → Prop := fun k H' => ∃ ys, Same H1 H' ∧ H' D = some (.lst ys) ∧ DpAll K H' ys ((S.take k).flatMap fun u => (f u).map (d u)) ∧ ys.length ≤ 100 * k
  refine ⟨fun k m H => m = S.length - k ∧ k ≤ S.length ∧ Pv k H, ⟨S.length, rfl, Nat.zero_le _, [], same_upd nD, upd_same, .nil, Nat.le_refl _⟩, fun k m H hW => ?_⟩
  obtain ⟨em, hk, ys, s, eD, dy, ln⟩ := hW
  by_cases hlt : k < S.length
  · refine .inr ⟨⟨_, _, Same.tup s hS, List.getElem?_eq_getElem (by rw [List.length_map]; exact hlt)⟩, Pv (k + 1), fun H' p => ⟨S.length - (k + 1), by omega, rfl, hlt, p⟩, fun x H' y => ?_⟩
    obtain ⟨e, hy⟩ := y
    subst e
    have hx := hy _ (Same.tup s hS)
    rw [List.getElem?_map, List.getElem?_eq_getElem hlt] at hx
    cases hx
    have mu : S[k] ∈ S := List.getElem_mem hlt
    have tk : S.take (k + 1) = S.take k ++ [S[k]] := by rw [List.take_add_one, List.getElem?_eq_getElem hlt]; rfl
    refine ⟨hw _, yesI (iteT (hin _ mu _ _ s fun H4 b s4 hb => ?_))⟩
    refine ⟨fun j' m H => m = (f S[k]).length - j' ∧ j' ≤ (f S[k]).length ∧ ∃ zs, Same H1 H ∧ SqT K H b ((f S[k]).map V.int) ∧ H D = some (.lst zs) ∧
      DpAll K H zs (((S.take k).flatMap fun u => (f u).map (d u)) ++ ((f S[k]).take j').map (d S[k])) ∧ zs.length ≤ 100 * k + j', ⟨(f S[k]).length, rfl, Nat.zero_le _, ys, s.trans s4, hb, s4 _ _ eD, ?_, by omega⟩, fun j' m H hW => ?_⟩
    · rw [List.take_zero, List.map_nil, List.append_nil]
      exact DpAll.same s4 dy
    · obtain ⟨em', hj, zs, sj, hbj, eDj, dz, lz⟩ := hW
      have lf := hf _ mu
      by_cases hjl : j' < (f S[k]).length
      · refine .inr ⟨⟨_, _, hbj, List.getElem?_eq_getElem (by rw [List.length_map]; exact hjl)⟩, fun H => ∃ zs, Same H1 H ∧ SqT K H b ((f S[k]).map V.int) ∧ H D = some (.lst zs) ∧
          DpAll K H zs (((S.take k).flatMap fun u => (f u).map (d u)) ++ ((f S[k]).take (j' + 1)).map (d S[k])) ∧ zs.length ≤ 100 * k + (j' + 1),
          fun H' p => ⟨(f S[k]).length - (j' + 1), by omega, rfl, hjl, p⟩, fun x H' y => ?_⟩
        obtain ⟨e, hy⟩ := y
        subst e
        have hx := hy _ hbj
        rw [List.getElem?_map, List.getElem?_eq_getElem hjl] at hx
        cases hx
        have mv : (f S[k])[j'] ∈ f S[k] := List.getElem_mem hjl
        refine ⟨hw1 _ _, yesI (iteT (he _ mu _ mv _ _ sj fun H5 y5 s5 d5 => ?_))⟩
        have e5 := s5 _ _ eDj
        have kt : KT K H5 (upd H5 D (.lst (zs ++ [y5]))) := kt_lst e5
        refine ⟨zs, e5, Nat.lt_of_le_of_lt (show zs.length ≤ 20000 by omega) (by decide), zs ++ [y5], ?_, kt _ _ (Same.tup s5 hbj), upd_same, ?_, ?_⟩
        · intro c o e
          rw [upd_ne (ne_of_none e nD)]
          exact s5 _ _ (sj _ _ e)
        · rw [List.take_add_one, List.getElem?_eq_getElem hjl, List.map_append, ← List.append_assoc]
          refine DpAll.append (DpAll.kt kt (DpAll.same s5 dz) ?_) (.cons (Dp.kt kt d5 (ho _ _)) .nil)
          rw [onlyAll_app, ofl, onlyAll_map (ho _)]
          rfl
        · rw [List.length_append, List.length_singleton]
          omega
      · obtain rfl : j' = (f S[k]).length := by omega
        refine .inl ⟨⟨_, hbj, by rw [List.length_map]; exact Nat.le_refl _⟩, zs, sj, eDj, ?_, by omega⟩
        rw [List.take_length] at dz
        rw [tk, List.flatMap_append, List.flatMap_cons, List.flatMap_nil, List.append_nil]
        exact dz
  · obtain rfl : k = S.length := by omega
    rw [List.take_length] at dy
    exact .inl ⟨⟨_, Same.tup s hS, by rw [List.length_map]; exact Nat.le_refl _⟩, hd H ys s eD dy⟩
section
variable {X : Cx}
def tTruth (K : PySem.W.Frag) (ta : TE) : TT := fun σ H Q => ta σ H fun x H' => ∃ k, TruV K x H' k ∧ Q k H'
theorem truthK (K : PySem.W.Frag) {a : Expr} {ta : TE} (ha : PE X a ta)
    (he : ∀ whole, isTrue a X.env whole = (do let v ← whole; standAt a.pos; holding [v] (truthy v))) (h : X.K = K := by rfl) :
    PT X a (tTruth K ta) := h ▸ pt_truth ha he
theorem isiK (K : PySem.W.Frag) (h : X.K = K := by rfl) : CallR X (.builtin "isinstance") (rIsi K) := h ▸ call_isi
end
theorem ty_tup {K : PySem.W.Frag} {H : Hp} {a : Addr} {xs : List V} (h : SqT K H a xs) : TyX K H (.ref a) (.type "tuple") := by
  rcases h with (h | ⟨o, h⟩) | ⟨o, its, n, h, c, _⟩
  · exact .base (.tup h)
  · exact .fTuple h
  · exact .kTuple h c
end TL
namespace TL
/-! ### slides -/
def oth (m : Nat) (es : List (Int × Int)) (S : List Int) (u v : Int) : List Int := (nearL m es v).filter fun o => decide (o ∈ S) && !decide (o = u)
theorem mem_oth {m : Nat} {es : List (Int × Int)} {S : List Int} {u v o : Int} : o ∈ oth m es S u v ↔ o ∈ nearL m es v ∧ o ∈ S ∧ o ≠ u := by
  unfold oth
  rw [List.mem_filter, Bool.and_eq_true, decide_eq_true_eq, Bool.not_eq_true', decide_eq_false_iff_not]
def stepsL (m : Nat) (es : List (Int × Int)) (T : List Int) : List (Int × Int) := T.flatMap fun u => (nearL m es u).map fun v => (u, v)
def slidesP (m : Nat) (es : List (Int × Int)) (S : List Int) : List (Int × Int) := (stepsL m es S).filter fun p => decide (oth m es S p.1 p.2 = [])
def slidesT (m : Nat) (es : List (Int × Int)) (S T : List Int) : List (Int × Int) := T.flatMap fun u => ((nearL m es u).filter fun v => decide (oth m es S u v = [])).map fun v => (u, v)
theorem slides_eqT (m : Nat) (es : List (Int × Int)) (S : List Int) : ∀ T : List Int, (stepsL m es T).filter (fun p => decide (oth m es S p.1 p.2 = [])) = slidesT m es S T
  | [] => rfl
  | u :: T => by
    have ih := slides_eqT m es S T
    unfold stepsL slidesT at ih ⊢
    rw [List.flatMap_cons, List.flatMap_cons, List.filter_append, ih, List.filter_map]
    rfl
theorem slides_eq (m : Nat) (es : List (Int × Int)) (S : List Int) : slidesP m es S = slidesT m es S S := slides_eqT m es S S
theorem mem_slidesP {m : Nat} {es : List (Int × Int)} {S : List Int} {u v : Int} : (u, v) ∈ slidesP m es S ↔ u ∈ S ∧ v ∈ nearL m es u ∧ oth m es S u v = [] := by
  unfold slidesP stepsL
  rw [List.mem_filter, List.mem_flatMap, decide_eq_true_eq]
  constructor
  · rintro ⟨⟨a, ha, hb⟩, h⟩
    obtain ⟨b, hb, e⟩ := List.mem_map.mp hb
    cases e
    exact ⟨ha, hb, h⟩
  · rintro ⟨h1, h2, h3⟩
    exact ⟨⟨u, h1, List.mem_map.mpr ⟨v, h2, rfl⟩⟩, h3⟩
theorem ascP_steps (m : Nat) (es : List (Int × Int)) : ∀ {T : List Int}, Asc T → AscP (stepsL m es T)
  | [], _ => .nil
  | u :: T, h => by
    have h' := List.pairwise_cons.mp h
    unfold stepsL
    rw [List.flatMap_cons]
    refine List.pairwise_append.mpr ⟨?_, ascP_steps m es h'.2, ?_⟩
    · rw [List.pairwise_map]
      exact (nearL_asc m es u).imp fun h => .inr ⟨rfl, h⟩
    · intro a ha b hb
      obtain ⟨v, _, rfl⟩ := List.mem_map.mp ha
      obtain ⟨z, hz, hb⟩ := List.mem_flatMap.mp hb
      obtain ⟨y, _, rfl⟩ := List.mem_map.mp hb
      exact .inl (h'.1 z hz)
theorem ascP_slides {m : Nat} {es : List (Int × Int)} {S : List Int} (h : Asc S) : AscP (slidesP m es S) := (ascP_steps m es h).filter _
theorem nearL_len (m : Nat) (es : List (Int × Int)) (v : Int) : (nearL m es v).length ≤ m := by
  have := List.length_filter_le (fun o => decide (ordP o v ∈ es)) (rng m)
  rw [rng_length] at this
  exact this
theorem asc_len {m : Nat} : ∀ {S : List Int} {lo : Nat}, Asc S → (∀ v ∈ S, (lo : Int) ≤ v ∧ v < m) → S.length ≤ m - lo
  | [], _, _, _ => Nat.zero_le _
  | v :: S, lo, h, b => by
    have h' := List.pairwise_cons.mp h
    have hv := b v List.mem_cons_self
    have := asc_len (m := m) (lo := v.toNat + 1) h'.2 fun z hz => ⟨by have := h'.1 z hz; omega, (b z (List.mem_cons_of_mem _ hz)).2⟩
    rw [List.length_cons]
    omega
theorem IsSet.len {m : Nat} {es : List (Int × Int)} {S : List Int} (h : IsSet m es S) : S.length ≤ m := by
  have := asc_len (lo := 0) h.asc fun v hv => by have := h.rng v hv; omega
  omega
theorem steps_len (m : Nat) (es : List (Int × Int)) : ∀ T : List Int, (stepsL m es T).length ≤ T.length * m
  | [] => by simp [stepsL]
  | u :: T => by
    have ih := steps_len m es T
    unfold stepsL at ih ⊢
    rw [List.flatMap_cons, List.length_append, List.length_map, List.length_cons, Nat.add_mul, Nat.one_mul]
    have := nearL_len m es u
    omega
/-! ### the setting behind a slide -/
theorem move_perm {u v : Int} : ∀ {S : List Int}, S.Nodup → u ∈ S → (S.map fun l => if l = u then v else l).Perm (S.filter (fun l => !decide (l = u)) ++ [v])
  | [], _, h => nomatch h
  | a :: S, nd, h => by
    have nd' := List.nodup_cons.mp nd
    by_cases e : a = u
    · subst e
      rw [List.map_cons, if_pos rfl, List.filter_cons_of_neg (by simp)]
      have e1 : S.map (fun l => if l = a then v else l) = S := by
        have q : S.map (fun l => if l = a then v else l) = S.map id :=
          List.map_congr_left fun l hl => if_neg fun z => nd'.1 (by rw [← z]; exact hl)
        rw [q, List.map_id]
      have e2 : S.filter (fun l => !decide (l = a)) = S := List.filter_eq_self.mpr fun l hl => by
        have : l ≠ a := fun z => nd'.1 (z ▸ hl)
        simp [this]
      rw [e1, e2]
      exact (List.perm_append_singleton v S).symm
    · rw [List.map_cons, if_neg e, List.filter_cons_of_pos (by simp [e]), List.cons_append]
      exact List.Perm.cons a (move_perm nd'.2 ((List.mem_cons.mp h).resolve_left fun z => e z.symm))
def after (S : List Int) (u v : Int) : List Int := srtI (S.filter (fun l => !decide (l = u)) ++ [v])
theorem after_eq {S : List Int} {u v : Int} (nd : S.Nodup) (h : u ∈ S) : srtI (S.map fun l => if l = u then v else l) = after S u v := srtI_congr (move_perm nd h)
theorem IsFor.loop {m : Nat} {es : List (Int × Int)} (f : IsFor m es) (v : Int) : ordP v v ∉ es := fun h => by
  have := f.rng _ h
  unfold ordP at this
  rw [if_pos (Int.le_refl _)] at this
  simp only at this
  omega
theorem mem_after {S : List Int} {u v z : Int} : z ∈ after S u v ↔ (z ∈ S ∧ z ≠ u) ∨ z = v := by
  unfold after
  rw [mem_srtI, List.mem_append, List.mem_filter, List.mem_singleton, Bool.not_eq_true', decide_eq_false_iff_not]
theorem IsSet.after {m : Nat} {es : List (Int × Int)} {S : List Int} {u v : Int} (f : IsFor m es) (h : IsSet m es S) (hu : u ∈ S) (hv : v ∈ nearL m es u) (ho : oth m es S u v = []) :
    IsSet m es (after S u v) := by
  obtain ⟨rv, av⟩ := mem_nearL.mp hv
  have nv : v ∉ S := fun z => h.free v z u hu av
  have key : ∀ a ∈ S, a ≠ u → ordP a v ∉ es := fun a ha hne hin => by
    have : a ∈ oth m es S u v := mem_oth.mpr ⟨mem_nearL.mpr ⟨h.rng a ha, hin⟩, ha, hne⟩
    rw [ho] at this
    cases this
  refine ⟨srtI_asc ?_, fun z hz => ?_, fun a ha b hb => ?_⟩
  · refine List.nodup_append.mpr ⟨h.asc.nodup.filter _, List.pairwise_singleton _ _, fun a ha b hb e => ?_⟩
    rw [List.mem_singleton.mp hb] at e
    subst e
    exact nv (List.mem_filter.mp ha).1
  · rcases mem_after.mp hz with ⟨h1, _⟩ | rfl
    · exact h.rng z h1
    · exact rv
  · rcases mem_after.mp ha with ⟨h1, h2⟩ | rfl
    · rcases mem_after.mp hb with ⟨h3, h4⟩ | rfl
      · exact h.free a h1 b h3
      · exact key a h1 h2
    · rcases mem_after.mp hb with ⟨h3, h4⟩ | rfl
      · rw [ordP_comm]
        exact key b h3 h4
      · exact f.loop b
end TL
namespace TL
open PySem PySem.Spec PyProof.Rows L2
theorem Sm.ints {ns : List Int} {m : Nat} (h : ∀ v ∈ ns, sm v) (hm : ns.length ≤ m) : Sm (intsD ns) (m * 11) 1 :=
  Sm.tup (n := 10) (k := 0) (m := m) (fun d hd => by
    obtain ⟨p, hp, rfl⟩ := List.mem_map.mp hd
    exact Sm.int (h p hp)) (by rw [List.length_map]; exact hm)
theorem IsSet.shows {m : Nat} {es : List (Int × Int)} {S : List Int} (h : IsSet m es S) (hm : m ≤ 12) : Sm (intsD S) 132 1 :=
  Sm.ints (m := 12) (fun v hv => by have := h.rng v hv; unfold sm; omega) (by have := h.len; omega)
theorem IsFor.shows {m : Nat} {es : List (Int × Int)} (h : IsFor m es) (hm : m ≤ 12) : Sm (forD m es) 600 3 := by
  have h1 : Sm (prsD es) (12 * 23) 2 := Sm.prs (fun p hp => by have := h.rng p hp; unfold smP sm; omega) (by have := h.count; omega)
  have h2 : Sm (.int (m : Int)) (12 * 23) 2 := (Sm.int (by unfold sm; omega)).le (by decide) (by decide)
  refine (Sm.tup (n := 12 * 23) (k := 2) (m := 2) (fun d hd => ?_) (Nat.le_refl _)).le (by decide) (by decide)
  rcases List.mem_cons.mp hd with rfl | hd
  · exact h2
  · obtain rfl := List.mem_singleton.mp hd
    exact h1
theorem slides_small {m : Nat} {es : List (Int × Int)} {S : List Int} (h : IsSet m es S) (hm : m ≤ 12) : ∀ p ∈ slidesP m es S, smP p := by
  rintro ⟨u, v⟩ hp
  obtain ⟨h1, h2, _⟩ := mem_slidesP.mp hp
  have a := h.rng u h1
  have b := (mem_nearL.mp h2).1
  unfold smP sm
  exact ⟨⟨by show (-1000 : Int) ≤ u; omega, by show u ≤ 1000; omega⟩, by show (-1000 : Int) ≤ v; omega, by show v ≤ 1000; omega⟩
theorem slides_len {m : Nat} {es : List (Int × Int)} {S : List Int} (h : IsSet m es S) (hm : m ≤ 12) : (slidesP m es S).length ≤ 144 := by
  have h1 := List.length_filter_le (fun p => decide (oth m es S p.1 p.2 = [])) (stepsL m es S)
  have h2 := steps_len m es S
  have h3 : S.length * m ≤ 12 * 12 := Nat.mul_le_mul (by have := h.len; omega) hm
  unfold slidesP
  omega
theorem Sm.two {d e : PyData} {n k : Nat} (h1 : Sm d n k) (h2 : Sm e n k) : Sm (.list [d, e]) (2 * (n + 1)) (k + 1) :=
  Sm.lst (m := 2) (fun z hz => by
    rcases List.mem_cons.mp hz with rfl | hz
    · exact h1
    · obtain rfl := List.mem_singleton.mp hz
      exact h2) (Nat.le_refl _)
theorem show2 {m : Nat} {es : List (Int × Int)} {S : List Int} (f : IsFor m es) (h : IsSet m es S) (hm : m ≤ 12) : Shows (.list [forD m es, intsD S]) :=
  (Sm.two (f.shows hm) ((h.shows hm).le (by decide) (by decide))).shows (by decide) (by decide)
end TL
namespace TL
open PySem PySem.Spec PyProof.Rows L2
/-! ### enumerate(a tuple) -/
abbrev tupIt (l : Addr) : Obj := { cls := .type "tuple_iterator", data := .fields #[.ref l, .int 0 0] }
abbrev enumOb (it : Addr) : Obj :=
  { cls := .type "enumerate", data := .fields #[.none, .bool false, .ref it, rawInt 0, .none, .none] }
theorem meets_enumT (l : Addr) (items : Array Value) (n : Nat) (dct : Option Addr) (sl : Array (Option Value)) :
    Meets (Builtin.«enumerate.__new__» ⟨[.type "enumerate", .ref l], []⟩) (fun _ R s =>
      s.heap.get? l = some { cls := .type "tuple", dict := dct, data := .seq items n, slots := sl } ∧
      R (.ok (.ret (.ref (s.heap.push (tupIt l)).objs.size)))
        { s with heap := (s.heap.push (tupIt l)).push (enumOb s.heap.objs.size) }) :=
  .of_wp fun prog w A R s h => by
    obtain ⟨hp, g, d, tk, os⟩ := s
    obtain ⟨hl, h⟩ := h
    have hsub := sub_enumerate
    have hL : Heap.IsTuple (Shared.heap ⟨hp, g, d, tk, os⟩) l items := ⟨_, hl, rfl, n, rfl⟩
    wp_walk using AutoSeq1.wpAny_loadPart' hl
    refine wpAny_stack_any fun st => wpAny_pure ?_
    split
    · rename_i c _ _ _ _ _
      cases (c == Value.type "enumerate")
      · wp_walk using AutoSeq1.wpAny_loadPart' hl, wpAny_pyIter_tuple hL
        exact ⟨_, rfl, h⟩
      · wp_walk using AutoSeq1.wpAny_loadPart' hl, wpAny_pyIter_tuple hL
        exact ⟨_, rfl, h⟩
    · wp_walk using AutoSeq1.wpAny_loadPart' hl, wpAny_pyIter_tuple hL
      exact ⟨_, rfl, h⟩
section
variable {prog : Program} {w : World} {A : Around} {E : Value → Shared → Prop} {s : Shared}
theorem call_enumT {l : Addr} {items : Array Value} {Q : Value → Shared → Prop} (hL : s.heap.IsTuple l items)
    (h : ∀ h', IsEnum h' (s.heap.objs.size + 1) s.heap.objs.size 0 .none → h'.IsTupleIter s.heap.objs.size l 0 →
      (∀ b o, s.heap.get? b = some o → h'.get? b = some o) → Q (.ref (s.heap.objs.size + 1)) { s with heap := h' }) :
    wpAny (model prog w) A (call (.type "enumerate") [.ref l]) Q E s := by
  obtain ⟨⟨c, dct, dt, sl⟩, hl, hc, n, hd⟩ := hL
  obtain rfl : c = .type "tuple" := hc
  obtain rfl : dt = .seq items n := hd
  refine callType_new F.called_enumerate (by decide) (F.typeCall_enumerate_1 _) (F.newCall_enumerate_1 _)
    (fun obj => F.args_object_init_2 obj _) F.entry_enumerate_new (meets_enumT l items n dct sl) ⟨hl, ?_⟩
  have hz : (s.heap.push (tupIt l)).objs.size = s.heap.objs.size + 1 := Heap.size_push ..
  show _ ∧ _
  rw [hz]
  have he : IsEnum ((s.heap.push (tupIt l)).push (enumOb s.heap.objs.size)) (s.heap.objs.size + 1) s.heap.objs.size 0 .none := by
    have q := Heap.get?_push_size (s.heap.push (tupIt l)) (o := enumOb s.heap.objs.size) rfl
    rw [hz] at q
    exact q
  exact ⟨⟨_, he, rfl⟩, h _ he ⟨_, Heap.get?_push_of_some _ (Heap.get?_push_size _ rfl), rfl, rfl⟩
    fun b o x => Heap.get?_push_of_some _ (Heap.get?_push_of_some _ x)⟩
end
/-- the tuple at a, each item in a new pair -/
def IteT (K : PySem.W.Frag) (a : Addr) : It :=
  ⟨fun i H => ∃ (xs : List V) (x : V), SqT K H a xs ∧ xs[i]? = some x,
   fun i H v H' => ∃ T x, v = .ref T ∧ H T = none ∧ H' = upd H T (.tup [.int (i : Nat), x]) ∧ ∀ xs, SqT K H a xs → xs[i]? = some x,
   fun i H => ∃ xs : List V, SqT K H a xs ∧ xs.length ≤ i⟩
theorem turn_enumT {P : Program} {w : World} {K : PySem.W.Frag} {elts : List Expr} {kk : Nat} {tpos : Pos} (a e it : Addr) (ha : a ≠ it) :
    Turn P w K (.Tuple elts kk tpos) (IteT K a) [e, it] e
      (fun i h => (∃ old, IsEnum h e it ((i : Nat) : Int) old) ∧ h.IsTupleIter it a i ∧ e ≠ it) where
  mem := by simp
  obj := fun i h st b hb => by
    obtain ⟨⟨old, he⟩, ⟨o, ho, hc, hd⟩, _⟩ := st
    have e' : b = e ∨ b = it := by simpa using hb
    rcases e' with rfl | rfl
    · exact ⟨_, he, fun v q => nomatch q⟩
    · exact ⟨o, ho, fun v q => by rw [hd] at q; cases q⟩
  keep := fun i h h' st k => by
    obtain ⟨⟨old, he⟩, hi, hne⟩ := st
    exact ⟨⟨old, k e (by simp) _ he⟩, hi.at fun o q => k it (by simp) o q, hne⟩
  item := by
    intro X hP hw hK hc i pins s σ H E I hf st hg
    subst hP hw hK
    obtain ⟨⟨old, he⟩, hit, hne⟩ := st
    obtain ⟨xs, x, hq, hx⟩ := hg
    obtain ⟨its, rv, p, hz⟩ := I.tuple hq
    obtain ⟨u, hu, ru⟩ := rv.get hx
    have hel : e < s.heap.objs.size := Heap.lt_size he
    have hil : it < s.heap.objs.size := by
      obtain ⟨_, q, _⟩ := hit
      exact Heap.lt_size q
    have hi : i < its.toArray.size := by
      rw [List.size_toArray]
      exact (List.getElem?_eq_some_iff.mp hu).1
    obtain ⟨o0, ho0, hc0, n0, hd0⟩ := p
    have pT : s.heap.IsTuple a its.toArray := ⟨o0, ho0, hc0, n0, hd0⟩
    refine wpAny_pyNext_enum_itemD (Draws.tuple (A := X.A.in1) (I.ok.hd hc) it a ha its.toArray) he ⟨hit, pT⟩ hi hne (fun z => ?_) fun x' h' tk hP ho hit' hT hsz hk => ?_
    · rcases List.mem_cons.mp z with z | z
      · exact hne z
      · have z := List.mem_singleton.mp z
        rw [z] at he
        have q := Option.some.inj (ho0.symm.trans he)
        rw [q] at hc0
        exact absurd (show Value.type "enumerate" = Value.type "tuple" from hc0) (by decide)
    have ex : x' = u := by
      have h1 : its.toArray[i]? = some x' := hP
      have h2 : its.toArray[i]? = some u := by simpa using hu
      exact Option.some.inj (h1.symm.trans h2)
    subst ex
    refine ⟨_, rfl, wpAny_letOwnedTupleGo_enum (s := { s with heap := h', toks := tk + 1 }) ho fun h'' he' sb => ?_⟩
    have hT2 : h''.get? s.heap.objs.size = some { cls := .type "tuple", data := .seq #[.int i tk, x'] } := (sb.2 _ (Nat.ne_of_gt hel)).trans hT
    have new : ObjOk X.prog X.w (upd H s.heap.objs.size (.tup [.int (i : Nat), x])) h'' s.heap.objs.size (.tup [.int (i : Nat), x]) :=
      ⟨by show 2 ≤ sizeLine; decide, [.int i tk, x'], .cons ⟨_, rfl⟩ (.cons ru .nil), ⟨_, hT2, rfl, _, rfl⟩⟩
    have kept : ∀ b ob, b ∉ [e, it] → s.heap.get? b = some ob → h''.get? b = some ob := fun b ob hb q =>
      (sb.2 b (fun z => hb (by simp [z]))).trans (hk b ob (fun z => hb (by simp [z])) (fun z => hb (by simp [z])) q)
    have I1 := I.turnedNew (t' := tk + 1) (ch := [e, it]) kept hf (Nat.le_refl _) new
    refine ⟨.ref s.heap.objs.size, _, I1, rfl, ⟨_, x, rfl, I.hok.fresh (Nat.le_refl _), rfl, fun ys hy => by rw [I.tuple_inj hy hq]; exact hx⟩,
      ⟨⟨x', ?_⟩, hit'.1.at fun o q => (sb.2 it (Ne.symm hne)).trans q, hne⟩, fun b hb => ?_⟩
    · have e1 : ((i + 1 : Nat) : Int) = (i : Int) + 1 := by omega
      rw [e1]
      exact he'
    · have hb' : b < s.heap.objs.size := by
        have e' : b = e ∨ b = it := by simpa using hb
        rcases e' with rfl | rfl
        · exact hel
        · exact hil
      rw [upd_ne (Nat.ne_of_lt hb')]
      exact (hf b hb).1
  done := by
    intro X hP hw hK hc i pins s σ H E I hf st hg
    subst hP hw hK
    obtain ⟨⟨old, he⟩, hit, hne⟩ := st
    obtain ⟨xs, hq, hx⟩ := hg
    obtain ⟨its, rv, p, hz⟩ := I.tuple hq
    obtain ⟨f0, f1, f2, f3, f4, f5⟩ := hf it (by simp)
    have hl := rv.length
    obtain ⟨o0, ho0, hc0, n0, hd0⟩ := p
    have pT : s.heap.IsTuple a its.toArray := ⟨o0, ho0, hc0, n0, hd0⟩
    have hT : s.TypeIs (.ref e) "enumerate" := ⟨_, he, rfl⟩
    unfold pyNext
    refine wpAny_bind (wpAny_attempt (wpAny_callSpecial?_slot (name := Str.ofString "__next__") hT F.slot_enumerate_next
      (wpAny_call_entry F.slot_enumerate_next hT F.entry_enumerate_next ?_ (F.args_enumerate_next_1 _))))
    show wpAny _ _ (field (.ref e) 2 >>= _) _ _ _
    refine wpAny_bind (wpAny_field he rfl (x := .ref it) rfl ?_)
    refine wpAny_bind (wpAny_nextOf_tuple_end (I.ok.hd hc) hit pT (by simp; omega) fun h' x he' hx' => ?_)
    obtain ⟨o, ho, hc⟩ := hx'
    refine wpAny_bind (wpAny_isInstance (T := "StopIteration") (b := true) ⟨o, ho, hc⟩ isSubtype_stop ?_)
    exact wpAny_pure ⟨rfl, I.turned (t' := s.toks) (fun b o hb q => he' b o hb q) f0 f1 f3 f4 f5⟩
  self := fun A i s Q E st h => by
    obtain ⟨⟨_, he⟩, _⟩ := st
    exact wpAny_pyIter_enum he h
def iEnumT (K : PySem.W.Frag) (ta : TA) : TI := fun σ H R => ta σ H fun vs H1 => ∃ a xs, vs = [.ref a] ∧ SqT K H1 a xs ∧ R (IteT K a) H1
theorem pi_enumT (K : PySem.W.Frag) {X : Cx} {e : Expr} {ta : TA} {p pos tpos : Pos} {elts : List Expr} {kk : Nat} (hg : Gl X "enumerate") (hm : X.mg "enumerate" = none)
    (ha : PA X [e] ta) (hK : X.K = K := by rfl) (hs : starEach [e] X.env = [(false, eval e X.env)] := by rfl) :
    PI X (.Tuple elts kk tpos) (.Call (.Name "enumerate" p) [e] [] pos) (iEnumT K ta) := by
  subst hK
  refine ⟨fun pins s σ H R I h => ?_⟩
  refine Call_ (ld_blt I hg hm boot_enumerate (PyProof.Rows.callWith_type1
    (thn (ha.run pos pins s σ H _ I h) fun us s1 ⟨vs, H1, I1, r1, q1⟩ => ?_) hs rfl))
  obtain ⟨a, xs, ex, hq, q⟩ := q1
  subst ex
  cases r1 with
  | cons r rr =>
    cases rr
    cases r
    obtain ⟨its, rv, ⟨o0, ho0, hc0, n0, hd0⟩, hz⟩ := I1.tuple hq
    have pT : s1.heap.IsTuple a its.toArray := ⟨o0, ho0, hc0, n0, hd0⟩
    refine call_enumT pT fun h' he hit hk => wpAny_pyIter_enum he ?_
    have I2 : Inv X pins σ H1 { s1 with heap := h' } := I1.kept (t' := s1.toks) hk
    refine ⟨s1.heap.objs.size + 1, [s1.heap.objs.size + 1, s1.heap.objs.size], _, _, H1, rfl, I2,
      turn_enumT a (s1.heap.objs.size + 1) s1.heap.objs.size (Nat.ne_of_lt (Heap.lt_size ho0)), ⟨⟨.none, he⟩, hit, Nat.succ_ne_self _⟩, fun b hb => ?_, q⟩
    have hle : s1.heap.objs.size ≤ b := by
      have e' : b = s1.heap.objs.size + 1 ∨ b = s1.heap.objs.size := by simpa using hb
      rcases e' with z | z
      · rw [z]; exact Nat.le_add_right _ _
      · rw [z]; exact Nat.le_refl _
    exact I1.fpOk hle (I1.hok.fresh hle)
/-- a loop over enumerate(a tuple): the new pair at T -/
theorem for_enumT {K : PySem.W.Frag} {a : Addr} {xs : List V} {g : TG} {tb : TS} {D : Ends} {σ : L2.St} {H : Hp} (Pv : Nat → L2.St → Hp → Prop) (h0 : Pv 0 σ H) (hl : ∀ i σ H, Pv i σ H → SqT K H a xs)
    (hs : ∀ i x T σ H, xs[i]? = some x → H T = none → Pv i σ H →
      g (.ref T) σ (upd H T (.tup [.int (i : Nat), x])) fun σ2 H2 => tb { D with nx := Pv (i + 1), ct := Pv (i + 1), bk := D.nx } σ2 H2)
    (hd : ∀ σ H, Pv xs.length σ H → D.nx σ H) :
    ∃ W : Nat → Nat → L2.St → Hp → Prop, (∃ m, W 0 m σ H) ∧ ∀ i m σ H, W i m σ H →
      ((IteT K a).stop i H ∧ D.nx σ H) ∨ ((IteT K a).go i H ∧ ∃ N : L2.St → Hp → Prop, (∀ σ' H', N σ' H' → ∃ m', m' < m ∧ W (i + 1) m' σ' H') ∧
        ∀ v H', (IteT K a).yld i H v H' → g v σ H' fun σ2 H2 => tb { D with nx := N, ct := N, bk := D.nx } σ2 H2) := by
  refine ⟨fun i m σ H => m = xs.length - i ∧ i ≤ xs.length ∧ Pv i σ H, ⟨xs.length, rfl, Nat.zero_le _, h0⟩, fun i m σ H hW => ?_⟩
  obtain ⟨em, hi, p⟩ := hW
  by_cases hlt : i < xs.length
  · refine .inr ⟨⟨xs, _, hl i σ H p, List.getElem?_eq_getElem hlt⟩, Pv (i + 1), fun σ' H' p' => ⟨xs.length - (i + 1), by omega, rfl, hlt, p'⟩, fun v H' y => ?_⟩
    obtain ⟨T, x, rfl, nT, rfl, hx⟩ := y
    exact hs i x T σ H (hx _ (hl i σ H p)) nT p
  · obtain rfl : i = xs.length := by omega
    exact .inl ⟨⟨xs, hl _ σ H p, Nat.le_refl _⟩, hd σ H p⟩
end TL
namespace TL
open PySem PySem.Spec PyProof.Rows L2
section
variable {X : Cx}
/-- name = {..} on one line, the name a local -/
theorem ps_setDc {i : Nat} {y : Str} {py : Pos} {kx vx tg iter : Expr} {ifs : List Expr} {scope : Scope} {own : List (Str × Nat)} {pos spos : Pos}
    {wi : TI} {g : TG} {tt : TT} {tk tv : TE} (hc : X.calm = true) (hN : X.N.Nodup) (hy : X.N[i]? = some y) (hyl : X.env.scope.names.lookup y = some .local)
    (hsw : swapsWith (.DictComp kx vx [⟨tg, iter, ifs, 0⟩] scope pos) (some (.Name y py)) spos.line X.env = pure true)
    (hi : PI X tg iter wi) (ok : BlkOk X.N X.env.scope scope own)
    (hg : ∀ (s : Shared) (H : Hp) (C : Addr) (cl : List (Str × Addr)) (fp : List Addr),
      PG (X.blk s H scope (compEnvC scope cl C X.env) fp) tg g)
    (ht : ∀ (s : Shared) (H : Hp) (C : Addr) (cl : List (Str × Addr)) (fp : List Addr),
      PTs (X.blk s H scope (compEnvC scope cl C X.env) fp) ifs tt)
    (hk : ∀ (s : Shared) (H : Hp) (C : Addr) (cl : List (Str × Addr)) (fp : List Addr),
      PE (X.blk s H scope (compEnvC scope cl C X.env) fp) kx tk)
    (he : ∀ (s : Shared) (H : Hp) (C : Addr) (cl : List (Str × Addr)) (fp : List Addr),
      PE (X.blk s H scope (compEnvC scope cl C X.env) fp) vx tv)
    (hs : ∀ x, foldedSetIterable iter X.env x = pure x := by intro _; rfl) :
    PS X (.Assign [.Name y py] (.DictComp kx vx [⟨tg, iter, ifs, 0⟩] scope pos) spos) (tAsg (tDc wi g tt tk tv (own.map (·.2))) (gName i)) := by
  refine ⟨fun pins s σ H D I h => ?_⟩
  rw [exec_Assign_Name_used _ _ _ _ hsw]
  refine wpAny_bind (wpAny_standAt (wpAny_bind ?_))
  show wpAny _ X.A (do
    let _ ← comprehension (.DictComp kx vx [⟨tg, iter, ifs, 0⟩] scope pos) scope X.env
      (firstIterPos [⟨tg, iter, ifs, 0⟩] pos) newDict false (eval iter X.env) (some (assign (.Name y py) X.env))) _ _ s
  have h2 : tDc wi g tt tk tv (own.map (·.2)) σ H (fun x H1 => gName i x σ H1 D.nx) := h
  refine wpAny_bind (thn (dc_core (Qf := fun _ s' => SP X pins D .next s') hc hN I hi ok hg ht hk he hs h2
    fun L C s' m H' I' q hn f => ?_) fun _ s' hq => wpAny_pure (wpAny_pure hq))
  show wpAny _ _ (assign (.Name y py) X.env (.ref L)) _ _ _
  refine wpAny_assign_Name (store_ok2 (v := V.ref L) I' hN hy (.inl hyl) rfl (fun s2 I2 ⟨a, sb, ha⟩ => ?_) (.inr hyl))
  obtain ⟨f0, f1, f2, f3, f4, f5⟩ := f
  have haC : C ≠ a := by
    rcases ha with z | z
    · rw [z]; exact f1
    · exact fun e => f4 y a z e.symm
  exact ⟨m, hn.sameBut sb haC, fun h3 sb3 => ⟨_, H', I2.turned (t' := s2.toks) (fun b o hb e => (sb3.2 b hb).trans e) f0 f1 f3 f4 f5, q⟩⟩
theorem sw_trueD {kx vx : Expr} {gs : List Comprehension} {scope : Scope} {pos py : Pos} {y : Str} {l : Nat} {env : Env} (hk : env.scope.kind = .function)
    (hy : env.scope.names.lookup y = some .local) (hl : (py.line == pos.line) = true)
    (ha : (scope.names.any fun (n, k) => n == y && (k == .local || k == .cell)) = false) :
    swapsWith (.DictComp kx vx gs scope pos) (some (.Name y py)) l env = pure true := by
  have ky : env.kindOf y = some .local := hy
  have hb : env.blockKind = .function := by
    unfold Env.blockKind
    rw [hk]
    rfl
  unfold swapsWith
  simp only [hb, ky, ha, Expr.pos, hl]
  rfl
end
/-! ### tables from ints to ints -/
def tab (f : Int → Int) (vs : List Int) : List (Key × V) := vs.map fun v => ((Sum.inl v : Key), V.int (f v))
theorem tab_val (f : Int → Int) (v : Int) : ∀ vs : List Int, valV (tab f vs) (Sum.inl v) = if v ∈ vs then some (V.int (f v)) else none
  | [] => rfl
  | u :: vs => by
    have ih := tab_val f v vs
    unfold tab at ih ⊢
    rw [List.map_cons]
    by_cases e : u = v
    · subst e
      rw [valV_pos rfl, if_pos List.mem_cons_self]
    · have e' : ¬ (Sum.inl u : Key) = Sum.inl v := fun z => e (Sum.inl.inj z)
      rw [valV_neg e', ih]
      by_cases h : v ∈ vs
      · rw [if_pos h, if_pos (List.mem_cons_of_mem _ h)]
      · rw [if_neg h, if_neg fun z => (List.mem_cons.mp z).elim (fun z => e z.symm) h]
theorem tab_len (f : Int → Int) (vs : List Int) : (tab f vs).length = vs.length := List.length_map _
theorem tab_snoc (f : Int → Int) (vs : List Int) (v : Int) (h : v ∉ vs) : putK (tab f vs) (Sum.inl v) (V.int (f v)) = tab f (vs ++ [v]) := by
  rw [putK_new _ (by rw [tab_val, if_neg h])]
  unfold tab
  rw [List.map_append]
  rfl
/-- {v: f(v) for v in ..}: the turns leave what was tracked as it was -/
theorem dc_tab {J : It} {g : TG} {tk tv : TE} {vs : List Nat} {σ : L2.St} {H1 : Hp} {D : Addr} {Qd : Hp → Prop} (f : Int → Int) (bs : List Int) (σb : Int → L2.St)
    (nd : bs.Nodup) (nD : H1 D = none) (hl : bs.length ≤ 1000)
    (hgo : ∀ j H', j < bs.length → Same H1 H' → J.go j H') (hst : ∀ H', Same H1 H' → J.stop bs.length H')
    (hg : ∀ j b x H' H'', bs[j]? = some b → Same H1 H' → J.yld j H' x H'' → H'' = H' ∧ ∀ Q : L2.St → Hp → Prop, Q (σb b) H' → g x (wipe σ vs) H' Q)
    (hw : ∀ b, wipe (σb b) vs = wipe σ vs)
    (hk : ∀ b ∈ bs, ∀ H' (Q : VK), Same H1 H' → Q (.int b) H' → tk (σb b) H' Q)
    (hv : ∀ b ∈ bs, ∀ H' (Q : VK), Same H1 H' → (∀ H2, Same H' H2 → Q (.int (f b)) H2) → tv (σb b) H' Q)
    (hd : ∀ H', Same H1 H' → H' D = some (.dK (tab f bs)) → Qd H') :
    ∃ W : Nat → Nat → Hp → Prop, (∃ m, W 0 m (upd H1 D (.dK []))) ∧ ∀ i m H, W i m H →
      (J.stop i H ∧ Qd H) ∨
      (J.go i H ∧ ∃ Nx : Hp → Prop, (∀ H', Nx H' → ∃ m', m' < m ∧ W (i + 1) m' H') ∧
        ∀ x H', J.yld i H x H' → g x (wipe σ vs) H' fun σ2 H2 => wipe σ2 vs = wipe σ vs ∧ tYes σ2 H2 fun b H3 =>
          if b = true then
            tk σ2 H3 fun y H4 => tv σ2 H4 fun z H5 => ∃ kvs k, y = kV k ∧ H5 D = some (.dK kvs) ∧ kvs.length < sizeLine ∧ Nx (upd H5 D (.dK (putK kvs k z)))
          else Nx H3) := by
  let Pv : Nat → Hp → Prop := fun i H' => Same H1 H' ∧ H' D = some (.dK (tab f (bs.take i)))
  refine ⟨fun i m H => m = bs.length - i ∧ i ≤ bs.length ∧ Pv i H, ⟨bs.length, rfl, Nat.zero_le _, same_upd nD, upd_same⟩, fun i m H hW => ?_⟩
  obtain ⟨em, hi, s, eD⟩ := hW
  by_cases hlt : i < bs.length
  · refine .inr ⟨hgo i H hlt s, Pv (i + 1), fun H' p => ⟨bs.length - (i + 1), by omega, rfl, hlt, p⟩, fun x H' y => ?_⟩
    obtain ⟨rfl, k⟩ := hg i bs[i] x H H' (List.getElem?_eq_getElem hlt) s y
    have mb : bs[i] ∈ bs := List.getElem_mem hlt
    refine k _ ⟨hw _, yesI (iteT (hk _ mb _ _ s (hv _ mb _ _ s fun H5 s5 => ?_)))⟩
    have tk' : bs.take (i + 1) = bs.take i ++ [bs[i]] := by rw [List.take_add_one, List.getElem?_eq_getElem hlt]; rfl
    have ni : bs[i] ∉ bs.take i := fun z => by
      obtain ⟨j, hj, e⟩ := List.mem_iff_getElem.mp z
      rw [List.length_take] at hj
      rw [List.getElem_take] at e
      have := (List.getElem_inj nd).mp e
      omega
    refine ⟨tab f (bs.take i), Sum.inl bs[i], rfl, s5 _ _ eD, ?_, ?_, ?_⟩
    · rw [tab_len, List.length_take]
      exact small1000 (by omega)
    · intro b o e
      rw [upd_ne (ne_of_none e nD)]
      exact s5 _ _ (s _ _ e)
    · rw [upd_same, tab_snoc f _ _ ni, tk']
  · obtain rfl : i = bs.length := by omega
    rw [List.take_length] at eD
    exact .inl ⟨hst H s, hd H s eD⟩
end TL
namespace TL
/-! ### slides one after another -/
def walk (m : Nat) (es : List (Int × Int)) : List Int → List (Int × Int) → Option (List Int)
  | S, [] => some S
  | S, p :: ps => if p ∈ slidesP m es S then walk m es (after S p.1 p.2) ps else none
theorem walk_cons {m : Nat} {es : List (Int × Int)} {S T : List Int} {p : Int × Int} {ps : List (Int × Int)} (h : walk m es S (p :: ps) = some T) :
    p ∈ slidesP m es S ∧ walk m es (after S p.1 p.2) ps = some T := by
  unfold walk at h
  split at h
  · rename_i h1
    exact ⟨h1, h⟩
  · cases h
theorem IsSet.slide {m : Nat} {es : List (Int × Int)} {S : List Int} {p : Int × Int} (f : IsFor m es) (h : IsSet m es S) (hp : p ∈ slidesP m es S) : IsSet m es (TL.after S p.1 p.2) := by
  obtain ⟨u, v⟩ := p
  obtain ⟨h1, h2, h3⟩ := mem_slidesP.mp hp
  exact IsSet.after f h h1 h2 h3
theorem mem_nearL_comm {m : Nat} {es : List (Int × Int)} (f : IsFor m es) {u v : Int} : v ∈ nearL m es u ↔ u ∈ nearL m es v := by
  rw [mem_nearL, mem_nearL, ordP_comm v u]
  constructor
  · rintro ⟨_, h⟩
    refine ⟨?_, h⟩
    rcases f.mem_ord.mp h with q | q
    · have := f.rng _ q; simp only at this; omega
    · have := f.rng _ q; simp only at this; omega
  · rintro ⟨_, h⟩
    refine ⟨?_, h⟩
    rcases f.mem_ord.mp h with q | q
    · have := f.rng _ q; simp only at this; omega
    · have := f.rng _ q; simp only at this; omega
theorem adj_free {m : Nat} {es : List (Int × Int)} {S : List Int} (h : IsSet m es S) {u v : Int} (hu : u ∈ S) (hv : v ∈ nearL m es u) : v ∉ S :=
  fun z => h.free v z u hu (mem_nearL.mp hv).2
/-- another lamp's slide after a slide -/
theorem slide_other {m : Nat} {es : List (Int × Int)} {S : List Int} (f : IsFor m es) (h : IsSet m es S) {u v u' v' : Int} (p : (u, v) ∈ slidesP m es S) (q : (u', v') ∈ slidesP m es S) (ne : u ≠ u') :
    (u', v') ∈ slidesP m es (after S u v) ↔ v' ∉ nearL m es v := by
  obtain ⟨hu, hv, ho⟩ := mem_slidesP.mp p
  obtain ⟨hu', hv', ho'⟩ := mem_slidesP.mp q
  have nv := adj_free h hu hv
  rw [mem_slidesP]
  constructor
  · rintro ⟨_, _, o⟩ z
    have : v ∈ oth m es (after S u v) u' v' := mem_oth.mpr ⟨(mem_nearL_comm f).mp z, mem_after.mpr (.inr rfl), fun e => nv (e ▸ hu')⟩
    rw [o] at this
    cases this
  · intro z
    refine ⟨mem_after.mpr (.inl ⟨hu', fun e => ne e.symm⟩), hv', ?_⟩
    refine List.eq_nil_iff_forall_not_mem.mpr fun a ha => ?_
    obtain ⟨h1, h2, h3⟩ := mem_oth.mp ha
    rcases mem_after.mp h2 with ⟨h4, h5⟩ | rfl
    · have : a ∈ oth m es S u' v' := mem_oth.mpr ⟨h1, h4, h3⟩
      rw [ho'] at this
      cases this
    · exact z ((mem_nearL_comm f).mp h1)
theorem slide_same {m : Nat} {es : List (Int × Int)} {S : List Int} (f : IsFor m es) (h : IsSet m es S) {u v v' : Int} (p : (u, v) ∈ slidesP m es S) : (u, v') ∉ slidesP m es (after S u v) := by
  obtain ⟨hu, hv, ho⟩ := mem_slidesP.mp p
  have nv := adj_free h hu hv
  intro z
  rcases mem_after.mp (mem_slidesP.mp z).1 with ⟨_, h2⟩ | h2
  · exact h2 rfl
  · exact nv (h2 ▸ hu)
theorem slide_back {m : Nat} {es : List (Int × Int)} {S : List Int} (f : IsFor m es) (h : IsSet m es S) {u v : Int} (p : (u, v) ∈ slidesP m es S) : (v, u) ∈ slidesP m es (after S u v) := by
  obtain ⟨hu, hv, ho⟩ := mem_slidesP.mp p
  refine mem_slidesP.mpr ⟨mem_after.mpr (.inr rfl), (mem_nearL_comm f).mp hv, ?_⟩
  refine List.eq_nil_iff_forall_not_mem.mpr fun a ha => ?_
  obtain ⟨h1, h2, h3⟩ := mem_oth.mp ha
  rcases mem_after.mp h2 with ⟨h4, h5⟩ | h4
  · exact h.free a h4 u hu (mem_nearL.mp h1).2
  · exact h3 h4
theorem after_comm {m : Nat} {es : List (Int × Int)} {S : List Int} (f : IsFor m es) (h : IsSet m es S) {u v u' v' : Int} (p : (u, v) ∈ slidesP m es S) (q : (u', v') ∈ slidesP m es S) (ne : u ≠ u')
    (ap : v' ∉ nearL m es v) : after (after S u v) u' v' = after (after S u' v') u v := by
  obtain ⟨hu, hv, ho⟩ := mem_slidesP.mp p
  obtain ⟨hu', hv', ho'⟩ := mem_slidesP.mp q
  have nv := adj_free h hu hv
  have nv' := adj_free h hu' hv'
  have s1 := IsSet.slide f (IsSet.slide f h p) ((slide_other f h p q ne).mpr ap)
  have ap' : v ∉ nearL m es v' := fun z => ap ((mem_nearL_comm f).mp z)
  have s2 := IsSet.slide f (IsSet.slide f h q) ((slide_other f h q p (Ne.symm ne)).mpr ap')
  refine asc_ext s1.asc s2.asc fun z => ?_
  have e1 : v ≠ u' := fun e => nv (e ▸ hu')
  have e2 : v' ≠ u := fun e => nv' (e ▸ hu)
  rw [mem_after, mem_after, mem_after, mem_after]
  constructor
  · rintro (⟨⟨a, b⟩ | a, c⟩ | a)
    · exact .inl ⟨.inl ⟨a, c⟩, b⟩
    · exact .inr a
    · exact .inl ⟨.inr a, by rw [a]; exact e2⟩
  · rintro (⟨⟨a, b⟩ | a, c⟩ | a)
    · exact .inl ⟨.inl ⟨a, c⟩, b⟩
    · exact .inr a
    · exact .inl ⟨.inr a, by rw [a]; exact e1⟩
theorem walk_two {m : Nat} {es : List (Int × Int)} {S : List Int} (f : IsFor m es) (h : IsSet m es S) {p q : Int × Int} (hp : p ∈ slidesP m es S) (hq : q ∈ slidesP m es S) (ne : p.1 ≠ q.1)
    (ap : q.2 ∉ nearL m es p.2) : walk m es S [p, q] = some (after (after S p.1 p.2) q.1 q.2) := by
  have h2 : q ∈ slidesP m es (after S p.1 p.2) := (slide_other f h (u := p.1) (v := p.2) (u' := q.1) (v' := q.2) hp hq ne).mpr ap
  unfold walk
  rw [if_pos hp]
  unfold walk
  rw [if_pos h2]
  rfl
end TL
namespace TL
/-! ### labels: vertices that edges join have one label -/
inductive Conn (es : List (Int × Int)) : Int → Int → Prop
  | refl (a : Int) : Conn es a a
  | step {a b c : Int} : Conn es a b → ((b, c) ∈ es ∨ (c, b) ∈ es) → Conn es a c
theorem Conn.trans {es : List (Int × Int)} {a b c : Int} (h : Conn es a b) (k : Conn es b c) : Conn es a c := by
  induction k with
  | refl => exact h
  | step _ e ih => exact .step ih e
theorem Conn.symm {es : List (Int × Int)} {a b : Int} (h : Conn es a b) : Conn es b a := by
  induction h with
  | refl => exact .refl _
  | step _ e ih => exact Conn.trans (.step (.refl _) e.symm) ih
theorem Conn.mono {es fs : List (Int × Int)} (s : ∀ p ∈ es, p ∈ fs) {a b : Int} (h : Conn es a b) : Conn fs a b := by
  induction h with
  | refl => exact .refl _
  | step _ e ih => exact .step ih (e.imp (s _) (s _))
def mrg (f : Int → Int) (a b : Int) : Int → Int := fun v => if f v = f a then f b else f v
structure Lab (es : List (Int × Int)) (vs : List Int) (f : Int → Int) : Prop where
  join : ∀ p ∈ es, p.1 ∈ vs → p.2 ∈ vs → f p.1 = f p.2
  conn : ∀ a ∈ vs, ∀ b ∈ vs, f a = f b → Conn (es.filter fun p => decide (p.1 ∈ vs) && decide (p.2 ∈ vs)) a b
theorem Lab.start (vs : List Int) : Lab [] vs id := ⟨(fun _ h => nomatch h), fun a _ b _ e => by
  have e : a = b := e
  rw [e]
  exact .refl _⟩
theorem filt_sub {es : List (Int × Int)} {p : Int × Int} {q : Int × Int → Bool} : ∀ r ∈ es.filter q, r ∈ (es ++ [p]).filter q := fun r hr => by
  rw [List.filter_append]
  exact List.mem_append_left _ hr
theorem Lab.skip {es : List (Int × Int)} {vs : List Int} {f : Int → Int} {p : Int × Int} (h : Lab es vs f) (n : ¬ (p.1 ∈ vs ∧ p.2 ∈ vs)) : Lab (es ++ [p]) vs f where
  join := fun r hr h1 h2 => by
    rcases List.mem_append.mp hr with hr | hr
    · exact h.join r hr h1 h2
    · rw [List.mem_singleton.mp hr] at h1 h2
      exact absurd ⟨h1, h2⟩ n
  conn := fun a ha b hb e => (h.conn a ha b hb e).mono filt_sub
theorem Lab.merge {es : List (Int × Int)} {vs : List Int} {f : Int → Int} {p : Int × Int} (h : Lab es vs f) (h1 : p.1 ∈ vs) (h2 : p.2 ∈ vs) : Lab (es ++ [p]) vs (mrg f p.1 p.2) where
  join := fun r hr k1 k2 => by
    unfold mrg
    rcases List.mem_append.mp hr with hr | hr
    · rw [h.join r hr k1 k2]
    · rw [List.mem_singleton.mp hr, if_pos rfl]
      split <;> rfl
  conn := fun a ha b hb e => by
    have up : ∀ x ∈ vs, ∀ y ∈ vs, f x = f y → Conn ((es ++ [p]).filter fun p => decide (p.1 ∈ vs) && decide (p.2 ∈ vs)) x y := fun x hx y hy q => (h.conn x hx y hy q).mono filt_sub
    have ed : Conn ((es ++ [p]).filter fun p => decide (p.1 ∈ vs) && decide (p.2 ∈ vs)) p.1 p.2 := by
      refine .step (.refl _) (.inl ?_)
      refine List.mem_filter.mpr ⟨List.mem_append_right _ (List.mem_singleton.mpr rfl), ?_⟩
      rw [Bool.and_eq_true, decide_eq_true_eq, decide_eq_true_eq]
      exact ⟨h1, h2⟩
    unfold mrg at e
    by_cases ea : f a = f p.1
    · by_cases eb : f b = f p.1
      · exact up a ha b hb (ea.trans eb.symm)
      · rw [if_pos ea, if_neg eb] at e
        exact ((up a ha _ h1 ea).trans ed).trans (up _ h2 b hb e)
    · by_cases eb : f b = f p.1
      · rw [if_neg ea, if_pos eb] at e
        exact (((up b hb _ h1 eb).trans ed).trans (up _ h2 a ha e.symm)).symm
      · rw [if_neg ea, if_neg eb] at e
        exact up a ha b hb e
/-! ### groups of one label -/
structure Grp (f : Int → Int) (T : List Int) (gs : List (Int × List Int)) : Prop where
  nd : (gs.map (·.1)).Nodup
  is : ∀ g ∈ gs, g.2 = T.filter (fun v => decide (f v = g.1)) ∧ g.2 ≠ []
  all : ∀ v ∈ T, f v ∈ gs.map (·.1)
theorem Grp.start (f : Int → Int) : Grp f [] [] := ⟨.nil, (fun _ h => nomatch h), (fun _ h => nomatch h)⟩
def addG (gs : List (Int × List Int)) (l v : Int) : List (Int × List Int) :=
  if l ∈ gs.map (·.1) then gs.map (fun g => if g.1 = l then (g.1, g.2 ++ [v]) else g) else gs ++ [(l, [v])]
theorem addG_keys_old {gs : List (Int × List Int)} {l v : Int} : (gs.map (fun g => if g.1 = l then (g.1, g.2 ++ [v]) else g)).map (·.1) = gs.map (·.1) := by
  rw [List.map_map]
  refine List.map_congr_left fun g _ => ?_
  show (if g.1 = l then (g.1, g.2 ++ [v]) else g).1 = g.1
  split <;> rfl
theorem Grp.add {f : Int → Int} {T : List Int} {gs : List (Int × List Int)} (h : Grp f T gs) (v : Int) : Grp f (T ++ [v]) (addG gs (f v) v) := by
  unfold addG
  by_cases hin : f v ∈ gs.map (·.1)
  · rw [if_pos hin]
    refine ⟨by rw [addG_keys_old]; exact h.nd, fun g hg => ?_, fun u hu => ?_⟩
    · obtain ⟨g0, hg0, rfl⟩ := List.mem_map.mp hg
      obtain ⟨i1, i2⟩ := h.is g0 hg0
      by_cases e : g0.1 = f v
      · rw [if_pos e]
        refine ⟨?_, by simp⟩
        show g0.2 ++ [v] = _
        rw [List.filter_append, ← i1, List.filter_cons_of_pos (by simp [e])]
        rfl
      · rw [if_neg e]
        refine ⟨?_, i2⟩
        rw [List.filter_append, ← i1, List.filter_cons_of_neg (by simp; exact fun z => e z.symm), List.filter_nil, List.append_nil]
    · rw [addG_keys_old]
      rcases List.mem_append.mp hu with hu | hu
      · exact h.all u hu
      · rw [List.mem_singleton.mp hu]
        exact hin
  · rw [if_neg hin]
    have none : T.filter (fun u => decide (f u = f v)) = [] := List.filter_eq_nil_iff.mpr fun u hu z => hin (by
      rw [← of_decide_eq_true z]
      exact h.all u hu)
    refine ⟨?_, fun g hg => ?_, fun u hu => ?_⟩
    · rw [List.map_append]
      refine List.nodup_append.mpr ⟨h.nd, List.pairwise_singleton _ _, fun a ha b hb e => ?_⟩
      rw [List.mem_singleton.mp hb] at e
      have e : a = f v := e
      rw [e] at ha
      exact hin ha
    · rcases List.mem_append.mp hg with hg | hg
      · obtain ⟨i1, i2⟩ := h.is g hg
        refine ⟨?_, i2⟩
        have : ¬ f v = g.1 := fun z => hin (by rw [z]; exact List.mem_map.mpr ⟨g, hg, rfl⟩)
        rw [List.filter_append, ← i1, List.filter_cons_of_neg (by simp [this]), List.filter_nil, List.append_nil]
      · rw [List.mem_singleton.mp hg]
        refine ⟨?_, by simp⟩
        rw [List.filter_append, none, List.nil_append, List.filter_cons_of_pos (by simp)]
        rfl
    · rw [List.map_append]
      rcases List.mem_append.mp hu with hu | hu
      · exact List.mem_append_left _ (h.all u hu)
      · rw [List.mem_singleton.mp hu]
        exact List.mem_append_right _ (List.mem_singleton.mpr rfl)
theorem Grp.len {f : Int → Int} {T : List Int} {gs : List (Int × List Int)} (h : Grp f T gs) : gs.length ≤ T.length := by
  have key : ∀ (l : List Int), l.Nodup → (∀ x ∈ l, x ∈ T.map f) → l.length ≤ T.length := by
    intro l nd sub
    have := nd.length_le_of_subset sub
    rw [List.length_map] at this
    exact this
  have := key (gs.map (·.1)) h.nd fun x hx => by
    obtain ⟨g, hg, rfl⟩ := List.mem_map.mp hx
    obtain ⟨i1, i2⟩ := h.is g hg
    obtain ⟨u, hu⟩ := List.exists_mem_of_ne_nil _ i2
    rw [i1] at hu
    obtain ⟨a, b⟩ := List.mem_filter.mp hu
    exact List.mem_map.mpr ⟨u, a, of_decide_eq_true b⟩
  rw [List.length_map] at this
  exact this
end TL
namespace TL
open PySem PySem.Spec L2
/-! ### walks and the way back -/
def run (S : List Int) (ps : List (Int × Int)) : List Int := ps.foldl (fun S p => after S p.1 p.2) S
theorem run_snoc (S : List Int) (ps : List (Int × Int)) (p : Int × Int) : run S (ps ++ [p]) = after (run S ps) p.1 p.2 := by
  unfold run
  rw [List.foldl_append]
  rfl
theorem walk_run {m : Nat} {es : List (Int × Int)} : ∀ {ps : List (Int × Int)} {S T : List Int}, walk m es S ps = some T → T = run S ps
  | [], S, T, h => by cases h; rfl
  | p :: ps, S, T, h => by
    obtain ⟨_, h2⟩ := walk_cons h
    exact (walk_run h2 : T = run (after S p.1 p.2) ps)
theorem walk_push {m : Nat} {es : List (Int × Int)} {S : List Int} {p : Int × Int} {ps : List (Int × Int)} (h : p ∈ slidesP m es S) : walk m es S (p :: ps) = walk m es (after S p.1 p.2) ps := by
  show (if p ∈ slidesP m es S then _ else _) = _
  rw [if_pos h]
theorem walk_app {m : Nat} {es : List (Int × Int)} {qs : List (Int × Int)} : ∀ {ps : List (Int × Int)} {S T : List Int}, walk m es S ps = some T → walk m es S (ps ++ qs) = walk m es T qs
  | [], S, T, h => by cases h; rfl
  | p :: ps, S, T, h => by
    obtain ⟨h1, h2⟩ := walk_cons h
    rw [List.cons_append, walk_push h1]
    exact walk_app h2
theorem walk_some {m : Nat} {es : List (Int × Int)} {qs : List (Int × Int)} : ∀ {ps : List (Int × Int)} {S T : List Int}, walk m es S (ps ++ qs) = some T → walk m es S ps = some (run S ps) ∧ walk m es (run S ps) qs = some T
  | [], S, T, h => ⟨rfl, h⟩
  | p :: ps, S, T, h => by
    rw [List.cons_append] at h
    obtain ⟨h1, h2⟩ := walk_cons h
    rw [walk_push h1]
    exact walk_some h2
theorem walk_cut {m : Nat} {es : List (Int × Int)} {ps : List (Int × Int)} {S T : List Int} (n : Nat) (h : walk m es S ps = some T) : walk m es S (ps.take n) = some (run S (ps.take n)) ∧ walk m es (run S (ps.take n)) (ps.drop n) = some T := by
  rw [← List.take_append_drop n ps] at h
  exact walk_some h
theorem walk_set {m : Nat} {es : List (Int × Int)} (f : IsFor m es) : ∀ {ps : List (Int × Int)} {S T : List Int}, IsSet m es S → walk m es S ps = some T → IsSet m es T
  | [], S, T, i, h => by cases h; exact i
  | p :: ps, S, T, i, h => by
    obtain ⟨h1, h2⟩ := walk_cons h
    exact walk_set f (IsSet.slide f i h1) h2
theorem after_back {m : Nat} {es : List (Int × Int)} {S : List Int} (f : IsFor m es) (h : IsSet m es S) {u v : Int} (p : (u, v) ∈ slidesP m es S) : after (after S u v) v u = S := by
  obtain ⟨hu, hv, ho⟩ := mem_slidesP.mp p
  have nv := adj_free h hu hv
  have s1 := IsSet.slide f (IsSet.slide f h p) (slide_back f h p)
  refine asc_ext s1.asc h.asc fun z => ?_
  show z ∈ after (after S u v) v u ↔ _
  rw [mem_after, mem_after]
  constructor
  · rintro (⟨⟨a, b⟩ | a, c⟩ | a)
    · exact a
    · exact absurd a c
    · rw [a]; exact hu
  · intro hz
    by_cases e : z = u
    · exact .inr e
    · exact .inl ⟨.inl ⟨hz, e⟩, fun y => nv (y ▸ hz)⟩
def bk (ps : List (Int × Int)) : List (Int × Int) := (ps.map fun p => (p.2, p.1)).reverse
theorem bk_length (ps : List (Int × Int)) : (bk ps).length = ps.length := by
  unfold bk
  rw [List.length_reverse, List.length_map]
theorem walk_bk {m : Nat} {es : List (Int × Int)} (f : IsFor m es) : ∀ {ps : List (Int × Int)} {S T : List Int}, IsSet m es S → walk m es S ps = some T → walk m es T (bk ps) = some S
  | [], S, T, i, h => by cases h; rfl
  | p :: ps, S, T, i, h => by
    obtain ⟨h1, h2⟩ := walk_cons h
    have h3 := walk_bk f (IsSet.slide f i h1) h2
    have e : bk (p :: ps) = bk ps ++ [(p.2, p.1)] := by
      unfold bk
      rw [List.map_cons, List.reverse_cons]
    rw [e, walk_app h3, walk_push (slide_back f i (u := p.1) (v := p.2) h1)]
    show some (after (after S p.1 p.2) p.2 p.1) = _
    rw [after_back f i (u := p.1) (v := p.2) h1]
/-! ### the settings on the way -/
def sts (S : List Int) (ps : List (Int × Int)) : List (List Int) := (List.range (ps.length + 1)).map fun i => run S (ps.take i)
theorem sts_nil (S : List Int) : sts S [] = [S] := rfl
theorem sts_len (S : List Int) (ps : List (Int × Int)) : (sts S ps).length = ps.length + 1 := by
  unfold sts
  rw [List.length_map, List.length_range]
theorem sts_snoc (S : List Int) (ps : List (Int × Int)) (p : Int × Int) : sts S (ps ++ [p]) = sts S ps ++ [run S (ps ++ [p])] := by
  unfold sts
  rw [List.length_append, List.length_singleton, List.range_succ, List.map_append, List.map_singleton, List.take_of_length_le (l := ps ++ [p]) (by rw [List.length_append]; exact Nat.le_refl _)]
  congr 1
  refine List.map_congr_left fun i hi => ?_
  have := List.mem_range.mp hi
  rw [List.take_append_of_le_length (by omega)]
theorem sts_get {S : List Int} {ps : List (Int × Int)} {i : Nat} (h : i ≤ ps.length) : (sts S ps)[i]? = some (run S (ps.take i)) := by
  unfold sts
  rw [List.getElem?_map, List.getElem?_range (by omega)]
  rfl
theorem mem_sts {S R : List Int} {ps : List (Int × Int)} (h : R ∈ sts S ps) : ∃ i, i ≤ ps.length ∧ R = run S (ps.take i) := by
  unfold sts at h
  obtain ⟨i, hi, rfl⟩ := List.mem_map.mp h
  have := List.mem_range.mp hi
  exact ⟨i, by omega, rfl⟩
/-! ### lamps counted -/
def cnt (bs : List (List Int)) (S : List Int) : List Int := bs.map fun b => (((S.filter fun l => decide (l ∈ b)).length : Nat) : Int)
theorem cnt_slide {m : Nat} {es : List (Int × Int)} {f : Int → Int} {gs : List (Int × List Int)} {S : List Int} {u v : Int} {bs : List (List Int)} (isf : IsFor m es) (iss : IsSet m es S) (lab : Lab es (rng m) f) (gr : Grp f (rng m) gs)
    (hb : ∀ b ∈ bs, b ∈ gs.map (·.2)) (p : (u, v) ∈ slidesP m es S) : cnt bs (after S u v) = cnt bs S := by
  obtain ⟨hu, hv, ho⟩ := mem_slidesP.mp p
  obtain ⟨rv, av⟩ := mem_nearL.mp hv
  have ru := iss.rng u hu
  have mu : u ∈ rng m := mem_rng.mpr ru
  have mv : v ∈ rng m := mem_rng.mpr rv
  have e : f u = f v := by
    unfold ordP at av
    split at av
    · exact (lab.join _ av mv mu).symm
    · exact lab.join _ av mu mv
  unfold cnt
  refine List.map_congr_left fun b hb0 => ?_
  obtain ⟨g, hg, rfl⟩ := List.mem_map.mp (hb b hb0)
  have key : ∀ x, x ∈ g.2 ↔ x ∈ rng m ∧ f x = g.1 := fun x => by
    rw [(gr.is g hg).1, List.mem_filter, decide_eq_true_eq]
  have uv : u ∈ g.2 ↔ v ∈ g.2 := by
    rw [key, key, e]
    exact ⟨fun z => ⟨mv, z.2⟩, fun z => ⟨mu, z.2⟩⟩
  have h1 : (after S u v).Perm (S.map fun l => if l = u then v else l) := (srtI_perm _).trans (move_perm iss.asc.nodup hu).symm
  rw [(h1.filter _).length_eq, List.filter_map, List.length_map]
  congr 2
  refine List.filter_congr fun l _ => ?_
  show decide ((if l = u then v else l) ∈ g.2) = _
  split
  · rename_i h
    rw [h]
    exact decide_eq_decide.mpr uv.symm
  · rfl
theorem cnt_walk {m : Nat} {es : List (Int × Int)} {f : Int → Int} {gs : List (Int × List Int)} {bs : List (List Int)} (isf : IsFor m es) (lab : Lab es (rng m) f) (gr : Grp f (rng m) gs)
    (hb : ∀ b ∈ bs, b ∈ gs.map (·.2)) : ∀ {ps : List (Int × Int)} {S T : List Int}, IsSet m es S → walk m es S ps = some T → cnt bs T = cnt bs S
  | [], S, T, i, h => by cases h; rfl
  | p :: ps, S, T, i, h => by
    obtain ⟨h1, h2⟩ := walk_cons h
    rw [cnt_walk isf lab gr hb (IsSet.slide isf i h1) h2]
    exact cnt_slide isf i lab gr hb (u := p.1) (v := p.2) h1
/-! ### a comprehension within another -/
def env0 (sc : Scope) : Env := { scope := sc, locals := 0, globals := 0, cells := [], qual := "", func := none, code := .none, frame := default, builtins := default }
theorem blkOk_in {N : List Str} {scope0 scope : Scope} {own : List (Str × Nat)} {env : Env} {cl : List (Str × Addr)} {C : Addr} (sc : Scope) (e : env.scope = sc) (h : blkC N (relabel scope0 (env0 sc)) scope own = true) :
    BlkOk N (compEnvC scope0 cl C env).scope scope own := by
  subst e
  exact blkOk_by h
/-! ### comprehensions over lists and tuples of data -/
theorem zip_filter {α β γ : Type} {xs : List α} {bs : List β} (h : xs.length = bs.length) (p : β → Bool) (d : β → γ) : ((xs.zip bs).filter (fun q => p q.2)).map (fun q => d q.2) = (bs.filter p).map d := by
  have e : (xs.zip bs).map Prod.snd = bs := List.map_snd_zip (by omega)
  conv => rhs; rw [← e, List.filter_map, List.map_map]
  rfl
section
variable {K : PySem.W.Frag} {tt : TT} {te : TE} {vs : List Nat} {σ : L2.St} {H1 : Hp} {D : Addr} {Qd : Hp → Prop}
theorem lc_listD {a : Addr} {xs : List V} {β : Type} {bs : List β} {e : β → PyData} {i : Nat} (p : β → Bool) (d : β → PyData) (nD : H1 D = none) (hS : SqL K H1 a xs) (hA : DpAll K H1 xs (bs.map e))
    (hw : ∀ v, wipe ((wipe σ vs).set i (some v)) vs = wipe σ vs)
    (ht : ∀ x b, b ∈ bs → Dp K H1 x (e b) → ∀ H' (Q : Bool → Hp → Prop), Same H1 H' → (∀ H2, Same H' H2 → Q (p b) H2) → tt ((wipe σ vs).set i (some x)) H' Q)
    (he : ∀ x b, b ∈ bs → p b = true → Dp K H1 x (e b) → ∀ H' (Q : VK), Same H1 H' → (∀ H2 y, Same H' H2 → Dp K H2 y (d b) → Q y H2) → te ((wipe σ vs).set i (some x)) H' Q)
    (ho : ∀ o, only (d o) = true) (hl : bs.length ≤ 1000)
    (hd : ∀ H' ys, Same H1 H' → H' D = some (.lst ys) → DpAll K H' ys ((bs.filter p).map d) → Qd H') : LcGoal (Itl K a) (gName i) tt te vs σ H1 D Qd := by
  have xl : xs.length = bs.length := by rw [DpAll.length hA, List.length_map]
  have mem : ∀ q ∈ xs.zip bs, q.2 ∈ bs ∧ Dp K H1 q.1 (e q.2) := fun q hq => by
    obtain ⟨k, hk⟩ := List.getElem?_of_mem hq
    obtain ⟨h1, h2⟩ := List.getElem?_zip_eq_some.mp hk
    obtain ⟨z, hz, dz⟩ := DpAll.get hA h1
    rw [List.getElem?_map, h2] at hz
    cases hz
    exact ⟨List.mem_of_getElem? h2, dz⟩
  have zl : (xs.zip bs).length = xs.length := by rw [List.length_zip]; omega
  refine lc_gen (K := K) (xs.zip bs) (fun q => (wipe σ vs).set i (some q.1)) (fun q => p q.2) (fun q => d q.2) nD (fun j H' hj s => ⟨_, _, s.seq hS, List.getElem?_eq_getElem (by omega)⟩)
    (fun H' s => ⟨_, s.seq hS, by omega⟩) (fun j b x H' H'' hb s y => ?_) (fun b => hw _) (fun b hb H' Q s hQ => ht _ _ (mem b hb).1 (mem b hb).2 H' Q s hQ) (fun b hb hp H' Q s hQ => he _ _ (mem b hb).1 hp (mem b hb).2 H' Q s hQ) (fun o => ho _) (by omega)
    (fun H' ys s eD dy => hd H' ys s eD ?_)
  · obtain ⟨e1, hy⟩ := y
    have h1 := hy _ (s.seq hS)
    obtain ⟨h2, h3⟩ := List.getElem?_zip_eq_some.mp hb
    rw [h2] at h1
    cases h1
    exact ⟨e1, fun Q q => q⟩
  · rw [zip_filter xl] at dy
    exact dy
theorem lc_tupD {a : Addr} {xs : List V} {β : Type} {bs : List β} {e : β → PyData} {i : Nat} (p : β → Bool) (d : β → PyData) (nD : H1 D = none) (hS : SqT K H1 a xs) (hA : DpAll K H1 xs (bs.map e))
    (hw : ∀ v, wipe ((wipe σ vs).set i (some v)) vs = wipe σ vs)
    (ht : ∀ x b, b ∈ bs → Dp K H1 x (e b) → ∀ H' (Q : Bool → Hp → Prop), Same H1 H' → (∀ H2, Same H' H2 → Q (p b) H2) → tt ((wipe σ vs).set i (some x)) H' Q)
    (he : ∀ x b, b ∈ bs → p b = true → Dp K H1 x (e b) → ∀ H' (Q : VK), Same H1 H' → (∀ H2 y, Same H' H2 → Dp K H2 y (d b) → Q y H2) → te ((wipe σ vs).set i (some x)) H' Q)
    (ho : ∀ o, only (d o) = true) (hl : bs.length ≤ 1000)
    (hd : ∀ H' ys, Same H1 H' → H' D = some (.lst ys) → DpAll K H' ys ((bs.filter p).map d) → Qd H') : LcGoal (Itt K a) (gName i) tt te vs σ H1 D Qd := by
  have xl : xs.length = bs.length := by rw [DpAll.length hA, List.length_map]
  have mem : ∀ q ∈ xs.zip bs, q.2 ∈ bs ∧ Dp K H1 q.1 (e q.2) := fun q hq => by
    obtain ⟨k, hk⟩ := List.getElem?_of_mem hq
    obtain ⟨h1, h2⟩ := List.getElem?_zip_eq_some.mp hk
    obtain ⟨z, hz, dz⟩ := DpAll.get hA h1
    rw [List.getElem?_map, h2] at hz
    cases hz
    exact ⟨List.mem_of_getElem? h2, dz⟩
  have zl : (xs.zip bs).length = xs.length := by rw [List.length_zip]; omega
  refine lc_gen (K := K) (xs.zip bs) (fun q => (wipe σ vs).set i (some q.1)) (fun q => p q.2) (fun q => d q.2) nD (fun j H' hj s => ⟨_, _, Same.tup s hS, List.getElem?_eq_getElem (by omega)⟩)
    (fun H' s => ⟨_, Same.tup s hS, by omega⟩) (fun j b x H' H'' hb s y => ?_) (fun b => hw _) (fun b hb H' Q s hQ => ht _ _ (mem b hb).1 (mem b hb).2 H' Q s hQ) (fun b hb hp H' Q s hQ => he _ _ (mem b hb).1 hp (mem b hb).2 H' Q s hQ) (fun o => ho _) (by omega)
    (fun H' ys s eD dy => hd H' ys s eD ?_)
  · obtain ⟨e1, hy⟩ := y
    have h1 := hy _ (Same.tup s hS)
    obtain ⟨h2, h3⟩ := List.getElem?_zip_eq_some.mp hb
    rw [h2] at h1
    cases h1
    exact ⟨e1, fun Q q => q⟩
  · rw [zip_filter xl] at dy
    exact dy
end
end TL
namespace TL
open PySem PySem.Spec L2
/-! ### vertices joined by edges, found pass by pass -/
def stp (f : List Int) (p : Int × Int) : List Int := if decide (p.1 ∈ f) = decide (p.2 ∈ f) then f else f ++ [if p.1 ∈ f then p.2 else p.1]
def pas (E : List (Int × Int)) (f : List Int) : List Int := E.foldl stp f
def passes (E : List (Int × Int)) (v : Int) : Nat → List Int
  | 0 => [v]
  | n + 1 => pas E (passes E v n)
theorem filt_le {α : Type} {P Q : α → Bool} (h : ∀ x, P x = true → Q x = true) : ∀ l : List α, (l.filter P).length ≤ (l.filter Q).length
  | [] => Nat.le_refl _
  | a :: l => by
    have ih := filt_le h l
    rw [List.filter_cons, List.filter_cons]
    by_cases hp : P a = true
    · rw [if_pos hp, if_pos (h a hp), List.length_cons, List.length_cons]
      omega
    · rw [if_neg hp]
      split
      · rw [List.length_cons]
        omega
      · exact ih
theorem filt_lt {α : Type} {P Q : α → Bool} (h : ∀ x, P x = true → Q x = true) : ∀ {l : List α} {a : α}, a ∈ l → P a = false → Q a = true → (l.filter P).length < (l.filter Q).length
  | b :: l, a, ha, hp, hq => by
    rw [List.filter_cons, List.filter_cons]
    rcases List.mem_cons.mp ha with e | ha
    · rw [← e, if_neg (by rw [hp]; decide), if_pos hq, List.length_cons]
      have := filt_le h l
      omega
    · have ih := filt_lt h ha hp hq
      by_cases hb : P b = true
      · rw [if_pos hb, if_pos (h b hb), List.length_cons, List.length_cons]
        omega
      · rw [if_neg hb]
        split
        · rw [List.length_cons]
          omega
        · exact ih
def inn (f : List Int) (p : Int × Int) : Bool := decide (p.1 ∈ f) && decide (p.2 ∈ f)
structure Jn (E : List (Int × Int)) (v : Int) (f : List Int) : Prop where
  nd : f.Nodup
  has : v ∈ f
  conn : ∀ x ∈ f, Conn E v x
  cnt : f.length ≤ 1 + (E.filter (inn f)).length
theorem Jn.start (E : List (Int × Int)) (v : Int) : Jn E v [v] where
  nd := List.pairwise_singleton _ _
  has := List.mem_singleton.mpr rfl
  conn := fun x hx => by rw [List.mem_singleton.mp hx]; exact .refl _
  cnt := by rw [List.length_singleton]; omega
theorem Jn.put {E : List (Int × Int)} {v : Int} {f : List Int} {p : Int × Int} {y : Int} (h : Jn E v f) (hp : p ∈ E) (ny : y ∉ f) (cy : Conn E v y) (n : inn f p = false) (m : inn (f ++ [y]) p = true) : Jn E v (f ++ [y]) where
  nd := List.nodup_append.mpr ⟨h.nd, List.pairwise_singleton _ _, fun a ha b hb e => by rw [List.mem_singleton.mp hb] at e; exact ny (e ▸ ha)⟩
  has := List.mem_append_left _ h.has
  conn := fun x hx => (List.mem_append.mp hx).elim (h.conn x) fun z => by rw [List.mem_singleton.mp z]; exact cy
  cnt := by
    have := filt_lt (P := inn f) (Q := inn (f ++ [y])) (fun x hx => by
      unfold inn at hx ⊢
      rw [Bool.and_eq_true, decide_eq_true_eq, decide_eq_true_eq] at hx ⊢
      exact ⟨List.mem_append_left _ hx.1, List.mem_append_left _ hx.2⟩) hp n m
    have := h.cnt
    rw [List.length_append, List.length_singleton]
    omega
theorem Jn.stp {E : List (Int × Int)} {v : Int} {f : List Int} {p : Int × Int} (h : Jn E v f) (hp : p ∈ E) : Jn E v (TL.stp f p) := by
  unfold TL.stp
  split
  · exact h
  · rename_i ne
    by_cases h1 : p.1 ∈ f
    · have h2 : p.2 ∉ f := fun z => ne (by rw [decide_eq_true h1, decide_eq_true z])
      rw [if_pos h1]
      refine h.put hp h2 (.step (h.conn _ h1) (.inl hp)) ?_ ?_
      · unfold inn; rw [decide_eq_false h2, Bool.and_false]
      · unfold inn; rw [decide_eq_true (List.mem_append_left _ h1), decide_eq_true (List.mem_append_right _ (List.mem_singleton.mpr rfl))]; rfl
    · have h2 : p.2 ∈ f := Decidable.byContradiction fun z => ne (by rw [decide_eq_false h1, decide_eq_false z])
      rw [if_neg h1]
      refine h.put hp h1 (.step (h.conn _ h2) (.inr hp)) ?_ ?_
      · unfold inn; rw [decide_eq_false h1, Bool.false_and]
      · unfold inn; rw [decide_eq_true (List.mem_append_left _ h2), decide_eq_true (List.mem_append_right _ (List.mem_singleton.mpr rfl))]; rfl
theorem Jn.fold {E : List (Int × Int)} {v : Int} : ∀ {D : List (Int × Int)} {f : List Int}, (∀ p ∈ D, p ∈ E) → Jn E v f → Jn E v (D.foldl TL.stp f)
  | [], _, _, h => h
  | p :: D, f, s, h => Jn.fold (D := D) (fun q hq => s q (List.mem_cons_of_mem _ hq)) (h.stp (s p List.mem_cons_self))
theorem Jn.passes (E : List (Int × Int)) (v : Int) : ∀ n, Jn E v (TL.passes E v n)
  | 0 => Jn.start E v
  | n + 1 => Jn.fold (fun _ h => h) (Jn.passes E v n)
def Closed (E : List (Int × Int)) (f : List Int) : Prop := ∀ p ∈ E, decide (p.1 ∈ f) = decide (p.2 ∈ f)
theorem fold_grow : ∀ {D : List (Int × Int)} {f : List Int}, (D.foldl TL.stp f = f ∧ Closed D f) ∨ f.length + 1 ≤ (D.foldl TL.stp f).length
  | [], f => .inl ⟨rfl, fun _ h => nomatch h⟩
  | p :: D, f => by
    rw [List.foldl_cons]
    by_cases e : decide (p.1 ∈ f) = decide (p.2 ∈ f)
    · have es : TL.stp f p = f := by unfold TL.stp; rw [if_pos e]
      rw [es]
      rcases fold_grow (D := D) (f := f) with ⟨h1, h2⟩ | h
      · exact .inl ⟨h1, fun q hq => (List.mem_cons.mp hq).elim (fun z => z ▸ e) (h2 q)⟩
      · exact .inr h
    · have es : (TL.stp f p).length = f.length + 1 := by unfold TL.stp; rw [if_neg e, List.length_append, List.length_singleton]
      rcases fold_grow (D := D) (f := TL.stp f p) with ⟨h1, h2⟩ | h
      · rw [h1]
        exact .inr (by omega)
      · exact .inr (by omega)
theorem fold_closed : ∀ {D : List (Int × Int)} {f : List Int}, Closed D f → D.foldl TL.stp f = f
  | [], _, _ => rfl
  | p :: D, f, h => by
    have es : TL.stp f p = f := by unfold TL.stp; rw [if_pos (h p List.mem_cons_self)]
    rw [List.foldl_cons, es]
    exact fold_closed fun q hq => h q (List.mem_cons_of_mem _ hq)
theorem passes_grow (E : List (Int × Int)) (v : Int) : ∀ n, Closed E (passes E v n) ∨ n + 1 ≤ (passes E v n).length
  | 0 => .inr (Nat.le_refl _)
  | n + 1 => by
    rcases passes_grow E v n with h | h
    · left
      show Closed E (pas E (passes E v n))
      unfold pas
      rw [fold_closed h]
      exact h
    · rcases fold_grow (D := E) (f := passes E v n) with ⟨h1, h2⟩ | h3
      · left
        show Closed E (pas E (passes E v n))
        unfold pas
        rw [h1]
        exact h2
      · right
        show _ ≤ (pas E (passes E v n)).length
        unfold pas
        omega
theorem passes_closed (E : List (Int × Int)) (v : Int) : Closed E (passes E v E.length) := by
  rcases passes_grow E v E.length with h | h
  · exact h
  · have c := (Jn.passes E v E.length).cnt
    have l := List.length_filter_le (inn (passes E v E.length)) E
    have e : E.filter (inn (passes E v E.length)) = E := List.filter_sublist.eq_of_length (by omega)
    intro p hp
    rw [← e] at hp
    have h2 := (List.mem_filter.mp hp).2
    unfold inn at h2
    rw [Bool.and_eq_true] at h2
    rw [h2.1, h2.2]
theorem mem_passes (E : List (Int × Int)) (v x : Int) : x ∈ passes E v E.length ↔ Conn E v x := by
  refine ⟨(Jn.passes E v _).conn x, fun h => ?_⟩
  induction h with
  | refl => exact (Jn.passes E v _).has
  | step _ hp ih =>
    rcases hp with hp | hp
    · have := passes_closed E v _ hp
      exact of_decide_eq_true (by rw [← this]; exact decide_eq_true ih)
    · have := passes_closed E v _ hp
      exact of_decide_eq_true (by rw [this]; exact decide_eq_true ih)
/-! ### groups of one label -/
def within (es : List (Int × Int)) (ws : List Int) : List (Int × Int) := es.filter fun p => decide (p.1 ∈ ws) && decide (p.2 ∈ ws)
theorem mem_within {es : List (Int × Int)} {ws : List Int} {p : Int × Int} : p ∈ within es ws ↔ p ∈ es ∧ p.1 ∈ ws ∧ p.2 ∈ ws := by
  unfold within
  rw [List.mem_filter, Bool.and_eq_true, decide_eq_true_eq, decide_eq_true_eq]
theorem conn_lab {es : List (Int × Int)} {ws : List Int} {f : Int → Int} (h : Lab es ws f) {a b : Int} (ha : a ∈ ws) (c : Conn (within es ws) a b) : b ∈ ws ∧ f a = f b := by
  induction c with
  | refl => exact ⟨ha, rfl⟩
  | step _ hp ih =>
    rcases hp with hp | hp
    · obtain ⟨h1, h2, h3⟩ := mem_within.mp hp
      exact ⟨h3, ih.2.trans (h.join _ h1 h2 h3)⟩
    · obtain ⟨h1, h2, h3⟩ := mem_within.mp hp
      exact ⟨h2, ih.2.trans (h.join _ h1 h2 h3).symm⟩
theorem group_eq {es : List (Int × Int)} {ws : List Int} {f : Int → Int} (h : Lab es ws f) (asc : Asc ws) {v : Int} (hv : v ∈ ws) :
    srtI (passes (within es ws) v (within es ws).length) = ws.filter fun u => decide (f u = f v) := by
  refine asc_ext (srtI_asc (Jn.passes _ _ _).nd) (asc.filter _) fun z => ?_
  rw [(srtI_perm _).mem_iff, mem_passes, List.mem_filter, decide_eq_true_eq]
  constructor
  · intro c
    obtain ⟨h1, h2⟩ := conn_lab h hv c
    exact ⟨h1, h2.symm⟩
  · intro hz
    exact h.conn v hv z hz.1 hz.2.symm
end TL
namespace TL
/-! ### paths in forests: between two vertices there is at most one -/
def Adj (es : List (Int × Int)) (a b : Int) : Prop := (a, b) ∈ es ∨ (b, a) ∈ es
theorem Adj.symm {es : List (Int × Int)} {a b : Int} (h : Adj es a b) : Adj es b a := h.elim .inr .inl
inductive Pth (es : List (Int × Int)) : Int → Int → List Int → Prop
  | one (a : Int) : Pth es a a [a]
  | cons {a b c : Int} {p : List Int} : Adj es a b → Pth es b c p → a ∉ p → Pth es a c (a :: p)
theorem Pth.mono {es fs : List (Int × Int)} (s : ∀ p ∈ es, p ∈ fs) {a b : Int} {p : List Int} (h : Pth es a b p) : Pth fs a b p := by
  induction h with
  | one a => exact .one a
  | cons ad _ n ih => exact .cons (ad.elim (fun z => .inl (s _ z)) fun z => .inr (s _ z)) ih n
theorem Pth.first {es : List (Int × Int)} {a b : Int} {p : List Int} (h : Pth es a b p) : a ∈ p := by
  cases h with
  | one => exact List.mem_singleton.mpr rfl
  | cons => exact List.mem_cons_self
theorem Pth.last {es : List (Int × Int)} {a b : Int} {p : List Int} (h : Pth es a b p) : b ∈ p := by
  induction h with
  | one a => exact List.mem_singleton.mpr rfl
  | cons _ _ _ ih => exact List.mem_cons_of_mem _ ih
theorem Pth.self {es : List (Int × Int)} {a : Int} {p : List Int} (h : Pth es a a p) : p = [a] := by
  cases h with
  | one => rfl
  | cons _ h n => exact absurd h.last n
theorem Pth.nodup {es : List (Int × Int)} {a b : Int} {p : List Int} (h : Pth es a b p) : p.Nodup := by
  induction h with
  | one a => exact List.pairwise_singleton _ _
  | cons _ _ n ih => exact List.nodup_cons.mpr ⟨n, ih⟩
theorem Pth.snoc {es : List (Int × Int)} {a b c : Int} {p : List Int} (h : Pth es a b p) (ad : Adj es b c) (n : c ∉ p) : Pth es a c (p ++ [c]) := by
  induction h with
  | one a =>
    refine .cons ad (.one c) fun z => n ?_
    rw [List.mem_singleton.mp z]
    exact List.mem_singleton.mpr rfl
  | cons ad0 _ n0 ih =>
    refine .cons ad0 (ih ad fun z => n (List.mem_cons_of_mem _ z)) fun z => ?_
    rcases List.mem_append.mp z with z | z
    · exact n0 z
    · rw [List.mem_singleton.mp z] at n
      exact n List.mem_cons_self
theorem Pth.rev {es : List (Int × Int)} {a b : Int} {p : List Int} (h : Pth es a b p) : Pth es b a p.reverse := by
  induction h with
  | one a => exact .one a
  | cons ad _ n ih =>
    rw [List.reverse_cons]
    exact ih.snoc ad.symm fun z => n (List.mem_reverse.mp z)
def Uniq (es : List (Int × Int)) : Prop := ∀ a b p q, Pth es a b p → Pth es a b q → p = q
section
variable {es : List (Int × Int)} {u v : Int} {e : Int × Int} (he : e = (v, u) ∨ e = (u, v)) (nv : ∀ p ∈ es, p.1 ≠ v ∧ p.2 ≠ v) (uv : u ≠ v)
include he nv
theorem adj_snoc {a b : Int} (h : Adj (es ++ [e]) a b) : Adj es a b ∨ (a = v ∧ b = u) ∨ (a = u ∧ b = v) := by
  rcases h with h | h
  · rcases List.mem_append.mp h with h | h
    · exact .inl (.inl h)
    · have h := List.mem_singleton.mp h
      rcases he with he | he
      · rw [he] at h; cases h; exact .inr (.inl ⟨rfl, rfl⟩)
      · rw [he] at h; cases h; exact .inr (.inr ⟨rfl, rfl⟩)
  · rcases List.mem_append.mp h with h | h
    · exact .inl (.inr h)
    · have h := List.mem_singleton.mp h
      rcases he with he | he
      · rw [he] at h; cases h; exact .inr (.inr ⟨rfl, rfl⟩)
      · rw [he] at h; cases h; exact .inr (.inl ⟨rfl, rfl⟩)
include uv
theorem adj_leaf {b : Int} (h : Adj (es ++ [e]) v b) : b = u := by
  rcases adj_snoc he nv h with h | h | h
  · rcases h with h | h
    · exact absurd rfl (nv _ h).1
    · exact absurd rfl (nv _ h).2
  · exact h.2
  · exact absurd h.1.symm uv
theorem pth_leaf1 {a b : Int} {p : List Int} (h : Pth (es ++ [e]) a b p) (ha : a ≠ v) (hb : b ≠ v) : v ∉ p ∧ Pth es a b p := by
  induction h with
  | one a => exact ⟨fun z => ha (List.mem_singleton.mp z).symm, .one a⟩
  | @cons a x c p ad hp na ih =>
    by_cases hx : x = v
    · subst hx
      have au : a = u := adj_leaf he nv uv ad.symm
      cases hp with
      | one => exact absurd rfl hb
      | cons ad2 hp2 n2 =>
        have yu := adj_leaf he nv uv ad2
        rw [yu, ← au] at hp2
        exact absurd (List.mem_cons_of_mem _ hp2.first) na
    · obtain ⟨h1, h2⟩ := ih hx hb
      refine ⟨fun z => (List.mem_cons.mp z).elim (fun z => ha z.symm) h1, .cons ?_ h2 na⟩
      rcases adj_snoc he nv ad with h | h | h
      · exact h
      · exact absurd h.1 ha
      · exact absurd h.2 hx
theorem pth_leaf2 {b : Int} {p : List Int} (h : Pth (es ++ [e]) v b p) (hb : b ≠ v) : ∃ p', p = v :: p' ∧ Pth es u b p' := by
  cases h with
  | one => exact absurd rfl hb
  | cons ad hp _ =>
    have yu := adj_leaf he nv uv ad
    rw [yu] at hp
    exact ⟨_, rfl, (pth_leaf1 he nv uv hp uv hb).2⟩
theorem uniq_snoc (U : Uniq es) : Uniq (es ++ [e]) := by
  intro a b p q hp hq
  by_cases ha : a = v
  · by_cases hb : b = v
    · rw [ha, hb] at hp hq
      rw [hp.self, hq.self]
    · rw [ha] at hp hq
      obtain ⟨p', rfl, h1⟩ := pth_leaf2 he nv uv hp hb
      obtain ⟨q', rfl, h2⟩ := pth_leaf2 he nv uv hq hb
      rw [U _ _ _ _ h1 h2]
  · by_cases hb : b = v
    · rw [hb] at hp hq
      obtain ⟨p', e1, h1⟩ := pth_leaf2 he nv uv hp.rev ha
      obtain ⟨q', e2, h2⟩ := pth_leaf2 he nv uv hq.rev ha
      rw [← U _ _ _ _ h1 h2, ← e1] at e2
      exact (List.reverse_inj.mp e2).symm
    · exact U _ _ _ _ (pth_leaf1 he nv uv hp ha hb).2 (pth_leaf1 he nv uv hq ha hb).2
end
theorem uniq_nil : Uniq [] := by
  intro a b p q hp hq
  cases hp with
  | one => rw [hq.self]
  | cons ad => exact ad.elim (fun z => nomatch z) fun z => nomatch z
theorem uniq_grow {m : Nat} {nm : List Int} : ∀ {n : Nat} {ks : List (Nat × Nat)}, ks.length = n → Grow m nm ks → Uniq (ks.map (edgeOf nm))
  | 0, ks, hn, g => by
    rw [List.length_eq_zero_iff.mp hn]
    exact uniq_nil
  | n + 1, ks, hn, g => by
    have hne : ks ≠ [] := fun z => by rw [z] at hn; cases hn
    obtain ⟨js, q, rfl⟩ : ∃ js q, ks = js ++ [q] := ⟨_, _, (List.dropLast_concat_getLast hne).symm⟩
    rw [List.length_append, List.length_singleton] at hn
    have gj : Grow m nm js := ⟨g.names, (List.pairwise_append.mp g.up).1, fun r hr => g.down r (List.mem_append_left _ hr)⟩
    have up := (List.pairwise_append.mp g.up).2.2
    obtain ⟨hq1, hq2⟩ := g.down q (List.mem_append_right _ (List.mem_singleton.mpr rfl))
    rw [List.map_append, List.map_singleton]
    have ne : nm.getD q.2 0 ≠ nm.getD q.1 0 := fun z => by have := g.inj (Nat.lt_trans hq1 hq2) hq2 z; omega
    refine uniq_snoc (v := nm.getD q.1 0) (u := nm.getD q.2 0) ?_ (fun p hp => ?_) ne (uniq_grow (n := n) (by omega) gj)
    · unfold edgeOf ordP
      split
      · exact .inl rfl
      · exact .inr rfl
    · obtain ⟨r, hr, rfl⟩ := List.mem_map.mp hp
      obtain ⟨hr1, hr2⟩ := gj.down r hr
      have hlt := up r hr q (List.mem_singleton.mpr rfl)
      have n1 : nm.getD r.1 0 ≠ nm.getD q.1 0 := fun z => by have := g.inj hr2 hq2 z; omega
      have n2 : nm.getD r.2 0 ≠ nm.getD q.1 0 := fun z => by have := g.inj (Nat.lt_trans hr1 hr2) hq2 z; omega
      unfold edgeOf ordP
      split
      · exact ⟨n1, n2⟩
      · exact ⟨n2, n1⟩
theorem IsFor.uniq {m : Nat} {es : List (Int × Int)} (f : IsFor m es) : Uniq es := by
  obtain ⟨nm, ks, g, p⟩ := f.grow
  intro a b x y hx hy
  exact uniq_grow rfl g a b x y (hx.mono fun q hq => p.mem_iff.mp hq) (hy.mono fun q hq => p.mem_iff.mp hq)
end TL
namespace TL
/-! ### an edge of a forest joins what no other edges join -/
theorem Pth.cut {es : List (Int × Int)} {a b : Int} {p : List Int} (h : Pth es a b p) : ∀ c ∈ p, ∃ q, Pth es a c q ∧ ∀ x ∈ q, x ∈ p := by
  induction h with
  | one a =>
    intro c hc
    rw [List.mem_singleton.mp hc]
    exact ⟨[a], .one a, fun x hx => hx⟩
  | @cons a y b p ad hp n ih =>
    intro c hc
    rcases List.mem_cons.mp hc with rfl | hc
    · exact ⟨[c], .one c, fun x hx => by rw [List.mem_singleton.mp hx]; exact List.mem_cons_self⟩
    · obtain ⟨q, hq, sub⟩ := ih c hc
      refine ⟨a :: q, .cons ad hq fun z => n (sub a z), fun x hx => ?_⟩
      rcases List.mem_cons.mp hx with rfl | hx
      · exact List.mem_cons_self
      · exact List.mem_cons_of_mem _ (sub x hx)
theorem Conn.pth {es : List (Int × Int)} {a b : Int} (h : Conn es a b) : ∃ p, Pth es a b p := by
  induction h with
  | refl => exact ⟨_, .one _⟩
  | @step b c _ e ih =>
    obtain ⟨p, hp⟩ := ih
    by_cases hc : c ∈ p
    · obtain ⟨q, hq, _⟩ := hp.cut c hc
      exact ⟨q, hq⟩
    · exact ⟨_, hp.snoc e hc⟩
theorem Pth.pair {es : List (Int × Int)} {a b x y : Int} {l : List Int} (h : Pth es a b l) (e : l = [x, y]) : Adj es x y := by
  cases h with
  | one => cases e
  | cons ad hp n =>
    cases hp with
    | one => cases e; exact ad
    | cons _ hp _ => cases hp <;> cases e
theorem IsFor.open {m : Nat} {A B : List (Int × Int)} {p : Int × Int} (f : IsFor m (A ++ p :: B)) : ¬ Conn A p.1 p.2 := by
  intro h
  obtain ⟨q, hq⟩ := h.pth
  have mem : p ∈ A ++ p :: B := List.mem_append_right _ List.mem_cons_self
  have r := f.rng p mem
  have h1 : Pth (A ++ p :: B) p.1 p.2 q := hq.mono fun x hx => List.mem_append_left _ hx
  have h2 : Pth (A ++ p :: B) p.1 p.2 [p.1, p.2] := .cons (.inl mem) (.one _) fun z => by
    have := List.mem_singleton.mp z
    omega
  have e := f.uniq _ _ _ _ h1 h2
  subst e
  have ad : Adj A p.1 p.2 := hq.pair rfl
  rcases ad with z | z
  · have := (List.pairwise_append.mp f.asc).2.2 _ z p List.mem_cons_self
    rcases this with y | y
    · simp only at y; omega
    · simp only at y; omega
  · have := f.rng _ (List.mem_append_left _ z)
    simp only at this
    omega
/-! ### sorted pairs -/
theorem srtP_congr {a b : List (Int × Int)} (h : a.Perm b) : srtP a = srtP b := by
  have p : (srtP a).Perm (srtP b) := (srtP_perm a).trans (h.trans (srtP_perm b).symm)
  refine p.eq_of_pairwise (fun x y _ _ h1 h2 => ?_) (srtP_le a) (srtP_le b)
  refine Prod.ext ?_ ?_ <;> omega
theorem Grow.sorted {m : Nat} {nm : List Int} {ks : List (Nat × Nat)} {es : List (Int × Int)} (g : Grow m nm ks) (p : es.Perm (ks.map (edgeOf nm))) : IsFor m (srtP es) := by
  rw [srtP_congr p]
  exact g.isFor
theorem ordP_eq {a b : Int} (h : a ≤ b) : ordP a b = (a, b) := by
  unfold ordP
  rw [if_pos h]
/-! ### names for vertices -/
def nam (ns : List Int) (v : Int) : Int := ns.getD v.toNat 0
def ren (ns : List Int) (p : Int × Int) : Int × Int := ordP (nam ns p.1) (nam ns p.2)
theorem ren_ord (ns : List Int) (a b : Int) : ren ns (ordP a b) = ordP (nam ns a) (nam ns b) := by
  unfold ren ordP
  by_cases h : a ≤ b
  · rw [if_pos h]
  · rw [if_neg h]
    exact ordP_comm (nam ns b) (nam ns a)
theorem nam_rng {ns : List Int} : (rng ns.length).map (nam ns) = ns := by
  unfold rng
  rw [List.map_map]
  refine List.ext_getElem? fun i => ?_
  rw [List.getElem?_map]
  by_cases h : i < ns.length
  · rw [List.getElem?_range h, List.getElem?_eq_getElem h]
    show some (ns.getD (Int.toNat (Int.ofNat i)) 0) = _
    show some (ns.getD i 0) = _
    rw [List.getD_eq_getElem?_getD, List.getElem?_eq_getElem h]
    rfl
  · rw [List.getElem?_eq_none (by rw [List.length_range]; omega), List.getElem?_eq_none (by omega)]
    rfl
theorem perm_len {m : Nat} {ns : List Int} (h : ns.Perm (rng m)) : ns.length = m := by rw [h.length_eq, rng_length]
theorem nam_in {m : Nat} {ns : List Int} (h : ns.Perm (rng m)) {v : Int} (hv : 0 ≤ v ∧ v < m) : 0 ≤ nam ns v ∧ nam ns v < m := by
  have hl : v.toNat < ns.length := by rw [perm_len h]; omega
  refine mem_rng.mp (h.mem_iff.mp ?_)
  unfold nam
  rw [List.getD_eq_getElem?_getD, List.getElem?_eq_getElem hl]
  exact List.getElem_mem hl
theorem nam_inj {m : Nat} {ns : List Int} (h : ns.Perm (rng m)) {u v : Int} (hu : 0 ≤ u ∧ u < m) (hv : 0 ≤ v ∧ v < m) (e : nam ns u = nam ns v) : u = v := by
  have hl : u.toNat < ns.length := by rw [perm_len h]; omega
  have hk : v.toNat < ns.length := by rw [perm_len h]; omega
  unfold nam at e
  rw [List.getD_eq_getElem?_getD, List.getElem?_eq_getElem hl, List.getD_eq_getElem?_getD, List.getElem?_eq_getElem hk] at e
  have nd : ns.Nodup := h.nodup_iff.mpr (rng_asc m).nodup
  have := (List.getElem_inj nd).mp e
  omega
theorem IsFor.renamed {m : Nat} {es : List (Int × Int)} {ns : List Int} (f : IsFor m es) (h : ns.Perm (TL.rng m)) : IsFor m (srtP (es.map (ren ns))) := by
  obtain ⟨nm, ks, g, p⟩ := f.grow
  have gn : ∀ i, i < m → (nm.map (nam ns)).getD i 0 = nam ns (nm.getD i 0) := fun i hi => by
    have hl : i < nm.length := by rw [g.len]; exact hi
    rw [List.getD_eq_getElem?_getD, List.getElem?_map, List.getD_eq_getElem?_getD, List.getElem?_eq_getElem hl]
    rfl
  have g' : Grow m (nm.map (nam ns)) ks := ⟨by
    refine (g.names.map (nam ns)).trans ?_
    have e : (TL.rng m).map (nam ns) = ns := by rw [← perm_len h]; exact nam_rng
    rw [e]
    exact h, g.up, g.down⟩
  refine g'.sorted ((p.map (ren ns)).trans ?_)
  rw [List.map_map]
  refine List.Perm.of_eq (List.map_congr_left fun q hq => ?_)
  obtain ⟨h1, h2⟩ := g.down q hq
  show ren ns (edgeOf nm q) = edgeOf (nm.map (nam ns)) q
  unfold edgeOf
  rw [ren_ord, gn _ h2, gn _ (Nat.lt_trans h1 h2)]
theorem ren_back {m : Nat} {es : List (Int × Int)} {ns ms : List Int} (f : IsFor m es) (back : ∀ v : Int, 0 ≤ v → v < m → nam ms (nam ns v) = v) : srtP ((srtP (es.map (ren ns))).map (ren ms)) = es := by
  rw [srtP_congr ((srtP_perm _).map (ren ms)), List.map_map]
  have e : es.map (ren ms ∘ ren ns) = es := by
    conv => rhs; rw [← List.map_id es]
    refine List.map_congr_left fun p hp => ?_
    have r := f.rng p hp
    show ren ms (ren ns p) = p
    unfold ren
    have := ren_ord ms (nam ns p.1) (nam ns p.2)
    unfold ren at this
    rw [this, back _ r.1 (by omega), back _ (by omega) r.2.2, ordP_eq (by omega)]
  rw [e]
  exact srtP_of_asc f.asc
/-! ### side by side -/
def shf (m : Nat) (p : Int × Int) : Int × Int := (p.1 + m, p.2 + m)
theorem rng_add (m n : Nat) : rng (m + n) = rng m ++ (rng n).map (· + (m : Int)) := by
  unfold rng
  rw [List.range_add, List.map_append, List.map_map, List.map_map]
  congr 1
  refine List.map_congr_left fun i _ => ?_
  show Int.ofNat (m + i) = Int.ofNat i + (m : Int)
  simp only [Int.ofNat_eq_natCast]
  omega
theorem ordP_add (a b c : Int) : ordP (a + c) (b + c) = ((ordP a b).1 + c, (ordP a b).2 + c) := by
  unfold ordP
  by_cases h : a ≤ b
  · rw [if_pos h, if_pos (by omega)]
  · rw [if_neg h, if_neg (by omega)]
theorem IsFor.beside {m n : Nat} {es fs : List (Int × Int)} (f : IsFor m es) (g : IsFor n fs) : IsFor (m + n) (es ++ fs.map (shf m)) := by
  obtain ⟨nm, ks, G, p⟩ := f.grow
  obtain ⟨nn, js, G2, p2⟩ := g.grow
  have l1 := G.len
  have l2 := G2.len
  have left : ∀ i, i < m → (nm ++ nn.map (· + (m : Int))).getD i 0 = nm.getD i 0 := fun i hi => by
    rw [List.getD_eq_getElem?_getD, List.getElem?_append_left (by omega), List.getD_eq_getElem?_getD]
  have right : ∀ i, i < n → (nm ++ nn.map (· + (m : Int))).getD (i + m) 0 = nn.getD i 0 + m := fun i hi => by
    rw [List.getD_eq_getElem?_getD, List.getElem?_append_right (by omega), l1, Nat.add_sub_cancel, List.getElem?_map, List.getD_eq_getElem?_getD, List.getElem?_eq_getElem (by omega)]
    rfl
  refine ⟨?_, fun q hq => ?_, nm ++ nn.map (· + (m : Int)), ks ++ js.map (fun q => (q.1 + m, q.2 + m)), ⟨?_, ?_, fun q hq => ?_⟩, ?_⟩
  · refine List.pairwise_append.mpr ⟨f.asc, ?_, fun a ha b hb => ?_⟩
    · refine List.pairwise_map.mpr ?_
      refine g.asc.imp fun {a b} h => ?_
      unfold shf LtP
      simp only
      rcases h with h | h
      · left; omega
      · right; omega
    · obtain ⟨c, hc, rfl⟩ := List.mem_map.mp hb
      have := f.rng a ha
      have := g.rng c hc
      left
      unfold shf
      simp only
      omega
  · rcases List.mem_append.mp hq with hq | hq
    · have := f.rng q hq
      omega
    · obtain ⟨c, hc, rfl⟩ := List.mem_map.mp hq
      have := g.rng c hc
      unfold shf
      simp only
      omega
  · rw [rng_add]
    exact G.names.append (G2.names.map _)
  · refine List.pairwise_append.mpr ⟨G.up, ?_, fun a ha b hb => ?_⟩
    · rw [List.pairwise_map]
      exact G2.up.imp fun {a b} h => by simp only; omega
    · obtain ⟨c, hc, rfl⟩ := List.mem_map.mp hb
      have := G.down a ha
      simp only
      omega
  · rcases List.mem_append.mp hq with hq | hq
    · have := G.down q hq
      omega
    · obtain ⟨c, hc, rfl⟩ := List.mem_map.mp hq
      have := G2.down c hc
      simp only
      omega
  · rw [List.map_append]
    refine List.Perm.append (p.trans (List.Perm.of_eq (List.map_congr_left fun q hq => ?_))) ((p2.map (shf m)).trans (List.Perm.of_eq ?_))
    · have := G.down q hq
      unfold edgeOf
      rw [left _ (by omega), left _ (by omega)]
    · rw [List.map_map, List.map_map]
      refine List.map_congr_left fun q hq => ?_
      have := G2.down q hq
      show shf m (edgeOf nn q) = ordP ((nm ++ nn.map (· + (m : Int))).getD (q.1 + m) 0) ((nm ++ nn.map (· + (m : Int))).getD (q.2 + m) 0)
      rw [right _ (by omega), right _ (by omega), ordP_add]
      rfl
/-! ### one vertex more -/
theorem Grow.more {m : Nat} {nm : List Int} {ks : List (Nat × Nat)} (g : Grow m nm ks) : Grow (m + 1) (nm ++ [(m : Int)]) ks where
  names := by
    have e : rng (m + 1) = rng m ++ [(m : Int)] := by
      rw [rng_add]
      congr 1
      show [Int.ofNat 0 + (m : Int)] = _
      simp
    rw [e]
    exact g.names.append (List.Perm.refl _)
  up := g.up
  down := fun q hq => by have := g.down q hq; omega
theorem more_get {m : Nat} {nm : List Int} {i : Nat} (l : nm.length = m) (hi : i < m) : (nm ++ [(m : Int)]).getD i 0 = nm.getD i 0 := by
  rw [List.getD_eq_getElem?_getD, List.getElem?_append_left (by omega), List.getD_eq_getElem?_getD]
theorem more_edges {m : Nat} {nm : List Int} {ks : List (Nat × Nat)} (g : Grow m nm ks) : ks.map (edgeOf (nm ++ [(m : Int)])) = ks.map (edgeOf nm) :=
  List.map_congr_left fun q hq => by
    have := g.down q hq
    unfold edgeOf
    rw [more_get g.len (by omega), more_get g.len (by omega)]
theorem IsFor.more {m : Nat} {es : List (Int × Int)} (f : IsFor m es) : IsFor (m + 1) es := by
  obtain ⟨nm, ks, g, p⟩ := f.grow
  refine ⟨f.asc, fun q hq => by have := f.rng q hq; omega, nm ++ [(m : Int)], ks, g.more, ?_⟩
  rw [more_edges g]
  exact p
theorem IsFor.attach {m : Nat} {es : List (Int × Int)} {v : Int} (f : IsFor m es) (hv : 0 ≤ v ∧ v < m) : IsFor (m + 1) (srtP (es ++ [(v, (m : Int))])) := by
  obtain ⟨nm, ks, g, p⟩ := f.grow
  have l := g.len
  obtain ⟨i, hi, ei⟩ := List.mem_iff_getElem.mp (g.names.mem_iff.mpr (mem_rng.mpr hv))
  have gi : nm.getD i 0 = v := by rw [List.getD_eq_getElem?_getD, List.getElem?_eq_getElem hi]; exact ei
  have gm : (nm ++ [(m : Int)]).getD m 0 = (m : Int) := by
    rw [List.getD_eq_getElem?_getD, List.getElem?_append_right (by omega), l, Nat.sub_self]
    rfl
  have g' : Grow (m + 1) (nm ++ [(m : Int)]) (ks ++ [(m, i)]) := ⟨g.more.names, List.pairwise_append.mpr ⟨g.up, List.pairwise_singleton _ _, fun a ha b hb => by
    rw [List.mem_singleton.mp hb]
    exact (g.down a ha).2⟩, fun q hq => by
    rcases List.mem_append.mp hq with hq | hq
    · have := g.down q hq
      omega
    · rw [List.mem_singleton.mp hq]
      simp only
      omega⟩
  refine g'.sorted ?_
  rw [List.map_append, more_edges g]
  refine List.Perm.append p (List.Perm.of_eq ?_)
  rw [List.map_singleton]
  unfold edgeOf
  simp only
  rw [gm, more_get l (by omega), gi, ordP_comm, ordP_eq (by omega)]
theorem IsFor.empty : IsFor 0 [] := ⟨.nil, (fun _ h => nomatch h), [], [], ⟨.nil, .nil, (fun _ h => nomatch h)⟩, .nil⟩
end TL
namespace TL
open PySem PySem.Spec PyProof.Rows L2
section
variable {X : Cx} {pos : Pos}
theorem pgLK (K : PySem.W.Frag) {es : List Expr} {k : Nat} {t : TGs} {n : Nat} (h : PGs X es t) (hc : X.calm = true := by rfl) (hK : X.K = K := by rfl)
    (hn : (assignEach es X.env).length = n := by rfl) (hst : (assignEach es X.env).findIdx? (·.1) = none := by rfl) :
    PG X (.Tuple es k pos) (gLst K n t) := hK ▸ pg_lst hc h hn hst
theorem leTK (K : PySem.W.Frag) (hu : X.A.units + 64 < cLine) (h : X.K = K := by rfl) : OpR X (compareOp .LtE) (rLeT K) := h ▸ op_leT (by omega)
end
section
variable {X : Cx}
/-- t.index(n), t a tuple of ints that holds n -/
def rTix (K : PySem.W.Frag) : V → List V → Hp → VK → Prop := fun x xs H Q => ∃ (p : Addr) (ns : List Int) (k : Int), x = .ref p ∧ xs = [.int k] ∧ SqT K H p (ns.map V.int) ∧ k ∈ ns ∧ Q (.int (ns.idxOf k : Nat)) H
theorem mt_tix : MtR X "tuple.index" (rTix X.K) := by
  intro pins s σ H x xs v us Q I rx rs h
  obtain ⟨p, ns, k, rfl, rfl, hq, hk, q⟩ := h
  cases rx
  obtain ⟨u, rfl, t, rfl⟩ := vals1 rs
  obtain ⟨its, r, ⟨o0, ho0, hc0, n0, hd0⟩, hz⟩ := I.tuple hq
  have i1 : IntsAre its ns := Vals.ints r
  refine SeqAt.call_tuple_index (ks := ns) (k := k) ⟨o0, ho0, hc0, n0, hd0⟩ ⟨i1.length, fun j h1 h2 => ?_⟩ hk ⟨.int _, H, I.tok _, ⟨_, rfl⟩, q⟩
  obtain ⟨t', et⟩ := PyProof.Rows.IntsAre.int_at i1 j its[j] (List.getElem?_eq_getElem h1)
  rw [et]
  have e : ns.getD j 0 = ns[j] := by rw [List.getD_eq_getElem?_getD, List.getElem?_eq_getElem h2]; rfl
  rw [e]
  have z : (ns[j] == k) = decide (ns[j] = k) := by
    by_cases q : ns[j] = k
    · rw [decide_eq_true q]; exact beq_iff_eq.mpr q
    · rw [decide_eq_false q]; exact beq_eq_false_iff_ne.mpr q
  rw [← z]
  exact SeqAt.EqAt.int_int _ _ _ _
theorem tixK (K : PySem.W.Frag) (h : X.K = K := by rfl) : MtR X "tuple.index" (rTix K) := h ▸ mt_tix
end
theorem filt_true {α : Type} (l : List α) : l.filter (fun _ => true) = l := List.filter_eq_self.mpr fun _ _ => rfl
/-- a loop by a measure that is carried along -/
theorem while_ms {c : TT} {tb : TS} {D : Ends} {σ : L2.St} {H : Hp} (W : Nat → L2.St → Hp → Prop) (n : Nat) (h0 : W n σ H)
    (hs : ∀ n σ H, W n σ H → c σ H fun b H1 => if b = true then tb { D with nx := fun σ' H' => ∃ n', n' < n ∧ W n' σ' H', ct := fun σ' H' => ∃ n', n' < n ∧ W n' σ' H', bk := D.nx } σ H1 else D.nx σ H1)
    (mono : ∀ σ H Q Q', (∀ b H1, Q b H1 → Q' b H1) → c σ H Q → c σ H Q') : tWhile c tb D σ H := by
  refine ⟨W, ⟨n, h0⟩, fun m σ H p => mono σ H _ _ (fun b H1 q => ?_) (hs m σ H p)⟩
  cases b with
  | true => exact ⟨_, fun σ' H' h => h, q⟩
  | false => exact q
/-! ### the state of the draws: cells, a count, what is left of great cells -/
structure Dw (H : Hp) (d r c : Addr) (n : Nat) : Prop where
  ex : ∃ (k : Nat) (cs rs : List Int), k ≤ n ∧ H d = some (.lst [.ref c, .int (k : Int), .ref r]) ∧ H c = some (.lst (cs.map V.int)) ∧ H r = some (.lst (rs.map V.int)) ∧
    c ≠ r ∧ 0 < cs.length ∧ rs.length = cs.length ∧ cs.length ≤ 63 ∧ (∀ z ∈ cs, 0 ≤ z) ∧ (∀ z ∈ rs, 0 ≤ z)
theorem ne_ints {H : Hp} {d c x : Addr} {vs : List V} {ns : List Int} (h1 : H d = some (.lst (.ref x :: vs))) (h2 : H c = some (.lst (ns.map V.int))) : d ≠ c := by
  intro e
  rw [e, h2] at h1
  cases ns with
  | nil => cases h1
  | cons z r => cases h1
theorem Dw.same {H H' : Hp} {d r c : Addr} {n : Nat} (h : Dw H d r c n) (e : Same H H') : Dw H' d r c n := by
  obtain ⟨k, cs, rs, hk, h1, h2, h3, h4⟩ := h.ex
  exact ⟨k, cs, rs, hk, e _ _ h1, e _ _ h2, e _ _ h3, h4⟩
theorem Dw.le {H : Hp} {d r c : Addr} {n m : Nat} (h : Dw H d r c n) (e : n ≤ m) : Dw H d r c m := by
  obtain ⟨k, cs, rs, hk, h4⟩ := h.ex
  exact ⟨k, cs, rs, Nat.le_trans hk e, h4⟩
theorem Dw.off {H : Hp} {d r c a : Addr} {n : Nat} (h : Dw H d r c n) (ha : H a = none) : a ≠ d ∧ a ≠ r ∧ a ≠ c := by
  obtain ⟨k, cs, rs, hk, h1, h2, h3, h4⟩ := h.ex
  exact ⟨fun z => (by rw [z, h1] at ha; cases ha), fun z => (by rw [z, h3] at ha; cases ha), fun z => (by rw [z, h2] at ha; cases ha)⟩
theorem Dw.put {H : Hp} {d r c a : Addr} {n : Nat} {o : HO} (h : Dw H d r c n) (e : a ≠ d ∧ a ≠ r ∧ a ≠ c) : Dw (upd H a o) d r c n := by
  obtain ⟨k, cs, rs, hk, h1, h2, h3, h4⟩ := h.ex
  exact ⟨k, cs, rs, hk, by rw [upd_ne e.1.symm]; exact h1, by rw [upd_ne e.2.2.symm]; exact h2, by rw [upd_ne e.2.1.symm]; exact h3, h4⟩
theorem Fm.ktw {K : PySem.W.Frag} {H H' : Hp} {d r c : Addr} {n : Nat} (e : Fm d r H H') (h : Dw H d r c n) : KT K H H' := by
  obtain ⟨k, cs, rs, hk, h1, h2, h3, h4⟩ := h.ex
  intro a xs q
  rcases q with (q | ⟨o, q⟩) | q
  · refine .inl (.inl (e _ _ (fun z => ?_) (fun z => ?_) q))
    · rw [z, h1] at q; cases q
    · rw [z, h3] at q; cases q
  · refine .inl (.inr ⟨o, e _ _ (fun z => ?_) (fun z => ?_) q⟩)
    · rw [z, h1] at q; cases q
    · rw [z, h3] at q; cases q
  · exact .inr q
theorem Fm.put1 {d l a : Addr} {H H' : Hp} {o : HO} (h : Fm d l H H') (ha : H a = none) : Fm d l H (upd H' a o) := fun b u n1 n2 e => by
  rw [upd_ne (ne_of_none e ha)]
  exact h b u n1 n2 e
theorem erase_prm {rs : List Int} {k : Nat} (h : k < rs.length) : (rs[k] :: rs.eraseIdx k).Perm rs := by
  induction rs generalizing k with
  | nil => exact absurd h (Nat.not_lt_zero _)
  | cons a r ih =>
    cases k with
    | zero => exact List.Perm.refl _
    | succ k =>
      have h' : k < r.length := by rw [List.length_cons] at h; omega
      exact (List.Perm.swap _ _ _).trans (List.Perm.cons a (ih h'))
theorem erase_mp : ∀ (rs : List Int) (k : Nat), (rs.map V.int).eraseIdx k = (rs.eraseIdx k).map V.int
  | [], _ => rfl
  | a :: r, 0 => rfl
  | a :: r, k + 1 => congrArg (V.int a :: ·) (erase_mp r k)
theorem modIn {x m : Int} (h : 0 < m) : 0 ≤ x % m ∧ x % m < m := ⟨Int.emod_nonneg x (by omega), Int.emod_lt_of_pos x h⟩
theorem rgVrng (m : Nat) : rgV 0 (m : Int) = (rng m).map V.int := by
  unfold rgV rng
  rw [List.map_map]
  have e : ((m : Int) - 0).toNat = m := by omega
  rw [e]
  refine List.map_congr_left fun i _ => ?_
  show V.int (0 + (i : Int)) = V.int (Int.ofNat i)
  rw [Int.zero_add]
  rfl
theorem decInt (a b : Int) : decide (V.int a = V.int b) = decide (a = b) := by
  by_cases h : a = b
  · subst h; simp
  · have : ¬ V.int a = V.int b := fun z => h (V.int.inj z)
    rw [decide_eq_false h, decide_eq_false this]
theorem cut63 {ns : List Int} (h : ns.length ≤ 63) : cutV (ns.map V.int) none (some 63) = ns.map V.int := by
  unfold cutV
  rw [HT.sIx_none, show HT.sIx (ns.map V.int).length (ns.map V.int).length (some 63) = min 63 (ns.map V.int).length from HT.sIx_nat _ _ 63]
  rw [List.drop_zero]
  exact List.take_of_length_le (by rw [List.length_map]; omega)
theorem shaped_forD (m : Nat) (es : List (Int × Int)) : SeqAt.shaped (forD m es) = true := by
  have h1 : ∀ l : List (Int × Int), PyData.depthAll (l.map prD) ≤ 1 := by
    intro l
    induction l with
    | nil => simp [PyData.depthAll]
    | cons p l ih =>
      simp only [List.map_cons, PyData.depthAll]
      exact Nat.max_le.mpr ⟨by simp [prD, PyData.depth, PyData.depthAll], ih⟩
  have h2 := h1 es
  have h : (forD m es).depth ≤ 64 := by
    simp only [forD, prsD, PyData.depth, PyData.depthAll]
    omega
  unfold SeqAt.shaped
  rw [decide_eq_true h, Bool.and_true]
  simp only [forD, prsD, PyData.canLay0, PyData.canLayAll0, lay_prs, Bool.and_self, Bool.and_true]
theorem idx_back {m : Nat} {ns : List Int} (h : ns.Perm (rng m)) {v : Int} (v0 : 0 ≤ v) (v1 : v < m) : nam ((rng m).map fun u => ((ns.idxOf u : Nat) : Int)) (nam ns v) = v := by
  have hn := nam_in h ⟨v0, v1⟩
  have nd : ns.Nodup := h.nodup_iff.mpr (rng_asc m).nodup
  have hl : v.toNat < ns.length := by rw [perm_len h]; omega
  have e1 : nam ns v = ns[v.toNat] := by
    unfold nam
    rw [List.getD_eq_getElem?_getD, List.getElem?_eq_getElem hl]
    rfl
  have e2 : (rng m)[(nam ns v).toNat]? = some (nam ns v) := by
    unfold rng
    rw [List.getElem?_map, List.getElem?_range (by omega)]
    show some (Int.ofNat (nam ns v).toNat) = _
    congr 1
    simp only [Int.ofNat_eq_natCast]
    omega
  have e3 : ns.idxOf (nam ns v) = v.toNat := by
    rw [e1]
    exact nd.idxOf_getElem _ hl
  show ((rng m).map fun u => ((ns.idxOf u : Nat) : Int)).getD (nam ns v).toNat 0 = v
  rw [List.getD_eq_getElem?_getD, List.getElem?_map, e2]
  show ((ns.idxOf (nam ns v) : Nat) : Int) = v
  rw [e3]
  omega
theorem nam_at {m : Nat} {ns : List Int} (h : ns.length = m) {v : Int} (v0 : 0 ≤ v) (v1 : v < m) : atI (ns.map V.int) v = some (.int (nam ns v)) := by
  have hl : v.toNat < ns.length := by omega
  refine at_of (j := v.toNat) (by omega) ?_
  unfold nam
  rw [List.getElem?_map, List.getD_eq_getElem?_getD, List.getElem?_eq_getElem hl]
  rfl
end TL
namespace TL
open PySem PySem.Spec PyProof.Rows L2
/-! ### methods of a tuple: the tuple is laid with its very object, so that it is known to have no dict -/
def rTupF (K : PySem.W.Frag) : List V → Hp → VK → Prop := fun xs H Q => ∃ p ys, xs = [.ref p] ∧ SqL K H p ys ∧
  ∀ l ob, H l = none → ob.dict = none → Q (.ref l) (upd H l (.frz ob (.tup ys)))
/-- the value is a tuple laid so -/
def FrzT (x : V) (H : Hp) : Prop := ∃ p ob xs, x = .ref p ∧ H p = some (.frz ob (.tup xs)) ∧ ob.dict = none
def tBMF (r : V → List V → Hp → VK → Prop) (to : TE) (t : TA) : TE := fun σ H Q => to σ H fun x G => FrzT x G ∧ t σ G fun ys G2 => r x ys G2 Q
section
variable {X : Cx}
theorem call_tupF : CallR X (.type "tuple") (rTupF X.K) := by
  intro pins s σ H xs us Q I rr ⟨p, ys, ex, hq, q⟩
  subst ex
  obtain ⟨u, eu, rx⟩ := vals1 rr
  subst eu
  cases rx
  obtain ⟨its, rv, pl, hz⟩ := I.list hq
  have ln := rv.length
  refine call_tuple_list pl.isList (fun G kp => ?_) (by rw [List.size_toArray]; omega)
  have J : Inv X pins σ H { s with heap := G } := I.kept (t' := s.toks) kp
  let ob : Obj := { cls := .type "tuple", data := .seq its.toArray }
  have at0 : (G.push ob).get? G.objs.size = some ob := Heap.get?_push_size _ rfl
  have new : ObjOk X.prog X.w (upd H G.objs.size (.frz ob (.tup ys))) (G.push ob) G.objs.size (.frz ob (.tup ys)) := ⟨at0, hz, its, rv, ob, at0, rfl, _, rfl⟩
  have J2 := J.laid (t' := s.toks) (h' := G.push ob) (fun b o e => Heap.get?_push_of_some _ e) (Nat.le_refl _) new
  exact ⟨.ref G.objs.size, _, J2, rfl, q _ ob (J.hok.fresh (Nat.le_refl _)) rfl⟩
theorem frz_is {pins : List (Addr × Obj)} {σ : L2.St} {H : Hp} {s : Shared} {x : V} {v : Value} (I : Inv X pins σ H s) (rx : RelV x v) (f : FrzT x H) :
    s.TypeIs v "tuple" ∧ ∀ a, v = .ref a → ∃ o, s.heap.get? a = some o ∧ o.dict = none := by
  obtain ⟨p, ob, xs, ex, hp, nd⟩ := f
  subst ex
  cases rx
  obtain ⟨g, _, its, _, o, ho, hc, _⟩ := I.hok p _ hp
  exact ⟨⟨o, ho, hc⟩, fun a e => by cases e; exact ⟨ob, g, nd⟩⟩
theorem pe_bmF {o e : Expr} {es : List Expr} {to : TE} {t : TA} {name : Str} {apos cpos : Pos} {id : String} {r : V → List V → Hp → VK → Prop}
    (slot : Slot "tuple" name id) (hty : typeOf (.builtin id) = pure (.type "method_descriptor")) (hm : MtR X id r) (ho : PE X o to) (ha : PA X (e :: es) t)
    (hbase : attributeBase o name X.env (eval o X.env) = eval o X.env := by rfl)
    (few : ((backTo cpos (starEach (e :: es) X.env)).all (fun z => !z.1) && (backToKw cpos (keywordEach [] X.env)).all (fun z => z.1.isSome)
      && decide ((e :: es).length + ([] : List Keyword).length + (if ([] : List Keyword).isEmpty then 0 else 1) < 30)) = true := by rfl)
    (hline : (apos.endLine == cpos.line) = true := by rfl) (hst : starEach (e :: es) X.env = (false, eval e X.env) :: starEach es X.env := by rfl)
    (hpl : (backTo cpos (starEach es X.env)).any (·.1) = false := by rfl) :
    PE X (.Call (.Attribute o name apos) (e :: es) [] cpos) (tBMF r to t) := by
  constructor
  intro pins s σ H Q I h
  refine wpAny_Call_method_late hbase few hline rfl (thn (ho.run pins s σ H _ I h) fun v s1 got => ?_)
  obtain ⟨x, H1, J, rx, fz, rest⟩ := got
  have ty := frz_is J rx fz
  refine ⟨"tuple", id, PySem.F.plainAttrs_tuple, slot, hty, ty.1, ty.2, ?_⟩
  have args := ha.run cpos pins s1 σ H1 _ J rest
  rw [hst] at args ⊢
  have noStar : ((false, eval e X.env) :: backTo cpos (starEach es X.env)).any (·.1) = false := by
    rw [List.any_cons, hpl]
    rfl
  refine Calls.callWith_builtin (by exact noStar) (Calls.evalArgs_plain (thn args fun us s2 got2 => ?_))
  obtain ⟨vs, H2, J2, r2, q2⟩ := got2
  exact hm pins s2 σ H2 x vs v us Q J2 rx r2 q2
theorem tupFK (K : PySem.W.Frag) (h : X.K = K := by rfl) : CallR X (.type "tuple") (rTupF K) := h ▸ call_tupF
end
theorem lay_forD (m : Nat) (es : List (Int × Int)) : (forD m es).canLay0 = true := by
  simp only [forD, prsD, PyData.canLay0, PyData.canLayAll0, lay_prs, Bool.and_self, Bool.and_true]
theorem frz_T {K : PySem.W.Frag} {H : Hp} {p : Addr} {ob : Obj} {xs : List V} (h : H p = some (.frz ob (.tup xs))) : SqT K H p xs := .inl (.inr ⟨ob, h⟩)
end TL
namespace TL
/-! ### locks: no lamp of it has a neighbour without another one of it -/
def Cl (m : Nat) (es : List (Int × Int)) (T : List Int) : Prop := ∀ x ∈ T, ∀ v ∈ nearL m es x, oth m es T x v ≠ []
theorem Cl.other {m : Nat} {es : List (Int × Int)} {T : List Int} (h : Cl m es T) {x v : Int} (hx : x ∈ T) (hv : v ∈ nearL m es x) : ∃ y ∈ T, y ≠ x ∧ y ∈ nearL m es v := by
  obtain ⟨y, hy⟩ := List.exists_mem_of_ne_nil _ (h x hx v hv)
  obtain ⟨h1, h2, h3⟩ := mem_oth.mp hy
  exact ⟨y, h2, h3, h1⟩
theorem Cl.of {m : Nat} {es : List (Int × Int)} {T : List Int} (h : ∀ x ∈ T, ∀ v ∈ nearL m es x, ∃ y ∈ T, y ≠ x ∧ y ∈ nearL m es v) : Cl m es T := fun x hx v hv e => by
  obtain ⟨y, h1, h2, h3⟩ := h x hx v hv
  have : y ∈ oth m es T x v := mem_oth.mpr ⟨h3, h1, h2⟩
  rw [e] at this
  cases this
structure IsGr (m : Nat) (es : List (Int × Int)) (S G : List Int) : Prop where
  asc : Asc G
  sub : ∀ x ∈ G, x ∈ S
  cl : Cl m es G
  max : ∀ T : List Int, (∀ x ∈ T, x ∈ S) → Cl m es T → ∀ x ∈ T, x ∈ G
theorem IsGr.mono {m : Nat} {es : List (Int × Int)} {S S' G G' : List Int} (h : IsGr m es S G) (h' : IsGr m es S' G') (s : ∀ x ∈ S, x ∈ S') : ∀ x ∈ G, x ∈ G' :=
  h'.max G (fun x hx => s x (h.sub x hx)) h.cl
theorem IsGr.uniq {m : Nat} {es : List (Int × Int)} {S G G' : List Int} (h : IsGr m es S G) (h' : IsGr m es S G') : G = G' :=
  asc_ext h.asc h'.asc fun x => ⟨h.mono h' (fun _ z => z) x, h'.mono h (fun _ z => z) x⟩
theorem IsGr.set {m : Nat} {es : List (Int × Int)} {S G : List Int} (h : IsGr m es S G) (iss : IsSet m es S) : IsSet m es G :=
  ⟨h.asc, fun v hv => iss.rng v (h.sub v hv), fun u hu v hv => iss.free u (h.sub u hu) v (h.sub v hv)⟩
theorem IsGr.self {m : Nat} {es : List (Int × Int)} {S G G' : List Int} (h : IsGr m es S G) (h' : IsGr m es G G') : G' = G :=
  asc_ext h'.asc h.asc fun x => ⟨h'.sub x, h'.max G (fun _ z => z) h.cl x⟩
/-! ### slides and locks -/
theorem IsGr.fixed {m : Nat} {es : List (Int × Int)} {S G : List Int} (h : IsGr m es S G) {u v : Int} (p : (u, v) ∈ slidesP m es S) : u ∉ G ∧ ∀ o ∈ nearL m es v, o ∉ G := by
  obtain ⟨hu, hv, ho⟩ := mem_slidesP.mp p
  have nu : u ∉ G := fun z => by
    obtain ⟨y, y1, y2, y3⟩ := h.cl.other z hv
    have : y ∈ oth m es S u v := mem_oth.mpr ⟨y3, h.sub y y1, y2⟩
    rw [ho] at this
    cases this
  refine ⟨nu, fun o h1 z => ?_⟩
  by_cases e : o = u
  · subst e
    exact nu z
  · have : o ∈ oth m es S u v := mem_oth.mpr ⟨h1, h.sub o z, e⟩
    rw [ho] at this
    cases this
theorem IsGr.none {m : Nat} {es : List (Int × Int)} {S G : List Int} (h : IsGr m es S G) (asc : Asc S) : slidesP m es S = [] ↔ G = S := by
  constructor
  · intro e
    refine asc_ext h.asc asc fun x => ⟨h.sub x, h.max S (fun _ z => z) (fun x hx v hv eo => ?_) x⟩
    have : (x, v) ∈ slidesP m es S := mem_slidesP.mpr ⟨hx, hv, eo⟩
    rw [e] at this
    cases this
  · rintro rfl
    refine List.eq_nil_iff_forall_not_mem.mpr fun p hp => ?_
    obtain ⟨u, v⟩ := p
    exact (h.fixed hp).1 (mem_slidesP.mp hp).1
theorem IsGr.len {m : Nat} {es : List (Int × Int)} {S G : List Int} (h : IsGr m es S G) (asc : Asc S) : G.length ≤ S.length ∧ (G.length < S.length ↔ G ≠ S) := by
  have le : G.length ≤ S.length := h.asc.nodup.length_le_of_subset h.sub
  refine ⟨le, fun z e => ?_, fun ne => ?_⟩
  · rw [e] at z
    exact Nat.lt_irrefl _ z
  · refine Nat.lt_of_le_of_ne le fun e => ne ?_
    refine asc_ext h.asc asc fun x => ⟨h.sub x, fun hx => ?_⟩
    by_cases hg : x ∈ G
    · exact hg
    · exfalso
      have nd : (x :: G).Nodup := List.nodup_cons.mpr ⟨hg, h.asc.nodup⟩
      have := nd.length_le_of_subset (l₂ := S) fun y hy => by
        rcases List.mem_cons.mp hy with rfl | hy
        · exact hx
        · exact h.sub y hy
      rw [List.length_cons] at this
      omega
theorem IsGr.slid {m : Nat} {es : List (Int × Int)} {S G G' : List Int} (f : IsFor m es) (iss : IsSet m es S) (h : IsGr m es S G) {u v : Int} (p : (u, v) ∈ slidesP m es S) (h' : IsGr m es (after S u v) G') : G' = G := by
  have q := slide_back f iss p
  have bk := after_back f iss p
  refine asc_ext h'.asc h.asc fun x => ⟨fun hx => ?_, fun hx => ?_⟩
  · refine h.max G' (fun y hy => ?_) h'.cl x hx
    rcases mem_after.mp (h'.sub y hy) with ⟨h1, _⟩ | h1
    · exact h1
    · exact absurd (h1 ▸ hy) (h'.fixed q).1
  · refine h'.max G (fun y hy => ?_) h.cl x hx
    exact mem_after.mpr (.inl ⟨h.sub y hy, fun e => (h.fixed p).1 (e ▸ hy)⟩)
end TL
namespace TL
/-! ### the lamps that are lit in every setting that can be reached are the greatest lock -/
inductive Rch (m : Nat) (es : List (Int × Int)) (S : List Int) : List Int → Prop
  | refl : Rch m es S S
  | step {T : List Int} {u v : Int} : Rch m es S T → (u, v) ∈ slidesP m es T → Rch m es S (after T u v)
theorem Rch.trans {m : Nat} {es : List (Int × Int)} {S T W : List Int} (h : Rch m es S T) (k : Rch m es T W) : Rch m es S W := by
  induction k with
  | refl => exact h
  | step _ p ih => exact .step ih p
theorem Rch.both {m : Nat} {es : List (Int × Int)} {S T : List Int} (f : IsFor m es) (iss : IsSet m es S) (h : Rch m es S T) : IsSet m es T ∧ Rch m es T S := by
  induction h with
  | refl => exact ⟨iss, .refl⟩
  | @step T u v _ p ih =>
    obtain ⟨isT, back⟩ := ih
    obtain ⟨p1, p2, p3⟩ := mem_slidesP.mp p
    refine ⟨IsSet.after f isT p1 p2 p3, ?_⟩
    have q := Rch.step (.refl) (slide_back f isT p)
    rw [after_back f isT p] at q
    exact q.trans back
theorem near_adj {m : Nat} {es : List (Int × Int)} {a b : Int} (h : a ∈ nearL m es b) : Adj es a b := by
  have := (mem_nearL.mp h).2
  unfold ordP at this
  split at this
  · exact .inl this
  · exact .inr this
/-- the edges without those of a vertex -/
def cutE (es : List (Int × Int)) (v : Int) : List (Int × Int) := es.filter fun p => !decide (p.1 = v) && !decide (p.2 = v)
theorem adj_cut {es : List (Int × Int)} {v a b : Int} : Adj (cutE es v) a b ↔ Adj es a b ∧ a ≠ v ∧ b ≠ v := by
  unfold Adj cutE
  simp only [List.mem_filter, Bool.and_eq_true, Bool.not_eq_true', decide_eq_false_iff_not]
  constructor
  · rintro (⟨h1, h2, h3⟩ | ⟨h1, h2, h3⟩)
    · exact ⟨.inl h1, h2, h3⟩
    · exact ⟨.inr h1, h3, h2⟩
  · rintro ⟨h1 | h1, h2, h3⟩
    · exact .inl ⟨h1, h2, h3⟩
    · exact .inr ⟨h1, h3, h2⟩
theorem Pth.avoid {es : List (Int × Int)} {v a b : Int} {p : List Int} (h : Pth (cutE es v) a b p) : a ≠ v → v ∉ p := by
  induction h with
  | one a => exact fun n z => n (List.mem_singleton.mp z).symm
  | cons ad _ _ ih =>
    intro n z
    rcases List.mem_cons.mp z with z | z
    · exact n z.symm
    · exact ih (adj_cut.mp ad).2.2 z
theorem branch_apart {m : Nat} {es : List (Int × Int)} (f : IsFor m es) {v y z : Int} (hy : y ∈ nearL m es v) (hz : z ∈ nearL m es v) (ny : y ≠ v) (nz : z ≠ v) (c : Conn (cutE es v) y z) : y = z := by
  obtain ⟨p, hp⟩ := c.pth
  have nv := hp.avoid ny
  have hp' : Pth es y z p := hp.mono fun q hq => (List.mem_filter.mp hq).1
  have h1 : Pth es v z (v :: p) := .cons (near_adj hy).symm hp' nv
  have h2 : Pth es v z [v, z] := .cons (near_adj hz).symm (.one z) fun h => nz (List.mem_singleton.mp h).symm
  have e := f.uniq _ _ _ _ h1 h2
  have e2 : p = [z] := (List.cons.inj e).2
  have := hp.first
  rw [e2] at this
  exact List.mem_singleton.mp this
/-- slides inside of a branch at a dark vertex can be done by themselves -/
theorem Rch.inside {m : Nat} {es : List (Int × Int)} (f : IsFor m es) {v : Int} {B : Int → Prop} (hB : ∀ p q, B p → q ∈ nearL m es p → q ≠ v → B q) {T W : List Int} (dark : ∀ W, Rch m es T W → v ∉ W) (h : Rch m es T W) :
    ∃ W', Rch m es T W' ∧ (∀ z, B z → (z ∈ W' ↔ z ∈ W)) ∧ ∀ z, ¬ B z → (z ∈ W' ↔ z ∈ T) := by
  induction h with
  | refl => exact ⟨T, .refl, (fun _ _ => Iff.rfl), fun _ _ => Iff.rfl⟩
  | @step W a b hW p ih =>
    obtain ⟨W', r, h1, h2⟩ := ih
    obtain ⟨ha, hb, ho⟩ := mem_slidesP.mp p
    have na : a ≠ v := fun z => dark _ hW (z ▸ ha)
    have nb : b ≠ v := fun z => dark _ (.step hW p) (mem_after.mpr (.inr z.symm))
    by_cases Ba : B a
    · have Bb := hB a b Ba hb nb
      have q : (a, b) ∈ slidesP m es W' := mem_slidesP.mpr ⟨(h1 a Ba).mpr ha, hb, List.eq_nil_iff_forall_not_mem.mpr fun o z => by
        obtain ⟨o1, o2, o3⟩ := mem_oth.mp z
        have no : o ≠ v := fun z => dark _ r (z ▸ o2)
        have : o ∈ oth m es W a b := mem_oth.mpr ⟨o1, (h1 o (hB b o Bb o1 no)).mp o2, o3⟩
        rw [ho] at this
        cases this⟩
      refine ⟨_, .step r q, fun z Bz => ?_, fun z nz => ?_⟩
      · rw [mem_after, mem_after, h1 z Bz]
      · have za : z ≠ a := fun e => nz (e ▸ Ba)
        have zb : z ≠ b := fun e => nz (e ▸ Bb)
        rw [mem_after, h2 z nz]
        exact ⟨fun h => h.elim (·.1) (fun e => absurd e zb), fun h => .inl ⟨h, za⟩⟩
    · have Bb : ¬ B b := fun h => Ba (hB b a h ((mem_nearL_comm f).mp hb) na)
      refine ⟨W', r, fun z Bz => ?_, h2⟩
      have za : z ≠ a := fun e => Ba (e ▸ Bz)
      have zb : z ≠ b := fun e => Bb (e ▸ Bz)
      rw [mem_after, h1 z Bz]
      exact ⟨fun h => .inl ⟨h, za⟩, fun h => h.elim (·.1) (fun e => absurd e zb)⟩
theorem IsGr.lit {m : Nat} {es : List (Int × Int)} {S G : List Int} (f : IsFor m es) (iss : IsSet m es S) (h : IsGr m es S G) {x : Int} : x ∈ G ↔ ∀ W, Rch m es S W → x ∈ W := by
  constructor
  · intro hx W r
    have sub : ∀ y ∈ G, y ∈ W := by
      induction r with
      | refl => exact h.sub
      | @step T u v _ p ih =>
        intro y hy
        refine mem_after.mpr (.inl ⟨ih y hy, fun e => ?_⟩)
        subst e
        obtain ⟨_, hv, ho⟩ := mem_slidesP.mp p
        obtain ⟨z, z1, z2, z3⟩ := h.cl.other hy hv
        have : z ∈ oth m es T y v := mem_oth.mpr ⟨z3, ih z z1, z2⟩
        rw [ho] at this
        cases this
    exact sub x hx
  · intro hx
    have key : ∀ z, z ∈ S.filter (fun x => @decide (∀ W, Rch m es S W → x ∈ W) (Classical.propDecidable _)) ↔ ∀ W, Rch m es S W → z ∈ W := fun z => by
      rw [List.mem_filter]
      constructor
      · exact fun h => @of_decide_eq_true _ (Classical.propDecidable _) h.2
      · exact fun h => ⟨h S .refl, @decide_eq_true _ (Classical.propDecidable _) h⟩
    refine h.max _ (fun z hz => (List.mem_filter.mp hz).1) (Cl.of fun x hx v hv => ?_) x ((key x).mpr hx)
    have litx := (key x).mp hx
    refine Classical.byContradiction fun no => ?_
    have hxv : x ∈ nearL m es v := (mem_nearL_comm f).mp hv
    have nxv : x ≠ v := fun e => by
      have := (mem_nearL.mp hv).2
      rw [e] at this
      exact f.loop v this
    have step : ∀ N : List Int, (∀ y ∈ N, y ∈ nearL m es v) → ∃ T, Rch m es S T ∧ ∀ y ∈ N, y ≠ x → y ∉ T := by
      intro N
      induction N with
      | nil => exact fun _ => ⟨S, .refl, fun _ h => nomatch h⟩
      | cons y N ih =>
        intro hN
        obtain ⟨T, rT, dk⟩ := ih fun z hz => hN z (List.mem_cons_of_mem _ hz)
        by_cases hy : y ≠ x ∧ y ∈ T
        · have yv := hN y List.mem_cons_self
          have nyv : y ≠ v := fun e => by
            have := (mem_nearL.mp yv).2
            rw [e] at this
            exact f.loop v this
          have : ∃ W, Rch m es S W ∧ y ∉ W := Classical.byContradiction fun n2 => no ⟨y, (key y).mpr fun W r => Classical.byContradiction fun n3 => n2 ⟨W, r, n3⟩, hy.1, yv⟩
          obtain ⟨W, rW, nyW⟩ := this
          have isT := rT.both f iss
          have rTW : Rch m es T W := isT.2.trans rW
          have dark : ∀ W, Rch m es T W → v ∉ W := fun W r hvW => by
            have rS := rT.trans r
            have isW := (rS.both f iss).1
            exact isW.free x (litx W rS) v hvW (mem_nearL.mp hxv).2
          obtain ⟨W', r', i1, i2⟩ := Rch.inside f (B := fun z => Conn (cutE es v) y z) (v := v) (fun p q Bp hq nq => by
            by_cases np : p = v
            · exfalso
              obtain ⟨pp, hp⟩ := Bp.pth
              exact hp.avoid nyv (np ▸ hp.last)
            · exact .step Bp (adj_cut.mpr ⟨(near_adj hq).symm, np, nq⟩)) dark rTW
          refine ⟨W', rT.trans r', fun z hz nz => ?_⟩
          rcases List.mem_cons.mp hz with rfl | hz
          · exact fun h => nyW ((i1 z (.refl _)).mp h)
          · have zv := hN z (List.mem_cons_of_mem _ hz)
            have nzv : z ≠ v := fun e => by
              have := (mem_nearL.mp zv).2
              rw [e] at this
              exact f.loop v this
            by_cases Bz : Conn (cutE es v) y z
            · have := branch_apart f yv zv nyv nzv Bz
              subst this
              exact fun h => nyW ((i1 y (.refl _)).mp h)
            · exact fun h => dk z hz nz ((i2 z Bz).mp h)
        · refine ⟨T, rT, fun z hz nz hT => ?_⟩
          rcases List.mem_cons.mp hz with rfl | hz
          · exact hy ⟨nz, hT⟩
          · exact dk z hz nz hT
    obtain ⟨T, rT, dk⟩ := step (nearL m es v) fun _ h => h
    have p : (x, v) ∈ slidesP m es T := mem_slidesP.mpr ⟨litx T rT, hv, List.eq_nil_iff_forall_not_mem.mpr fun o z => by
      obtain ⟨o1, o2, o3⟩ := mem_oth.mp z
      exact dk o o1 o3 o2⟩
    rcases mem_after.mp (litx _ (.step rT p)) with h | h
    · exact h.2 rfl
    · exact nxv h
end TL
namespace TL
/-! ### settings without rigid lamps, with as many lamps in each part: each reaches the other -/
section
variable {m : Nat} {es : List (Int × Int)}
theorem IsFor.part (f : IsFor m es) (c : Int × Int → Bool) : IsFor m (es.filter c) := by
  obtain ⟨nm, ks, g, pm⟩ := f.grow
  refine ⟨f.asc.filter _, fun p hp => f.rng p (List.mem_filter.mp hp).1, nm, ks.filter (fun q => c (edgeOf nm q)), ⟨g.names, g.up.filter _, fun q hq => g.down q (List.mem_filter.mp hq).1⟩, ?_⟩
  have := pm.filter c
  rw [List.filter_map] at this
  exact this
theorem adj_near (f : IsFor m es) {a b : Int} (h : Adj es a b) : a ∈ nearL m es b := by
  refine mem_nearL.mpr ⟨?_, f.mem_ord.mpr h⟩
  rcases h with h | h
  · have := f.rng _ h
    simp only at this
    omega
  · have := f.rng _ h
    simp only at this
    omega
theorem near_ne (f : IsFor m es) {a b : Int} (h : a ∈ nearL m es b) : a ≠ b := fun e => by
  have := (mem_nearL.mp h).2
  rw [e] at this
  exact f.loop b this
/-- beside a vertex that can be lit, every vertex can be lit -/
theorem light_up {S : List Int} (f : IsFor m es) (iss : IsSet m es S) (gr : IsGr m es S []) {x g : Int} (hx : ∃ W, Rch m es S W ∧ x ∈ W) (hg : g ∈ nearL m es x) : ∃ W, Rch m es S W ∧ g ∈ W := by
  refine Classical.byContradiction fun no => ?_
  have dark : ∀ W, Rch m es S W → g ∉ W := fun W r h => no ⟨W, r, h⟩
  have hxg : x ∈ nearL m es g := (mem_nearL_comm f).mp hg
  have nx : x ≠ g := near_ne f hxg
  obtain ⟨W0, r0, x0⟩ := hx
  have step : ∀ N : List Int, (∀ y ∈ N, y ∈ nearL m es g) → ∃ T, Rch m es S T ∧ x ∈ T ∧ ∀ y ∈ N, y ≠ x → y ∉ T := by
    intro N
    induction N with
    | nil => exact fun _ => ⟨W0, r0, x0, fun _ h => nomatch h⟩
    | cons y N ih =>
      intro hN
      obtain ⟨T, rT, xT, dk⟩ := ih fun z hz => hN z (List.mem_cons_of_mem _ hz)
      by_cases hy : y ≠ x ∧ y ∈ T
      · have yg := hN y List.mem_cons_self
        have nyg : y ≠ g := near_ne f yg
        have : ∃ W, Rch m es S W ∧ y ∉ W := Classical.byContradiction fun n2 => by
          have : y ∈ ([] : List Int) := (gr.lit f iss).mpr fun W r => Classical.byContradiction fun n3 => n2 ⟨W, r, n3⟩
          cases this
        obtain ⟨W, rW, nyW⟩ := this
        have isT := rT.both f iss
        have rTW : Rch m es T W := isT.2.trans rW
        obtain ⟨W', r', i1, i2⟩ := Rch.inside f (B := fun z => Conn (cutE es g) y z) (v := g) (fun p q Bp hq nq => by
          by_cases np : p = g
          · exfalso
            obtain ⟨pp, hp⟩ := Bp.pth
            exact hp.avoid nyg (np ▸ hp.last)
          · exact .step Bp (adj_cut.mpr ⟨(near_adj hq).symm, np, nq⟩)) (fun W r => dark W (rT.trans r)) rTW
        have nBx : ¬ Conn (cutE es g) y x := fun c => hy.1 (branch_apart f yg hxg nyg nx c)
        refine ⟨W', rT.trans r', (i2 x nBx).mpr xT, fun z hz nz => ?_⟩
        rcases List.mem_cons.mp hz with rfl | hz
        · exact fun h => nyW ((i1 z (.refl _)).mp h)
        · have zg := hN z (List.mem_cons_of_mem _ hz)
          by_cases Bz : Conn (cutE es g) y z
          · have := branch_apart f yg zg nyg (near_ne f zg) Bz
            subst this
            exact fun h => nyW ((i1 y (.refl _)).mp h)
          · exact fun h => dk z hz nz ((i2 z Bz).mp h)
      · refine ⟨T, rT, xT, fun z hz nz hT => ?_⟩
        rcases List.mem_cons.mp hz with rfl | hz
        · exact hy ⟨nz, hT⟩
        · exact dk z hz nz hT
  obtain ⟨T, rT, xT, dk⟩ := step (nearL m es g) fun _ h => h
  have p : (x, g) ∈ slidesP m es T := mem_slidesP.mpr ⟨xT, hg, List.eq_nil_iff_forall_not_mem.mpr fun o z => by
    obtain ⟨o1, o2, o3⟩ := mem_oth.mp z
    exact dk o o1 o3 o2⟩
  exact dark _ (.step rT p) (mem_after.mpr (.inr rfl))
theorem light_conn {S : List Int} (f : IsFor m es) (iss : IsSet m es S) (gr : IsGr m es S []) {x v : Int} (hx : x ∈ S) (c : Conn es x v) : ∃ W, Rch m es S W ∧ v ∈ W := by
  induction c with
  | refl => exact ⟨S, .refl, hx⟩
  | step _ e ih => exact light_up f iss gr ih (adj_near f (Adj.symm e))
/-! ### numbers of lamps -/
noncomputable def num (B : Int → Prop) (S : List Int) : Nat := (S.filter fun x => @decide (B x) (Classical.propDecidable _)).length
theorem num_perm {B : Int → Prop} {S T : List Int} (h : S.Perm T) : num B S = num B T := (h.filter _).length_eq
theorem num_nil (B : Int → Prop) : num B [] = 0 := rfl
theorem num_cons {B : Int → Prop} {x : Int} {S : List Int} : num B (x :: S) = num B [x] + num B S := by
  unfold num
  rw [List.filter_cons, List.filter_cons]
  split
  · rw [List.length_cons, List.filter_nil, List.length_singleton]
    omega
  · rw [List.filter_nil, List.length_nil]
    omega
theorem num_one {B : Int → Prop} {x : Int} (h : B x) : num B [x] = 1 := by
  unfold num
  rw [List.filter_cons, if_pos (@decide_eq_true _ (Classical.propDecidable _) h)]
  rfl
theorem num_no {B : Int → Prop} {x : Int} (h : ¬ B x) : num B [x] = 0 := by
  unfold num
  rw [List.filter_cons, if_neg (fun z => h (@of_decide_eq_true _ (Classical.propDecidable _) z))]
  rfl
theorem num_congr {B C : Int → Prop} {S : List Int} (h : ∀ x ∈ S, B x ↔ C x) : num B S = num C S := by
  unfold num
  congr 1
  refine List.filter_congr fun x hx => ?_
  by_cases b : B x
  · rw [@decide_eq_true _ (Classical.propDecidable _) b, @decide_eq_true _ (Classical.propDecidable _) ((h x hx).mp b)]
  · rw [@decide_eq_false _ (Classical.propDecidable _) b, @decide_eq_false _ (Classical.propDecidable _) (fun z => b ((h x hx).mpr z))]
theorem num_zero {B : Int → Prop} {S : List Int} (h : ∀ x ∈ S, ¬ B x) : num B S = 0 := by
  unfold num
  rw [List.length_eq_zero_iff, List.filter_eq_nil_iff]
  exact fun x hx z => h x hx (@of_decide_eq_true _ (Classical.propDecidable _) z)
theorem num_pos {B : Int → Prop} {S : List Int} {x : Int} (hx : x ∈ S) (b : B x) : 0 < num B S := by
  unfold num
  exact List.length_pos_of_mem (List.mem_filter.mpr ⟨hx, @decide_eq_true _ (Classical.propDecidable _) b⟩)
theorem num_pos_iff {B : Int → Prop} {S : List Int} : 0 < num B S ↔ ∃ x ∈ S, B x := by
  constructor
  · intro h
    unfold num at h
    obtain ⟨x, hx⟩ := List.exists_mem_of_length_pos h
    obtain ⟨h1, h2⟩ := List.mem_filter.mp hx
    exact ⟨x, h1, @of_decide_eq_true _ (Classical.propDecidable _) h2⟩
  · rintro ⟨x, hx, b⟩
    exact num_pos hx b
theorem perm_of_mem {S T : List Int} (hS : S.Nodup) (hT : T.Nodup) (h : ∀ x, x ∈ S ↔ x ∈ T) : S.Perm T := (List.perm_ext_iff_of_nodup hS hT).mpr h
theorem num_add {B : Int → Prop} {S T : List Int} {v : Int} (hS : S.Nodup) (hT : T.Nodup) (nv : v ∉ T) (h : ∀ x, x ∈ S ↔ x ∈ T ∨ x = v) : num B S = num B [v] + num B T := by
  have : S.Perm (v :: T) := perm_of_mem hS (List.nodup_cons.mpr ⟨nv, hT⟩) fun x => by rw [h x, List.mem_cons, Or.comm]
  rw [num_perm this, num_cons]
theorem num_after {B : Int → Prop} {S : List Int} {u v : Int} (hS : S.Nodup) (hu : u ∈ S) (h : B u ↔ B v) : num B (after S u v) = num B S := by
  have e1 : num B (after S u v) = num B (v :: S.filter (fun l => !decide (l = u))) := num_perm ((srtI_perm _).trans (List.perm_append_comm (l₁ := S.filter (fun l => !decide (l = u))) (l₂ := [v])))
  have e2 : S.Perm (u :: S.filter (fun l => !decide (l = u))) := by
    refine perm_of_mem hS (List.nodup_cons.mpr ⟨fun z => ?_, hS.filter _⟩) fun x => ?_
    · have := (List.mem_filter.mp z).2
      rw [decide_eq_true rfl] at this
      cases this
    · rw [List.mem_cons, List.mem_filter]
      by_cases e : x = u
      · subst e
        exact ⟨fun _ => .inl rfl, fun _ => hu⟩
      · rw [decide_eq_false e]
        exact ⟨fun z => .inr ⟨z, rfl⟩, fun z => z.elim (fun y => absurd y e) (·.1)⟩
  rw [e1, num_perm e2, num_cons, num_cons (x := u)]
  have : num B [v] = num B [u] := by
    by_cases b : B u
    · rw [num_one b, num_one (h.mp b)]
    · rw [num_no b, num_no fun z => b (h.mpr z)]
  omega
theorem Rch.num {S T : List Int} (f : IsFor m es) (iss : IsSet m es S) {B : Int → Prop} (hB : ∀ a b, Adj es a b → B a → B b) (h : Rch m es S T) : num B T = num B S := by
  induction h with
  | refl => rfl
  | @step T u v r p ih =>
    obtain ⟨p1, p2, p3⟩ := mem_slidesP.mp p
    have ad := near_adj p2
    rw [num_after (r.both f iss).1.asc.nodup p1 ⟨hB _ _ ad.symm, hB _ _ ad⟩, ih]
theorem Rch.gr {S T G : List Int} (f : IsFor m es) (iss : IsSet m es S) (g : IsGr m es S G) (h : Rch m es S T) : IsGr m es T G := by
  have key : ∀ x ∈ G, x ∈ T := fun x hx => (g.lit f iss).mp hx T h
  refine ⟨g.asc, key, g.cl, fun L sub cl x hx => ?_⟩
  obtain ⟨isT, back⟩ := h.both f iss
  -- what is closed stays lit
  have stay : ∀ W, Rch m es T W → ∀ y ∈ L, y ∈ W := by
    intro W r
    induction r with
    | refl => exact sub
    | @step W u v _ p ih =>
      intro y hy
      refine mem_after.mpr (.inl ⟨ih y hy, fun e => ?_⟩)
      subst e
      obtain ⟨_, hv, ho⟩ := mem_slidesP.mp p
      obtain ⟨z, z1, z2, z3⟩ := cl.other hy hv
      have : z ∈ oth m es W y v := mem_oth.mpr ⟨z3, ih z z1, z2⟩
      rw [ho] at this
      cases this
  exact g.max L (stay S back) cl x hx
/-! ### a vertex all of whose neighbours but one are leaves -/
theorem max_in {α : Type} (g : α → Nat) : ∀ {l : List α}, l ≠ [] → ∃ a ∈ l, ∀ b ∈ l, g b ≤ g a
  | [], h => absurd rfl h
  | [a], _ => ⟨a, List.mem_cons_self, fun b hb => by rw [List.mem_singleton.mp hb]; exact Nat.le_refl _⟩
  | a :: c :: l, _ => by
    obtain ⟨b, hb, hm⟩ := max_in g (l := c :: l) (fun z => nomatch z)
    by_cases h : g a ≤ g b
    · exact ⟨b, List.mem_cons_of_mem _ hb, fun d hd => (List.mem_cons.mp hd).elim (fun e => e ▸ h) (hm d)⟩
    · exact ⟨a, List.mem_cons_self, fun d hd => (List.mem_cons.mp hd).elim (fun e => e ▸ Nat.le_refl _) (fun z => by have := hm d z; omega)⟩
theorem Grow.adj {nm : List Int} {ks : List (Nat × Nat)} (pm : es.Perm (ks.map (edgeOf nm))) (f : IsFor m es) {a b : Int} : Adj es a b ↔ ∃ q ∈ ks, (a = nm.getD q.1 0 ∧ b = nm.getD q.2 0) ∨ (a = nm.getD q.2 0 ∧ b = nm.getD q.1 0) := by
  constructor
  · intro h
    have h1 : ordP a b ∈ es := f.mem_ord.mpr h
    obtain ⟨q, hq, e⟩ := List.mem_map.mp (pm.mem_iff.mp h1)
    refine ⟨q, hq, ?_⟩
    rcases ordP_inj e with ⟨h1, h2⟩ | ⟨h1, h2⟩
    · exact .inl ⟨h1.symm, h2.symm⟩
    · exact .inr ⟨h2.symm, h1.symm⟩
  · rintro ⟨q, hq, h⟩
    refine f.mem_ord.mp (pm.mem_iff.mpr (List.mem_map.mpr ⟨q, hq, ?_⟩))
    unfold edgeOf
    rcases h with ⟨rfl, rfl⟩ | ⟨rfl, rfl⟩
    · rfl
    · exact ordP_comm _ _
theorem pair_eq {ks : List (Nat × Nat)} (h : ks.Pairwise fun a b => a.1 < b.1) {q r : Nat × Nat} (hq : q ∈ ks) (hr : r ∈ ks) (e : q.1 = r.1) : q = r := by
  induction ks with
  | nil => cases hq
  | cons k ks ih =>
    obtain ⟨h1, h2⟩ := List.pairwise_cons.mp h
    rcases List.mem_cons.mp hq with h3 | h3
    · rcases List.mem_cons.mp hr with h4 | h4
      · rw [h3, h4]
      · have := h1 r h4
        rw [h3] at e
        omega
    · rcases List.mem_cons.mp hr with h4 | h4
      · have := h1 q h3
        rw [h4] at e
        omega
      · exact ih h2 h3 h4
theorem IsFor.safe (f : IsFor m es) {x y : Int} (hy : y ∈ nearL m es x) : ∃ u v p, Conn es x u ∧ v ∈ nearL m es u ∧ (∀ w ∈ nearL m es v, w = u) ∧ ∀ z ∈ nearL m es u, z ≠ p → ∀ w ∈ nearL m es z, w = u := by
  obtain ⟨nm, ks, g, pm⟩ := f.grow
  have adj : ∀ {a b}, Adj es a b ↔ _ := fun {a b} => Grow.adj (a := a) (b := b) pm f
  let C : Nat × Nat → Bool := fun q => @decide (Conn es x (nm.getD q.2 0)) (Classical.propDecidable _)
  have hC : ∀ {q}, q ∈ ks.filter C ↔ q ∈ ks ∧ Conn es x (nm.getD q.2 0) := fun {q} => by
    rw [List.mem_filter]
    exact ⟨fun h => ⟨h.1, @of_decide_eq_true _ (Classical.propDecidable _) h.2⟩, fun h => ⟨h.1, @decide_eq_true _ (Classical.propDecidable _) h.2⟩⟩
  have ne : ks.filter C ≠ [] := by
    obtain ⟨q, hq, h⟩ := adj.mp (near_adj hy)
    refine List.ne_nil_of_mem (a := q) (hC.mpr ⟨hq, ?_⟩)
    rcases h with ⟨_, h⟩ | ⟨h, _⟩
    · rw [← h]
      exact .refl _
    · rw [← h]
      exact .step (.refl _) (near_adj hy).symm
  obtain ⟨q0, hq0, mx⟩ := max_in (fun q : Nat × Nat => q.2) ne
  obtain ⟨k0, c0⟩ := hC.mp hq0
  have mx' : ∀ q ∈ ks, Conn es x (nm.getD q.2 0) → q.2 ≤ q0.2 := fun q hq c => mx q (hC.mpr ⟨hq, c⟩)
  have d0 := g.down q0 k0
  -- a child of u is a leaf
  have leaf : ∀ q ∈ ks, q.2 = q0.2 → ∀ w ∈ nearL m es (nm.getD q.1 0), w = nm.getD q0.2 0 := by
    intro q hq e w hw
    have dq := g.down q hq
    obtain ⟨r, hr, h⟩ := adj.mp (near_adj hw)
    have dr := g.down r hr
    rcases h with ⟨h1, h2⟩ | ⟨h1, h2⟩
    · exfalso
      have e2 := g.inj dq.2 (by omega) h2
      have c : Conn es x (nm.getD r.2 0) := by
        rw [← h2]
        refine .step c0 (adj.mpr ⟨q, hq, .inr ⟨by rw [e], rfl⟩⟩)
      have := mx' r hr c
      omega
    · have e2 := g.inj dq.2 dr.2 h2
      have := pair_eq g.up hq hr e2
      subst this
      rw [h1, e]
  by_cases hp : ∃ q ∈ ks, q.1 = q0.2
  · obtain ⟨qp, hqp, ep⟩ := hp
    refine ⟨nm.getD q0.2 0, nm.getD q0.1 0, nm.getD qp.2 0, c0, adj_near f (adj.mpr ⟨q0, k0, .inl ⟨rfl, rfl⟩⟩), leaf q0 k0 rfl, fun z hz nz => ?_⟩
    obtain ⟨r, hr, h⟩ := adj.mp (near_adj hz)
    have dr := g.down r hr
    rcases h with ⟨h1, h2⟩ | ⟨h1, h2⟩
    · have e2 := g.inj (by omega) (by omega) h2
      rw [h1]
      exact leaf r hr e2.symm
    · exfalso
      have e2 := g.inj (by omega) dr.2 h2
      have := pair_eq g.up hqp hr (by omega)
      subst this
      exact nz h1
  · refine ⟨nm.getD q0.2 0, nm.getD q0.1 0, nm.getD q0.2 0, c0, adj_near f (adj.mpr ⟨q0, k0, .inl ⟨rfl, rfl⟩⟩), leaf q0 k0 rfl, fun z hz _ => ?_⟩
    obtain ⟨r, hr, h⟩ := adj.mp (near_adj hz)
    have dr := g.down r hr
    rcases h with ⟨h1, h2⟩ | ⟨h1, h2⟩
    · have e2 := g.inj (by omega) (by omega) h2
      rw [h1]
      exact leaf r hr e2.symm
    · exfalso
      have e2 := g.inj (by omega) dr.2 h2
      exact hp ⟨r, hr, e2.symm⟩
end
end TL
namespace TL
section
variable {m : Nat} {es : List (Int × Int)}
theorem adj_part {c : Int × Int → Bool} {a b : Int} (h : Adj (es.filter c) a b) : Adj es a b := h.imp (fun z => (List.mem_filter.mp z).1) (fun z => (List.mem_filter.mp z).1)
theorem near_cut (f : IsFor m es) {u a b : Int} : a ∈ nearL m (cutE es u) b ↔ a ∈ nearL m es b ∧ a ≠ u ∧ b ≠ u := by
  have f' : IsFor m (cutE es u) := f.part _
  constructor
  · intro h
    obtain ⟨h1, h2, h3⟩ := adj_cut.mp (near_adj h)
    exact ⟨adj_near f h1, h2, h3⟩
  · rintro ⟨h1, h2, h3⟩
    exact adj_near f' (adj_cut.mpr ⟨near_adj h1, h2, h3⟩)
/-- a branch at u begins at a neighbour of u -/
theorem branch_at {u x : Int} (h : Conn es u x) : x ≠ u → ∃ z, Adj es u z ∧ z ≠ u ∧ Conn (cutE es u) z x := by
  induction h with
  | refl => exact fun n => absurd rfl n
  | @step b c _ e ih =>
    intro n
    by_cases hb : b = u
    · subst hb
      exact ⟨c, e, n, .refl _⟩
    · obtain ⟨z, h1, h2, h3⟩ := ih hb
      exact ⟨z, h1, h2, .step h3 (adj_cut.mpr ⟨e, hb, n⟩)⟩
theorem conn_out {u c x : Int} (n : ¬ Conn es c u) (h : Conn es c x) : Conn (cutE es u) c x := by
  induction h with
  | refl => exact .refl _
  | @step a b h e ih => exact .step ih (adj_cut.mpr ⟨e, fun z => n (z ▸ h), fun z => n (z ▸ Conn.step h e)⟩)
theorem conn_cut_mono {u c x : Int} (h : Conn (cutE es u) c x) : Conn es c x := h.mono fun p hp => (List.mem_filter.mp hp).1
theorem conn_lone {E : List (Int × Int)} {c x : Int} (n : ∀ w, ¬ Adj E c w) (h : Conn E c x) : x = c := by
  induction h with
  | refl => rfl
  | step _ e ih => exact absurd (ih ▸ e) (n _)
/-- with one lamp more at a leaf whose neighbour stays dark -/
theorem Rch.with {A B A1 : List Int} {u v : Int} (f : IsFor m es) (hv : ∀ w ∈ nearL m es v, w = u) (nu : u ∉ A) (nvA : v ∉ A) (nvu : v ≠ u) (a1 : IsSet m es A1) (hA : ∀ x, x ∈ A1 ↔ x ∈ A ∨ x = v) (h : Rch m (cutE es u) A B) :
    u ∉ B ∧ v ∉ B ∧ ∃ B1, Rch m es A1 B1 ∧ ∀ x, x ∈ B1 ↔ x ∈ B ∨ x = v := by
  induction h with
  | refl => exact ⟨nu, nvA, A1, .refl, hA⟩
  | @step B a b _ p ih =>
    obtain ⟨nuB, nvB, B1, r, hB⟩ := ih
    obtain ⟨p1, p2, p3⟩ := mem_slidesP.mp p
    obtain ⟨q1, nb, na⟩ := (near_cut f).mp p2
    have nbv : b ≠ v := fun e => by
      subst e
      exact na (hv a ((mem_nearL_comm f).mp q1))
    have nav : a ≠ v := fun e => nvB (e ▸ p1)
    have q : (a, b) ∈ slidesP m es B1 := mem_slidesP.mpr ⟨(hB a).mpr (.inl p1), q1, List.eq_nil_iff_forall_not_mem.mpr fun o z => by
      obtain ⟨o1, o2, o3⟩ := mem_oth.mp z
      rcases (hB o).mp o2 with o2 | o2
      · have no : o ≠ u := fun e => nuB (e ▸ o2)
        have : o ∈ oth m (cutE es u) B a b := mem_oth.mpr ⟨(near_cut f).mpr ⟨o1, no, nb⟩, o2, o3⟩
        rw [p3] at this
        cases this
      · subst o2
        exact nb (hv b ((mem_nearL_comm f).mp o1))⟩
    refine ⟨fun z => ?_, fun z => ?_, _, .step r q, fun x => ?_⟩
    · rcases mem_after.mp z with z | z
      · exact nuB z.1
      · exact nb z.symm
    · rcases mem_after.mp z with z | z
      · exact nvB z.1
      · exact nbv z.symm
    · rw [mem_after, mem_after, hB x]
      constructor
      · rintro (⟨h1 | h1, h2⟩ | h1)
        · exact .inl (.inl ⟨h1, h2⟩)
        · exact .inr h1
        · exact .inl (.inr h1)
      · rintro ((⟨h1, h2⟩ | h1) | h1)
        · exact .inl ⟨.inl h1, h2⟩
        · exact .inr h1
        · exact .inl ⟨.inr h1, fun e => nav (e ▸ h1)⟩
theorem IsSet.sub {E : List (Int × Int)} {S T : List Int} (h : IsSet m es S) (hE : ∀ p ∈ E, p ∈ es) (asc : Asc T) (s : ∀ x ∈ T, x ∈ S) : IsSet m E T :=
  ⟨asc, fun v hv => h.rng v (s v hv), fun u hu v hv z => h.free u (s u hu) v (s v hv) (hE _ z)⟩
/-- without the lamp at a leaf, and without the edges of its neighbour, no lamp is rigid -/
theorem IsGr.less_leaf {S1 S2 : List Int} {u v : Int} (f : IsFor m es) (iss : IsSet m es S1) (gr : IsGr m es S1 []) (hv : v ∈ nearL m es u) (lf : ∀ w ∈ nearL m es v, w = u) (hv1 : v ∈ S1) (h2 : ∀ x, x ∈ S2 ↔ x ∈ S1 ∧ x ≠ v) : IsGr m (cutE es u) S2 [] := by
  have huv : u ∈ nearL m es v := (mem_nearL_comm f).mp hv
  have nu : u ∉ S1 := fun z => iss.free u z v hv1 (mem_nearL.mp huv).2
  refine ⟨.nil, (fun _ h => nomatch h), (fun _ h => nomatch h), fun L sub cl x hx => ?_⟩
  have sub1 : ∀ y ∈ L, y ∈ S1 ∧ y ≠ v := fun y hy => (h2 y).mp (sub y hy)
  by_cases hb : ∃ y ∈ L, y ∈ nearL m es u
  · -- with v
    refine absurd (gr.max (v :: L) (fun y hy => ?_) (Cl.of fun y hy z hz => ?_) x (List.mem_cons_of_mem _ hx)) (fun h => nomatch h)
    · rcases List.mem_cons.mp hy with rfl | hy
      · exact hv1
      · exact (sub1 y hy).1
    · rcases List.mem_cons.mp hy with e | hy
      · subst e
        obtain ⟨w, w1, w2⟩ := hb
        rw [lf z hz]
        exact ⟨w, List.mem_cons_of_mem _ w1, (sub1 w w1).2, w2⟩
      · by_cases ez : z = u
        · subst ez
          exact ⟨v, List.mem_cons_self, (sub1 y hy).2.symm, hv⟩
        · have ny : y ≠ u := fun e => nu (e ▸ (sub1 y hy).1)
          obtain ⟨w, w1, w2, w3⟩ := cl.other hy ((near_cut f).mpr ⟨hz, ez, ny⟩)
          exact ⟨w, List.mem_cons_of_mem _ w1, w2, ((near_cut f).mp w3).1⟩
  · refine absurd (gr.max L (fun y hy => (sub1 y hy).1) (Cl.of fun y hy z hz => ?_) x hx) (fun h => nomatch h)
    have ez : z ≠ u := fun e => hb ⟨y, hy, (mem_nearL_comm f).mp (e ▸ hz)⟩
    have ny : y ≠ u := fun e => nu (e ▸ (sub1 y hy).1)
    obtain ⟨w, w1, w2, w3⟩ := cl.other hy ((near_cut f).mpr ⟨hz, ez, ny⟩)
    exact ⟨w, w1, w2, ((near_cut f).mp w3).1⟩
/-- a lamp that is not rigid has a neighbour -/
theorem IsGr.beside {S : List Int} (gr : IsGr m es S []) {x : Int} (hx : x ∈ S) : ∃ y, y ∈ nearL m es x := by
  refine Classical.byContradiction fun no => ?_
  have := gr.max [x] (fun y hy => by rw [List.mem_singleton.mp hy]; exact hx) (Cl.of fun y hy z hz => by
    rw [List.mem_singleton.mp hy] at hz
    exact absurd ⟨z, hz⟩ no) x List.mem_cons_self
  cases this
theorem reach_all : ∀ {n : Nat} {es : List (Int × Int)} {S T : List Int}, IsFor m es → IsSet m es S → IsSet m es T → IsGr m es S [] → IsGr m es T [] → (∀ c, num (Conn es c) S = num (Conn es c) T) → S.length = n → Rch m es S T
  | 0, es, S, T, f, sS, sT, gS, gT, hc, ln => by
    have e : S = [] := List.length_eq_zero_iff.mp ln
    subst e
    have : T = [] := by
      refine List.eq_nil_iff_forall_not_mem.mpr fun x hx => ?_
      have h1 := num_pos (B := Conn es x) hx (.refl x)
      rw [← hc x] at h1
      exact Nat.lt_irrefl _ h1
    subst this
    exact .refl
  | n + 1, es, S, T, f, sS, sT, gS, gT, hc, ln => by
    obtain ⟨x, hx⟩ := List.exists_mem_of_length_pos (l := S) (by omega)
    obtain ⟨y, hy⟩ := gS.beside hx
    obtain ⟨u, v, p, cxu, hv, lf, ot⟩ := f.safe hy
    have huv : u ∈ nearL m es v := (mem_nearL_comm f).mp hv
    have nvu : v ≠ u := near_ne f hv
    have cuv : Conn es u v := .step (.refl _) (near_adj huv)
    have f' : IsFor m (cutE es u) := f.part _
    -- a lamp at v, on both sides
    have bring : ∀ {S : List Int}, IsSet m es S → IsGr m es S [] → (∃ x ∈ S, Conn es u x) → ∃ S1 S2, Rch m es S S1 ∧ v ∈ S1 ∧ IsSet m es S1 ∧ IsGr m es S1 [] ∧ IsSet m (cutE es u) S2 ∧ IsGr m (cutE es u) S2 [] ∧ (∀ x, x ∈ S2 ↔ x ∈ S1 ∧ x ≠ v) ∧ u ∉ S1 := by
      rintro S sS gS ⟨x, hx, cx⟩
      obtain ⟨S1, r1, v1⟩ := light_conn f sS gS hx (cx.symm.trans cuv)
      have s1 := (r1.both f sS).1
      have g1 := r1.gr f sS gS
      have h2 : ∀ x, x ∈ S1.filter (fun x => !decide (x = v)) ↔ x ∈ S1 ∧ x ≠ v := fun x => by
        rw [List.mem_filter, Bool.not_eq_true', decide_eq_false_iff_not]
      refine ⟨S1, S1.filter fun x => !decide (x = v), r1, v1, s1, g1, s1.sub (fun p hp => (List.mem_filter.mp hp).1) (s1.asc.filter _) (fun x hx => (List.mem_filter.mp hx).1), g1.less_leaf f s1 hv lf v1 h2, h2, fun z => s1.free u z v v1 (mem_nearL.mp huv).2⟩
    have hS : ∃ x ∈ S, Conn es u x := ⟨x, hx, cxu.symm⟩
    have hT : ∃ x ∈ T, Conn es u x := num_pos_iff.mp (by rw [← hc u]; exact num_pos_iff.mpr hS)
    obtain ⟨S1, S2, rS, vS, sS1, gS1, sS2, gS2, mS, nuS⟩ := bring sS gS hS
    obtain ⟨T1, T2, rT, vT, sT1, gT1, sT2, gT2, mT, nuT⟩ := bring sT gT hT
    have mS' : ∀ x, x ∈ S1 ↔ x ∈ S2 ∨ x = v := fun x => by
      rw [mS x]
      by_cases e : x = v
      · exact ⟨fun _ => .inr e, fun _ => e ▸ vS⟩
      · exact ⟨fun h => .inl ⟨h, e⟩, fun h => h.elim (·.1) (fun z => absurd z e)⟩
    have mT' : ∀ x, x ∈ T1 ↔ x ∈ T2 ∨ x = v := fun x => by
      rw [mT x]
      by_cases e : x = v
      · exact ⟨fun _ => .inr e, fun _ => e ▸ vT⟩
      · exact ⟨fun h => .inl ⟨h, e⟩, fun h => h.elim (·.1) (fun z => absurd z e)⟩
    have nvS : v ∉ S2 := fun z => ((mS v).mp z).2 rfl
    have nvT : v ∉ T2 := fun z => ((mT v).mp z).2 rfl
    have aS : ∀ B, num B S1 = num B [v] + num B S2 := fun B => num_add sS1.asc.nodup sS2.asc.nodup nvS mS'
    have aT : ∀ B, num B T1 = num B [v] + num B T2 := fun B => num_add sT1.asc.nodup sT2.asc.nodup nvT mT'
    have hB : ∀ c a b, Adj es a b → Conn es c a → Conn es c b := fun c a b ad h => .step h ad
    have c1 : ∀ c, num (Conn es c) S2 = num (Conn es c) T2 := fun c => by
      have h1 := aS (Conn es c)
      have h2 := aT (Conn es c)
      rw [rS.num f sS (hB c), hc c, ← rT.num f sT (hB c)] at h1
      omega
    -- lamps beside u are beside p
    have lone : ∀ {A : List Int}, IsGr m (cutE es u) A [] → ∀ x ∈ A, ∀ z ∈ nearL m es u, z ≠ p → ¬ Conn (cutE es u) z x := by
      intro A gA x hx z hz nz c
      have no : ∀ w, ¬ Adj (cutE es u) z w := fun w ad => by
        obtain ⟨h1, h2, h3⟩ := adj_cut.mp ad
        exact h3 (ot z hz nz w (adj_near f h1.symm))
      have := conn_lone no c
      subst this
      obtain ⟨w, hw⟩ := gA.beside hx
      exact no w (near_adj hw).symm
    have c2 : ∀ c, num (Conn (cutE es u) c) S2 = num (Conn (cutE es u) c) T2 := by
      intro c
      by_cases hcu : Conn es c u
      · by_cases e : c = u
        · subst e
          have no : ∀ w, ¬ Adj (cutE es c) c w := fun w ad => (adj_cut.mp ad).2.1 rfl
          rw [num_zero fun x hx z => nuS (by have := conn_lone no z; subst this; exact ((mS x).mp hx).1), num_zero fun x hx z => nuT (by have := conn_lone no z; subst this; exact ((mT x).mp hx).1)]
        · obtain ⟨z, hz, nz, cz⟩ := branch_at hcu.symm e
          have hzu : z ∈ nearL m es u := adj_near f hz.symm
          by_cases ep : z = p
          · subst ep
            have key : ∀ {A : List Int}, IsGr m (cutE es u) A [] → u ∉ A → num (Conn (cutE es u) c) A = num (Conn es c) A := by
              intro A gA nA
              refine num_congr fun x hx => ⟨conn_cut_mono, fun h => ?_⟩
              obtain ⟨w, hw, nw, cw⟩ := branch_at (hcu.symm.trans h) fun e => nA (e ▸ hx)
              by_cases ew : w = z
              · subst ew
                exact cz.symm.trans cw
              · exact absurd cw (lone gA x hx w (adj_near f hw.symm) ew)
            rw [key gS2 fun z => nuS ((mS u).mp z).1, key gT2 fun z => nuT ((mT u).mp z).1, c1 c]
          · rw [num_zero fun x hx k => lone gS2 x hx z hzu ep (cz.trans k), num_zero fun x hx k => lone gT2 x hx z hzu ep (cz.trans k)]
      · have key : ∀ x, Conn (cutE es u) c x ↔ Conn es c x := fun x => ⟨conn_cut_mono, conn_out hcu⟩
        rw [num_congr fun x _ => key x, num_congr fun x _ => key x, c1 c]
    have ln2 : S2.length = n := by
      have p1 : S1.Perm (v :: S2) := perm_of_mem sS1.asc.nodup (List.nodup_cons.mpr ⟨nvS, sS2.asc.nodup⟩) fun x => by rw [mS' x, List.mem_cons, Or.comm]
      have l1 := p1.length_eq
      have l2 : S1.length = S.length := by
        have := rS.num f sS (B := fun _ => True) (fun _ _ _ _ => trivial)
        have all : ∀ A : List Int, TL.num (fun _ => True) A = A.length := fun A => by
          unfold TL.num
          rw [List.filter_eq_self.mpr fun _ _ => @decide_eq_true _ (Classical.propDecidable _) trivial]
        rw [all, all] at this
        exact this
      rw [List.length_cons] at l1
      omega
    have r2 := reach_all f' sS2 sT2 gS2 gT2 c2 ln2
    obtain ⟨_, _, B1, rB, hB1⟩ := r2.with f lf (fun z => nuS ((mS u).mp z).1) nvS nvu sS1 mS'
    have eB : B1 = T1 := asc_ext (rB.both f sS1).1.asc sT1.asc fun x => by rw [hB1 x, mT' x]
    subst eB
    exact (rS.trans rB).trans (rT.both f sT).2
end
end TL
namespace TL
/-! ### the greatest lock and the numbers of lamps in its pieces tell what is reached -/
section
variable {m : Nat} {es : List (Int × Int)}
def inE (es : List (Int × Int)) (ws : List Int) : List (Int × Int) := es.filter fun p => decide (p.1 ∈ ws) && decide (p.2 ∈ ws)
theorem adj_in {ws : List Int} {a b : Int} : Adj (inE es ws) a b ↔ Adj es a b ∧ a ∈ ws ∧ b ∈ ws := by
  unfold Adj inE
  simp only [List.mem_filter, Bool.and_eq_true, decide_eq_true_eq]
  constructor
  · rintro (⟨h1, h2, h3⟩ | ⟨h1, h2, h3⟩)
    · exact ⟨.inl h1, h2, h3⟩
    · exact ⟨.inr h1, h3, h2⟩
  · rintro ⟨h1 | h1, h2, h3⟩
    · exact .inl ⟨h1, h2, h3⟩
    · exact .inr ⟨h1, h3, h2⟩
theorem near_in (f : IsFor m es) {ws : List Int} {a b : Int} : a ∈ nearL m (inE es ws) b ↔ a ∈ nearL m es b ∧ a ∈ ws ∧ b ∈ ws := by
  have f' : IsFor m (inE es ws) := f.part _
  constructor
  · intro h
    obtain ⟨h1, h2, h3⟩ := adj_in.mp (near_adj h)
    exact ⟨adj_near f h1, h2, h3⟩
  · rintro ⟨h1, h2, h3⟩
    exact adj_near f' (adj_in.mpr ⟨near_adj h1, h2, h3⟩)
/-- the vertices that a lock leaves -/
structure Apt (m : Nat) (es : List (Int × Int)) (G ws : List Int) : Prop where
  mem : ∀ x, x ∈ ws ↔ (0 ≤ x ∧ x < m) ∧ x ∉ G ∧ ∀ o ∈ nearL m es x, o ∉ G
theorem Apt.lamp {G ws S : List Int} (h : Apt m es G ws) (f : IsFor m es) (iss : IsSet m es S) (sub : ∀ x ∈ G, x ∈ S) {x : Int} (hx : x ∈ S) (n : x ∉ G) : x ∈ ws :=
  (h.mem x).mpr ⟨iss.rng x hx, n, fun o ho z => iss.free o (sub o z) x hx (mem_nearL.mp ho).2⟩
theorem IsGr.apart {G ws S S' : List Int} (h : Apt m es G ws) (f : IsFor m es) (iss : IsSet m es S) (gr : IsGr m es S G) (hS : ∀ x, x ∈ S' ↔ x ∈ S ∧ x ∉ G) : IsGr m (inE es ws) S' [] := by
  refine ⟨.nil, (fun _ h => nomatch h), (fun _ h => nomatch h), fun L sub cl x hx => ?_⟩
  have s1 : ∀ y ∈ L, y ∈ S ∧ y ∉ G := fun y hy => (hS y).mp (sub y hy)
  refine absurd (gr.max (L ++ G) (fun y hy => ?_) (Cl.of fun y hy z hz => ?_) x (List.mem_append.mpr (.inl hx))) (s1 x hx).2
  · rcases List.mem_append.mp hy with hy | hy
    · exact (s1 y hy).1
    · exact gr.sub y hy
  · rcases List.mem_append.mp hy with hy | hy
    · obtain ⟨y1, y2⟩ := s1 y hy
      have yw := h.lamp f iss gr.sub y1 y2
      by_cases zw : z ∈ ws
      · obtain ⟨w, w1, w2, w3⟩ := cl.other hy ((near_in f).mpr ⟨hz, zw, yw⟩)
        exact ⟨w, List.mem_append.mpr (.inl w1), w2, ((near_in f).mp w3).1⟩
      · have : ∃ o ∈ nearL m es z, o ∈ G := Classical.byContradiction fun no => zw ((h.mem z).mpr ⟨(mem_nearL.mp hz).1, ((h.mem y).mp yw).2.2 z hz, fun o ho hG => no ⟨o, ho, hG⟩⟩)
        obtain ⟨o, o1, o2⟩ := this
        exact ⟨o, List.mem_append.mpr (.inr o2), fun e => y2 (e ▸ o2), o1⟩
    · obtain ⟨w, w1, w2, w3⟩ := gr.cl.other hy hz
      exact ⟨w, List.mem_append.mpr (.inr w1), w2, w3⟩
/-- slides in the pieces are slides of the forest, beside the lock -/
theorem Rch.beside {G ws A B A1 : List Int} (h : Apt m es G ws) (f : IsFor m es) (hA : ∀ x ∈ A, x ∈ ws) (hA1 : ∀ x, x ∈ A1 ↔ x ∈ A ∨ x ∈ G) (r : Rch m (inE es ws) A B) :
    (∀ x ∈ B, x ∈ ws) ∧ ∃ B1, Rch m es A1 B1 ∧ ∀ x, x ∈ B1 ↔ x ∈ B ∨ x ∈ G := by
  induction r with
  | refl => exact ⟨hA, A1, .refl, hA1⟩
  | @step B a b _ p ih =>
    obtain ⟨hB, B1, r, hB1⟩ := ih
    obtain ⟨p1, p2, p3⟩ := mem_slidesP.mp p
    obtain ⟨q1, bw, aw⟩ := (near_in f).mp p2
    have q : (a, b) ∈ slidesP m es B1 := mem_slidesP.mpr ⟨(hB1 a).mpr (.inl p1), q1, List.eq_nil_iff_forall_not_mem.mpr fun o z => by
      obtain ⟨o1, o2, o3⟩ := mem_oth.mp z
      rcases (hB1 o).mp o2 with o2 | o2
      · have : o ∈ oth m (inE es ws) B a b := mem_oth.mpr ⟨(near_in f).mpr ⟨o1, hB o o2, bw⟩, o2, o3⟩
        rw [p3] at this
        cases this
      · exact ((h.mem b).mp bw).2.2 o o1 o2⟩
    have naG : a ∉ G := ((h.mem a).mp aw).2.1
    refine ⟨fun x hx => ?_, _, .step r q, fun x => ?_⟩
    · rcases mem_after.mp hx with hx | hx
      · exact hB x hx.1
      · exact hx ▸ bw
    · rw [mem_after, mem_after, hB1 x]
      constructor
      · rintro (⟨h1 | h1, h2⟩ | h1)
        · exact .inl (.inl ⟨h1, h2⟩)
        · exact .inr h1
        · exact .inl (.inr h1)
      · rintro ((⟨h1, h2⟩ | h1) | h1)
        · exact .inl ⟨.inl h1, h2⟩
        · exact .inr h1
        · exact .inl ⟨.inr h1, fun e => naG (e ▸ h1)⟩
theorem conn_in {ws : List Int} {c x : Int} (hc : c ∈ ws) (h : Conn (inE es ws) c x) : x ∈ ws := by
  induction h with
  | refl => exact hc
  | step _ e _ => exact (adj_in.mp e).2.2
theorem num_sub {B : Int → Prop} {S S' : List Int} (hS : S.Nodup) (hS' : S'.Nodup) (h : ∀ x, B x → (x ∈ S' ↔ x ∈ S)) : num B S' = num B S := by
  unfold num
  refine (perm_of_mem (hS'.filter _) (hS.filter _) fun x => ?_).length_eq
  rw [List.mem_filter, List.mem_filter]
  constructor
  · rintro ⟨h1, h2⟩
    exact ⟨(h x (@of_decide_eq_true _ (Classical.propDecidable _) h2)).mp h1, h2⟩
  · rintro ⟨h1, h2⟩
    exact ⟨(h x (@of_decide_eq_true _ (Classical.propDecidable _) h2)).mpr h1, h2⟩
theorem reach_pieces {G ws S T : List Int} (h : Apt m es G ws) (f : IsFor m es) (sS : IsSet m es S) (sT : IsSet m es T) (gS : IsGr m es S G) (gT : IsGr m es T G) (hc : ∀ c ∈ ws, num (Conn (inE es ws) c) S = num (Conn (inE es ws) c) T) : Rch m es S T := by
  have f' : IsFor m (inE es ws) := f.part _
  have mem : ∀ (A : List Int) (x : Int), x ∈ A.filter (fun x => !decide (x ∈ G)) ↔ x ∈ A ∧ x ∉ G := fun A x => by
    rw [List.mem_filter, Bool.not_eq_true', decide_eq_false_iff_not]
  have sub : ∀ p ∈ inE es ws, p ∈ es := fun p hp => (List.mem_filter.mp hp).1
  have cut : ∀ {A : List Int}, IsSet m es A → (∀ x ∈ G, x ∈ A) → ∀ c, num (Conn (inE es ws) c) (A.filter (fun x => !decide (x ∈ G))) = if c ∈ ws then num (Conn (inE es ws) c) A else 0 := by
    intro A sA gA c
    by_cases cw : c ∈ ws
    · rw [if_pos cw]
      refine num_sub sA.asc.nodup (sA.asc.nodup.filter _) fun x hx => ?_
      rw [mem]
      exact ⟨fun z => z.1, fun z => ⟨z, ((h.mem x).mp (conn_in cw hx)).2.1⟩⟩
    · rw [if_neg cw]
      refine num_zero fun x hx cx => ?_
      have : x = c := conn_lone (fun w ad => cw (adj_in.mp ad).2.1) cx
      subst this
      obtain ⟨h1, h2⟩ := (mem A x).mp hx
      exact cw (h.lamp f sA gA h1 h2)
  have r := reach_all f' (sS.sub sub (sS.asc.filter _) fun x hx => ((mem S x).mp hx).1) (sT.sub sub (sT.asc.filter _) fun x hx => ((mem T x).mp hx).1) (gS.apart h f sS (mem S)) (gT.apart h f sT (mem T)) (fun c => by
    rw [cut sS gS.sub c, cut sT gT.sub c]
    by_cases cw : c ∈ ws
    · rw [if_pos cw, if_pos cw, hc c cw]
    · rw [if_neg cw, if_neg cw]) rfl
  have back : ∀ {A : List Int}, (∀ x ∈ G, x ∈ A) → ∀ x, x ∈ A ↔ x ∈ A.filter (fun x => !decide (x ∈ G)) ∨ x ∈ G := by
    intro A gA x
    rw [mem]
    by_cases e : x ∈ G
    · exact ⟨fun _ => .inr e, fun _ => gA x e⟩
    · exact ⟨fun z => .inl ⟨z, e⟩, fun z => z.elim (·.1) (fun z => absurd z e)⟩
  obtain ⟨_, B1, rB, hB1⟩ := r.beside h f (fun x hx => by
    obtain ⟨h1, h2⟩ := (mem S x).mp hx
    exact h.lamp f sS gS.sub h1 h2) (back gS.sub)
  have e : B1 = T := asc_ext (rB.both f sS).1.asc sT.asc fun x => by rw [hB1 x, back gT.sub x]
  subst e
  exact rB
/-- by groups of one label -/
theorem Grp.conn {ws : List Int} {lb : Int → Int} {gs : List (Int × List Int)} (lab : Lab es ws lb) (gr : Grp lb ws gs) {g : Int × List Int} (hg : g ∈ gs) {c : Int} (hc : c ∈ g.2) (x : Int) : Conn (inE es ws) c x ↔ x ∈ g.2 := by
  have key : ∀ x, x ∈ g.2 ↔ x ∈ ws ∧ lb x = g.1 := fun x => by
    rw [(gr.is g hg).1, List.mem_filter, decide_eq_true_eq]
  obtain ⟨c1, c2⟩ := (key c).mp hc
  constructor
  · intro h
    refine (key x).mpr ⟨conn_in c1 h, ?_⟩
    induction h with
    | refl => exact c2
    | step _ e ih =>
      obtain ⟨h1, h2, h3⟩ := adj_in.mp e
      rcases h1 with h1 | h1
      · rw [← lab.join _ h1 h2 h3]
        exact ih
      · rw [lab.join _ h1 h3 h2]
        exact ih
  · intro h
    obtain ⟨h1, h2⟩ := (key x).mp h
    exact lab.conn c c1 x h1 (c2.trans h2.symm)
theorem num_grp {ws : List Int} {lb : Int → Int} {gs : List (Int × List Int)} (lab : Lab es ws lb) (gr : Grp lb ws gs) {g : Int × List Int} (hg : g ∈ gs) {c : Int} (hc : c ∈ g.2) (S : List Int) : num (Conn (inE es ws) c) S = (S.filter fun l => decide (l ∈ g.2)).length := by
  unfold num
  congr 1
  refine List.filter_congr fun x _ => ?_
  by_cases b : x ∈ g.2
  · rw [@decide_eq_true _ (Classical.propDecidable _) ((gr.conn lab hg hc x).mpr b), decide_eq_true b]
  · rw [@decide_eq_false _ (Classical.propDecidable _) (fun z => b ((gr.conn lab hg hc x).mp z)), decide_eq_false b]
theorem reach_groups {G ws S T : List Int} {lb : Int → Int} {gs : List (Int × List Int)} (h : Apt m es G ws) (f : IsFor m es) (sS : IsSet m es S) (sT : IsSet m es T) (gS : IsGr m es S G) (gT : IsGr m es T G) (lab : Lab es ws lb) (gr : Grp lb ws gs)
    (hc : ∀ g ∈ gs, (S.filter fun l => decide (l ∈ g.2)).length = (T.filter fun l => decide (l ∈ g.2)).length) : Rch m es S T := by
  refine reach_pieces h f sS sT gS gT fun c cw => ?_
  obtain ⟨g, hg, e⟩ := List.mem_map.mp (gr.all c cw)
  have hcg : c ∈ g.2 := by
    rw [(gr.is g hg).1, List.mem_filter, decide_eq_true_eq]
    exact ⟨cw, e.symm⟩
  rw [num_grp lab gr hg hcg, num_grp lab gr hg hcg, hc g hg]
/-- and what is reached has as many lamps in each piece -/
theorem Rch.pieces {G ws S T : List Int} (h : Apt m es G ws) (f : IsFor m es) (sS : IsSet m es S) (gS : IsGr m es S G) (r : Rch m es S T) (c : Int) : TL.num (Conn (inE es ws) c) T = TL.num (Conn (inE es ws) c) S := by
  induction r with
  | refl => rfl
  | @step T u v r p ih =>
    obtain ⟨p1, p2, p3⟩ := mem_slidesP.mp p
    have isT := (r.both f sS).1
    have gT := r.gr f sS gS
    obtain ⟨nu, nn⟩ := gT.fixed p
    have uw : u ∈ ws := h.lamp f isT gT.sub p1 nu
    have vw : v ∈ ws := (h.mem v).mpr ⟨(mem_nearL.mp p2).1, fun z => by
      have := gT.sub v z
      exact adj_free isT p1 p2 this, nn⟩
    have ad : Adj (inE es ws) u v := adj_in.mpr ⟨(near_adj p2).symm, uw, vw⟩
    rw [num_after isT.asc.nodup p1 ⟨fun z => .step z ad, fun z => .step z ad.symm⟩, ih]
theorem Rch.groups {G ws S T : List Int} {lb : Int → Int} {gs : List (Int × List Int)} (h : Apt m es G ws) (f : IsFor m es) (sS : IsSet m es S) (gS : IsGr m es S G) (lab : Lab es ws lb) (gr : Grp lb ws gs) (r : Rch m es S T) :
    ∀ g ∈ gs, (S.filter fun l => decide (l ∈ g.2)).length = (T.filter fun l => decide (l ∈ g.2)).length := by
  intro g hg
  obtain ⟨c, hc⟩ := List.exists_mem_of_ne_nil _ (gr.is g hg).2
  rw [← num_grp lab gr hg hc, ← num_grp lab gr hg hc, r.pieces h f sS gS c]
end
end TL
namespace TL
/-! ### normal lamps of a tree -/
section
variable {m : Nat} {es : List (Int × Int)}
def leafs (m : Nat) (es : List (Int × Int)) : List Int := (rng m).filter fun v => decide ((nearL m es v).length = 1)
def hdI (l : List Int) : Int := l.headD 0
def goodLeaf (m : Nat) (es : List (Int × Int)) (v : Int) : Bool := decide (((nearL m es (hdI (nearL m es v))).filter fun o => !decide (o ∈ leafs m es)).length ≤ 1)
def nextL (m : Nat) (es : List (Int × Int)) : Option Int := (leafs m es).find? (goodLeaf m es)
def normS (m : Nat) : List (Int × Int) → Nat → List (List (Int × Int) × Int)
  | _, 0 => []
  | es, k + 1 => match nextL m es with
    | some v => (es, v) :: normS m (cutE es (hdI (nearL m es v))) k
    | none => []
def normL (m : Nat) (es : List (Int × Int)) (k : Nat) : List Int := (normS m es k).map (·.2)
theorem mem_leafs {v : Int} : v ∈ leafs m es ↔ (0 ≤ v ∧ v < m) ∧ (nearL m es v).length = 1 := by
  unfold leafs
  rw [List.mem_filter, mem_rng, decide_eq_true_eq]
theorem near_rng (f : IsFor m es) {a b : Int} (h : a ∈ nearL m es b) : (0 ≤ a ∧ a < m) ∧ (0 ≤ b ∧ b < m) := ⟨(mem_nearL.mp h).1, (mem_nearL.mp ((mem_nearL_comm f).mp h)).1⟩
theorem one_of {l : List Int} (h : l.length = 1) : l = [hdI l] := by
  match l, h with
  | [a], _ => rfl
theorem leaf_of (f : IsFor m es) {u z : Int} (hz : z ∈ nearL m es u) (h : ∀ w ∈ nearL m es z, w = u) : z ∈ leafs m es := by
  refine mem_leafs.mpr ⟨(near_rng f hz).1, ?_⟩
  have hu : u ∈ nearL m es z := (mem_nearL_comm f).mp hz
  have nd : (nearL m es z).Nodup := (nearL_asc m es z).nodup
  have l1 := nd.length_le_of_subset (l₂ := [u]) fun w hw => by rw [h w hw]; exact List.mem_singleton.mpr rfl
  have l2 := List.length_pos_of_mem hu
  rw [List.length_singleton] at l1
  omega
/-- what is found: a leaf whose neighbour has at most one neighbour that is no leaf -/
theorem nextL_some (f : IsFor m es) {v : Int} (h : nextL m es = some v) : ∃ u, nearL m es v = [u] ∧ hdI (nearL m es v) = u ∧ v ∈ nearL m es u ∧ (∀ w ∈ nearL m es v, w = u) ∧ ∃ p, ∀ z ∈ nearL m es u, z ≠ p → ∀ w ∈ nearL m es z, w = u := by
  have h1 := List.mem_of_find?_eq_some h
  have h2 := List.find?_some h
  obtain ⟨hr, hl⟩ := mem_leafs.mp h1
  have e := one_of hl
  have huv : hdI (nearL m es v) ∈ nearL m es v := by rw [e]; exact List.mem_singleton.mpr rfl
  refine ⟨hdI (nearL m es v), e, rfl, (mem_nearL_comm f).mp huv, fun w hw => ?_, ?_⟩
  · rw [e] at hw
    exact List.mem_singleton.mp hw
  · have h3 : ((nearL m es (hdI (nearL m es v))).filter fun o => !decide (o ∈ leafs m es)).length ≤ 1 := of_decide_eq_true h2
    have key : ∀ z ∈ nearL m es (hdI (nearL m es v)), z ∈ leafs m es → ∀ w ∈ nearL m es z, w = hdI (nearL m es v) := fun z hz hzl w hw => by
      have e2 := one_of (mem_leafs.mp hzl).2
      have h4 : hdI (nearL m es v) ∈ nearL m es z := (mem_nearL_comm f).mp hz
      rw [e2] at hw h4
      rw [List.mem_singleton.mp hw, List.mem_singleton.mp h4]
    generalize hF : (nearL m es (hdI (nearL m es v))).filter (fun o => !decide (o ∈ leafs m es)) = F at h3
    have mF : ∀ z ∈ nearL m es (hdI (nearL m es v)), z ∉ F → z ∈ leafs m es := fun z hz nz => Classical.byContradiction fun no => nz (by
      rw [← hF, List.mem_filter, decide_eq_false no]
      exact ⟨hz, rfl⟩)
    match F, h3 with
    | [], _ => exact ⟨0, fun z hz _ => key z hz (mF z hz (fun h => nomatch h))⟩
    | [p], _ => exact ⟨p, fun z hz nz => key z hz (mF z hz fun h => nz (List.mem_singleton.mp h))⟩
theorem nextL_ex (f : IsFor m es) {x y : Int} (hy : y ∈ nearL m es x) : ∃ v, nextL m es = some v := by
  obtain ⟨u, v, p, _, hv, lf, ot⟩ := f.safe hy
  have hl := leaf_of f hv lf
  have e := one_of (mem_leafs.mp hl).2
  have eu : hdI (nearL m es v) = u := lf _ (by rw [e]; exact List.mem_singleton.mpr rfl)
  have good : goodLeaf m es v = true := by
    unfold goodLeaf
    rw [eu]
    refine decide_eq_true ?_
    have nd : ((nearL m es u).filter fun o => !decide (o ∈ leafs m es)).Nodup := (nearL_asc m es u).nodup.filter _
    exact nd.length_le_of_subset (l₂ := [p]) fun z hz => by
      obtain ⟨z1, z2⟩ := List.mem_filter.mp hz
      by_cases e : z = p
      · rw [e]
        exact List.mem_singleton.mpr rfl
      · rw [decide_eq_true (leaf_of f z1 (ot z z1 e))] at z2
        cases z2
  cases h : nextL m es with
  | some w => exact ⟨w, rfl⟩
  | none =>
    have := List.find?_eq_none.mp h v hl
    exact absurd good this
/-- all edges are in one part -/
def OneP (m : Nat) (es : List (Int × Int)) : Prop := ∀ a b c d, a ∈ nearL m es b → c ∈ nearL m es d → Conn es a c
theorem OneP.cut (f : IsFor m es) (o : OneP m es) {u p : Int} (ot : ∀ z ∈ nearL m es u, z ≠ p → ∀ w ∈ nearL m es z, w = u) : OneP m (cutE es u) := by
  -- every end of an edge that stays is joined with p
  have key : ∀ a b, a ∈ nearL m (cutE es u) b → ∀ x, x ∈ nearL m es u → Conn (cutE es u) p a := by
    intro a b h x hx
    obtain ⟨h1, na, nb⟩ := (near_cut f).mp h
    have hux : u ∈ nearL m es x := (mem_nearL_comm f).mp hx
    have c : Conn es u a := o _ _ _ _ hux h1
    obtain ⟨z, hz, nz, cz⟩ := branch_at c na
    by_cases e : z = p
    · subst e
      exact cz
    · exfalso
      have hzu := adj_near f hz.symm
      have no : ∀ w, ¬ Adj (cutE es u) z w := fun w ad => by
        obtain ⟨q1, _, q3⟩ := adj_cut.mp ad
        exact q3 (ot z hzu e w (adj_near f q1.symm))
      have := conn_lone no cz
      subst this
      exact no b (near_adj h)
  intro a b c d h1 h2
  by_cases hu : ∃ x, x ∈ nearL m es u
  · obtain ⟨x, hx⟩ := hu
    exact (key a b h1 x hx).symm.trans (key c d h2 x hx)
  · -- u has no edges: nothing changes
    have h1' := ((near_cut f).mp h1).1
    have h2' := ((near_cut f).mp h2).1
    have nc : ¬ Conn es a u := fun z => by
      obtain ⟨y, hy, _, _⟩ := branch_at z.symm ((near_cut f).mp h1).2.1
      exact hu ⟨y, adj_near f hy.symm⟩
    exact conn_out nc (o _ _ _ _ h1' h2')
theorem norm_reach : ∀ {k : Nat} {es : List (Int × Int)} {A : List Int}, IsFor m es → OneP m es → IsSet m es A → IsGr m es A [] → A.length = k → (normS m es k).length = k ∧ ∃ T, Rch m es A T ∧ (normL m es k).Nodup ∧ ∀ x, x ∈ T ↔ x ∈ normL m es k
  | 0, es, A, f, o, sA, gA, ln => by
    have e : A = [] := List.length_eq_zero_iff.mp ln
    subst e
    exact ⟨rfl, [], .refl, .nil, fun x => Iff.rfl⟩
  | k + 1, es, A, f, o, sA, gA, ln => by
    obtain ⟨x, hx⟩ := List.exists_mem_of_length_pos (l := A) (by omega)
    obtain ⟨y, hy⟩ := gA.beside hx
    obtain ⟨v, hv⟩ := nextL_ex f hy
    obtain ⟨u, e1, e2, hvu, lf, p, ot⟩ := nextL_some f hv
    have huv : u ∈ nearL m es v := (mem_nearL_comm f).mp hvu
    have nvu : v ≠ u := near_ne f hvu
    have f' : IsFor m (cutE es u) := f.part _
    have cxv : Conn es x v := o _ _ _ _ ((mem_nearL_comm f).mp hy) hvu
    obtain ⟨A1, r1, v1⟩ := light_conn f sA gA hx cxv
    have s1 := (r1.both f sA).1
    have g1 := r1.gr f sA gA
    have h2 : ∀ x, x ∈ A1.filter (fun x => !decide (x = v)) ↔ x ∈ A1 ∧ x ≠ v := fun x => by
      rw [List.mem_filter, Bool.not_eq_true', decide_eq_false_iff_not]
    have s2 : IsSet m (cutE es u) (A1.filter fun x => !decide (x = v)) := s1.sub (fun p hp => (List.mem_filter.mp hp).1) (s1.asc.filter _) (fun x hx => (List.mem_filter.mp hx).1)
    have g2 : IsGr m (cutE es u) (A1.filter fun x => !decide (x = v)) [] := g1.less_leaf f s1 hvu lf v1 h2
    have nvS : v ∉ A1.filter (fun x => !decide (x = v)) := fun z => ((h2 v).mp z).2 rfl
    have mS' : ∀ x, x ∈ A1 ↔ x ∈ A1.filter (fun x => !decide (x = v)) ∨ x = v := fun x => by
      rw [h2 x]
      by_cases e : x = v
      · exact ⟨fun _ => .inr e, fun _ => e ▸ v1⟩
      · exact ⟨fun h => .inl ⟨h, e⟩, fun h => h.elim (·.1) (fun z => absurd z e)⟩
    have all : ∀ A : List Int, TL.num (fun _ => True) A = A.length := fun A => by
      unfold TL.num
      rw [List.filter_eq_self.mpr fun _ _ => @decide_eq_true _ (Classical.propDecidable _) trivial]
    have ln2 : (A1.filter fun x => !decide (x = v)).length = k := by
      have p1 : A1.Perm (v :: A1.filter fun x => !decide (x = v)) := perm_of_mem s1.asc.nodup (List.nodup_cons.mpr ⟨nvS, s2.asc.nodup⟩) fun x => by rw [mS' x, List.mem_cons, Or.comm]
      have l1 := p1.length_eq
      have l2 := r1.num f sA (B := fun _ => True) (fun _ _ _ _ => trivial)
      rw [all, all] at l2
      rw [List.length_cons] at l1
      omega
    obtain ⟨ih1, T, rT, nd, mT⟩ := norm_reach f' (o.cut f ot) s2 g2 ln2
    have en : normS m es (k + 1) = (es, v) :: normS m (cutE es u) k := by
      show (match nextL m es with | some v => (es, v) :: normS m (cutE es (hdI (nearL m es v))) k | none => []) = _
      rw [hv]
      show (es, v) :: normS m (cutE es (hdI (nearL m es v))) k = _
      rw [e2]
    have en2 : normL m es (k + 1) = v :: normL m (cutE es u) k := by
      unfold normL
      rw [en]
      rfl
    have nuS : u ∉ A1.filter (fun x => !decide (x = v)) := fun z => s1.free u ((h2 u).mp z).1 v v1 (mem_nearL.mp huv).2
    obtain ⟨nuT, nvT, B1, rB, hB1⟩ := rT.with f lf nuS nvS nvu s1 mS'
    refine ⟨by rw [en, List.length_cons, ih1], B1, r1.trans rB, ?_, fun x => ?_⟩
    · rw [en2]
      exact List.nodup_cons.mpr ⟨fun z => nvT ((mT v).mpr z), nd⟩
    · rw [hB1 x, mT x, en2, List.mem_cons, Or.comm]
/-! ### slides in one piece are slides of the forest -/
theorem Rch.inPiece {Pc W A B A1 : List Int} (f : IsFor m es) (hW : ∀ b ∈ Pc, b ∉ W ∧ ∀ o ∈ nearL m es b, o ∉ W) (hA : ∀ x ∈ A, x ∈ Pc) (hA1 : ∀ x, x ∈ A1 ↔ x ∈ A ∨ x ∈ W) (r : Rch m (inE es Pc) A B) :
    (∀ x ∈ B, x ∈ Pc) ∧ ∃ B1, Rch m es A1 B1 ∧ ∀ x, x ∈ B1 ↔ x ∈ B ∨ x ∈ W := by
  induction r with
  | refl => exact ⟨hA, A1, .refl, hA1⟩
  | @step B a b _ p ih =>
    obtain ⟨hB, B1, r, hB1⟩ := ih
    obtain ⟨p1, p2, p3⟩ := mem_slidesP.mp p
    obtain ⟨q1, bw, aw⟩ := (near_in f).mp p2
    have q : (a, b) ∈ slidesP m es B1 := mem_slidesP.mpr ⟨(hB1 a).mpr (.inl p1), q1, List.eq_nil_iff_forall_not_mem.mpr fun o z => by
      obtain ⟨o1, o2, o3⟩ := mem_oth.mp z
      rcases (hB1 o).mp o2 with o2 | o2
      · have : o ∈ oth m (inE es Pc) B a b := mem_oth.mpr ⟨(near_in f).mpr ⟨o1, hB o o2, bw⟩, o2, o3⟩
        rw [p3] at this
        cases this
      · exact (hW b bw).2 o o1 o2⟩
    refine ⟨fun x hx => ?_, _, .step r q, fun x => ?_⟩
    · rcases mem_after.mp hx with hx | hx
      · exact hB x hx.1
      · exact hx ▸ bw
    · rw [mem_after, mem_after, hB1 x]
      constructor
      · rintro (⟨h1 | h1, h2⟩ | h1)
        · exact .inl (.inl ⟨h1, h2⟩)
        · exact .inr h1
        · exact .inl (.inr h1)
      · rintro ((⟨h1, h2⟩ | h1) | h1)
        · exact .inl ⟨.inl h1, h2⟩
        · exact .inr h1
        · exact .inl ⟨.inr h1, fun e => (hW a aw).1 (e ▸ h1)⟩
/-- the lamps of a piece, by themselves -/
structure Pce (m : Nat) (es : List (Int × Int)) (S b : List Int) : Prop where
  one : OneP m (inE es b)
  set : IsSet m (inE es b) (S.filter fun l => decide (l ∈ b))
  gr : IsGr m (inE es b) (S.filter fun l => decide (l ∈ b)) []
theorem pce_of {G ws S : List Int} {lb : Int → Int} {gs : List (Int × List Int)} (h : Apt m es G ws) (f : IsFor m es) (sS : IsSet m es S) (gS : IsGr m es S G) (lab : Lab es ws lb) (gr : Grp lb ws gs) {g : Int × List Int} (hg : g ∈ gs) : Pce m es S g.2 := by
  have key : ∀ x, x ∈ g.2 ↔ x ∈ ws ∧ lb x = g.1 := fun x => by rw [(gr.is g hg).1, List.mem_filter, decide_eq_true_eq]
  have stay : ∀ {a b : Int}, a ∈ g.2 → Adj (inE es ws) a b → b ∈ g.2 := fun {a b} ha ad => (gr.conn lab hg ha b).mp (.step (.refl _) ad)
  have inner : ∀ {a b : Int}, a ∈ g.2 → Conn (inE es ws) a b → Conn (inE es g.2) a b := fun {a b} ha c => by
    induction c with
    | refl => exact .refl _
    | @step b c h1 e ih =>
      have hb := (gr.conn lab hg ha b).mp h1
      have hc := stay hb e
      exact .step ih (adj_in.mpr ⟨(adj_in.mp e).1, hb, hc⟩)
  have memA : ∀ x, x ∈ S.filter (fun l => decide (l ∈ g.2)) ↔ x ∈ S ∧ x ∈ g.2 := fun x => by rw [List.mem_filter, decide_eq_true_eq]
  refine ⟨fun a b c d h1 h2 => ?_, ⟨sS.asc.filter _, fun v hv => sS.rng v (List.mem_filter.mp hv).1, fun u hu v hv z => sS.free u (List.mem_filter.mp hu).1 v (List.mem_filter.mp hv).1 (List.mem_filter.mp z).1⟩, ⟨.nil, (fun _ h => nomatch h), (fun _ h => nomatch h), fun L sub cl x hx => ?_⟩⟩
  · have ha := ((near_in f).mp h1).2.1
    have hc := ((near_in f).mp h2).2.1
    exact inner ha ((gr.conn lab hg ha c).mpr hc)
  · have memS : ∀ x, x ∈ S.filter (fun x => !decide (x ∈ G)) ↔ x ∈ S ∧ x ∉ G := fun x => by rw [List.mem_filter, Bool.not_eq_true', decide_eq_false_iff_not]
    refine (gS.apart h f sS memS).max L (fun y hy => ?_) (Cl.of fun y hy z hz => ?_) x hx
    · obtain ⟨y1, y2⟩ := (memA y).mp (sub y hy)
      exact (memS y).mpr ⟨y1, ((h.mem y).mp ((key y).mp y2).1).2.1⟩
    · have y2 := ((memA y).mp (sub y hy)).2
      obtain ⟨z1, zw, yw⟩ := (near_in f).mp hz
      have zg : z ∈ g.2 := stay y2 (adj_in.mpr ⟨(near_adj z1).symm, yw, zw⟩)
      obtain ⟨w, w1, w2, w3⟩ := cl.other hy ((near_in f).mpr ⟨z1, zg, y2⟩)
      obtain ⟨w4, w5, _⟩ := (near_in f).mp w3
      exact ⟨w, w1, w2, (near_in f).mpr ⟨w4, ((key w).mp w5).1, zw⟩⟩
def cntS (S b : List Int) : Nat := (S.filter fun l => decide (l ∈ b)).length
def normOf (m : Nat) (es : List (Int × Int)) (S b : List Int) : List Int := normL m (inE es b) (cntS S b)
theorem Pce.norm {S b : List Int} (f : IsFor m es) (h : Pce m es S b) : (normS m (inE es b) (cntS S b)).length = cntS S b ∧ ∃ T, Rch m (inE es b) (S.filter fun l => decide (l ∈ b)) T ∧ (normOf m es S b).Nodup ∧ ∀ x, x ∈ T ↔ x ∈ normOf m es S b :=
  norm_reach (f.part _) h.one h.set h.gr rfl
theorem norm_all {G ws S : List Int} {lb : Int → Int} {gs : List (Int × List Int)} (h : Apt m es G ws) (f : IsFor m es) (sS : IsSet m es S) (gS : IsGr m es S G) (lab : Lab es ws lb) (gr : Grp lb ws gs) : ∀ ps : List (Int × List Int), (∀ g ∈ ps, g ∈ gs) → (ps.map (·.1)).Nodup →
    (G ++ ps.flatMap fun g => normOf m es S g.2).Nodup ∧ (∀ g ∈ ps, ∀ x ∈ normOf m es S g.2, x ∈ g.2) ∧ ∃ T, Rch m es S T ∧ ∀ x, x ∈ T ↔ x ∈ G ++ (ps.flatMap fun g => normOf m es S g.2) ∨ (x ∈ S ∧ x ∉ G ∧ ∀ g ∈ ps, x ∉ g.2)
  | [], _, _ => by
    refine ⟨by rw [List.flatMap_nil, List.append_nil]; exact gS.asc.nodup, (fun _ h => nomatch h), S, .refl, fun x => ?_⟩
    rw [List.flatMap_nil, List.append_nil]
    constructor
    · intro hx
      by_cases e : x ∈ G
      · exact .inl e
      · exact .inr ⟨hx, e, fun _ h => nomatch h⟩
    · rintro (hx | hx)
      · exact gS.sub x hx
      · exact hx.1
  | g :: ps, hps, nd => by
    have nd' := List.nodup_cons.mp nd
    have hg := hps g List.mem_cons_self
    obtain ⟨ihn, ihs, T, rT, mT⟩ := norm_all h f sS gS lab gr ps (fun q hq => hps q (List.mem_cons_of_mem _ hq)) nd'.2
    have key : ∀ q ∈ gs, ∀ x, x ∈ q.2 ↔ x ∈ ws ∧ lb x = q.1 := fun q hq x => by rw [(gr.is q hq).1, List.mem_filter, decide_eq_true_eq]
    have dis : ∀ q ∈ ps, ∀ x, x ∈ q.2 → x ∉ g.2 := fun q hq x h1 h2 => by
      have a := ((key q (hps q (List.mem_cons_of_mem _ hq)) x).mp h1).2
      have b := ((key g hg x).mp h2).2
      exact nd'.1 (List.mem_map.mpr ⟨q, hq, by rw [← a, b]⟩)
    have gw : ∀ x ∈ g.2, x ∈ ws := fun x hx => ((key g hg x).mp hx).1
    have pc := pce_of h f sS gS lab gr hg
    obtain ⟨_, N, rN, ndN, mN⟩ := pc.norm f
    have sT := (rT.both f sS).1
    -- the lamps of the piece are still there
    have same : ∀ x, x ∈ g.2 → (x ∈ T ↔ x ∈ S) := fun x hx => by
      have nG : x ∉ G := ((h.mem x).mp (gw x hx)).2.1
      rw [mT x, List.mem_append, List.mem_flatMap]
      constructor
      · rintro ((z | ⟨q, hq, z⟩) | z)
        · exact absurd z nG
        · exact absurd hx (dis q hq x (ihs q hq x z))
        · exact z.1
      · intro z
        exact .inr ⟨z, nG, fun q hq z2 => dis q hq x z2 hx⟩
    have memA : ∀ x, x ∈ S.filter (fun l => decide (l ∈ g.2)) ↔ x ∈ S ∧ x ∈ g.2 := fun x => by rw [List.mem_filter, decide_eq_true_eq]
    have memW : ∀ x, x ∈ T.filter (fun l => !decide (l ∈ g.2)) ↔ x ∈ T ∧ x ∉ g.2 := fun x => by rw [List.mem_filter, Bool.not_eq_true', decide_eq_false_iff_not]
    have gT := rT.gr f sS gS
    obtain ⟨hN, B1, rB, hB1⟩ := rN.inPiece f (W := T.filter fun l => !decide (l ∈ g.2)) (A1 := T) (fun b hb => ⟨fun z => ((memW b).mp z).2 hb, fun o ho z => by
      obtain ⟨z1, z2⟩ := (memW o).mp z
      have oG : o ∉ G := ((h.mem b).mp (gw b hb)).2.2 o ho
      have ow := h.lamp f sT gT.sub z1 oG
      exact z2 ((gr.conn lab hg hb o).mp (.step (.refl _) (adj_in.mpr ⟨(near_adj ho).symm, gw b hb, ow⟩)))⟩) (fun x hx => ((memA x).mp hx).2) (fun x => by
      rw [memA, memW]
      by_cases e : x ∈ g.2
      · rw [same x e]
        exact ⟨fun z => .inl ⟨z, e⟩, fun z => z.elim (·.1) (fun z => absurd e z.2)⟩
      · exact ⟨fun z => .inr ⟨z, e⟩, fun z => z.elim (fun z => absurd z.2 e) (·.1)⟩)
    have nmem : ∀ x ∈ normOf m es S g.2, x ∈ g.2 := fun x hx => hN x ((mN x).mpr hx)
    refine ⟨?_, fun q hq x hx => ?_, B1, rT.trans rB, fun x => ?_⟩
    · rw [List.flatMap_cons]
      have e : (G ++ (normOf m es S g.2 ++ ps.flatMap fun g => normOf m es S g.2)).Perm (normOf m es S g.2 ++ (G ++ ps.flatMap fun g => normOf m es S g.2)) := by
        rw [← List.append_assoc, ← List.append_assoc]
        exact List.perm_append_comm.append_right _
      refine e.nodup_iff.mpr (List.nodup_append.mpr ⟨ndN, ihn, fun a ha b hb e => ?_⟩)
      subst e
      have ag := nmem a ha
      rcases List.mem_append.mp hb with z | z
      · exact ((h.mem a).mp (gw a ag)).2.1 z
      · obtain ⟨q, hq, z⟩ := List.mem_flatMap.mp z
        exact dis q hq a (ihs q hq a z) ag
    · rcases List.mem_cons.mp hq with rfl | hq
      · exact nmem x hx
      · exact ihs q hq x hx
    · rw [hB1 x, mN x, memW, mT x, List.flatMap_cons, List.mem_append, List.mem_append, List.mem_append]
      constructor
      · rintro (z | ⟨(z | z) | z, n⟩)
        · exact .inl (.inr (.inl z))
        · exact .inl (.inl z)
        · exact .inl (.inr (.inr z))
        · refine .inr ⟨z.1, z.2.1, fun q hq => ?_⟩
          rcases List.mem_cons.mp hq with rfl | hq
          · exact n
          · exact z.2.2 q hq
      · rintro ((z | (z | z)) | z)
        · exact .inr ⟨.inl (.inl z), fun e => ((h.mem x).mp (gw x e)).2.1 z⟩
        · exact .inl z
        · obtain ⟨q, hq, z2⟩ := List.mem_flatMap.mp z
          exact .inr ⟨.inl (.inr z), fun e => dis q hq x (ihs q hq x z2) e⟩
        · exact .inr ⟨.inr ⟨z.1, z.2.1, fun q hq => z.2.2 q (List.mem_cons_of_mem _ hq)⟩, z.2.2 g List.mem_cons_self⟩
/-- the normal setting is reached -/
theorem norm_set {G ws S : List Int} {lb : Int → Int} {gs : List (Int × List Int)} (h : Apt m es G ws) (f : IsFor m es) (sS : IsSet m es S) (gS : IsGr m es S G) (lab : Lab es ws lb) (gr : Grp lb ws gs) :
    Rch m es S (srtI (G ++ gs.flatMap fun g => normOf m es S g.2)) := by
  obtain ⟨nd, _, T, rT, mT⟩ := norm_all h f sS gS lab gr gs (fun _ h => h) gr.nd
  have e : T = srtI (G ++ gs.flatMap fun g => normOf m es S g.2) := asc_ext (rT.both f sS).1.asc (srtI_asc nd) fun x => by
    rw [mT x, mem_srtI]
    refine ⟨fun z => z.elim id fun z => ?_, .inl⟩
    exfalso
    have xw := h.lamp f sS gS.sub z.1 z.2.1
    obtain ⟨g, hg, e⟩ := List.mem_map.mp (gr.all x xw)
    refine z.2.2 g hg ?_
    rw [(gr.is g hg).1, List.mem_filter, decide_eq_true_eq]
    exact ⟨xw, e.symm⟩
  rw [← e]
  exact rT
end
end TL
namespace TL
/-! ### there is a greatest lock, there are labels and groups -/
theorem gr_ex {m : Nat} {es : List (Int × Int)} {S : List Int} (asc : Asc S) : ∃ G, IsGr m es S G := by
  have mem : ∀ x, x ∈ S.filter (fun x => @decide (∃ T : List Int, (∀ y ∈ T, y ∈ S) ∧ Cl m es T ∧ x ∈ T) (Classical.propDecidable _)) ↔ ∃ T : List Int, (∀ y ∈ T, y ∈ S) ∧ Cl m es T ∧ x ∈ T := fun x => by
    rw [List.mem_filter]
    exact ⟨fun h => @of_decide_eq_true _ (Classical.propDecidable _) h.2, fun h => ⟨h.elim fun T hT => hT.1 x hT.2.2, @decide_eq_true _ (Classical.propDecidable _) h⟩⟩
  refine ⟨_, asc.filter _, fun x hx => (List.mem_filter.mp hx).1, Cl.of fun x hx v hv => ?_, fun T sub cl x hx => (mem x).mpr ⟨T, sub, cl, hx⟩⟩
  obtain ⟨T, sub, cl, hT⟩ := (mem x).mp hx
  obtain ⟨y, y1, y2, y3⟩ := cl.other hT hv
  exact ⟨y, (mem y).mpr ⟨T, sub, cl, y1⟩, y2, y3⟩
theorem lab_exR (vs : List Int) : ∀ es : List (Int × Int), ∃ f, Lab es.reverse vs f
  | [] => ⟨id, Lab.start vs⟩
  | p :: es => by
    obtain ⟨f, h⟩ := lab_exR vs es
    rw [List.reverse_cons]
    by_cases c : p.1 ∈ vs ∧ p.2 ∈ vs
    · exact ⟨_, h.merge c.1 c.2⟩
    · exact ⟨f, h.skip c⟩
theorem lab_ex (es : List (Int × Int)) (vs : List Int) : ∃ f, Lab es vs f := by
  have := lab_exR vs es.reverse
  rw [List.reverse_reverse] at this
  exact this
theorem grp_exR (f : Int → Int) : ∀ T : List Int, ∃ gs, Grp f T.reverse gs
  | [] => ⟨[], Grp.start f⟩
  | v :: T => by
    obtain ⟨gs, h⟩ := grp_exR f T
    rw [List.reverse_cons]
    exact ⟨_, h.add v⟩
theorem grp_ex (f : Int → Int) (T : List Int) : ∃ gs, Grp f T gs := by
  have := grp_exR f T.reverse
  rw [List.reverse_reverse] at this
  exact this
end TL
namespace TL
/-! ### at most half of a piece is lit; a piece with lamps has a slide -/
section
variable {m : Nat} {es : List (Int × Int)}
theorem IsGr.open_ {A L : List Int} (gA : IsGr m es A []) (sub : ∀ x ∈ L, x ∈ A) (ne : L ≠ []) : ∃ x ∈ L, ∃ v ∈ nearL m es x, ∀ y ∈ L, y ≠ x → y ∉ nearL m es v := by
  obtain ⟨x0, h0⟩ := List.exists_mem_of_ne_nil _ ne
  refine Classical.byContradiction fun no => ?_
  have := gA.max L sub (Cl.of fun x hx v hv => Classical.byContradiction fun no2 => no ⟨x, hx, v, hv, fun y hy n hn => no2 ⟨y, hy, n, hn⟩⟩) x0 h0
  cases this
theorem match_ex (f : IsFor m es) {A : List Int} (gA : IsGr m es A []) : ∀ (n : Nat) (L : List Int), L.length = n → L.Nodup → (∀ x ∈ L, x ∈ A) → ∃ V : List Int, V.length = n ∧ V.Nodup ∧ ∀ v ∈ V, ∃ x ∈ L, v ∈ nearL m es x
  | 0, L, _, _, _ => ⟨[], rfl, .nil, fun _ h => nomatch h⟩
  | n + 1, L, ln, nd, sub => by
    have ne : L ≠ [] := fun e => by rw [e] at ln; cases ln
    obtain ⟨x, hx, v, hv, ot⟩ := gA.open_ sub ne
    obtain ⟨V, h1, h2, h3⟩ := match_ex f gA n (L.erase x) (by rw [List.length_erase_of_mem hx]; omega) (nd.erase x) fun y hy => sub y (List.mem_of_mem_erase hy)
    refine ⟨v :: V, by rw [List.length_cons, h1], List.nodup_cons.mpr ⟨fun z => ?_, h2⟩, fun u hu => ?_⟩
    · obtain ⟨y, hy, hvy⟩ := h3 v z
      obtain ⟨y1, y2⟩ := (List.Nodup.mem_erase_iff nd).mp hy
      exact ot y y2 y1 ((mem_nearL_comm f).mp hvy)
    · rcases List.mem_cons.mp hu with rfl | hu
      · exact ⟨x, hx, hv⟩
      · obtain ⟨y, hy, k⟩ := h3 u hu
        exact ⟨y, List.mem_of_mem_erase hy, k⟩
theorem half_lit (f : IsFor m es) {A b : List Int} (sA : IsSet m es A) (gA : IsGr m es A []) (hA : ∀ x ∈ A, x ∈ b) (hV : ∀ x v, v ∈ nearL m es x → v ∈ b) : 2 * A.length ≤ b.length := by
  obtain ⟨V, h1, h2, h3⟩ := match_ex f gA A.length A rfl sA.asc.nodup fun _ h => h
  have nd : (A ++ V).Nodup := List.nodup_append.mpr ⟨sA.asc.nodup, h2, fun a ha v hv e => by
    obtain ⟨x, hx, k⟩ := h3 v hv
    exact adj_free sA hx k (e ▸ ha)⟩
  have := nd.length_le_of_subset (l₂ := b) fun x hx => by
    rcases List.mem_append.mp hx with h | h
    · exact hA x h
    · obtain ⟨y, _, k⟩ := h3 x h
      exact hV y x k
  rw [List.length_append, h1] at this
  omega
theorem Pce.half {S b : List Int} (f : IsFor m es) (h : Pce m es S b) : 2 * cntS S b ≤ b.length :=
  half_lit (f.part _) h.set h.gr (fun x hx => of_decide_eq_true (List.mem_filter.mp hx).2) fun x v hv => ((near_in f).mp hv).2.1
theorem piece_slide {G ws S : List Int} {lb : Int → Int} {gs : List (Int × List Int)} (h : Apt m es G ws) (f : IsFor m es) (sS : IsSet m es S) (gS : IsGr m es S G) (lab : Lab es ws lb) (gr : Grp lb ws gs) {g : Int × List Int} (hg : g ∈ gs) :
    0 < cntS S g.2 ↔ ∃ p ∈ slidesP m es S, p.1 ∈ g.2 ∧ p.2 ∈ g.2 := by
  have pc := pce_of h f sS gS lab gr hg
  have memA : ∀ x, x ∈ S.filter (fun l => decide (l ∈ g.2)) ↔ x ∈ S ∧ x ∈ g.2 := fun x => by rw [List.mem_filter, decide_eq_true_eq]
  have key : ∀ x, x ∈ g.2 ↔ x ∈ ws ∧ lb x = g.1 := fun x => by rw [(gr.is g hg).1, List.mem_filter, decide_eq_true_eq]
  constructor
  · intro hc
    have ne : S.filter (fun l => decide (l ∈ g.2)) ≠ [] := fun e => by
      unfold cntS at hc
      rw [e] at hc
      cases hc
    obtain ⟨x, hx, v, hv, ot⟩ := pc.gr.open_ (fun _ h => h) ne
    obtain ⟨x1, x2⟩ := (memA x).mp hx
    obtain ⟨v1, v2, _⟩ := (near_in f).mp hv
    refine ⟨(x, v), mem_slidesP.mpr ⟨x1, v1, List.eq_nil_iff_forall_not_mem.mpr fun o z => ?_⟩, x2, v2⟩
    obtain ⟨o1, o2, o3⟩ := mem_oth.mp z
    have vw := ((key v).mp v2).1
    have oG : o ∉ G := ((h.mem v).mp vw).2.2 o o1
    have ow := h.lamp f sS gS.sub o2 oG
    have og : o ∈ g.2 := (gr.conn lab hg v2 o).mp (.step (.refl _) (adj_in.mpr ⟨(near_adj o1).symm, vw, ow⟩))
    exact ot o ((memA o).mpr ⟨o2, og⟩) o3 ((near_in f).mpr ⟨o1, og, v2⟩)
  · rintro ⟨p, hp, h1, h2⟩
    exact List.length_pos_of_mem ((memA p.1).mpr ⟨(mem_slidesP.mp hp).1, h1⟩)
theorem rigid_slides {S : List Int} (f : IsFor m es) (gS : IsGr m es S S) : slidesP m es S = [] := List.eq_nil_iff_forall_not_mem.mpr fun p hp => by
  obtain ⟨h1, h2, h3⟩ := mem_slidesP.mp (show (p.1, p.2) ∈ slidesP m es S from hp)
  exact gS.cl p.1 h1 p.2 h2 h3
theorem Rch.stuck {S T : List Int} (e : slidesP m es S = []) (h : Rch m es S T) : T = S := by
  induction h with
  | refl => rfl
  | step _ p ih =>
    subst ih
    rw [e] at p
    cases p
end
end TL
namespace TL
/-! ### the slides by which a lamp that is not rigid leaves -/
section
variable {m : Nat} {es : List (Int × Int)}
/-- exits: the lamps that forbid a slide have exits themselves, and lower rank -/
structure Xr (m : Nat) (es : List (Int × Int)) (S : List Int) (dom : Int → Prop) (ex : Int → Int) (r : Int → Nat) : Prop where
  lamp : ∀ x, dom x → x ∈ S
  near : ∀ x, dom x → ex x ∈ nearL m es x
  less : ∀ x, dom x → ∀ y ∈ oth m es S x (ex x), dom y ∧ r y < r x
def outL (m : Nat) (es : List (Int × Int)) (S : List Int) (ex : Int → Int) : Nat → Int → List (Int × Int)
  | 0, _ => []
  | n + 1, x => (oth m es S x (ex x)).flatMap (outL m es S ex n) ++ [(x, ex x)]
theorem Xr.inj {S : List Int} {dom : Int → Prop} {ex : Int → Int} {r : Int → Nat} (X : Xr m es S dom ex r) (f : IsFor m es) {x y : Int} (hx : dom x) (hy : dom y) (e : ex x = ex y) : x = y := by
  refine Classical.byContradiction fun ne => ?_
  have h1 : y ∈ oth m es S x (ex x) := mem_oth.mpr ⟨by rw [e]; exact (mem_nearL_comm f).mp (X.near y hy), X.lamp y hy, fun z => ne z.symm⟩
  have h2 : x ∈ oth m es S y (ex y) := mem_oth.mpr ⟨by rw [← e]; exact (mem_nearL_comm f).mp (X.near x hx), X.lamp x hx, ne⟩
  have a := (X.less x hx y h1).2
  have b := (X.less y hy x h2).2
  omega
theorem outs_ok {S : List Int} {out : Int → List (Int × Int)} {R : Int → Int → Prop} {v : Int} (f : IsFor m es) : ∀ ys : List Int, ys.Nodup → (∀ y ∈ ys, ∀ y' ∈ ys, ∀ z, R y z → R y' z → y = y') → (∀ y ∈ ys, R y y) → (∀ y ∈ ys, ¬ R y v) →
    (∀ y ∈ ys, ∀ T, IsSet m es T → v ∉ T → (∀ z, R y z → (z ∈ T ↔ z ∈ S)) → ∃ T', walk m es T (out y) = some T' ∧ (∀ z, ¬ R y z → (z ∈ T' ↔ z ∈ T)) ∧ y ∉ T') →
    (∀ y ∈ ys, (∀ s ∈ out y, R y s.1) ∧ ((out y).map (·.1)).Nodup) →
    ∀ T, IsSet m es T → v ∉ T → (∀ y ∈ ys, ∀ z, R y z → (z ∈ T ↔ z ∈ S)) →
    ∃ T', walk m es T (ys.flatMap out) = some T' ∧ (∀ z, (∀ y ∈ ys, ¬ R y z) → (z ∈ T' ↔ z ∈ T)) ∧ (∀ y ∈ ys, y ∉ T') ∧ ((ys.flatMap out).map (·.1)).Nodup
  | [], _, _, _, _, _, _, T, sT, _, _ => ⟨T, rfl, fun _ _ => Iff.rfl, (fun _ h => nomatch h), .nil⟩
  | y :: ys, nd, dis, self, nv, one, st, T, sT, vT, ag => by
    have nd' := List.nodup_cons.mp nd
    have my : y ∈ y :: ys := List.mem_cons_self
    have up : ∀ {z}, z ∈ ys → z ∈ y :: ys := fun h => List.mem_cons_of_mem _ h
    obtain ⟨T1, w1, k1, n1⟩ := one y my T sT vT (ag y my)
    have s1 := walk_set f sT w1
    have apart : ∀ y' ∈ ys, ∀ z, R y' z → ¬ R y z := fun y' hy' z h1 h2 => nd'.1 (dis y my y' (up hy') z h2 h1 ▸ hy')
    obtain ⟨T2, w2, k2, n2, nd2⟩ := outs_ok f ys nd'.2 (fun a ha b hb => dis a (up ha) b (up hb)) (fun a ha => self a (up ha)) (fun a ha => nv a (up ha)) (fun a ha => one a (up ha)) (fun a ha => st a (up ha)) T1 s1 (fun h => vT ((k1 v (nv y my)).mp h)) (fun y' hy' z h => (k1 z (apart y' hy' z h)).trans (ag y' (up hy') z h))
    refine ⟨T2, ?_, fun z hz => (k2 z fun y' hy' => hz y' (up hy')).trans (k1 z (hz y my)), fun z hz => ?_, ?_⟩
    · rw [List.flatMap_cons, walk_app w1]
      exact w2
    · rcases List.mem_cons.mp hz with rfl | hz
      · exact fun h => n1 ((k2 z fun y' hy' h2 => apart y' hy' z h2 (self z my)).mp h)
      · exact n2 z hz
    · rw [List.flatMap_cons, List.map_append]
      refine List.nodup_append.mpr ⟨(st y my).2, nd2, fun a ha b hb e => ?_⟩
      obtain ⟨s, hs, rfl⟩ := List.mem_map.mp ha
      obtain ⟨t, ht, rfl⟩ := List.mem_map.mp hb
      obtain ⟨y', hy', ht⟩ := List.mem_flatMap.mp ht
      exact apart y' hy' _ ((st y' (up hy')).1 t ht) (e ▸ (st y my).1 s hs)
theorem cut_none {v : Int} (h : ∀ w, ¬ Adj es v w) {a b : Int} : Conn (cutE es v) a b ↔ Conn es a b := by
  constructor
  · exact conn_cut_mono
  · intro c
    induction c with
    | refl => exact .refl _
    | @step b c h1 e ih => exact .step ih (adj_cut.mpr ⟨e, fun z => h c (z ▸ e), fun z => h b (z ▸ e.symm)⟩)
theorem self_cut {v : Int} {z : Int} (h : Conn (cutE es v) v z) : z = v := conn_lone (fun w ad => (adj_cut.mp ad).2.1 rfl) h
theorem cut_not {v y : Int} (hy : y ≠ v) : ¬ Conn (cutE es v) y v := fun c => hy (self_cut c.symm)
theorem out_ok (f : IsFor m es) {S : List Int} {dom : Int → Prop} {ex : Int → Int} {r : Int → Nat} (sS : IsSet m es S) (X : Xr m es S dom ex r) : ∀ (n : Nat) (x p : Int), dom x → r x < n → x ≠ p → ex x ≠ p → p ∉ S → (p ∈ nearL m es x ∨ ∀ w, ¬ Adj es p w) →
    (∀ s ∈ outL m es S ex n x, dom s.1 ∧ s.2 = ex s.1 ∧ Conn (cutE es p) x s.1 ∧ Conn (cutE es p) x s.2) ∧ ((outL m es S ex n x).map (·.1)).Nodup ∧ (∃ A, outL m es S ex n x = A ++ [(x, ex x)] ∧ x ∉ A.map (·.1)) ∧
    ∀ T, IsSet m es T → p ∉ T → (∀ z, Conn (cutE es p) x z → (z ∈ T ↔ z ∈ S)) → ∃ T', walk m es T (outL m es S ex n x) = some T' ∧ (∀ z, ¬ Conn (cutE es p) x z → (z ∈ T' ↔ z ∈ T)) ∧ x ∉ T'
  | 0, _, _, _, h, _, _, _, _ => absurd h (Nat.not_lt_zero _)
  | n + 1, x, p, dx, hr, nxp, nvp, npS, hp => by
    generalize hv : ex x = v at nvp
    have vx : v ∈ nearL m es x := hv ▸ X.near x dx
    have xv : x ∈ nearL m es v := (mem_nearL_comm f).mp vx
    have nvx : v ≠ x := near_ne f vx
    have xS := X.lamp x dx
    have vS : v ∉ S := adj_free sS xS vx
    -- the lamps in the way
    have hys : ∀ y ∈ oth m es S x v, y ∈ nearL m es v ∧ y ∈ S ∧ y ≠ x ∧ y ≠ v ∧ dom y ∧ r y < n ∧ ex y ≠ v ∧ y ≠ p := fun y hy => by
      obtain ⟨h1, h2, h3⟩ := mem_oth.mp hy
      obtain ⟨d1, d2⟩ := X.less x dx y (hv ▸ hy)
      refine ⟨h1, h2, h3, near_ne f h1, d1, by omega, fun e => h3 (X.inj f d1 dx (by rw [e, hv])), fun e => npS (e ▸ h2)⟩
    have nd : (oth m es S x v).Nodup := (nearL_asc m es v).nodup.filter _
    -- what is joined with them without v is joined with x without p
    have inR : ∀ y ∈ oth m es S x v, ∀ z, Conn (cutE es v) y z → z ≠ p ∧ Conn (cutE es p) x z := fun y hy z c => by
      obtain ⟨h1, h2, h3, h4, _, _, _, h8⟩ := hys y hy
      induction c with
      | refl =>
        refine ⟨h8, .step (.step (.refl _) (adj_cut.mpr ⟨near_adj xv, nxp, nvp⟩)) (adj_cut.mpr ⟨(near_adj h1).symm, nvp, h8⟩)⟩
      | @step b z c1 e ih =>
        obtain ⟨e1, e2, e3⟩ := adj_cut.mp e
        obtain ⟨i1, i2⟩ := ih
        have nzp : z ≠ p := fun ez => by
          rcases hp with hp | hp
          · -- p is beside x, so x would be joined with y without v
            have cx : Conn (cutE es v) y x := .step (.step c1 e) (adj_cut.mpr ⟨ez ▸ near_adj hp, e3, nvx.symm⟩)
            exact h3 (branch_apart f h1 xv h4 nvx.symm cx)
          · exact hp b (ez ▸ e1.symm)
        exact ⟨nzp, .step i2 (adj_cut.mpr ⟨e1, i1, nzp⟩)⟩
    have dis : ∀ y ∈ oth m es S x v, ∀ y' ∈ oth m es S x v, ∀ z, Conn (cutE es v) y z → Conn (cutE es v) y' z → y = y' := fun y hy y' hy' z c c' =>
      branch_apart f (hys y hy).1 (hys y' hy').1 (hys y hy).2.2.2.1 (hys y' hy').2.2.2.1 (c.trans c'.symm)
    have ih := fun y hy => out_ok f sS X n y v (hys y hy).2.2.2.2.1 (hys y hy).2.2.2.2.2.1 (hys y hy).2.2.2.1 (hys y hy).2.2.2.2.2.2.1 vS (.inl ((mem_nearL_comm f).mp (hys y hy).1))
    have vR : Conn (cutE es p) x v := .step (.refl _) (adj_cut.mpr ⟨near_adj xv, nxp, nvp⟩)
    have en : outL m es S ex (n + 1) x = (oth m es S x v).flatMap (outL m es S ex n) ++ [(x, v)] := by rw [← hv]; rfl
    have outs := outs_ok (S := S) (out := outL m es S ex n) (R := fun y z => Conn (cutE es v) y z) (v := v) f (oth m es S x v) nd dis (fun y _ => .refl y) (fun y hy => cut_not (hys y hy).2.2.2.1) (fun y hy T sT vT ag => (ih y hy).2.2.2 T sT vT ag) (fun y hy => ⟨fun s hs => ((ih y hy).1 s hs).2.2.1, (ih y hy).2.1⟩)
    have nx : ∀ y ∈ oth m es S x v, ¬ Conn (cutE es v) y x := fun y hy c => (hys y hy).2.2.1 (branch_apart f (hys y hy).1 xv (hys y hy).2.2.2.1 nvx.symm c)
    have nst : x ∉ ((oth m es S x v).flatMap (outL m es S ex n)).map (·.1) := fun h => by
      obtain ⟨s, hs, e⟩ := List.mem_map.mp h
      obtain ⟨y, hy, hs⟩ := List.mem_flatMap.mp hs
      exact nx y hy (e ▸ ((ih y hy).1 s hs).2.2.1)
    refine ⟨fun s hs => ?_, ?_, ⟨_, en, nst⟩, fun T sT npT ag => ?_⟩
    · rw [en] at hs
      rcases List.mem_append.mp hs with hs | hs
      · obtain ⟨y, hy, hs⟩ := List.mem_flatMap.mp hs
        obtain ⟨a1, a2, a3, a4⟩ := (ih y hy).1 s hs
        exact ⟨a1, a2, (inR y hy _ a3).2, (inR y hy _ a4).2⟩
      · rw [List.mem_singleton.mp hs]
        exact ⟨dx, hv.symm, .refl _, vR⟩
    · obtain ⟨_, _, _, _, ndo⟩ := outs S sS vS (fun _ _ _ _ => Iff.rfl)
      rw [en, List.map_append]
      refine List.nodup_append.mpr ⟨ndo, List.pairwise_singleton _ _, fun a ha b hb e => ?_⟩
      rw [List.mem_singleton.mp hb] at e
      have e : a = x := e
      exact nst (e ▸ ha)
    · have vT : v ∉ T := fun h => vS ((ag v vR).mp h)
      obtain ⟨T1, w1, k1, n1, _⟩ := outs T sT vT (fun y hy z c => ag z (inR y hy z c).2)
      have s1 := walk_set f sT w1
      have x1 : x ∈ T1 := (k1 x nx).mpr ((ag x (.refl _)).mpr xS)
      have fr : oth m es T1 x v = [] := List.eq_nil_iff_forall_not_mem.mpr fun u hu => by
        obtain ⟨u1, u2, u3⟩ := mem_oth.mp hu
        have nuv : u ≠ v := near_ne f u1
        by_cases hy : u ∈ oth m es S x v
        · exact n1 u hy u2
        · have uT : u ∈ T := (k1 u fun y hy' c => by
            have e := branch_apart f (hys y hy').1 u1 (hys y hy').2.2.2.1 nuv c
            exact hy (e ▸ hy')).mp u2
          have nup : u ≠ p := fun e => npT (e ▸ uT)
          have uR : Conn (cutE es p) x u := .step vR (adj_cut.mpr ⟨(near_adj u1).symm, nvp, nup⟩)
          exact hy (mem_oth.mpr ⟨u1, (ag u uR).mp uT, u3⟩)
      have ps : (x, v) ∈ slidesP m es T1 := mem_slidesP.mpr ⟨x1, vx, fr⟩
      refine ⟨after T1 x v, ?_, fun z hz => ?_, fun h => ?_⟩
      · rw [en, walk_app w1]
        unfold walk
        rw [if_pos ps]
        rfl
      · have nzx : z ≠ x := fun e => hz (e ▸ .refl _)
        have nzv : z ≠ v := fun e => hz (e ▸ vR)
        rw [mem_after]
        have k := k1 z fun y hy c => hz (inR y hy z c).2
        exact ⟨fun h => h.elim (fun h => k.mp h.1) (fun h => absurd h nzv), fun h => .inl ⟨k.mpr h, nzx⟩⟩
      · rcases mem_after.mp h with h | h
        · exact h.2 rfl
        · exact nvx h.symm
end
end TL
namespace TL
/-! ### the exits, as they are found round by round -/
section
variable {m : Nat} {es : List (Int × Int)} {S : List Int}
def lfX (S : List Int) (ks : List (Int × Int)) : List Int := S.filter fun x => decide (x ∉ ks.map (·.1))
theorem mem_lfX {ks : List (Int × Int)} {x : Int} : x ∈ lfX S ks ↔ x ∈ S ∧ x ∉ ks.map (·.1) := by
  unfold lfX
  rw [List.mem_filter, decide_eq_true_eq]
def freeN (m : Nat) (es : List (Int × Int)) (L : List Int) (x : Int) : Option Int := (nearL m es x).find? fun v => decide (oth m es L x v = [])
def rndX (m : Nat) (es : List (Int × Int)) (L T : List Int) : List (Int × Int) := T.filterMap fun x => (freeN m es L x).map fun v => (x, v)
theorem mem_rndX {L T : List Int} {p : Int × Int} (h : p ∈ rndX m es L T) : p.1 ∈ T ∧ p.2 ∈ nearL m es p.1 ∧ oth m es L p.1 p.2 = [] := by
  obtain ⟨x, hx, e⟩ := List.mem_filterMap.mp h
  obtain ⟨v, hv, rfl⟩ := Option.map_eq_some_iff.mp e
  have h2 := List.find?_some hv
  exact ⟨hx, List.mem_of_find?_eq_some hv, of_decide_eq_true h2⟩
theorem rndX_fst (L : List Int) : ∀ T : List Int, ((rndX m es L T).map (·.1)).Sublist T
  | [] => .slnil
  | x :: T => by
    have ih := rndX_fst L T
    unfold rndX at ih ⊢
    rw [List.filterMap_cons]
    cases h : (freeN m es L x).map fun v => (x, v) with
    | none => exact ih.cons _
    | some p =>
      obtain ⟨v, _, rfl⟩ := Option.map_eq_some_iff.mp h
      exact ih.cons_cons _
theorem rndX_nil {L T : List Int} (h : rndX m es L T = []) {x : Int} (hx : x ∈ T) {v : Int} (hv : v ∈ nearL m es x) : oth m es L x v ≠ [] := fun e => by
  have := List.filterMap_eq_nil_iff.mp h x hx
  rw [Option.map_eq_none_iff] at this
  exact absurd (decide_eq_true e) (List.find?_eq_none.mp this v hv)
inductive Xf (m : Nat) (es : List (Int × Int)) (S : List Int) : List (Int × Int) → List (Int × Int) → Prop
  | done {ks : List (Int × Int)} : rndX m es (lfX S ks) (lfX S ks) = [] → Xf m es S ks ks
  | step {ks kf : List (Int × Int)} : rndX m es (lfX S ks) (lfX S ks) ≠ [] → Xf m es S (ks ++ rndX m es (lfX S ks) (lfX S ks)) kf → Xf m es S ks kf
theorem Xf.uniq {ks a b : List (Int × Int)} (h : Xf m es S ks a) (k : Xf m es S ks b) : a = b := by
  induction h with
  | done e =>
    cases k with
    | done => rfl
    | step n _ => exact absurd e n
  | step n _ ih =>
    cases k with
    | done e => exact absurd e n
    | step _ k => exact ih k
structure XI (m : Nat) (es : List (Int × Int)) (S : List Int) (ks : List (Int × Int)) : Prop where
  nd : (ks.map (·.1)).Nodup
  sub : ∀ p ∈ ks, p.1 ∈ S
  ord : ∀ A p B, ks = A ++ p :: B → p.2 ∈ nearL m es p.1 ∧ ∀ y ∈ oth m es S p.1 p.2, y ∈ A.map (·.1)
  out : ∀ T : List Int, (∀ x ∈ T, x ∈ S) → Cl m es T → ∀ x ∈ T, x ∉ ks.map (·.1)
theorem XI.start : XI m es S [] := ⟨.nil, (fun _ h => nomatch h), (fun A p B e => absurd e.symm (by simp)), fun _ _ _ _ _ h => nomatch h⟩
theorem XI.round {ks : List (Int × Int)} (ndS : S.Nodup) (h : XI m es S ks) : XI m es S (ks ++ rndX m es (lfX S ks) (lfX S ks)) := by
  have key : ∀ p ∈ rndX m es (lfX S ks) (lfX S ks), p.1 ∈ S ∧ p.1 ∉ ks.map (·.1) ∧ p.2 ∈ nearL m es p.1 ∧ ∀ y ∈ oth m es S p.1 p.2, y ∈ ks.map (·.1) := fun p hp => by
    obtain ⟨h1, h2, h3⟩ := mem_rndX hp
    obtain ⟨a1, a2⟩ := mem_lfX.mp h1
    refine ⟨a1, a2, h2, fun y hy => Classical.byContradiction fun no => ?_⟩
    obtain ⟨y1, y2, y3⟩ := mem_oth.mp hy
    have : y ∈ oth m es (lfX S ks) p.1 p.2 := mem_oth.mpr ⟨y1, mem_lfX.mpr ⟨y2, no⟩, y3⟩
    rw [h3] at this
    cases this
  refine ⟨?_, fun p hp => ?_, fun A p B e => ?_, fun T hT cl y hy z => ?_⟩
  · rw [List.map_append]
    refine List.nodup_append.mpr ⟨h.nd, (ndS.filter _).sublist (rndX_fst _ _), fun a ha b hb e => ?_⟩
    obtain ⟨p, hp, rfl⟩ := List.mem_map.mp hb
    exact (key p hp).2.1 (e ▸ ha)
  · rcases List.mem_append.mp hp with hp | hp
    · exact h.sub p hp
    · exact (key p hp).1
  · rcases List.append_eq_append_iff.mp e with ⟨A', e1, e2⟩ | ⟨B', e1, e2⟩
    · have hp : p ∈ rndX m es (lfX S ks) (lfX S ks) := by rw [e2]; exact List.mem_append_right _ List.mem_cons_self
      obtain ⟨_, _, k3, k4⟩ := key p hp
      refine ⟨k3, fun y hy => ?_⟩
      rw [e1, List.map_append]
      exact List.mem_append_left _ (k4 y hy)
    · cases B' with
      | nil =>
        rw [List.append_nil] at e1
        have e2 : p :: B = rndX m es (lfX S ks) (lfX S ks) := e2
        have hp : p ∈ rndX m es (lfX S ks) (lfX S ks) := by rw [← e2]; exact List.mem_cons_self
        obtain ⟨_, _, k3, k4⟩ := key p hp
        exact ⟨k3, fun y hy => by rw [← e1]; exact k4 y hy⟩
      | cons q B' =>
        rw [List.cons_append] at e2
        injection e2 with e2 e3
        subst e2
        exact h.ord A p B' e1
  · rw [List.map_append] at z
    rcases List.mem_append.mp z with z | z
    · exact h.out T hT cl y hy z
    · obtain ⟨p, hp, rfl⟩ := List.mem_map.mp z
      obtain ⟨_, _, k3, k4⟩ := key p hp
      obtain ⟨w, w1, w2, w3⟩ := cl.other hy k3
      exact h.out T hT cl w w1 (k4 w (mem_oth.mpr ⟨w3, hT w w1, w2⟩))
theorem Xf.inv {ks kf : List (Int × Int)} (ndS : S.Nodup) (x : Xf m es S ks kf) : XI m es S ks → XI m es S kf ∧ rndX m es (lfX S kf) (lfX S kf) = [] := by
  induction x with
  | done e => exact fun h => ⟨h, e⟩
  | step _ _ ih => exact fun h => ih (h.round ndS)
theorem Xf.gr {ks : List (Int × Int)} (asc : Asc S) (x : Xf m es S [] ks) : IsGr m es S (lfX S ks) := by
  obtain ⟨h, e⟩ := x.inv asc.nodup .start
  exact ⟨asc.filter _, fun z hz => (mem_lfX.mp hz).1, fun z hz v hv => rndX_nil e hz hv, fun T hT cl z hz => mem_lfX.mpr ⟨hT z hz, h.out T hT cl z hz⟩⟩
theorem XI.len {ks : List (Int × Int)} (h : XI m es S ks) : ks.length ≤ S.length := by
  have := h.nd.length_le_of_subset (l₂ := S) fun x hx => by
    obtain ⟨p, hp, rfl⟩ := List.mem_map.mp hx
    exact h.sub p hp
  rw [List.length_map] at this
  exact this
def exV (ks : List (Int × Int)) (x : Int) : Int := ((ks.find? fun p => decide (p.1 = x)).map (·.2)).getD 0
theorem exV_at {ks : List (Int × Int)} {x : Int} (h : x ∈ ks.map (·.1)) : ∃ A B, ks = A ++ (x, exV ks x) :: B ∧ x ∉ A.map (·.1) := by
  obtain ⟨p, hp⟩ : ∃ p, ks.find? (fun p => decide (p.1 = x)) = some p := by
    obtain ⟨p, hp, e⟩ := List.mem_map.mp h
    cases hf : ks.find? (fun p => decide (p.1 = x)) with
    | some q => exact ⟨q, rfl⟩
    | none => exact absurd (decide_eq_true e) (List.find?_eq_none.mp hf p hp)
  obtain ⟨h1, A, B, e, h3⟩ := List.find?_eq_some_iff_append.mp hp
  have e1 : p.1 = x := of_decide_eq_true h1
  have e2 : exV ks x = p.2 := by
    unfold exV
    rw [hp]
    rfl
  refine ⟨A, B, by rw [e2, ← e1]; exact e, fun z => ?_⟩
  obtain ⟨q, hq, eq⟩ := List.mem_map.mp z
  have := h3 q hq
  rw [decide_eq_true eq] at this
  cases this
theorem exV_mem {ks : List (Int × Int)} {x : Int} (h : x ∈ ks.map (·.1)) : (x, exV ks x) ∈ ks := by
  obtain ⟨A, B, e, _⟩ := exV_at h
  have : (x, exV ks x) ∈ A ++ (x, exV ks x) :: B := List.mem_append_right _ List.mem_cons_self
  rw [← e] at this
  exact this
theorem XI.xr {ks : List (Int × Int)} (h : XI m es S ks) : Xr m es S (fun x => x ∈ ks.map (·.1)) (exV ks) (fun x => (ks.map (·.1)).idxOf x) where
  lamp := fun x hx => h.sub _ (exV_mem hx)
  near := fun x hx => by
    obtain ⟨A, B, e, _⟩ := exV_at hx
    exact (h.ord A _ B e).1
  less := fun x hx y hy => by
    obtain ⟨A, B, e, nA⟩ := exV_at hx
    have hyA := (h.ord A _ B e).2 y hy
    have em : ks.map (·.1) = A.map (·.1) ++ x :: B.map (·.1) := by
      have := congrArg (List.map (·.1)) e
      rw [List.map_append] at this
      exact this
    refine ⟨by rw [em]; exact List.mem_append_left _ hyA, ?_⟩
    show (ks.map (·.1)).idxOf y < (ks.map (·.1)).idxOf x
    rw [em, List.idxOf_append, if_pos hyA, List.idxOf_append, if_neg nA]
    have := List.idxOf_lt_length_of_mem hyA
    omega
theorem Xf.xr {ks : List (Int × Int)} (ndS : S.Nodup) (x : Xf m es S [] ks) : Xr m es S (fun x => x ∈ ks.map (·.1)) (exV ks) (fun x => (ks.map (·.1)).idxOf x) := (x.inv ndS .start).1.xr
theorem Xf.rank {ks : List (Int × Int)} (ndS : S.Nodup) (x : Xf m es S [] ks) (l : S.length ≤ 12) {u : Int} (hu : u ∈ ks.map (·.1)) : (ks.map (·.1)).idxOf u < 13 := by
  have h1 := (x.inv ndS .start).1.len
  have h2 := List.idxOf_lt_length_of_mem hu
  rw [List.length_map] at h2
  omega
theorem far_out {v : Int} (f : IsFor m es) (hv : ¬ (0 ≤ v ∧ v < m)) (w : Int) : ¬ Adj es v w := fun ad => hv (near_rng f (adj_near f ad)).1
/-- few slides -/
theorem outL_len (f : IsFor m es) (sS : IsSet m es S) {dom : Int → Prop} {ex : Int → Int} {r : Int → Nat} (X : Xr m es S dom ex r) {n : Nat} {x : Int} (hx : dom x) (hr : r x < n) : (outL m es S ex n x).length ≤ S.length := by
  have n1 : ¬ (0 ≤ (-1 : Int) ∧ (-1 : Int) < m) := fun h => by omega
  have hx0 := sS.rng x (X.lamp x hx)
  have hv0 := (near_rng f (X.near x hx)).1
  obtain ⟨st, nd, _⟩ := out_ok f sS X n x (-1) hx hr (by omega) (by omega) (fun z => n1 (sS.rng _ z)) (.inr fun w => far_out f n1 w)
  have := nd.length_le_of_subset (l₂ := S) fun y hy => by
    obtain ⟨s, hs, rfl⟩ := List.mem_map.mp hy
    exact X.lamp _ (st s hs).1
  rw [List.length_map] at this
  exact this
end
end TL
namespace TL
open PySem PySem.Spec PyProof.Rows L2
/-! ### zip of two tuples, the pairs kept (a plain name as target, list(zip(..))) -/
abbrev zRec (f0 : Value) (b : Bool) (TI TO : Addr) : Obj := { cls := .type "zip", dict := none, data := .fields #[f0, .bool b, .bool false, .ref TI, .ref TO], slots := #[] }
def IsZ (h : Heap) (z TI TO : Addr) : Prop := ∃ (f0 : Value) (b : Bool), (f0 = .none ∨ ∃ a : Int, f0 = rawInt a) ∧ h.get? z = some (zRec f0 b TI TO)
section
variable {prog : Program} {w : World} {A : Around} {E : Value → Shared → Prop} {s : Shared}
theorem wpAny_alive {a : Addr} {Q : Option Obj → Shared → Prop} (h : Q (s.heap.get? a) s) : wpAny (model prog w) A (loadIfAlive a) Q E s := fun _ _ _ => h
theorem wpAny_zfree {z TI TO : Addr} {Q : Bool → Shared → Prop} (hz : IsZ s.heap z TI TO) (h1 : Q true s) (h2 : ∀ h', IsZ h' z TI TO → Heap.SameBut z s.heap h' → Q false { s with heap := h' }) :
    wpAny (model prog w) A (Builtin.SmallTypes.ownedTupleIsFree (.ref z)) Q E s := by
  obtain ⟨f0, b, hf, hz⟩ := hz
  unfold Builtin.SmallTypes.ownedTupleIsFree
  refine wpAny_bind (wpAny_field hz rfl (x := f0) rfl ?_)
  rcases hf with rfl | ⟨a, rfl⟩
  · exact wpAny_pure h1
  · show wpAny _ _ (loadIfAlive a.toNat >>= _) _ _ _
    refine wpAny_bind (wpAny_alive ?_)
    cases hg : s.heap.get? a.toNat with
    | none => exact wpAny_pure h1
    | some o =>
      show wpAny _ _ (field (.ref z) 1 >>= _) _ _ _
      refine wpAny_bind (wpAny_field hz rfl (x := .bool b) rfl ?_)
      cases b with
      | true => exact wpAny_pure (h2 _ ⟨_, _, .inr ⟨a, rfl⟩, hz⟩ ⟨rfl, fun _ _ => rfl⟩)
      | false =>
        show wpAny _ _ (setField (.ref z) 1 (.bool true) >>= _) _ _ _
        refine wpAny_bind (wpAny_setField_rec hz (by simp) fun h' hz' hs' => wpAny_pure (h2 h' ⟨_, true, .inr ⟨a, rfl⟩, hz'⟩ hs'))
theorem zipZ_next_item {z TI TO i1 i2 l1 l2 : Addr} {k1 k2 : Nat} {xs ys : Array Value} {x y a b : Value} {Q : Value → Shared → Prop} (D : ZipApart z TI TO i1 i2 l1 l2)
    (hz : IsZ s.heap z TI TO) (hTI : IsPair s.heap TI (.ref i1) (.ref i2)) (hTO : IsPair s.heap TO a b)
    (h1 : s.heap.IsTupleIter i1 l1 k1) (h2 : s.heap.IsTupleIter i2 l2 k2) (hl1 : s.heap.IsTuple l1 xs) (hl2 : s.heap.IsTuple l2 ys) (hx : xs[k1]? = some x) (hy : ys[k2]? = some y)
    (hQ : ∀ h', IsZ h' z TI TO → (∃ a b, IsPair h' TO a b) → h'.IsTupleIter i1 l1 (k1 + 1) → h'.IsTupleIter i2 l2 (k2 + 1) → IsPair h' s.heap.objs.size x y → h'.objs.size = s.heap.objs.size + 1 →
      (∀ c o, c ≠ z → c ≠ TO → c ≠ i1 → c ≠ i2 → s.heap.get? c = some o → h'.get? c = some o) → Q (.ref s.heap.objs.size) { s with heap := h' }) :
    wpAny (model prog w) A (Builtin.«zip.__next__» ⟨[.ref z], []⟩) (fun fin s' => ∃ v, fin = .done (.ret v) ∧ Q v s') E s := by
  obtain ⟨f0, b0, hf, hz0⟩ := id hz
  show wpAny _ _ (field (.ref z) 2 >>= _) _ _ _
  refine wpAny_bind (wpAny_field hz0 rfl (x := .bool false) rfl ?_)
  show wpAny _ _ (field (.ref z) 3 >>= _) _ _ _
  refine wpAny_bind (wpAny_field hz0 rfl (x := .ref TI) rfl ?_)
  refine wpAny_bind (wpAny_seqItems hTI rfl ?_)
  show wpAny _ _ (Builtin.SmallTypes.ownedTupleIsFree (.ref z) >>= _) _ _ _
  refine wpAny_bind (wpAny_zfree hz ?_ fun h₀ hz₀ hs₀ => ?_)
  · simp only [if_true]
    refine wpAny_bind (wpAny_rule ?_)
    refine wpAny_bind (wpAny_field hz0 rfl (x := .ref TO) rfl ?_)
    refine wpAny_bind (wpAny_setField_rec hz0 (by simp) fun h₁ hz₁ hs₁ => ?_)
    replace hz₁ : h₁.get? z = some (zRec .ellipsis b0 TI TO) := hz₁
    refine wpAny_bind ?_
    simp only [List.zipIdx_cons, List.zipIdx_nil, List.forIn_cons, List.forIn_nil]
    refine wpAny_bind (wpAny_bind (wpAny_onRaise ?_))
    show wpAny _ _ (Builtin.SmallTypes.nextOf (.ref i1) >>= _) _ _ _
    refine wpAny_bind (RZ.nextOf_tuple_item (h1.extBut hs₁.extBut D.i1z) (hl1.extBut hs₁.extBut D.l1z) hx fun h₂ h1₂ hs₂ => wpAny_pure ?_)
    have hTO₂ : IsPair h₂ TO a b := hs₂.extBut _ _ D.TOi1 (hs₁.extBut _ _ D.TOz hTO)
    refine wpAny_bind (wpAny_seqItems hTO₂ rfl ?_)
    refine wpAny_bind (wpAny_updateSeq_pair hTO₂ fun h₃ hTO₃ hs₃ => ?_)
    replace hTO₃ : IsPair h₃ TO x b := hTO₃
    refine wpAny_bind (wpAny_letGo (wpAny_pure ?_))
    refine wpAny_bind (wpAny_bind (wpAny_onRaise ?_))
    show wpAny _ _ (Builtin.SmallTypes.nextOf (.ref i2) >>= _) _ _ _
    refine wpAny_bind (RZ.nextOf_tuple_item (((h2.extBut hs₁.extBut D.i2z).extBut hs₂.extBut D.i12.symm).extBut hs₃.extBut D.TOi2.symm)
      (((hl2.extBut hs₁.extBut D.l2z).extBut hs₂.extBut D.l2i1).extBut hs₃.extBut D.l2TO) hy fun h₄ h2₄ hs₄ => wpAny_pure ?_)
    have hTO₄ : IsPair h₄ TO x b := hs₄.extBut _ _ D.TOi2 hTO₃
    refine wpAny_bind (wpAny_seqItems hTO₄ rfl ?_)
    refine wpAny_bind (wpAny_updateSeq_pair hTO₄ fun h₅ hTO₅ hs₅ => ?_)
    replace hTO₅ : IsPair h₅ TO x y := hTO₅
    refine wpAny_bind (wpAny_letGo (wpAny_pure (wpAny_pure ?_)))
    refine wpAny_bind (wpAny_seqItems hTO₅ rfl ?_)
    refine wpAny_bind (wpAny_newTuple ?_)
    have hsz : h₅.objs.size = s.heap.objs.size := by rw [hs₅.1, hs₄.1, hs₃.1, hs₂.1, hs₁.1]
    have hz₅ : h₅.get? z = some (zRec .ellipsis b0 TI TO) := hs₅.extBut _ _ D.TOz.symm (hs₄.extBut _ _ D.i2z.symm (hs₃.extBut _ _ D.TOz.symm (hs₂.extBut _ _ D.i1z.symm hz₁)))
    have hk₅ : ∀ c o, c ≠ z → c ≠ TO → c ≠ i1 → c ≠ i2 → s.heap.get? c = some o → h₅.get? c = some o := fun c o c1 c2 c3 c4 e =>
      hs₅.extBut _ _ c2 (hs₄.extBut _ _ c4 (hs₃.extBut _ _ c2 (hs₂.extBut _ _ c3 (hs₁.extBut _ _ c1 e))))
    have h1₅ : h₅.IsTupleIter i1 l1 (k1 + 1) := ((h1₂.extBut hs₃.extBut D.TOi1.symm).extBut hs₄.extBut D.i12).extBut hs₅.extBut D.TOi1.symm
    have h2₅ : h₅.IsTupleIter i2 l2 (k2 + 1) := h2₄.extBut hs₅.extBut D.TOi2.symm
    have hzlt : z < h₅.objs.size := Heap.lt_size hz₅
    show wpAny _ _ (Builtin.SmallTypes.ownedTupleHandOut (.ref z) (.ref h₅.objs.size) >>= _) _ _ _
    refine wpAny_bind ?_
    unfold Builtin.SmallTypes.ownedTupleHandOut
    have hz₆ : (h₅.push { cls := .type "tuple", data := .seq #[x, y] }).get? z = some (zRec .ellipsis b0 TI TO) := Heap.get?_push_of_some _ hz₅
    refine wpAny_bind (wpAny_setField_rec hz₆ (by simp) fun h₇ hz₇ hs₇ => ?_)
    replace hz₇ : h₇.get? z = some (zRec (rawInt h₅.objs.size) b0 TI TO) := hz₇
    refine wpAny_setField_rec hz₇ (by simp) fun h₈ hz₈ hs₈ => ?_
    replace hz₈ : h₈.get? z = some (zRec (rawInt h₅.objs.size) false TI TO) := hz₈
    have up : ∀ c o, c ≠ z → h₅.get? c = some o → h₈.get? c = some o := fun c o c1 e => hs₈.extBut _ _ c1 (hs₇.extBut _ _ c1 (Heap.get?_push_of_some _ e))
    have hT₈ : IsPair h₈ h₅.objs.size x y := hs₈.extBut _ _ (Nat.ne_of_gt hzlt) (hs₇.extBut _ _ (Nat.ne_of_gt hzlt) (Heap.get?_push_size _ rfl))
    have hz8 : h₈.objs.size = h₅.objs.size + 1 := by rw [hs₈.1, hs₇.1, Heap.size_push]
    rw [hsz] at hT₈ hz8
    refine wpAny_pure ⟨_, rfl, ?_⟩
    show Q (.ref h₅.objs.size) _
    rw [hsz]
    exact hQ h₈ ⟨_, _, .inr ⟨_, rfl⟩, hz₈⟩ ⟨_, _, up _ _ D.TOz hTO₅⟩ (h1₅.at fun o e => up _ o D.i1z e) (h2₅.at fun o e => up _ o D.i2z e) hT₈ hz8 fun c o c1 c2 c3 c4 e => up c o c1 (hk₅ c o c1 c2 c3 c4 e)
  · simp only [Bool.false_eq_true, if_false]
    refine wpAny_bind ?_
    rw [← Array.forIn_toList]
    simp only [List.forIn_cons, List.forIn_nil]
    refine wpAny_bind (wpAny_bind (wpAny_holding ?_))
    show wpAny _ _ (Builtin.SmallTypes.nextOf (.ref i1) >>= _) _ _ _
    refine wpAny_bind (RZ.nextOf_tuple_item (h1.extBut hs₀.extBut D.i1z) (hl1.extBut hs₀.extBut D.l1z) hx fun h₂ h1₂ hs₂ => wpAny_pure ?_)
    refine wpAny_pure ?_
    refine wpAny_bind (wpAny_bind (wpAny_holding ?_))
    show wpAny _ _ (Builtin.SmallTypes.nextOf (.ref i2) >>= _) _ _ _
    refine wpAny_bind (RZ.nextOf_tuple_item ((h2.extBut hs₀.extBut D.i2z).extBut hs₂.extBut D.i12.symm) ((hl2.extBut hs₀.extBut D.l2z).extBut hs₂.extBut D.l2i1) hy fun h₄ h2₄ hs₄ => wpAny_pure ?_)
    refine wpAny_pure ?_
    refine wpAny_pure ?_
    show wpAny _ _ (newTuple [x, y] >>= _) _ _ _
    refine wpAny_bind (wpAny_newTuple ?_)
    have hsz : h₄.objs.size = s.heap.objs.size := by rw [hs₄.1, hs₂.1, hs₀.1]
    have up : ∀ c o, c ≠ z → c ≠ i1 → c ≠ i2 → s.heap.get? c = some o → (h₄.push { cls := .type "tuple", data := .seq #[x, y] }).get? c = some o := fun c o c1 c3 c4 e =>
      Heap.get?_push_of_some _ (hs₄.extBut _ _ c4 (hs₂.extBut _ _ c3 (hs₀.extBut _ _ c1 e)))
    refine wpAny_pure ⟨_, rfl, ?_⟩
    show Q (.ref h₄.objs.size) _
    have hT : IsPair (h₄.push { cls := .type "tuple", data := .seq #[x, y] }) h₄.objs.size x y := Heap.get?_push_size _ rfl
    have h8 : (h₄.push { cls := .type "tuple", data := .seq #[x, y] }).objs.size = h₄.objs.size + 1 := Heap.size_push ..
    rw [hsz] at hT h8 ⊢
    obtain ⟨g0, g1, hg, hz9⟩ := hz₀
    refine hQ _ ⟨g0, g1, hg, Heap.get?_push_of_some _ (hs₄.extBut _ _ D.i2z.symm (hs₂.extBut _ _ D.i1z.symm hz9))⟩ ⟨_, _, up _ _ D.TOz D.TOi1 D.TOi2 hTO⟩ ?_ ?_ hT h8 fun c o c1 _ c3 c4 e => up c o c1 c3 c4 e
    · exact (h1₂.extBut hs₄.extBut D.i12).at fun o e => Heap.get?_push_of_some _ e
    · exact h2₄.at fun o e => Heap.get?_push_of_some _ e
theorem zipZ_next_end {z TI TO i1 i2 l1 l2 : Addr} {k1 k2 : Nat} {xs ys : Array Value} {a b : Value} {Q : Fin → Shared → Prop} (hh : A.handled = none) (D : ZipApart z TI TO i1 i2 l1 l2)
    (hz : IsZ s.heap z TI TO) (hTI : IsPair s.heap TI (.ref i1) (.ref i2)) (hTO : IsPair s.heap TO a b)
    (h1 : s.heap.IsTupleIter i1 l1 k1) (h2 : s.heap.IsTupleIter i2 l2 k2) (hl1 : s.heap.IsTuple l1 xs) (hl2 : s.heap.IsTuple l2 ys) (hend : xs[k1]? = none ∨ ys[k2]? = none)
    (hE : ∀ h' e, (∀ c o, c ≠ z → c ≠ TO → c ≠ i1 → c ≠ i2 → s.heap.get? c = some o → h'.get? c = some o) → (∃ o, h'.get? e = some o ∧ o.cls = .type "StopIteration") → E (.ref e) { s with heap := h' }) :
    wpAny (model prog w) A (Builtin.«zip.__next__» ⟨[.ref z], []⟩) Q E s := by
  obtain ⟨f0, b0, hf, hz0⟩ := id hz
  show wpAny _ _ (field (.ref z) 2 >>= _) _ _ _
  refine wpAny_bind (wpAny_field hz0 rfl (x := .bool false) rfl ?_)
  show wpAny _ _ (field (.ref z) 3 >>= _) _ _ _
  refine wpAny_bind (wpAny_field hz0 rfl (x := .ref TI) rfl ?_)
  refine wpAny_bind (wpAny_seqItems hTI rfl ?_)
  show wpAny _ _ (Builtin.SmallTypes.ownedTupleIsFree (.ref z) >>= _) _ _ _
  refine wpAny_bind (wpAny_zfree hz ?_ fun h₀ hz₀ hs₀ => ?_)
  · simp only [if_true]
    refine wpAny_bind (wpAny_rule ?_)
    refine wpAny_bind (wpAny_field hz0 rfl (x := .ref TO) rfl ?_)
    refine wpAny_bind (wpAny_setField_rec hz0 (by simp) fun h₁ hz₁ hs₁ => ?_)
    replace hz₁ : h₁.get? z = some (zRec .ellipsis b0 TI TO) := hz₁
    refine wpAny_bind ?_
    simp only [List.zipIdx_cons, List.zipIdx_nil, List.forIn_cons, List.forIn_nil]
    refine wpAny_bind (wpAny_bind (wpAny_onRaise ?_))
    show wpAny _ _ (Builtin.SmallTypes.nextOf (.ref i1) >>= _) _ _ _
    cases hx : xs[k1]? with
    | none =>
      refine wpAny_bind (RZ.nextOf_tuple_end hh (h1.extBut hs₁.extBut D.i1z) (hl1.extBut hs₁.extBut D.l1z) hx fun h₂ e hs₂ he => ?_)
      obtain ⟨oe, hoe, hce⟩ := he
      have hz₂ : h₂.get? z = some (zRec .ellipsis b0 TI TO) := hs₂ _ _ D.i1z.symm hz₁
      have hez : e ≠ z := fun x => by subst x; rw [hz₂] at hoe; cases hoe; simp at hce
      refine wpAny_setField_rec hz₂ (by simp) fun h₃ _ hs₃ => hE h₃ e (fun c o c1 _ c3 _ x => hs₃.extBut _ _ c1 (hs₂ _ _ c3 (hs₁.extBut _ _ c1 x))) ⟨oe, hs₃.extBut _ _ hez hoe, hce⟩
    | some x =>
      have hy : ys[k2]? = none := by rcases hend with h | h; rw [hx] at h; cases h; exact h
      refine wpAny_bind (RZ.nextOf_tuple_item (h1.extBut hs₁.extBut D.i1z) (hl1.extBut hs₁.extBut D.l1z) hx fun h₂ h1₂ hs₂ => wpAny_pure ?_)
      have hTO₂ : IsPair h₂ TO a b := hs₂.extBut _ _ D.TOi1 (hs₁.extBut _ _ D.TOz hTO)
      refine wpAny_bind (wpAny_seqItems hTO₂ rfl ?_)
      refine wpAny_bind (wpAny_updateSeq_pair hTO₂ fun h₃ hTO₃ hs₃ => ?_)
      refine wpAny_bind (wpAny_letGo (wpAny_pure ?_))
      refine wpAny_bind (wpAny_bind (wpAny_onRaise ?_))
      show wpAny _ _ (Builtin.SmallTypes.nextOf (.ref i2) >>= _) _ _ _
      refine wpAny_bind (RZ.nextOf_tuple_end hh (((h2.extBut hs₁.extBut D.i2z).extBut hs₂.extBut D.i12.symm).extBut hs₃.extBut D.TOi2.symm)
        (((hl2.extBut hs₁.extBut D.l2z).extBut hs₂.extBut D.l2i1).extBut hs₃.extBut D.l2TO) hy fun h₄ e hs₄ he => ?_)
      obtain ⟨oe, hoe, hce⟩ := he
      have hz₄ : h₄.get? z = some (zRec .ellipsis b0 TI TO) := hs₄ _ _ D.i2z.symm (hs₃.extBut _ _ D.TOz.symm (hs₂.extBut _ _ D.i1z.symm hz₁))
      have hez : e ≠ z := fun x => by subst x; rw [hz₄] at hoe; cases hoe; simp at hce
      refine wpAny_setField_rec hz₄ (by simp) fun h₅ _ hs₅ => hE h₅ e (fun c o c1 c2 c3 c4 x => hs₅.extBut _ _ c1 (hs₄ _ _ c4 (hs₃.extBut _ _ c2 (hs₂.extBut _ _ c3 (hs₁.extBut _ _ c1 x))))) ⟨oe, hs₅.extBut _ _ hez hoe, hce⟩
  · simp only [Bool.false_eq_true, if_false]
    refine wpAny_bind ?_
    rw [← Array.forIn_toList]
    simp only [List.forIn_cons, List.forIn_nil]
    refine wpAny_bind (wpAny_bind (wpAny_holding ?_))
    show wpAny _ _ (Builtin.SmallTypes.nextOf (.ref i1) >>= _) _ _ _
    cases hx : xs[k1]? with
    | none =>
      refine wpAny_bind (RZ.nextOf_tuple_end hh (h1.extBut hs₀.extBut D.i1z) (hl1.extBut hs₀.extBut D.l1z) hx fun h₂ e hs₂ he => ?_)
      exact hE h₂ e (fun c o c1 _ c3 _ x => hs₂ _ _ c3 (hs₀.extBut _ _ c1 x)) he
    | some x =>
      have hy : ys[k2]? = none := by rcases hend with h | h; rw [hx] at h; cases h; exact h
      refine wpAny_bind (RZ.nextOf_tuple_item (h1.extBut hs₀.extBut D.i1z) (hl1.extBut hs₀.extBut D.l1z) hx fun h₂ h1₂ hs₂ => wpAny_pure ?_)
      refine wpAny_pure ?_
      refine wpAny_bind (wpAny_bind (wpAny_holding ?_))
      show wpAny _ _ (Builtin.SmallTypes.nextOf (.ref i2) >>= _) _ _ _
      refine wpAny_bind (RZ.nextOf_tuple_end hh ((h2.extBut hs₀.extBut D.i2z).extBut hs₂.extBut D.i12.symm) ((hl2.extBut hs₀.extBut D.l2z).extBut hs₂.extBut D.l2i1) hy fun h₄ e hs₄ he => ?_)
      exact hE h₄ e (fun c o c1 _ c3 c4 x => hs₄ _ _ c4 (hs₂.extBut _ _ c3 (hs₀.extBut _ _ c1 x))) he
theorem pyNext_zipZ_item {z TI TO i1 i2 l1 l2 : Addr} {k1 k2 : Nat} {xs ys : Array Value} {x y a b : Value} {Q : Option Value → Shared → Prop} (D : ZipApart z TI TO i1 i2 l1 l2)
    (hz : IsZ s.heap z TI TO) (hTI : IsPair s.heap TI (.ref i1) (.ref i2)) (hTO : IsPair s.heap TO a b)
    (h1 : s.heap.IsTupleIter i1 l1 k1) (h2 : s.heap.IsTupleIter i2 l2 k2) (hl1 : s.heap.IsTuple l1 xs) (hl2 : s.heap.IsTuple l2 ys) (hx : xs[k1]? = some x) (hy : ys[k2]? = some y)
    (hQ : ∀ h', IsZ h' z TI TO → (∃ a b, IsPair h' TO a b) → h'.IsTupleIter i1 l1 (k1 + 1) → h'.IsTupleIter i2 l2 (k2 + 1) → IsPair h' s.heap.objs.size x y → h'.objs.size = s.heap.objs.size + 1 →
      (∀ c o, c ≠ z → c ≠ TO → c ≠ i1 → c ≠ i2 → s.heap.get? c = some o → h'.get? c = some o) → Q (some (.ref s.heap.objs.size)) { s with heap := h' }) :
    wpAny (model prog w) A (pyNext (.ref z)) Q E s := by
  have hT : s.TypeIs (.ref z) "zip" := by
    obtain ⟨f0, b0, _, hz0⟩ := hz
    exact ⟨_, hz0, rfl⟩
  unfold pyNext
  exact wpAny_bind (wpAny_attempt (wpAny_callSpecial?_slot (name := Str.ofString "__next__") hT PySem.F.slot_zip_next
    (wpAny_call_entry PySem.F.slot_zip_next hT PySem.F.entry_zip_next
      (zipZ_next_item D hz hTI hTO h1 h2 hl1 hl2 hx hy fun h' a1 a2 a3 a4 a5 a6 a7 => wpAny_pure (hQ h' a1 a2 a3 a4 a5 a6 a7)) (PySem.F.args_zip_next_1 _))))
theorem pyNext_zipZ_end {z TI TO i1 i2 l1 l2 : Addr} {k1 k2 : Nat} {xs ys : Array Value} {a b : Value} {Q : Option Value → Shared → Prop} (hh : A.handled = none) (D : ZipApart z TI TO i1 i2 l1 l2)
    (hz : IsZ s.heap z TI TO) (hTI : IsPair s.heap TI (.ref i1) (.ref i2)) (hTO : IsPair s.heap TO a b)
    (h1 : s.heap.IsTupleIter i1 l1 k1) (h2 : s.heap.IsTupleIter i2 l2 k2) (hl1 : s.heap.IsTuple l1 xs) (hl2 : s.heap.IsTuple l2 ys) (hend : xs[k1]? = none ∨ ys[k2]? = none)
    (hQ : ∀ h', (∀ c o, c ≠ z → c ≠ TO → c ≠ i1 → c ≠ i2 → s.heap.get? c = some o → h'.get? c = some o) → Q none { s with heap := h' }) : wpAny (model prog w) A (pyNext (.ref z)) Q E s := by
  have hT : s.TypeIs (.ref z) "zip" := by
    obtain ⟨f0, b0, _, hz0⟩ := hz
    exact ⟨_, hz0, rfl⟩
  unfold pyNext
  refine wpAny_bind (wpAny_attempt (wpAny_callSpecial?_slot (name := Str.ofString "__next__") hT PySem.F.slot_zip_next
    (wpAny_call_entry PySem.F.slot_zip_next hT PySem.F.entry_zip_next (zipZ_next_end hh D hz hTI hTO h1 h2 hl1 hl2 hend fun h' e hk he => ?_) (PySem.F.args_zip_next_1 _))))
  obtain ⟨o, ho, hc⟩ := he
  refine wpAny_bind (wpAny_isInstance (T := "StopIteration") (b := true) ⟨o, ho, hc⟩ isSubtype_stop ?_)
  exact wpAny_pure (hQ _ hk)
theorem pyIter_zipZ {z TI TO : Addr} {Q : Value → Shared → Prop} (hz : IsZ s.heap z TI TO) (h : Q (.ref z) s) : wpAny (model prog w) A (pyIter (.ref z)) Q E s := by
  obtain ⟨f0, b0, _, hz0⟩ := hz
  have hT : s.TypeIs (.ref z) "zip" := ⟨_, hz0, rfl⟩
  refine wpAny_pyIter_slot hT PySem.F.slot_zip_iter (wpAny_call_entry PySem.F.slot_zip_iter hT PySem.F.entry_zip_iter ?_ (PySem.F.args_zip_iter_1 _))
  show wpAny _ _ (ret (.ref z)) _ _ s
  exact wpAny_pure ⟨_, rfl, "zip", _, hT, PySem.F.slot_zip_next.lookup, h⟩
end
/-! ### a plain name as target -/
def ZSt (z TI TO i1 i2 a b : Addr) (i : Nat) (h : Heap) : Prop := IsZ h z TI TO ∧ IsPair h TI (.ref i1) (.ref i2) ∧ (∃ x y, IsPair h TO x y) ∧ h.IsTupleIter i1 a i ∧ h.IsTupleIter i2 b i
theorem ZSt.keep {z TI TO i1 i2 a b : Addr} {i : Nat} {h h' : Heap} (st : ZSt z TI TO i1 i2 a b i h) (k : ∀ c ∈ [z, TI, TO, i1, i2], ∀ o, h.get? c = some o → h'.get? c = some o) : ZSt z TI TO i1 i2 a b i h' := by
  obtain ⟨⟨f0, b0, hf, hz⟩, hTI, ⟨x, y, hTO⟩, h1, h2⟩ := st
  exact ⟨⟨f0, b0, hf, k z (by simp) _ hz⟩, k TI (by simp) _ hTI, ⟨x, y, k TO (by simp) _ hTO⟩, h1.at fun o q => k i1 (by simp) o q, h2.at fun o q => k i2 (by simp) o q⟩
theorem ZSt.lt {z TI TO i1 i2 a b : Addr} {i : Nat} {h : Heap} (st : ZSt z TI TO i1 i2 a b i h) : ∀ c ∈ [z, TI, TO, i1, i2], c < h.objs.size := by
  obtain ⟨⟨f0, b0, hf, hz⟩, hTI, ⟨x, y, hTO⟩, ⟨_, e1, _⟩, ⟨_, e2, _⟩⟩ := st
  intro c hc
  have e' : c = z ∨ c = TI ∨ c = TO ∨ c = i1 ∨ c = i2 := by simpa using hc
  rcases e' with q | q | q | q | q
  · rw [q]; exact Heap.lt_size hz
  · rw [q]; exact Heap.lt_size hTI
  · rw [q]; exact Heap.lt_size hTO
  · rw [q]; exact Heap.lt_size e1
  · rw [q]; exact Heap.lt_size e2
section
variable {X : Cx} {pins : List (Addr × Obj)} {σ : L2.St} {H : Hp} {s : Shared} {A : Around} {E : Value → Shared → Prop}
/-- one turn -/
theorem zip_turn {a b z TI TO i1 i2 : Addr} (D : ZipApart z TI TO i1 i2 a b) {i : Nat} {xs ys : List V} {x y : V} {Q : Option Value → Shared → Prop} (I : Inv X pins σ H s) (hf : ∀ c ∈ [z, TI, TO, i1, i2], FpOk X pins H c) (st : ZSt z TI TO i1 i2 a b i s.heap)
    (hqx : SqT X.K H a xs) (hqy : SqT X.K H b ys) (hx : xs[i]? = some x) (hy : ys[i]? = some y)
    (hQ : ∀ s' T, H T = none → Inv X pins σ (upd H T (.tup [x, y])) s' → (∀ c ∈ [z, TI, TO, i1, i2], FpOk X pins (upd H T (.tup [x, y])) c) → ZSt z TI TO i1 i2 a b (i + 1) s'.heap → Q (some (.ref T)) s') :
    wpAny (model X.prog X.w) A (pyNext (.ref z)) Q E s := by
  obtain ⟨hz, hTI, ⟨x0, y0, hTO⟩, h1, h2⟩ := id st
  obtain ⟨its, rv, p, _⟩ := I.tuple hqx
  obtain ⟨its2, rv2, p2, _⟩ := I.tuple hqy
  obtain ⟨u, hu, ru⟩ := rv.get hx
  obtain ⟨u2, hu2, ru2⟩ := rv2.get hy
  refine pyNext_zipZ_item D hz hTI hTO h1 h2 p p2 (x := u) (y := u2) (by simpa using hu) (by simpa using hu2) fun h' z' TO' h1' h2' hT hsz hk => ?_
  have new : ObjOk X.prog X.w (upd H s.heap.objs.size (.tup [x, y])) h' s.heap.objs.size (.tup [x, y]) :=
    ⟨by show 2 ≤ sizeLine; decide, [u, u2], .cons ru (.cons ru2 .nil), ⟨_, hT, rfl, _, rfl⟩⟩
  have I1 : Inv X pins σ (upd H s.heap.objs.size (.tup [x, y])) { s with heap := h' } :=
    I.turnedNew (t' := s.toks) (ch := [z, TI, TO, i1, i2]) (fun c o hb q => hk c o (fun q' => hb (by simp [q'])) (fun q' => hb (by simp [q'])) (fun q' => hb (by simp [q'])) (fun q' => hb (by simp [q'])) q) hf (Nat.le_refl _) new
  refine hQ _ _ (I.hok.fresh (Nat.le_refl _)) I1 (fun c hc => ?_) ⟨z', ?_, TO', h1', h2'⟩
  · obtain ⟨q1, q2⟩ := hf c hc
    exact ⟨(upd_ne (Nat.ne_of_lt (st.lt c hc))).trans q1, q2⟩
  · exact hk _ _ D.TIz D.TITO D.TIi1 D.TIi2 hTI
theorem zip_stop {a b z TI TO i1 i2 : Addr} (D : ZipApart z TI TO i1 i2 a b) (hh : A.handled = none) {i : Nat} {xs ys : List V} {Q : Option Value → Shared → Prop} (I : Inv X pins σ H s) (hf : ∀ c ∈ [z, TI, TO, i1, i2], FpOk X pins H c) (st : ZSt z TI TO i1 i2 a b i s.heap)
    (hqx : SqT X.K H a xs) (hqy : SqT X.K H b ys) (hend : xs.length ≤ i ∨ ys.length ≤ i) (hQ : ∀ h', Inv X pins σ H { s with heap := h' } → (∀ c o, c ∉ [z, TI, TO, i1, i2] → s.heap.get? c = some o → h'.get? c = some o) → Q none { s with heap := h' }) :
    wpAny (model X.prog X.w) A (pyNext (.ref z)) Q E s := by
  obtain ⟨hz, hTI, ⟨x0, y0, hTO⟩, h1, h2⟩ := id st
  obtain ⟨its, rv, p, _⟩ := I.tuple hqx
  obtain ⟨its2, rv2, p2, _⟩ := I.tuple hqy
  have l1 := rv.length
  have l2 := rv2.length
  have he : its.toArray[i]? = none ∨ its2.toArray[i]? = none := by
    rcases hend with q | q
    · exact .inl (by simp; omega)
    · exact .inr (by simp; omega)
  refine pyNext_zipZ_end hh D hz hTI hTO h1 h2 p p2 he fun h' hk => ?_
  have k : ∀ c o, c ∉ [z, TI, TO, i1, i2] → s.heap.get? c = some o → h'.get? c = some o := fun c o hb q => hk c o (fun q' => hb (by simp [q'])) (fun q' => hb (by simp [q'])) (fun q' => hb (by simp [q'])) (fun q' => hb (by simp [q'])) q
  exact hQ _ (I.turnedL (t' := s.toks) k hf) k
end
theorem turn_zipN {P : Program} {w : World} {K : PySem.W.Frag} {nm : Str} {tpos : Pos} {a b z TI TO i1 i2 : Addr} (D : ZipApart z TI TO i1 i2 a b) :
    Turn P w K (.Name nm tpos) (RZ.ItzT K a b) [z, TI, TO, i1, i2] z (ZSt z TI TO i1 i2 a b) where
  mem := by simp
  obj := fun i h st c hc => by
    obtain ⟨⟨f0, b0, hf, hz⟩, hTI, ⟨x, y, hTO⟩, ⟨o1, e1, _, d1⟩, ⟨o2, e2, _, d2⟩⟩ := st
    have e' : c = z ∨ c = TI ∨ c = TO ∨ c = i1 ∨ c = i2 := by simpa using hc
    rcases e' with q | q | q | q | q
    · rw [q]; exact ⟨_, hz, fun v q => nomatch q⟩
    · rw [q]; exact ⟨_, hTI, fun v q => nomatch q⟩
    · rw [q]; exact ⟨_, hTO, fun v q => nomatch q⟩
    · rw [q]; exact ⟨o1, e1, fun v q => by rw [d1] at q; cases q⟩
    · rw [q]; exact ⟨o2, e2, fun v q => by rw [d2] at q; cases q⟩
  keep := fun i h h' st k => st.keep k
  item := by
    intro X hP hw hK hc i pins s σ H E I hf st hg
    subst hP hw hK
    obtain ⟨xs, ys, x, y, hqx, hqy, hx, hy⟩ := hg
    refine zip_turn D I hf st hqx hqy hx hy fun s' T nT I1 hf1 st1 => ⟨_, rfl, wpAny_pure ?_⟩
    exact ⟨.ref T, _, I1, rfl, ⟨_, x, y, rfl, nT, rfl, fun l hl => by rw [I.tuple_inj hl hqx]; exact hx, fun l hl => by rw [I.tuple_inj hl hqy]; exact hy⟩, st1, fun c hcm => (hf1 c hcm).1⟩
  done := by
    intro X hP hw hK hc i pins s σ H E I hf st hg
    subst hP hw hK
    obtain ⟨xs, ys, hqx, hqy, hend⟩ := hg
    exact zip_stop D (I.ok.hd hc) I hf st hqx hqy hend fun h' I1 _ => ⟨rfl, I1⟩
  self := fun A i s Q E st h => pyIter_zipZ st.1 h
def iZipN (K : PySem.W.Frag) (ta : L2.TA) : TI := fun σ H R => ta σ H fun vs H1 => ∃ a b xs ys, vs = [.ref a, .ref b] ∧ SqT K H1 a xs ∧ SqT K H1 b ys ∧ R (RZ.ItzT K a b) H1
section
variable {X : Cx}
/-- zip is called -/
theorem zip_made {pins : List (Addr × Obj)} {σ : L2.St} {H : Hp} {s : Shared} {A : Around} {E : Value → Shared → Prop} {a b : Addr} {xs ys : List V} {Q : Value → Shared → Prop} (I : Inv X pins σ H s) (hqx : SqT X.K H a xs) (hqy : SqT X.K H b ys)
    (hQ : ∀ h' z TI TO i1 i2, Inv X pins σ H { s with heap := h' } → ZipApart z TI TO i1 i2 a b → ZSt z TI TO i1 i2 a b 0 h' → (∀ c ∈ [z, TI, TO, i1, i2], FpOk X pins H c) → Q (.ref z) { s with heap := h' }) :
    wpAny (model X.prog X.w) A (call (.type "zip") [.ref a, .ref b]) Q E s := by
  obtain ⟨its, rv, p1, _⟩ := I.tuple hqx
  obtain ⟨its2, rv2, p2, _⟩ := I.tuple hqy
  obtain ⟨o1, ho1, _⟩ := id p1
  obtain ⟨o2, ho2, _⟩ := id p2
  refine RZ.call_zipT (show s.heap.IsTuple a its.toArray from p1) (show s.heap.IsTuple b its2.toArray from p2) fun h' hz hTI hTO h1 h2 hsz hk => ?_
  refine hQ h' (s.heap.objs.size + 4) (s.heap.objs.size + 2) (s.heap.objs.size + 3) s.heap.objs.size (s.heap.objs.size + 1) (I.kept (t' := s.toks) hk) (PySem.W.ktu_apart s.heap.objs.size a b (Heap.lt_size ho1) (Heap.lt_size ho2)) ⟨⟨.none, false, .inl rfl, hz⟩, hTI, ⟨_, _, hTO⟩, h1, h2⟩ fun c hcm => ?_
  have e' : c = s.heap.objs.size + 4 ∨ c = s.heap.objs.size + 2 ∨ c = s.heap.objs.size + 3 ∨ c = s.heap.objs.size ∨ c = s.heap.objs.size + 1 := by simpa using hcm
  have hle : s.heap.objs.size ≤ c := by
    rcases e' with z | z | z | z | z
    · rw [z]; exact Nat.le_add_right _ _
    · rw [z]; exact Nat.le_add_right _ _
    · rw [z]; exact Nat.le_add_right _ _
    · rw [z]; exact Nat.le_refl _
    · rw [z]; exact Nat.le_add_right _ _
  exact I.fpOk hle (I.hok.fresh hle)
theorem pi_zipN {e e2 : Expr} {ta : L2.TA} {p pos tpos : Pos} {nm : Str} (hg : Gl X "zip") (hm : X.mg "zip" = none) (ha : PA X [e, e2] ta)
    (hs : starEach [e, e2] X.env = (false, eval e X.env) :: starEach [e2] X.env := by rfl) (hpl : (backTo pos (starEach [e2] X.env)).any (·.1) = false := by rfl) :
    PI X (.Name nm tpos) (.Call (.Name "zip" p) [e, e2] [] pos) (iZipN X.K ta) := by
  refine ⟨fun pins s σ H R I h => ?_⟩
  refine Call_ (ld_blt I hg hm PyProof.Rows.boot_zip (PyProof.Rows.callWith_type1 (thn (ha.run pos pins s σ H _ I h) fun us s1 ⟨vs, H1, I1, r1, q1⟩ => ?_) hs hpl))
  obtain ⟨a, b, xs, ys, ex, hqx, hqy, q⟩ := q1
  subst ex
  cases r1 with
  | cons r rr =>
    cases rr with
    | cons r' rr =>
      cases rr
      cases r
      cases r'
      exact zip_made I1 hqx hqy fun h' z TI TO i1 i2 I2 D st hf => pyIter_zipZ st.1 ⟨z, [z, TI, TO, i1, i2], _, _, H1, rfl, I2, turn_zipN D, st, hf, q⟩
theorem zipNK (K : PySem.W.Frag) {e e2 : Expr} {ta : L2.TA} {p pos tpos : Pos} {nm : Str} (hg : Gl X "zip") (hm : X.mg "zip" = none) (ha : PA X [e, e2] ta) (h : X.K = K := by rfl)
    (hs : starEach [e, e2] X.env = (false, eval e X.env) :: starEach [e2] X.env := by rfl) (hpl : (backTo pos (starEach [e2] X.env)).any (·.1) = false := by rfl) :
    PI X (.Name nm tpos) (.Call (.Name "zip" p) [e, e2] [] pos) (iZipN K ta) := h ▸ pi_zipN hg hm ha hs hpl
/-! ### list(zip(a, b)), a and b tuples of ints -/
theorem no_len_zip : typeLookup (.type "zip") "__len__" = pure none := by rw [typeLookup_type, builtinLookup_eq_fast]; kernel_rfl
theorem no_hint_zip : typeLookup (.type "zip") "__length_hint__" = pure none := by rw [typeLookup_type, builtinLookup_eq_fast]; kernel_rfl
theorem zip_loop {pins : List (Addr × Obj)} {σ : L2.St} {A : Around} {R : Result → Shared → Prop} {a b z TI TO i1 i2 S : Addr} {ns ms : List Int} {res : Value} (D : ZipApart z TI TO i1 i2 a b) (hh : A.handled = none) (hn : ns.length ≤ 1000) :
    ∀ (k i : Nat) (s : Shared) (H : Hp) (acc : List V), min ns.length ms.length - i = k → i ≤ min ns.length ms.length → Inv X pins σ H s → (∀ c ∈ [z, TI, TO, i1, i2], FpOk X pins H c) → ZSt z TI TO i1 i2 a b i s.heap →
    SqT X.K H a (ns.map V.int) → SqT X.K H b (ms.map V.int) → H S = some (.lst acc) → DpAll X.K H acc (((ns.zip ms).take i).map prD) →
    (∀ s' H' ys, Inv X pins σ H' s' → (∀ q o, q ≠ S → H q = some o → H' q = some o) → H' S = some (.lst ys) → DpAll X.K H' ys ((ns.zip ms).map prD) → R (.ok (.ret res)) s') →
    codeAny (model X.prog X.w) A (.builtin "list.extend.loop" ⟨[.ref S, .ref z, res], []⟩) R s := by
  intro k
  induction k with
  | zero =>
    intro i s H acc hk hi I hf st hqx hqy hS dA hR
    refine codeAny_builtin PySem.F.entry_extend_loop ?_
    rw [Around.under_plainId PySem.F.plain_extend_loop _]
    show wpAny _ A.in1 (pyNext (.ref z) >>= _) _ _ s
    refine wpAny_bind (zip_stop (A := A.in1) D hh I hf st hqx hqy (by rw [List.length_map, List.length_map]; omega) fun h' I1 _ => ?_)
    rw [List.take_of_length_le (by rw [List.length_zip]; omega)] at dA
    exact wpAny_pure (hR _ H acc I1 (fun _ _ _ e => e) hS dA)
  | succ k ih =>
    intro i s H acc hk hi I hf st hqx hqy hS dA hR
    have h1 : i < ns.length := by omega
    have h2 : i < ms.length := by omega
    refine codeAny_builtin PySem.F.entry_extend_loop ?_
    rw [Around.under_plainId PySem.F.plain_extend_loop _]
    show wpAny _ A.in1 (pyNext (.ref z) >>= _) _ _ s
    refine wpAny_bind (zip_turn D I hf st hqx hqy (x := .int ns[i]) (y := .int ms[i]) (by rw [List.getElem?_map, List.getElem?_eq_getElem h1]; rfl) (by rw [List.getElem?_map, List.getElem?_eq_getElem h2]; rfl) fun s' T nT I1 hf1 st1 => ?_)
    have sT := same_upd (o := .tup [V.int ns[i], V.int ms[i]]) nT
    have eS := sT _ _ hS
    obtain ⟨_, its, n, r, hl, e⟩ := I1.lstM eS
    have al := DpAll.length dA
    rw [List.length_map, List.length_take, List.length_zip] at al
    show wpAny _ A.in1 (updateSeq S (·.push (.ref T)) >>= _) _ _ _
    refine wpAny_bind ?_
    have I2 := I1.lset (ys := acc ++ [.ref T]) (its' := its ++ [.ref T]) (f := (·.push (.ref T))) (t' := s'.toks) eS e (by simp) (r.append (.cons (show RelV (V.ref T) (Value.ref T) from rfl) .nil)) (by rw [List.length_append, List.length_singleton]; exact Nat.le_of_lt (small1000 (by omega)))
    have kt : KT X.K (upd H T (.tup [V.int ns[i], V.int ms[i]])) (upd (upd H T (.tup [V.int ns[i], V.int ms[i]])) S (.lst (acc ++ [.ref T]))) := kt_lst eS
    have nSf : S ∉ [z, TI, TO, i1, i2] := fun hm => by
      have := (hf S hm).1
      rw [hS] at this
      cases this
    refine wpAny_updateSeq e rfl (wpAny_pure ⟨plainId_quiet PySem.F.plain_extend_loop _, ih (i + 1) _ _ _ (by omega) (by omega) I2 (fun c hc => ?_) (st1.keep fun c hc o eo => ?_) (kt _ _ (Same.tup sT hqx)) (kt _ _ (Same.tup sT hqy)) upd_same ?_ fun s'' H' ys I3 kp eS' dY => hR s'' H' ys I3 (fun q o nq eq => kp q o nq ?_) eS' dY⟩) (by rw [List.size_toArray, ← hl]; exact Nat.le_of_lt (small1000 (by omega))) ?_
    · obtain ⟨q1, q2⟩ := hf1 c hc
      exact ⟨(upd_ne fun z => nSf (by rw [← z]; exact hc)).trans q1, q2⟩
    · exact (Heap.get?_update_other _ _ (fun h : S = c => nSf (h ▸ hc))).trans eo
    · have tk : (ns.zip ms).take (i + 1) = (ns.zip ms).take i ++ [(ns[i], ms[i])] := by
        rw [List.take_add_one, show (ns.zip ms)[i]? = some (ns[i], ms[i]) by rw [List.getElem?_eq_getElem (by rw [List.length_zip]; omega), List.getElem_zip]]
        rfl
      rw [tk, List.map_append]
      exact DpAll.append (DpAll.kt kt (DpAll.same sT dA) (only_prs _)) (.cons (Dp.kt kt (Dp.pr (SqT.of upd_same)) (only_pr _)) .nil)
    · rw [upd_ne nq]
      exact sT _ _ eq
    · show (its.toArray.push _).size ≤ _
      rw [Array.size_push, List.size_toArray, ← hl]
      have : acc.length + 1 ≤ 1001 := by omega
      exact Nat.le_trans this (by decide)
def tListZip (K : PySem.W.Frag) (ta : L2.TA) : TE := fun σ H Q => ta σ H fun vs H1 => ∃ (a b : Addr) (ns ms : List Int), vs = [.ref a, .ref b] ∧ SqT K H1 a (ns.map V.int) ∧ SqT K H1 b (ms.map V.int) ∧ ns.length ≤ 1000 ∧
  ∀ (H' : Hp) (D : Addr) (ys : List V), Same H1 H' → H1 D = none → H' D = some (.lst ys) → DpAll K H' ys ((ns.zip ms).map prD) → Q (.ref D) H'
theorem pe_listZip {e e2 : Expr} {ta : L2.TA} {p p2 q pos : Pos} (hg : Gl X "list") (hm : X.mg "list" = none) (hg2 : Gl X "zip") (hm2 : X.mg "zip" = none) (ha : PA X [e, e2] ta) (hc : X.calm = true := by rfl)
    (na : starEach [.Call (.Name "zip" p2) [e, e2] [] q] X.env = (false, eval (.Call (.Name "zip" p2) [e, e2] [] q) X.env) :: starEach [] X.env := by rfl)
    (hs : starEach [e, e2] X.env = (false, eval e X.env) :: starEach [e2] X.env := by rfl) (hpl : (backTo q (starEach [e2] X.env)).any (·.1) = false := by rfl) :
    PE X (.Call (.Name "list" p) [.Call (.Name "zip" p2) [e, e2] [] q] [] pos) (tListZip X.K ta) := by
  refine ⟨fun pins s σ H Q I h => ?_⟩
  refine Call_ (ld_blt I hg hm boot_list ?_)
  refine PyProof.Rows.callWith_type1 (PyProof.Rows.args_cons ?_ rfl) na rfl
  refine Call_ (ld_blt I hg2 hm2 PyProof.Rows.boot_zip (PyProof.Rows.callWith_type1 (thn (ha.run q pins s σ H _ I h) fun us s1 ⟨vs, H1, I1, r1, q1⟩ => ?_) hs hpl))
  obtain ⟨a, b, ns, ms, ex, hqx, hqy, hn, q⟩ := q1
  subst ex
  cases r1 with
  | cons r rr =>
    cases rr with
    | cons r' rr =>
      cases rr
      cases r
      cases r'
      refine zip_made I1 hqx hqy fun h2 z TI TO i1 i2 I2 D st hf => PyProof.Rows.args_nil ?_
      refine callType_codes (Q₁ := fun obj s₁ => obj = .ref h2.objs.size ∧ s₁ = { s1 with heap := h2.push { cls := .type "list", data := .seq #[] } }) PySem.F.called_list (PySem.F.typeCall_list_1 _) PySem.F.entry_list_init (code_list_new _ ⟨rfl, rfl⟩) fun obj s₁ h₁ => ?_
      obtain ⟨rfl, rfl⟩ := h₁
      have hS : (h2.push { cls := .type "list", data := .seq #[] }).get? h2.objs.size = some { cls := .type "list", data := .seq #[] } := Heap.get?_push_size _ rfl
      refine ⟨⟨_, hS, rfl⟩, PySem.F.args_list_init_2 _ _, ?_⟩
      have nS : H1 h2.objs.size = none := I2.hok.fresh (Nat.le_refl _)
      have I3 := I2.lnew (ys := []) (its := []) (t' := s1.toks) .nil (Nat.zero_le _)
      have hI : h2.objs.size ≠ z := Nat.ne_of_gt (st.lt z (by simp))
      have st3 : ZSt z TI TO i1 i2 a b 0 (h2.push { cls := .type "list", data := .seq #[] }) := st.keep fun c _ o e => Heap.get?_push_of_some _ e
      have hf3 : ∀ c ∈ [z, TI, TO, i1, i2], FpOk X pins (upd H1 h2.objs.size (.lst [])) c := fun c hc => by
        obtain ⟨q1, q2⟩ := hf c hc
        exact ⟨(upd_ne (Nat.ne_of_lt (st.lt c hc))).trans q1, q2⟩
      have hqx3 := Same.tup (same_upd (o := .lst []) nS) hqx
      have hqy3 := Same.tup (same_upd (o := .lst []) nS) hqy
      have eS3 : upd H1 h2.objs.size (.lst []) h2.objs.size = some (.lst []) := upd_same
      show wpAny _ X.A.in1.in1 (do let old ← Builtin.List.listItems (.ref h2.objs.size); Builtin.List.listUpdate (.ref h2.objs.size) (fun _ => #[]); letGo old.toList.reverse; Builtin.List.listExtendWith (.ref h2.objs.size) (.ref z) .none) _ _ _
      refine wpAny_bind ?_
      unfold Builtin.List.listItems
      refine wpAny_bind (wpAny_seqItems hS rfl (wpAny_pure ?_))
      show wpAny _ X.A.in1.in1 (updateSeq h2.objs.size (fun _ => #[]) >>= fun _ => letGo (#[] : Array Value).toList.reverse >>= fun _ => Builtin.List.listExtendWith (.ref h2.objs.size) (.ref z) .none) _ _ _
      have I4 := I3.lset (ys := []) (its' := []) (f := fun _ => #[]) (t' := s1.toks) eS3 hS rfl .nil (Nat.zero_le _)
      refine wpAny_bind (wpAny_updateSeq hS rfl ?_)
      have hS4 := Heap.get?_update_self (Obj.mapSeq (fun _ => (#[] : Array Value))) hS rfl
      have nSf : h2.objs.size ∉ [z, TI, TO, i1, i2] := fun hm => Nat.lt_irrefl _ (st.lt _ hm)
      have st4 := st3.keep (h' := (h2.push { cls := .type "list", data := .seq #[] }).update h2.objs.size (Obj.mapSeq (fun _ => (#[] : Array Value)))) fun c hc o eo => (Heap.get?_update_other _ _ (fun h => nSf (by rw [h]; exact hc))).trans eo
      rw [upd_upd] at I4
      generalize (h2.push { cls := .type "list", data := .seq #[] }).update h2.objs.size (Obj.mapSeq (fun _ => (#[] : Array Value))) = h4 at I4 hS4 st4 ⊢
      refine wpAny_bind (wpAny_letGo ?_)
      unfold Builtin.List.listExtendWith
      have hT : Shared.TypeIs { s1 with heap := h4 } (.ref z) "zip" := by
        obtain ⟨⟨f0, b0, _, hz0⟩, _⟩ := st4
        exact ⟨_, hz0, rfl⟩
      refine wpAny_bind (wpAny_typeOf hT ?_)
      have h1 : Builtin.List.listSameRef (.ref h2.objs.size) (.ref z) = false := by simp [Builtin.List.listSameRef, hI]
      have h2' : (Value.type "zip" == Value.type "list") = false := by decide
      have h3' : (Value.type "zip" == Value.type "tuple") = false := by decide
      simp only [h1, h2', h3', Bool.or_false, Bool.false_eq_true, if_false]
      refine wpAny_bind (pyIter_zipZ st4.1 ?_)
      refine wpAny_bind (wpAny_holding ?_)
      unfold Builtin.List.listLengthHint
      refine wpAny_bind (wpAny_specialOf hT no_len_zip ?_)
      show wpAny _ X.A.in1.in1 (specialOf (Value.ref z) (Str.ofString "__length_hint__") >>= _) _ _ _
      refine wpAny_bind (wpAny_specialOf hT no_hint_zip ?_)
      refine wpAny_pure ?_
      show wpAny _ X.A.in1.in1 (rule "list.extend.makes-room" >>= fun _ => Builtin.List.listTouch (.ref h2.objs.size) >>= fun _ =>
        again (.builtin "list.extend.loop" ⟨[.ref h2.objs.size, .ref z, .none], []⟩)) _ _ _
      refine wpAny_bind (wpAny_rule ?_)
      refine wpAny_bind ?_
      show wpAny _ X.A.in1.in1 (updateSeq h2.objs.size (·.push .none) >>= fun _ => updateSeq h2.objs.size (·.pop)) _ _ _
      have eS4 : upd H1 h2.objs.size (.lst []) h2.objs.size = some (.lst []) := upd_same
      have I5 := I4.lset (ys := [.non]) (its' := [.none]) (f := (·.push Value.none)) (t' := s1.toks) eS4 hS4 (by rfl) (.cons (show RelV V.non Value.none from rfl) .nil) (by show 1 ≤ sizeLine; decide)
      refine wpAny_bind (wpAny_updateSeq hS4 rfl ?_)
      have hS5 := Heap.get?_update_self (Obj.mapSeq (·.push Value.none)) hS4 rfl
      have st5 := st4.keep (h' := h4.update h2.objs.size (Obj.mapSeq (·.push Value.none))) fun c hc o eo => (Heap.get?_update_other _ _ (fun h => nSf (by rw [h]; exact hc))).trans eo
      rw [upd_upd] at I5
      generalize h4.update h2.objs.size (Obj.mapSeq (·.push Value.none)) = h5 at I5 hS5 st5 ⊢
      have eS5 : upd H1 h2.objs.size (.lst [V.non]) h2.objs.size = some (.lst [V.non]) := upd_same
      have I6 := I5.lset (ys := []) (its := [.none]) (its' := []) (f := (·.pop)) (t' := s1.toks) eS5 hS5 (by rfl) .nil (Nat.zero_le _)
      refine wpAny_updateSeq hS5 rfl ?_
      have st6 := st5.keep (h' := h5.update h2.objs.size (Obj.mapSeq (·.pop))) fun c hc o eo => (Heap.get?_update_other _ _ (fun h => nSf (by rw [h]; exact hc))).trans eo
      rw [upd_upd] at I6
      generalize h5.update h2.objs.size (Obj.mapSeq (·.pop)) = h6 at I6 st6 ⊢
      refine wpAny_pure ⟨plainId_quiet PySem.F.plain_extend_loop _, zip_loop (X := X) (A := X.A.in1) D (I.ok.hd hc) hn _ 0 _ _ [] rfl (Nat.zero_le _) I6 hf3 st6 hqx3 hqy3 eS3 (by rw [List.take_zero]; exact .nil) fun s' H' ys I7 kp eS' dY => ?_⟩
      refine ⟨rfl, .ref h2.objs.size, H', I7, rfl, q H' h2.objs.size ys (fun c o e => kp c o (ne_of_none e nS) ((upd_ne (ne_of_none e nS)).trans e)) nS eS' dY⟩
end
end TL
namespace TL
open PySem PySem.Spec PyProof.Rows L2
/-! ### a comprehension over zip of two tuples of ints, a plain name as target -/
section
variable {K : PySem.W.Frag} {te : TE} {vs : List Nat} {σ : L2.St} {H1 : Hp} {D : Addr} {Qd : Hp → Prop}
theorem lc_zipI {a b : Addr} {ns ms : List Int} {i : Nat} (d : Int × Int → PyData) (nD : H1 D = none) (hSa : SqT K H1 a (ns.map V.int)) (hSb : SqT K H1 b (ms.map V.int))
    (hw : ∀ v, wipe ((wipe σ vs).set i (some v)) vs = wipe σ vs)
    (he : ∀ o ∈ ns.zip ms, ∀ T H' (Q : VK), Same H1 H' → H' T = some (.tup [.int o.1, .int o.2]) → (∀ H2 y, Same H' H2 → Dp K H2 y (d o) → Q y H2) → te ((wipe σ vs).set i (some (.ref T))) H' Q)
    (ho : ∀ o, only (d o) = true) (hl : ns.length ≤ 1000)
    (hd : ∀ H' ys, Same H1 H' → H' D = some (.lst ys) → DpAll K H' ys ((ns.zip ms).map d) → Qd H') : LcGoal (RZ.ItzT K a b) (gName i) tYes te vs σ H1 D Qd := by
  have ol : ∀ l : List (Int × Int), onlyAll (l.map d) = true := fun l => onlyAll_map ho l
  refine lc_by (ns.zip ms).length (fun j H' => ∃ ys, Same H1 H' ∧ H' D = some (.lst ys) ∧ DpAll K H' ys (((ns.zip ms).take j).map d)) ?_ ?_ ?_ ?_ ?_
  · exact ⟨[], same_upd nD, upd_same, .nil⟩
  · rintro j H' hj ⟨ys, s, _⟩
    rw [List.length_zip] at hj
    exact ⟨_, _, _, _, Same.tup s hSa, Same.tup s hSb, List.getElem?_eq_getElem (by rw [List.length_map]; omega), List.getElem?_eq_getElem (by rw [List.length_map]; omega)⟩
  · rintro H' ⟨ys, s, _⟩
    refine ⟨_, _, Same.tup s hSa, Same.tup s hSb, ?_⟩
    rw [List.length_map, List.length_map, List.length_zip]
    omega
  · rintro j v H' H'' hj ⟨ys, s, eD, dA⟩ y
    obtain ⟨T, x, y', rfl, nT, rfl, h1, h2⟩ := y
    have h1 := h1 _ (Same.tup s hSa)
    have h2 := h2 _ (Same.tup s hSb)
    rw [List.getElem?_map] at h1 h2
    obtain ⟨p, hp, rfl⟩ := Option.map_eq_some_iff.mp h1
    obtain ⟨q, hq, rfl⟩ := Option.map_eq_some_iff.mp h2
    have hz : (ns.zip ms)[j]? = some (p, q) := List.getElem?_zip_eq_some.mpr ⟨hp, hq⟩
    have sT := same_upd (o := .tup [V.int p, V.int q]) nT
    have tk : (ns.zip ms).take (j + 1) = (ns.zip ms).take j ++ [(p, q)] := by rw [List.take_add_one, hz]; rfl
    refine ⟨hw _, yesI (iteT (he (p, q) (List.mem_of_getElem? hz) T _ _ (s.trans sT) upd_same fun H3 z s3 dz => ?_))⟩
    have e3 := s3 _ _ (sT _ _ eD)
    have kt : KT K H3 (upd H3 D (.lst (ys ++ [z]))) := kt_lst e3
    have yl := DpAll.length dA
    rw [List.length_map, List.length_take, List.length_zip] at yl
    refine ⟨ys, e3, small1000 (by omega), ys ++ [z], ?_, upd_same, ?_⟩
    · intro b o e
      rw [upd_ne (ne_of_none e nD)]
      exact s3 _ _ (sT _ _ (s _ _ e))
    · rw [tk, List.map_append]
      exact DpAll.append (DpAll.kt kt (DpAll.same (sT.trans s3) dA) (ol _)) (.cons (Dp.kt kt dz (ho _)) .nil)
  · rintro H' ⟨ys, s, eD, dA⟩
    rw [List.take_length] at dA
    exact hd H' ys s eD dA
end
end TL
namespace TL
open PySem PySem.Spec PyProof.Rows L2
/-! ### sorted, of a set of tuples of ints of any lengths -/
theorem perm_map {α β : Type} {f : α → β} {vs ms : List β} (h : vs.Perm ms) : ∀ {l : List α}, ms = l.map f → ∃ l' : List α, l'.Perm l ∧ vs = l'.map f := by
  induction h with
  | nil =>
    intro l e
    exact ⟨l, .refl _, e⟩
  | cons x _ ih =>
    intro l e
    cases l with
    | nil => cases e
    | cons y l =>
      rw [List.map_cons] at e
      injection e with e1 e2
      obtain ⟨l', p, e3⟩ := ih e2
      exact ⟨y :: l', p.cons y, by rw [List.map_cons, ← e1, e3]⟩
  | swap x y l0 =>
    intro l e
    match l, e with
    | a :: b :: l, e =>
      rw [List.map_cons, List.map_cons] at e
      injection e with e1 e2
      injection e2 with e2 e3
      exact ⟨b :: a :: l, .swap _ _ _, by rw [List.map_cons, List.map_cons, ← e1, ← e2, e3]⟩
  | trans _ _ ih1 ih2 =>
    intro l e
    obtain ⟨l2, p2, e2⟩ := ih2 e
    obtain ⟨l1, p1, e1⟩ := ih1 e2
    exact ⟨l1, p1.trans p2, e1⟩
theorem reads_ints {h : Heap} : ∀ {vs : List Value} {ns : List Int}, IntsAre vs ns → ReadsAll h vs (ns.map .int) []
  | [], [], _ => .nil
  | v :: vs, n :: ns, a => by
    cases a with
    | cons _ t a2 => exact ReadsAll.cons (as := []) (bs := []) (.int n t) (reads_ints a2)
def rSortSet (K : PySem.W.Frag) (P : Program) (w : World) : List V → Hp → VK → Prop := fun vs H Q => ∃ (a : Addr) (L : List (Addr × List Int)), vs = [V.ref a] ∧ H a = some (SetTO P w a L) ∧ (∀ p ∈ L, SqT K H p.1 (p.2.map V.int)) ∧ (∀ p ∈ L, p.2 ≠ []) ∧
  ∀ (L' : List (Addr × List Int)) p ys, H p = none → L'.Perm L → (L'.map (·.2)).Nodup → DpAll K H ys (((L'.map (·.2)).mergeSort (PySem.W.dataLe false intsD)).map intsD) → Q (.ref p) (upd H p (.lst ys))
theorem alike_ints : ∀ x y : List Int, PySem.W.alikeAll (x.map PyData.int) (y.map PyData.int) = true := by
  intro x
  induction x with
  | nil => intro y; cases y <;> simp [PySem.W.alikeAll]
  | cons n x ih =>
    intro y
    cases y with
    | nil => simp [PySem.W.alikeAll]
    | cons k y => simp [PySem.W.alikeAll, PySem.W.alike, ih y]
theorem dataLe_intsD : PySem.W.dataLe false intsD = fun p q : List Int => decide (p ≤ q) := by
  funext p q
  show (!PySem.W.dataLt (.tuple (q.map .int)) (.tuple (p.map .int))) = _
  rw [PySem.W.dataLt_tuple]
  show (!PySem.W.rowLt (q.map .int) (p.map .int)) = _
  rw [PySem.W.dataLt_ints]
  by_cases h : q < p
  · have h' : ¬ p ≤ q := fun r => List.not_lt.mpr r h
    simp [h, h']
  · have h' : p ≤ q := List.not_lt.mp h
    simp [h, h']
theorem rows_le (A : List (List Int)) : (A.mergeSort (PySem.W.dataLe false intsD)).Pairwise (· ≤ ·) := by
  rw [dataLe_intsD]
  refine (List.pairwise_mergeSort (le := fun p q : List Int => decide (p ≤ q)) (fun a b c h1 h2 => decide_eq_true (List.le_trans (of_decide_eq_true h1) (of_decide_eq_true h2))) (fun a b => ?_) A).imp fun h => of_decide_eq_true h
  rcases List.le_total a b with h | h
  · simp [h]
  · simp [h]
theorem rows_sort {A B : List (List Int)} (h : A.Perm B) : A.mergeSort (PySem.W.dataLe false intsD) = B.mergeSort (PySem.W.dataLe false intsD) :=
  ((List.mergeSort_perm A _).trans (h.trans (List.mergeSort_perm B _).symm)).eq_of_pairwise (fun x y _ _ h1 h2 => List.le_antisymm h1 h2) (rows_le A) (rows_le B)
section
variable {X : Cx}
theorem cr_sortSet (hc : X.calm = true) (hu : X.A.units + 64 < cLine) : CallR X (.builtin "sorted") (rSortSet X.K X.prog X.w) := by
  intro pins s σ H vs us Q I r h
  obtain ⟨a, L, rfl, ha, hk, hne, q⟩ := h
  have R0 : SetT0 X.prog X.w s.heap a L := (I.hok a _ ha).1
  obtain ⟨es, ep, t, R⟩ := R0.full fun p hp => I.isT (hk p hp)
  rw [Vals.ref1 r]
  obtain ⟨o, ho, hex, hd⟩ := R.ob
  have hsz := R.size
  have hfew := R.few
  refine Calls.call_function_entry kind_sorted plain_sorted entry_sorted (args_sorted1 _) ?_
  unfold Builtin.«sorted»
  refine wpAny_bind (m := checkCount "sorted" 1 1 _) (wpAny_pure ?_)
  refine wpAny_bind (collect_set (A := X.A.in1) (I.ok.hd hc) ⟨o, ho, hex.1, hd⟩ R.fits (by unfold scanBound; omega) R.tab.ris R.led fun s1 vs k1 hz g1 o1 pm => ?_)
  have hes : es.toList.map (·.2) = L.map fun q => Value.ref q.1 := by
    rw [R.rows]
    unfold rowsOf
    rw [List.map_map] <;> rfl
  rw [hes] at pm
  obtain ⟨L1, p1, rfl⟩ := perm_map pm rfl
  have l1 : L1.length < 64 := by rw [p1.length_eq]; exact hfew
  refine wpAny_bind (wpAny_newList ?_ (by rw [sizeLine_eq, List.length_map]; omega))
  have hoL : (s1.heap.push (seqObj "list" (L1.map fun q => Value.ref q.1).toArray 0)).get? s1.heap.objs.size = some (seqObj "list" (L1.map fun q => Value.ref q.1).toArray 0) := Heap.get?_push_size _ rfl
  have e1 : ∀ l : List (Addr × List Int), (∀ p ∈ l, p ∈ L) → PySem.W.EachIs (fun (u : Value) (b : List Int) => ∃ x, RelV x u ∧ Dp X.K H x (intsD b)) (l.map fun q => Value.ref q.1) (l.map (·.2)) := by
    intro l
    induction l with
    | nil => intro _; exact .nil
    | cons q l ih =>
      intro hs
      exact .cons ⟨.ref q.1, rfl, Dp.ints (hk q (hs q List.mem_cons_self))⟩ (ih fun p hp => hs p (List.mem_cons_of_mem _ hp))
  have e2 : ∀ l : List (Addr × List Int), (∀ p ∈ l, p ∈ L) → PySem.W.EachIs (fun (u : Value) (b : List Int) => ∃ as, Reads (s1.heap.push (seqObj "list" (L1.map fun q => Value.ref q.1).toArray 0)) u (intsD b) as ∧ s1.heap.objs.size ∉ as) (l.map fun q => Value.ref q.1) (l.map (·.2)) := by
    intro l
    induction l with
    | nil => intro _; exact .nil
    | cons q l ih =>
      intro hs
      obtain ⟨oq, its, n, hoq, hcq, hdq, hit⟩ := R.tup q (hs q List.mem_cons_self)
      refine .cons ⟨[], ?_, fun z => nomatch z⟩ (ih fun p hp => hs p (List.mem_cons_of_mem _ hp))
      exact .tuple (Heap.get?_push_of_some _ (k1 _ _ hoq)) hcq hdq (reads_ints (ints_of_items hit))
  have hin : ∀ p ∈ L1, p ∈ L := fun p hp => p1.mem_iff.mp hp
  refine wpAny_bind (wpAny_holding (PySem.W.list_sort_data (s := { s1 with heap := s1.heap.push (seqObj "list" (L1.map fun q => Value.ref q.1).toArray 0) }) hoL (e1 L1 hin) (e2 L1 hin) ?_ ?_ (by rw [List.length_map, sizeLine_eq]; omega) (fun b _ => ?_) fun out ho2 eo => ?_))
  · intro d hd e he
    obtain ⟨x, _, rfl⟩ := List.mem_map.mp hd
    obtain ⟨y, _, rfl⟩ := List.mem_map.mp he
    simp only [intsD, PySem.W.alike]
    exact alike_ints x y
  · refine .inl fun d hd => ?_
    obtain ⟨x, hx, rfl⟩ := List.mem_map.mp hd
    obtain ⟨p, hp, rfl⟩ := List.mem_map.mp hx
    cases h2 : p.2 with
    | nil => exact absurd h2 (hne p (hin p hp))
    | cons n r => exact ⟨_, _, rfl⟩
  · have : (intsD b).depth ≤ 50 := by
      simp only [intsD, PyData.depth, dep_ints]
      decide
    show X.A.in1.units + 1 + _ < _
    have : X.A.in1.units ≤ X.A.units + 1 := Nat.le_refl _
    omega
  obtain ⟨ys, ry, dy⟩ := of_each intsD eo
  obtain ⟨c, hc2⟩ := sortedHeap_at (vs := L1.map fun q => Value.ref q.1) (out := out.toArray) hoL
  have hn : H s1.heap.objs.size = none := I.hok.fresh hz
  have hq : ∀ b o, s.heap.get? b = some o → (sortedHeap (s1.heap.push (seqObj "list" (L1.map fun q => Value.ref q.1).toArray 0)) s1.heap.objs.size (L1.map fun q => Value.ref q.1) out.toArray).get? b = some o := fun b u e => by
    have q := k1 b u e
    have hlt := Heap.lt_size q
    rw [sortedHeap_old (Nat.ne_of_lt hlt) (by rw [size_push']; exact Nat.lt_succ_of_lt hlt)]
    exact Heap.get?_push_of_some _ q
  have hol : out.length = L1.length := by rw [ho2, List.length_map]
  have hlen : ys.length ≤ sizeLine := by rw [ry.length, hol, sizeLine_eq]; omega
  have J : L2.Inv X pins σ (upd H s1.heap.objs.size (.lst ys)) { s1 with heap := sortedHeap (s1.heap.push (seqObj "list" (L1.map fun q => Value.ref q.1).toArray 0)) s1.heap.objs.size (L1.map fun q => Value.ref q.1) out.toArray } :=
    I.call' (ch := []) o1 (Un.laid hq hz hn) (I.hok.laid hq hz ⟨hlen, out, c, ry, hc2⟩) (by show AllBare s1.gens; rw [g1]; exact I.bare) (fun _ z => nomatch z)
  exact wpAny_pure ⟨_, rfl, ⟨.ref s1.heap.objs.size, _, J, rfl, q L1 _ ys hn p1 ((p1.map (·.2)).nodup_iff.mpr R.nd) dy⟩⟩
end
end TL
namespace TL
open PySem PySem.Spec PyProof.Rows L2
/-- a new object where nothing stood -/
theorem Inv.laidN {X : Cx} {pins : List (Addr × Obj)} {σ : L2.St} {H : Hp} {s : Shared} {h' : Heap} {a : Addr} {o : HO} {t' : Nat} (I : L2.Inv X pins σ H s) (k : ∀ b u, s.heap.get? b = some u → h'.get? b = some u) (hg : s.heap.get? a = none)
    (new : ObjOk X.prog X.w (upd H a o) h' a o) : L2.Inv X pins σ (upd H a o) { s with heap := h', toks := t' } := by
  have hn : H a = none := I.hok.gone hg
  refine I.un { keep := fun b u q _ _ _ => k b u q, slot := fun b u q _ _ _ => ⟨u.slots, k b u q⟩, free := fun b u q n _ => ?_, there := fun b u q _ => ⟨u, k b u q⟩, tups := fun b xs q => ?_, frzs := fun b u xs q => ?_, tbls := fun b ps q => ⟨#[], ?_⟩ } fun b u e => ?_
  · rw [upd_ne fun e => by rw [e, hg] at q; cases q]
    exact n
  · rw [upd_ne (ne_of_none q hn)]
    exact q
  · rw [upd_ne (ne_of_none q hn)]
    exact q
  · rw [upd_ne (ne_of_none q hn), q]
    simp
  · by_cases hb : b = a
    · subst hb
      rw [upd_same] at e
      cases e
      exact new
    · rw [upd_ne hb] at e
      exact (I.hok b u e).stay (fun c v _ q => k c v q) (fun c q => by rw [upd_ne (ne_of_none q hn)]; exact q) fun c xs q => by rw [upd_ne (ne_of_none q hn)]; exact q
/-! ### dicts whose keys are tuples of ints -/
section
variable {X : Cx}
/-- {k: v}, k a tuple -/
def tDisp1T (tk tv : TE) : TE := fun σ H Q => ∀ p, H p = none → tPairs [(tk, tv)] σ (upd H p (.dT [])) fun ps H2 => ∃ (b : Addr) (k : List Key) (y : V), ps = [(.ref b, y)] ∧ H2 p = some (.dT []) ∧ H2 b = some (.tup (k.map kV)) ∧ Q (.ref p) (upd H2 p (.dT [(k, y)]))
theorem pe_disp1T {pos : Pos} {k v : Expr} {tk tv : TE} (hu : X.A.units + 1 < cLine) (hk : PE X k tk) (hv : PE X v tv) : PE X (.Dict [some k] [v] pos) (tDisp1T tk tv) := by
  refine ⟨fun pins s σ H Q I q => ?_⟩
  have hn := I.hok.fresh (Nat.le_refl s.heap.objs.size)
  have I1 := I.laid (a := s.heap.objs.size) (o := .dT []) (h' := s.heap.push { cls := .type "dict", data := .dict #[] }) (t' := s.toks) (fun _ _ q => Heap.get?_push_of_some _ q) (Nat.le_refl _) (dt_empty s.heap I.big)
  have hp : PPs X pos [some k] [v] [(tk, tv)] := pps_cons hk hv pps_nil
  rw [arm_eval_Dict, zip_pairTrees [some k] [v] X.env pos rfl rfl, dictDisplay_pairs (pairTrees [some k] [v] X.env pos) (by intro z; cases z) (by show 1 < 17; decide)]
  refine wpAny_bind (wpAny_standAt (wpAny_bind (wpAny_subDictH (knd := tupleKind (mixKind X.prog X.w)) (Q := fun d s' => wpAny (model X.prog X.w) X.A (pure (Value.ref d)) (EP X pins σ Q) X.xe s') ?_ (by show 1 ≤ 15; decide) (thn (hp.run pins _ σ _ _ I1 (q _ hn)) fun ws s2 ⟨ps, H2, I2, rel, b, k', y, ep, e, eb, q2⟩ => ?_))))
  · show X.A.units < cLine
    omega
  · subst ep
    cases rel with
    | @cons _ w _ _ r1 r2 =>
      cases r2
      obtain ⟨u1, u2⟩ := w
      obtain ⟨ra, rb⟩ := r1
      cases ra
      obtain ⟨z, hd, xs, r0, dd⟩ := dt_of I2.hok e
      cases r0
      refine ⟨[(k', b, u2)], ⟨rfl, rfl, key_of I2.hok eb, trivial⟩, dd, fun h' tk dd' hs => wpAny_pure ⟨.ref s.heap.objs.size, _, ?_, rfl, q2⟩⟩
      obtain ⟨o, es, ep, hq, h2, h3, h4, _, h5⟩ := dd'
      refine d_write I2 (by rw [e]; exact True.intro) hs ⟨o, hq⟩ ⟨by show 1 ≤ sizeLine; decide, hd, [(k', b, u2)], .cons ⟨rfl, ?_, rb⟩ .nil, o, es, ep, hq, h2, h3, h4, h5⟩
      rw [upd_ne (ne_of eb e (fun z => nomatch z))]
      exact eb
end
/-! ### list.sort of rows of ints: none is empty, or there is one alone -/
section
open PySem.W
variable {prog : Program} {w : World} {A : Around} {E : Value → Shared → Prop} {s : Shared}
theorem allAlike_rows (bs : List (List Int)) : AllAlike (bs.map intsD) := by
  intro d hd e he
  obtain ⟨x, _, rfl⟩ := List.mem_map.mp hd
  obtain ⟨y, _, rfl⟩ := List.mem_map.mp he
  simp only [intsD, alike]
  exact alike_ints x y
theorem sortsAt_rows {vs : List Value} {bs : List (List Int)} (e : EachIs (fun v b => ∃ as, Reads s.heap v (intsD b) as) vs bs) (hk : (∀ b ∈ bs, b ≠ []) ∨ bs.length ≤ 1) (hu : A.units + 50 < cLine) : SortsAt prog w A s (dataKind s.heap (bs.map intsD)) vs := by
  have dep : ∀ b : List Int, (intsD b).depth ≤ 1 := fun b => by
    simp only [intsD, PyData.depth, dep_ints]
    decide
  have usual : (∀ b ∈ bs, b ≠ []) → SortsAt prog w A s (dataKind s.heap (bs.map intsD)) vs := fun hne =>
    SortsAt.data (each_map (R := fun v d => ∃ as, Reads s.heap v d as) intsD e) (allAlike_rows bs) (.inl fun d hd => by
      obtain ⟨x, hx, rfl⟩ := List.mem_map.mp hd
      cases x with
      | nil => exact absurd rfl (hne _ hx)
      | cons i r => exact ⟨_, _, rfl⟩) (fun d hd => by
      obtain ⟨x, hx, rfl⟩ := List.mem_map.mp hd
      have := dep x
      omega)
  rcases hk with hk | hk
  · exact usual hk
  · match bs, hk with
    | [], _ => exact usual fun _ z => nomatch z
    | [b], _ =>
      by_cases hb : b = []
      · subst hb
        have lv : vs.length = 1 := e.length
        refine ⟨fun v hv => ?_, tuples' true, ?_, fun h2 => absurd h2 (by omega)⟩
        · obtain ⟨b, hb, as, r⟩ := e.left v hv
          exact ⟨_, dataKind_some (allAlike_rows _) (List.mem_map.mpr ⟨b, hb, rfl⟩) r⟩
        · intro E x y a b Q ha hb hq
          obtain ⟨d, as, hd, ra, rfl⟩ := dataKind_inv ha
          obtain ⟨d', as', hd', rb, rfl⟩ := dataKind_inv hb
          obtain rfl : d = .tuple [] := List.mem_singleton.mp hd
          obtain rfl : d' = .tuple [] := List.mem_singleton.mp hd'
          have hq' : Q (dataLt (.tuple []) (.tuple [])) s := hq
          rw [dataLt_tuple] at hq'
          cases ra with
          | @tuple l o xs n _ _ h1 h2 h3 h4 =>
            cases rb with
            | @tuple l' o' xs' n' _ _ k1 k2 k3 k4 =>
              have n1 : xs.size = 0 := by simpa using SeqAt.ReadsAll.length _ _ _ h4
              have n2 : xs'.size = 0 := by simpa using SeqAt.ReadsAll.length _ _ _ k4
              refine kat_lt h1 h3 k1 k3 (katLex_alike [] [] 0 _ _ _ _ h4 k4 (by simp [alikeAll]) (by simp [PyData.depthAll]; omega) (fun _ _ x r t ex => nomatch ex) (by rw [n1, n2]; rfl) hq')
      · exact usual fun z hz => by rw [List.mem_singleton.mp hz]; exact hb
    | _ :: _ :: _, hk => exact absurd hk (by simp)
theorem sort_rows {R : Value → List Int → Prop} {a : Addr} {vs : List Value} {bs : List (List Int)} {n : Nat} {Q : Value → Shared → Prop} (ho : s.heap.get? a = some (seqObj "list" vs.toArray n)) (e : EachIs R vs bs)
    (er : EachIs (fun v b => ∃ as, Reads s.heap v (intsD b) as ∧ a ∉ as) vs bs) (hk : (∀ b ∈ bs, b ≠ []) ∨ bs.length ≤ 1) (hL : bs.length ≤ sizeLine) (hu : A.units + 60 < cLine)
    (h : ∀ out, out.length = bs.length → EachIs R out (bs.mergeSort (dataLe false intsD)) → Q .none { s with heap := sortedHeap s.heap a vs (List.toArray out) }) :
    wpAny (model prog w) A (call (.builtin "list.sort") [.ref a]) Q E s := by
  have er' : EachIs (fun v b => ∃ as, Reads (sortingHeap s.heap a vs) v (intsD b) as) vs bs := each_keepBut (h' := sortingHeap s.heap a vs) (fun _ _ hb q => sortingHeap_old hb q) (fun o q => by rw [ho] at q; rw [← Option.some.inj q]) (allAlike_rows _) er
  refine wpAny_call_entry slot_list_sort ⟨_, ho, rfl⟩ entry_list_sort (list_sort_vals (κ := dataKind (sortingHeap s.heap a vs) (bs.map intsD)) ho (sortsAt_rows (s := { s with heap := sortingHeap s.heap a vs }) er' hk (by show A.units + 1 + 50 < cLine; omega)) (by rw [e.length]; exact hL) ⟨.none, rfl, ?_⟩) (args_list_sort _)
  exact h _ (by rw [sortVals_length false rfl]; exact e.length) (sortVals_data false e er' (allAlike_rows _))
theorem sorted_rows {R : Value → List Int → Prop} {l : Addr} {vs : List Value} {bs : List (List Int)} {Q : Value → Shared → Prop} (hl : s.heap.IsList l vs.toArray) (e : EachIs R vs bs)
    (er : EachIs (fun v b => ∃ as, Reads s.heap v (intsD b) as) vs bs) (hk : (∀ b ∈ bs, b ≠ []) ∨ bs.length ≤ 1) (hL : bs.length ≤ sizeLine) (hu : A.units + 60 < cLine)
    (h : ∀ out, out.length = bs.length → EachIs R out (bs.mergeSort (dataLe false intsD)) → Q (.ref (s.heap.objs.size + 1)) { s with heap := sortedAll s.heap vs (List.toArray out) }) :
    wpAny (model prog w) A (call (.builtin "sorted") [.ref l]) Q E s := by
  have er' : EachIs (fun v b => ∃ as, Reads (sortingHeap (copyHeap s.heap vs) (s.heap.objs.size + 1) vs) v (intsD b) as) vs bs := er.mono fun _ _ ⟨as, r⟩ => ⟨as, PyProof.Rows.Reads.keeps (fun _ _ => sorting_copy_old) r⟩
  exact sorted_vals hl (sortsAt_rows (s := { s with heap := sortingHeap (copyHeap s.heap vs) (s.heap.objs.size + 1) vs }) er' hk (by show A.units + 1 + 1 + 50 < cLine; omega)) (by rw [e.length]; exact hL)
    (h _ (by rw [sortVals_length false rfl]; exact e.length) (sortVals_data false e er' (allAlike_rows _)))
end
/-! ### sorted, of such rows in a list, in a dict -/
@[irreducible] def rSortRows (K : PySem.W.Frag) : List V → Hp → VK → Prop := fun vs H Q => ∃ (bs : List (List Int)) (a : Addr) (xs : List V), vs = [.ref a] ∧ SqL K H a xs ∧ DpAll K H xs (bs.map intsD) ∧ ((∀ b ∈ bs, b ≠ []) ∨ bs.length ≤ 1) ∧ bs.length ≤ 5000 ∧
  ∀ p ys, H p = none → DpAll K H ys ((bs.mergeSort (PySem.W.dataLe false intsD)).map intsD) → Q (.ref p) (upd H p (.lst ys))
def kI (r : List Int) : List Key := r.map Sum.inl
theorem kI_kV (r : List Int) : (kI r).map kV = r.map V.int := by
  unfold kI
  rw [List.map_map]
  rfl
theorem kI_inj {r q : List Int} (h : kI r = kI q) : r = q := by
  unfold kI at h
  exact List.map_inj_right (fun a b e => Sum.inl.inj e) |>.mp h
/-- a dict of ints by rows -/
def KD (kvs : List (List Key × V)) (bs : List (List Int)) : Prop := kvs.map (·.1) = bs.map kI ∧ ∀ kv ∈ kvs, ∃ i : Int, kv.2 = .int i
@[irreducible] def rSortDT (K : PySem.W.Frag) : List V → Hp → VK → Prop := fun vs H Q => ∃ (kvs : List (List Key × V)) (bs : List (List Int)) (a : Addr), vs = [.ref a] ∧ H a = some (.dT kvs) ∧ kvs.map (·.1) = bs.map kI ∧ ((∀ b ∈ bs, b ≠ []) ∨ bs.length ≤ 1) ∧ bs.length ≤ 5000 ∧
  ∀ p ys, H p = none → DpAll K H ys ((bs.mergeSort (PySem.W.dataLe false intsD)).map intsD) → Q (.ref p) (upd H p (.lst ys))
section
variable {X : Cx}
theorem cr_sortRows (hu : X.A.units + 64 < cLine) : CallR X (.builtin "sorted") (rSortRows X.K) := by
  intro pins s σ H vs us Q I r h
  unfold rSortRows at h
  obtain ⟨bs, a, xs, rfl, hs, ha, so, hl5, q⟩ := h
  cases r with
  | cons r1 r2 =>
    cases r2
    rename_i u
    obtain rfl : u = Value.ref a := r1
    obtain ⟨its, rv, hl, hz⟩ := I.list hs
    have e1 := each_of intsD rv ha
    have lb : xs.length = bs.length := by rw [DpAll.length ha, List.length_map]
    have e2 : PySem.W.EachIs (fun v b => ∃ as, Reads s.heap v (intsD b) as) its bs :=
      e1.mono fun u b ⟨x, rx, hx⟩ => Dp.reads I _ x u hx rx
    refine sorted_rows hl.isList e1 e2 so (by omega) (by omega) fun out hlen eo => ?_
    obtain ⟨ys, ry, dy⟩ := of_each intsD eo
    obtain ⟨c, hc⟩ := PyProof.Rows.sortedAll_at s.heap its out.toArray
    have fr : H (s.heap.objs.size + 1) = none := I.hok.fresh (Nat.le_succ _)
    refine ⟨.ref (s.heap.objs.size + 1), upd H (s.heap.objs.size + 1) (.lst ys), I.laid (t' := s.toks) (fun _ _ => PyProof.Rows.sortedAll_old) (Nat.le_succ _) ?_, rfl, q _ ys fr dy⟩
    exact ⟨by have := ry.length; omega, out, c, ry, hc⟩
theorem reads_vals {h : Heap} : ∀ {r : List Int} {its : List Value}, Vals (r.map V.int) its → ReadsAll h its (r.map .int) []
  | [], _, h => by cases h; exact .nil
  | n :: r, _, h => by
    rw [List.map_cons] at h
    cases h with
    | cons h1 h2 =>
      obtain ⟨t, rfl⟩ := h1
      exact ReadsAll.cons (as := []) (bs := []) (.int n t) (reads_vals h2)
theorem each_keys {P : Program} {w : World} {K : PySem.W.Frag} {H : Hp} : ∀ {kvs : List (List Key × V)} {ks : List (List Key × Addr × Value)} {bs : List (List Int)},
    Paired (fun (p : List Key × V) (q : List Key × Addr × Value) => p.1 = q.1 ∧ H q.2.1 = some (.tup (p.1.map kV)) ∧ RelV p.2 q.2.2) kvs ks → kvs.map (·.1) = bs.map kI →
    PySem.W.EachIs (fun (u : Value) (b : List Int) => ∃ a, u = Value.ref a ∧ H a = some (.tup (b.map V.int))) (ks.map fun x => Value.ref x.2.1) bs
  | [], _, bs, p, e => by
    cases p
    cases bs with
    | nil => exact .nil
    | cons _ _ => cases e
  | kv :: kvs, _, bs, p, e => by
    cases p with
    | cons h1 h2 =>
      cases bs with
      | nil => cases e
      | cons b bs =>
        rw [List.map_cons, List.map_cons] at e
        injection e with e1 e2
        refine .cons ⟨_, rfl, ?_⟩ (each_keys (P := P) (w := w) (K := K) h2 e2)
        have h := h1.2.1
        rw [e1, kI_kV] at h
        exact h
theorem cr_sortDT (hc : X.calm = true) (hu : X.A.units + 64 < cLine) : CallR X (.builtin "sorted") (rSortDT X.K) := by
  intro pins s σ H vs us Q I r h
  unfold rSortDT at h
  obtain ⟨kvs, bs, a, rfl, ha, hkb, so, hl5, q⟩ := h
  obtain ⟨u, rfl, rx⟩ := r.one
  cases rx
  obtain ⟨z, hs, ks, pr, o, es, ep, ho, hx, hdt, he, hn⟩ := (show ObjOk X.prog X.w H s.heap a (.dT kvs) from I.hok a _ ha)
  have l1 : es.size = ks.length := size_of_entries he
  have l2 : kvs.length = ks.length := Paired.length pr
  have lb : ks.length = bs.length := by
    have := congrArg List.length hkb
    rw [List.length_map, List.length_map] at this
    omega
  refine Calls.call_function_entry kind_sorted plain_sorted entry_sorted (args_sorted1 _) ?_
  unfold Builtin.«sorted»
  refine wpAny_bind (m := checkCount "sorted" 1 1 _) (wpAny_pure ?_)
  refine wpAny_bind (PySem.W.kdu_collect (A := X.A.in1) (kdl_raw hs hx hdt) (I.ok.hd hc) ho (by omega) fun h' tk acc kp it => ?_)
  have ea : acc.toList = ks.map fun x => Value.ref x.2.1 := by
    have hl : acc.toList.length = ks.length := by rw [Array.length_toList, it.1]; exact l1
    apply List.ext_getElem?
    intro j
    rw [List.getElem?_map]
    cases hj : acc.toList[j]? with
    | none =>
      have h1 := List.getElem?_eq_none_iff.mp hj
      rw [List.getElem?_eq_none (by omega)]
      all_goals rfl
    | some v =>
      obtain ⟨en, hen, hv⟩ := it.2 j v (by rw [← Array.getElem?_toList]; exact hj)
      have qe := entry_at he j
      rw [hen] at qe
      cases hb : ks[j]? with
      | none =>
        rw [hb] at qe
        exact nomatch (show some en = none from qe)
      | some b =>
        rw [hb] at qe
        have e2 : en = entryOfKey (tupleKind (mixKind X.prog X.w)) b := Option.some.inj qe
        rw [hv, e2]
        all_goals rfl
  have ek := each_keys (P := X.prog) (w := X.w) (K := X.K) pr hkb
  rw [← ea] at ek
  generalize hL : acc.toList = L1 at ek
  have lL : L1.length = bs.length := ek.length
  refine wpAny_bind (wpAny_newList ?_ (by rw [sizeLine_eq]; omega))
  have hoL : (h'.push (seqObj "list" L1.toArray 0)).get? h'.objs.size = some (seqObj "list" L1.toArray 0) := Heap.get?_push_size _ rfl
  have e1 : PySem.W.EachIs (fun (u : Value) (b : List Int) => ∃ x, RelV x u ∧ Dp X.K H x (intsD b)) L1 bs := ek.mono fun u b ⟨a, eu, hb⟩ => ⟨.ref a, eu, Dp.ints (SqT.of hb)⟩
  have e2 : PySem.W.EachIs (fun (u : Value) (b : List Int) => ∃ as, Reads (h'.push (seqObj "list" L1.toArray 0)) u (intsD b) as ∧ h'.objs.size ∉ as) L1 bs := ek.mono fun u b ⟨a, eu, hb⟩ => by
    subst eu
    obtain ⟨_, its, rv, oq, hoq, hcq, n, hdq⟩ := (show ObjOk X.prog X.w H s.heap a (.tup (b.map V.int)) from I.hok a _ hb)
    exact ⟨[], .tuple (Heap.get?_push_of_some _ (kp _ _ hoq)) hcq hdq (reads_vals (by simpa using rv)), fun z => nomatch z⟩
  refine wpAny_bind (wpAny_holding (sort_rows (A := X.A.in1) (s := { s with heap := h'.push (seqObj "list" L1.toArray 0), toks := tk }) hoL e1 e2 so (by rw [sizeLine_eq]; omega) (by show X.A.units + 1 + 60 < cLine; omega) fun out ho2 eo => ?_))
  obtain ⟨ys, ry, dy⟩ := of_each intsD eo
  obtain ⟨c, hc2⟩ := sortedHeap_at (vs := L1) (out := out.toArray) hoL
  have hz : s.heap.get? h'.objs.size = none := by
    cases e : s.heap.get? h'.objs.size with
    | none => rfl
    | some u => exact absurd (Heap.lt_size (kp _ _ e)) (Nat.lt_irrefl _)
  have hnn : H h'.objs.size = none := I.hok.gone hz
  have hq : ∀ b o, s.heap.get? b = some o → (sortedHeap (h'.push (seqObj "list" L1.toArray 0)) h'.objs.size L1 out.toArray).get? b = some o := fun b u e => by
    have q := kp b u e
    have hlt := Heap.lt_size q
    rw [sortedHeap_old (Nat.ne_of_lt hlt) (by rw [size_push']; exact Nat.lt_succ_of_lt hlt)]
    exact Heap.get?_push_of_some _ q
  have hlen : ys.length ≤ sizeLine := by rw [ry.length, ho2, sizeLine_eq]; omega
  have J : L2.Inv X pins σ (upd H h'.objs.size (.lst ys)) { s with heap := sortedHeap (h'.push (seqObj "list" L1.toArray 0)) h'.objs.size L1 out.toArray, toks := tk } := Inv.laidN I hq hz ⟨hlen, out, c, ry, hc2⟩
  exact wpAny_pure ⟨_, rfl, ⟨.ref h'.objs.size, _, J, rfl, q _ ys hnn dy⟩⟩
end
section
variable {X : Cx}
theorem sortRowsK (K : PySem.W.Frag) (hu : X.A.units + 64 < cLine) (h : X.K = K := by rfl) : CallR X (.builtin "sorted") (rSortRows K) := h ▸ cr_sortRows hu
theorem sortDTK (K : PySem.W.Frag) (hu : X.A.units + 64 < cLine) (hc : X.calm = true := by rfl) (h : X.K = K := by rfl) : CallR X (.builtin "sorted") (rSortDT K) := h ▸ cr_sortDT hc hu
end
/-! ### looking up rows -/
theorem KD.val {kvs : List (List Key × V)} {bs : List (List Int)} (h : KD kvs bs) (r : List Int) : (r ∈ bs ∧ ∃ i : Int, valV kvs (kI r) = some (.int i)) ∨ (r ∉ bs ∧ valV kvs (kI r) = none) := by
  obtain ⟨h1, h2⟩ := h
  induction kvs generalizing bs with
  | nil =>
    cases bs with
    | nil => exact .inr ⟨(fun z => nomatch z), rfl⟩
    | cons _ _ => cases h1
  | cons p kvs ih =>
    cases bs with
    | nil => cases h1
    | cons b bs =>
      rw [List.map_cons, List.map_cons] at h1
      injection h1 with e1 e2
      obtain ⟨i, hi⟩ := h2 p List.mem_cons_self
      by_cases e : b = r
      · subst e
        exact .inl ⟨List.mem_cons_self, i, by rw [valV_pos e1, hi]⟩
      · have e' : ¬ p.1 = kI r := fun z => e (kI_inj (e1.symm.trans z))
        rw [valV_neg e']
        rcases ih e2 (fun kv hkv => h2 kv (List.mem_cons_of_mem _ hkv)) with ⟨m, j⟩ | ⟨m, j⟩
        · exact .inl ⟨List.mem_cons_of_mem _ m, j⟩
        · exact .inr ⟨fun z => (List.mem_cons.mp z).elim (fun z => e z.symm) m, j⟩
theorem KD.put {kvs : List (List Key × V)} {bs : List (List Int)} (h : KD kvs bs) {r : List Int} (n : r ∉ bs) (i : Int) : KD (putK kvs (kI r) (.int i)) (bs ++ [r]) := by
  have e : valV kvs (kI r) = none := by
    rcases h.val r with ⟨m, _⟩ | ⟨_, e⟩
    · exact absurd m n
    · exact e
  rw [putK_new _ e]
  refine ⟨?_, fun kv hkv => ?_⟩
  · rw [List.map_append, List.map_append, h.1]
    rfl
  · rcases List.mem_append.mp hkv with z | z
    · exact h.2 kv z
    · rw [List.mem_singleton.mp z]
      exact ⟨i, rfl⟩
theorem KD.len {kvs : List (List Key × V)} {bs : List (List Int)} (h : KD kvs bs) : kvs.length = bs.length := by
  have := congrArg List.length h.1
  rw [List.length_map, List.length_map] at this
  exact this
theorem KD.one (r : List Int) (i : Int) : KD [(kI r, .int i)] [r] := ⟨rfl, fun kv h => by rw [List.mem_singleton.mp h]; exact ⟨i, rfl⟩⟩
theorem IsKeys.rows {K : PySem.W.Frag} {H : Hp} : ∀ {kvs : List (List Key × V)} {as : List Addr} {bs : List (List Int)}, IsKeys H kvs as → kvs.map (·.1) = bs.map kI → DpAll K H (as.map V.ref) (bs.map intsD)
  | [], _, bs, p, e => by
    cases p
    cases bs with
    | nil => exact .nil
    | cons _ _ => cases e
  | kv :: kvs, _, bs, p, e => by
    cases p with
    | cons h1 h2 =>
      cases bs with
      | nil => cases e
      | cons b bs =>
        rw [List.map_cons, List.map_cons] at e
        injection e with e1 e2
        rw [e1, kI_kV] at h1
        exact .cons (Dp.ints (SqT.of h1)) (IsKeys.rows h2 e2)
end TL
namespace TL
open PySem PySem.Spec PyProof.Rows L2
/-! ### sorted(d): the keys themselves -/
def rSortDT2 : List V → Hp → VK → Prop := fun vs H Q => ∃ (kvs : List (List Key × V)) (bs : List (List Int)) (a : Addr), vs = [.ref a] ∧ H a = some (.dT kvs) ∧ kvs.map (·.1) = bs.map kI ∧ ((∀ b ∈ bs, b ≠ []) ∨ bs.length ≤ 1) ∧ bs.length ≤ 5000 ∧
  ∀ p ys, H p = none → (∀ y ∈ ys, ∃ b r, y = .ref b ∧ r ∈ bs ∧ H b = some (.tup (r.map V.int))) → ys.length = bs.length → Q (.ref p) (upd H p (.lst ys))
theorem refs_of {H : Hp} : ∀ {us : List Value} {bs : List (List Int)}, PySem.W.EachIs (fun (u : Value) (b : List Int) => ∃ a, u = Value.ref a ∧ H a = some (.tup (b.map V.int))) us bs → ∃ ys : List V, Vals ys us ∧ ∀ y ∈ ys, ∃ b r, y = .ref b ∧ r ∈ bs ∧ H b = some (.tup (r.map V.int))
  | _, _, .nil => ⟨[], .nil, (fun _ h => nomatch h)⟩
  | _, _, .cons ⟨a, e, h⟩ t => by
    obtain ⟨ys, h1, h2⟩ := refs_of t
    subst e
    refine ⟨.ref a :: ys, .cons rfl h1, fun y hy => ?_⟩
    rcases List.mem_cons.mp hy with rfl | hy
    · exact ⟨a, _, rfl, List.mem_cons_self, h⟩
    · obtain ⟨b, r, e1, e2, e3⟩ := h2 y hy
      exact ⟨b, r, e1, List.mem_cons_of_mem _ e2, e3⟩
section
variable {X : Cx}
theorem cr_sortDT2 (hc : X.calm = true) (hu : X.A.units + 64 < cLine) : CallR X (.builtin "sorted") rSortDT2 := by
  intro pins s σ H vs us Q I r h
  unfold rSortDT2 at h
  obtain ⟨kvs, bs, a, rfl, ha, hkb, so, hl5, q⟩ := h
  obtain ⟨u, rfl, rx⟩ := r.one
  cases rx
  obtain ⟨z, hs, ks, pr, o, es, ep, ho, hx, hdt, he, hn⟩ := (show ObjOk X.prog X.w H s.heap a (.dT kvs) from I.hok a _ ha)
  have l1 : es.size = ks.length := size_of_entries he
  have l2 : kvs.length = ks.length := Paired.length pr
  have lb : ks.length = bs.length := by
    have := congrArg List.length hkb
    rw [List.length_map, List.length_map] at this
    omega
  refine Calls.call_function_entry kind_sorted plain_sorted entry_sorted (args_sorted1 _) ?_
  unfold Builtin.«sorted»
  refine wpAny_bind (m := checkCount "sorted" 1 1 _) (wpAny_pure ?_)
  refine wpAny_bind (PySem.W.kdu_collect (A := X.A.in1) (kdl_raw hs hx hdt) (I.ok.hd hc) ho (by omega) fun h' tk acc kp it => ?_)
  have ea : acc.toList = ks.map fun x => Value.ref x.2.1 := by
    have hl : acc.toList.length = ks.length := by rw [Array.length_toList, it.1]; exact l1
    apply List.ext_getElem?
    intro j
    rw [List.getElem?_map]
    cases hj : acc.toList[j]? with
    | none =>
      have h1 := List.getElem?_eq_none_iff.mp hj
      rw [List.getElem?_eq_none (by omega)]
      all_goals rfl
    | some v =>
      obtain ⟨en, hen, hv⟩ := it.2 j v (by rw [← Array.getElem?_toList]; exact hj)
      have qe := entry_at he j
      rw [hen] at qe
      cases hb : ks[j]? with
      | none =>
        rw [hb] at qe
        exact nomatch (show some en = none from qe)
      | some b =>
        rw [hb] at qe
        have e2 : en = entryOfKey (tupleKind (mixKind X.prog X.w)) b := Option.some.inj qe
        rw [hv, e2]
        all_goals rfl
  have ek := each_keys (P := X.prog) (w := X.w) (K := X.K) pr hkb
  rw [← ea] at ek
  generalize hL : acc.toList = L1 at ek
  have lL : L1.length = bs.length := ek.length
  refine wpAny_bind (wpAny_newList ?_ (by rw [sizeLine_eq]; omega))
  have hoL : (h'.push (seqObj "list" L1.toArray 0)).get? h'.objs.size = some (seqObj "list" L1.toArray 0) := Heap.get?_push_size _ rfl
  have e1 := ek
  have e2 : PySem.W.EachIs (fun (u : Value) (b : List Int) => ∃ as, Reads (h'.push (seqObj "list" L1.toArray 0)) u (intsD b) as ∧ h'.objs.size ∉ as) L1 bs := ek.mono fun u b ⟨a, eu, hb⟩ => by
    subst eu
    obtain ⟨_, its, rv, oq, hoq, hcq, n, hdq⟩ := (show ObjOk X.prog X.w H s.heap a (.tup (b.map V.int)) from I.hok a _ hb)
    exact ⟨[], .tuple (Heap.get?_push_of_some _ (kp _ _ hoq)) hcq hdq (reads_vals (by simpa using rv)), fun z => nomatch z⟩
  refine wpAny_bind (wpAny_holding (sort_rows (A := X.A.in1) (s := { s with heap := h'.push (seqObj "list" L1.toArray 0), toks := tk }) hoL e1 e2 so (by rw [sizeLine_eq]; omega) (by show X.A.units + 1 + 60 < cLine; omega) fun out ho2 eo => ?_))
  obtain ⟨ys, ry, ty⟩ := refs_of eo
  obtain ⟨c, hc2⟩ := sortedHeap_at (vs := L1) (out := out.toArray) hoL
  have hz : s.heap.get? h'.objs.size = none := by
    cases e : s.heap.get? h'.objs.size with
    | none => rfl
    | some u => exact absurd (Heap.lt_size (kp _ _ e)) (Nat.lt_irrefl _)
  have hnn : H h'.objs.size = none := I.hok.gone hz
  have hq : ∀ b o, s.heap.get? b = some o → (sortedHeap (h'.push (seqObj "list" L1.toArray 0)) h'.objs.size L1 out.toArray).get? b = some o := fun b u e => by
    have q := kp b u e
    have hlt := Heap.lt_size q
    rw [sortedHeap_old (Nat.ne_of_lt hlt) (by rw [size_push']; exact Nat.lt_succ_of_lt hlt)]
    exact Heap.get?_push_of_some _ q
  have hlen : ys.length ≤ sizeLine := by rw [ry.length, ho2, sizeLine_eq]; omega
  have J : L2.Inv X pins σ (upd H h'.objs.size (.lst ys)) { s with heap := sortedHeap (h'.push (seqObj "list" L1.toArray 0)) h'.objs.size L1 out.toArray, toks := tk } := Inv.laidN I hq hz ⟨hlen, out, c, ry, hc2⟩
  exact wpAny_pure ⟨_, rfl, ⟨.ref h'.objs.size, _, J, rfl, q _ ys hnn (fun y hy => by
    obtain ⟨b, r, e1, e2, e3⟩ := ty y hy
    exact ⟨b, r, e1, (List.mergeSort_perm _ _).mem_iff.mp e2, e3⟩) (by rw [ry.length, ho2])⟩⟩
theorem sortDT2K (hu : X.A.units + 64 < cLine) (hc : X.calm = true := by rfl) : CallR X (.builtin "sorted") rSortDT2 := cr_sortDT2 hc hu
end
end TL
namespace TL
open PySem PySem.Spec PyProof.Rows L2
/-! ### sorted of a list of tracked rows: the rows themselves -/
inductive TrR (H : Hp) : List V → List (List Int) → Prop
  | nil : TrR H [] []
  | cons {b : Addr} {r : List Int} {ys : List V} {M : List (List Int)} : H b = some (.tup (r.map V.int)) → TrR H ys M → TrR H (.ref b :: ys) (r :: M)
theorem TrR.same {H H' : Hp} (s : Same H H') : ∀ {ys : List V} {M : List (List Int)}, TrR H ys M → TrR H' ys M
  | _, _, .nil => .nil
  | _, _, .cons h t => .cons (s _ _ h) (TrR.same s t)
theorem TrR.all {K : PySem.W.Frag} {H : Hp} : ∀ {ys : List V} {M : List (List Int)}, TrR H ys M → DpAll K H ys (M.map intsD)
  | _, _, .nil => .nil
  | _, _, .cons h t => .cons (Dp.ints (SqT.of h)) (TrR.all t)
theorem TrR.length {H : Hp} : ∀ {ys : List V} {M : List (List Int)}, TrR H ys M → ys.length = M.length
  | _, _, .nil => rfl
  | _, _, .cons _ t => congrArg (· + 1) (TrR.length t)
theorem TrR.get {H : Hp} : ∀ {ys : List V} {M : List (List Int)} {i : Nat} {y : V}, TrR H ys M → ys[i]? = some y → ∃ b r, y = .ref b ∧ M[i]? = some r ∧ H b = some (.tup (r.map V.int))
  | _, _, 0, _, .cons h _, e => by
    cases e
    exact ⟨_, _, rfl, rfl, h⟩
  | _, _, i + 1, _, .cons _ t, e => by
    obtain ⟨b, r, h1, h2, h3⟩ := TrR.get (i := i) t e
    exact ⟨b, r, h1, h2, h3⟩
theorem trR_each {H : Hp} : ∀ {xs : List V} {us : List Value} {bs : List (List Int)}, Vals xs us → TrR H xs bs → PySem.W.EachIs (fun (u : Value) (b : List Int) => ∃ a, u = Value.ref a ∧ H a = some (.tup (b.map V.int))) us bs
  | _, _, _, .nil, .nil => .nil
  | _, _, _, .cons r1 r2, .cons h t => .cons ⟨_, r1, h⟩ (trR_each r2 t)
theorem trR_of {H : Hp} : ∀ {us : List Value} {bs : List (List Int)}, PySem.W.EachIs (fun (u : Value) (b : List Int) => ∃ a, u = Value.ref a ∧ H a = some (.tup (b.map V.int))) us bs → ∃ ys : List V, Vals ys us ∧ TrR H ys bs
  | _, _, .nil => ⟨[], .nil, .nil⟩
  | _, _, .cons ⟨a, e, h⟩ t => by
    obtain ⟨ys, h1, h2⟩ := trR_of t
    subst e
    exact ⟨.ref a :: ys, .cons rfl h1, .cons h h2⟩
def rSortRT (K : PySem.W.Frag) : List V → Hp → VK → Prop := fun vs H Q => ∃ (bs : List (List Int)) (a : Addr) (xs : List V), vs = [.ref a] ∧ SqL K H a xs ∧ TrR H xs bs ∧ ((∀ b ∈ bs, b ≠ []) ∨ bs.length ≤ 1) ∧ bs.length ≤ 5000 ∧
  ∀ p ys, H p = none → TrR H ys (bs.mergeSort (PySem.W.dataLe false intsD)) → Q (.ref p) (upd H p (.lst ys))
section
variable {X : Cx}
theorem cr_sortRT (hu : X.A.units + 64 < cLine) : CallR X (.builtin "sorted") (rSortRT X.K) := by
  intro pins s σ H vs us Q I r h
  obtain ⟨bs, a, xs, rfl, hs, ha, so, hl5, q⟩ := h
  cases r with
  | cons r1 r2 =>
    cases r2
    rename_i u
    obtain rfl : u = Value.ref a := r1
    obtain ⟨its, rv, hl, hz⟩ := I.list hs
    have e1 := trR_each rv ha
    have lb : xs.length = bs.length := ha.length
    have e2 : PySem.W.EachIs (fun v b => ∃ as, Reads s.heap v (intsD b) as) its bs := by
      have e3 := each_of intsD rv (ha.all (K := X.K))
      exact e3.mono fun u b ⟨x, rx, hx⟩ => Dp.reads I _ x u hx rx
    refine sorted_rows hl.isList e1 e2 so (by omega) (by omega) fun out hlen eo => ?_
    obtain ⟨ys, ry, dy⟩ := trR_of eo
    obtain ⟨c, hc⟩ := PyProof.Rows.sortedAll_at s.heap its out.toArray
    have fr : H (s.heap.objs.size + 1) = none := I.hok.fresh (Nat.le_succ _)
    refine ⟨.ref (s.heap.objs.size + 1), upd H (s.heap.objs.size + 1) (.lst ys), I.laid (t' := s.toks) (fun _ _ => PyProof.Rows.sortedAll_old) (Nat.le_succ _) ?_, rfl, q _ ys fr dy⟩
    exact ⟨by have := ry.length; omega, out, c, ry, hc⟩
theorem sortRTK (K : PySem.W.Frag) (hu : X.A.units + 64 < cLine) (h : X.K = K := by rfl) : CallR X (.builtin "sorted") (rSortRT K) := h ▸ cr_sortRT hu
end
end TL
namespace TL
open PySem PySem.Spec PyProof.Rows L2
/-! ### comprehensions of up to 5000 elements -/
theorem small5000 {n : Nat} (h : n ≤ 5000) : n < sizeLine := Nat.lt_of_le_of_lt h (by decide)
theorem lc_genB {K : PySem.W.Frag} {J : It} {g : TG} {tt : TT} {te : TE} {vs : List Nat} {σ : L2.St} {H1 : Hp} {D : Addr} {Qd : Hp → Prop} {β : Type}
    (bs : List β) (σb : β → L2.St) (p : β → Bool) (d : β → PyData) (nD : H1 D = none)
    (hgo : ∀ j H', j < bs.length → Same H1 H' → J.go j H') (hst : ∀ H', Same H1 H' → J.stop bs.length H')
    (hg : ∀ j b x H' H'', bs[j]? = some b → Same H1 H' → J.yld j H' x H'' → H'' = H' ∧ ∀ Q : L2.St → Hp → Prop, Q (σb b) H' → g x (wipe σ vs) H' Q)
    (hw : ∀ b, wipe (σb b) vs = wipe σ vs)
    (ht : ∀ b ∈ bs, ∀ H' (Q : Bool → Hp → Prop), Same H1 H' → (∀ H2, Same H' H2 → Q (p b) H2) → tt (σb b) H' Q)
    (he : ∀ b ∈ bs, p b = true → ∀ H' (Q : VK), Same H1 H' → (∀ H2 y, Same H' H2 → Dp K H2 y (d b) → Q y H2) → te (σb b) H' Q)
    (ho : ∀ b, only (d b) = true) (hl : bs.length ≤ 5000)
    (hd : ∀ H' ys, Same H1 H' → H' D = some (.lst ys) → DpAll K H' ys ((bs.filter p).map d) → Qd H') : LcGoal J g tt te vs σ H1 D Qd := by
  have oa : ∀ l : List β, onlyAll (l.map d) = true := by
    intro l
    induction l with
    | nil => simp [onlyAll]
    | cons b l ih => simp [onlyAll, ho b, ih]
  refine lc_by bs.length (fun i H' => ∃ ys, Same H1 H' ∧ H' D = some (.lst ys) ∧ DpAll K H' ys (((bs.take i).filter p).map d) ∧ ys.length ≤ i) ?_ ?_ ?_ ?_ ?_
  · exact ⟨[], same_upd nD, upd_same, .nil, Nat.le_refl _⟩
  · rintro i H' hi ⟨ys, s, _⟩
    exact hgo i H' hi s
  · rintro H' ⟨ys, s, _⟩
    exact hst H' s
  · rintro i x H' H'' hi ⟨ys, s, eD, a, ln⟩ y
    obtain ⟨rfl, k⟩ := hg i bs[i] x H' H'' (List.getElem?_eq_getElem hi) s y
    have mb : bs[i] ∈ bs := List.getElem_mem hi
    have tk : bs.take (i + 1) = bs.take i ++ [bs[i]] := by rw [List.take_add_one, List.getElem?_eq_getElem hi]; rfl
    refine k _ ⟨hw _, ht _ mb _ _ s fun H2 s2 => ?_⟩
    by_cases hp : p bs[i] = true
    · rw [if_pos hp]
      refine he _ mb hp _ _ (s.trans s2) fun H3 z s3 dz => ?_
      have e3 := s3 _ _ (s2 _ _ eD)
      have kt : KT K H3 (upd H3 D (.lst (ys ++ [z]))) := kt_lst e3
      refine ⟨ys, e3, small5000 (by omega), ys ++ [z], ?_, upd_same, ?_, ?_⟩
      · intro b o e
        rw [upd_ne (ne_of_none e nD)]
        exact s3 _ _ (s2 _ _ (s _ _ e))
      · rw [tk, List.filter_append, List.map_append, List.filter_cons_of_pos hp]
        exact DpAll.append (DpAll.kt kt (DpAll.same (s2.trans s3) a) (oa _)) (.cons (Dp.kt kt dz (ho _)) .nil)
      · rw [List.length_append, List.length_singleton]
        omega
    · rw [if_neg hp]
      refine ⟨ys, s.trans s2, s2 _ _ eD, ?_, by omega⟩
      rw [tk, List.filter_append, List.filter_cons_of_neg hp, List.filter_nil, List.append_nil]
      exact DpAll.same s2 a
  · rintro H' ⟨ys, s, eD, a, _⟩
    rw [List.take_length] at a
    exact hd H' ys s eD a
section
variable {K : PySem.W.Frag} {tt : TT} {te : TE} {vs : List Nat} {σ : L2.St} {H1 : Hp} {D : Addr} {Qd : Hp → Prop}
theorem lc_listDB {a : Addr} {xs : List V} {β : Type} {bs : List β} {e : β → PyData} {i : Nat} (p : β → Bool) (d : β → PyData) (nD : H1 D = none) (hS : SqL K H1 a xs) (hA : DpAll K H1 xs (bs.map e))
    (hw : ∀ v, wipe ((wipe σ vs).set i (some v)) vs = wipe σ vs)
    (ht : ∀ x b, b ∈ bs → Dp K H1 x (e b) → ∀ H' (Q : Bool → Hp → Prop), Same H1 H' → (∀ H2, Same H' H2 → Q (p b) H2) → tt ((wipe σ vs).set i (some x)) H' Q)
    (he : ∀ x b, b ∈ bs → p b = true → Dp K H1 x (e b) → ∀ H' (Q : VK), Same H1 H' → (∀ H2 y, Same H' H2 → Dp K H2 y (d b) → Q y H2) → te ((wipe σ vs).set i (some x)) H' Q)
    (ho : ∀ o, only (d o) = true) (hl : bs.length ≤ 5000)
    (hd : ∀ H' ys, Same H1 H' → H' D = some (.lst ys) → DpAll K H' ys ((bs.filter p).map d) → Qd H') : LcGoal (Itl K a) (gName i) tt te vs σ H1 D Qd := by
  have xl : xs.length = bs.length := by rw [DpAll.length hA, List.length_map]
  have mem : ∀ q ∈ xs.zip bs, q.2 ∈ bs ∧ Dp K H1 q.1 (e q.2) := fun q hq => by
    obtain ⟨k, hk⟩ := List.getElem?_of_mem hq
    obtain ⟨h1, h2⟩ := List.getElem?_zip_eq_some.mp hk
    obtain ⟨z, hz, dz⟩ := DpAll.get hA h1
    rw [List.getElem?_map, h2] at hz
    cases hz
    exact ⟨List.mem_of_getElem? h2, dz⟩
  have zl : (xs.zip bs).length = xs.length := by rw [List.length_zip]; omega
  refine lc_genB (K := K) (xs.zip bs) (fun q => (wipe σ vs).set i (some q.1)) (fun q => p q.2) (fun q => d q.2) nD (fun j H' hj s => ⟨_, _, s.seq hS, List.getElem?_eq_getElem (by omega)⟩)
    (fun H' s => ⟨_, s.seq hS, by omega⟩) (fun j b x H' H'' hb s y => ?_) (fun b => hw _) (fun b hb H' Q s hQ => ht _ _ (mem b hb).1 (mem b hb).2 H' Q s hQ) (fun b hb hp H' Q s hQ => he _ _ (mem b hb).1 hp (mem b hb).2 H' Q s hQ) (fun o => ho _) (by omega)
    (fun H' ys s eD dy => hd H' ys s eD ?_)
  · obtain ⟨e1, hy⟩ := y
    have h1 := hy _ (s.seq hS)
    obtain ⟨h2, h3⟩ := List.getElem?_zip_eq_some.mp hb
    rw [h2] at h1
    cases h1
    exact ⟨e1, fun Q q => q⟩
  · rw [zip_filter xl] at dy
    exact dy
end
end TL
namespace TL
open PySem PySem.Spec PyProof.Rows L2
/-- a def of the text that may raise, by its name -/
structure OwnX (P : Program) (w : World) (K : PySem.W.Frag) (mg : Str → Option Value) (base : Heap)
    (x : Str) (k : Nat) (ps : List Str) (sp : Sp) : Prop where
  ex : ∃ (f : Addr) (fd : FuncData), FnOk P w K mg base (L2.CX P w) k f fd ps sp ∧ mg x = some (.ref f) ∧
    PySem.W.keepIn K (.ref f) = true ∧ Binds K fd ps []
section
variable {X : Cx} {k : Nat} {ps : List Str} {sp : Sp} {x : Str} {p pos : Pos} {e : Expr} {es : List Expr} {t : TA} {W : WX}
theorem pe_ownX (O : OwnX X.prog X.w X.K X.mg X.base x k ps sp) (hr : Room k X.A) (tk : Takes X W) (hg : Gl X x) (ha : PA X (e :: es) t)
    (hdb : (x == ("__debug__" : Str)) = false := by decide)
    (he : starEach (e :: es) X.env = (false, eval e X.env) :: starEach es X.env := by rfl)
    (hpl : (backTo pos (starEach es X.env)).any (·.1) = false := by rfl) :
    PE X (.Call (.Name x p) (e :: es) [] pos) (tCallS sp (WE W) t) := by
  obtain ⟨f, fd, F, hm, hk, hb⟩ := O.ex
  exact pe_callS F hr hg hm hk hb (fun σ => passAt tk σ) ha hdb he hpl
end
/-! ### an error class of the text with one field -/
/-- self.f = value -/
def spInit (C : Addr) (f : Str) : Sp := fun vs H Q _ => ∃ (a : Addr) (y : V), vs = [.ref a, y] ∧ H a = some (exo a C none) ∧
  ∀ dx, H dx = none → dx ≠ a → Q .non (upd (upd H dx (exd dx [(f, y)])) a (exo a C (some dx)))
/-- what is said of such a class -/
structure ErrC (P : Program) (w : World) (K : PySem.W.Frag) (mg : Str → Option Value) (base : Heap) (x f : Str) (C : Addr) : Prop where
  oex : OexC K C
  xf : XfC K C
  exc : ExcC K C
  cls : (PySem.W.clsIn K C).isSome = true
  nof : PySem.W.findIn K (.ref C) f = some none
  glo : mg x = some (.ref C)
  ini : ∃ (fI : Addr) (fd : FuncData) (ps : List Str), PySem.W.findIn K (.ref C) "__init__" = some (some (.ref fI)) ∧ PySem.W.typeIn K (.ref fI) = some (.type "function") ∧
    FnOk P w K mg base CX0 1 fI fd ps (spInit C f) ∧ Binds K fd ps []
section
variable {X : Cx} {x f : Str} {C : Addr} {e : Expr} {p pos pos' : Pos} {ta : TA} {W : WX}
/-- raise x(e) -/
theorem ps_err (T : ErrC X.prog X.w X.K X.mg X.base x f C) (hr : Room 2 X.A) (tk : Takes X W) (hg : Gl X x) (ha : PA X [e] ta) (hc : X.calm = true := by rfl)
    (hdb : (x == ("__debug__" : Str)) = false := by decide)
    (he : starEach [e] X.env = (false, eval e X.env) :: starEach [] X.env := by rfl)
    (hpl : (backTo pos (starEach [] X.env)).any (·.1) = false := by rfl) :
    PS X (.Raise (some (.Call (.Name x p) [e] [] pos)) none pos') (fun _ σ H => tMkO C (spInit C f) [] ta σ H fun cls d H' => W cls d σ H') := by
  obtain ⟨fI, fd, ps, iC, tI, F, hb⟩ := T.ini
  exact ps_raise hc tk (pmk_oex (dvs := []) (ds := []) T.oex iC tI F hr hb .nil pass0 hg T.glo ha hdb he hpl)
/-- the reading of it -/
theorem errI {y : V} {H1 : Hp} {Q : XK} (q : ∀ (H' : Hp) (d : Addr), Same H1 H' → H' d = some (.xd [(f, y)]) → Q (.ref C) (some d) H') :
    [y].length ≤ 1000 ∧ ∀ a, H1 a = none → spInit C f (.ref a :: ([y] ++ [])) (upd H1 a (exo a C none))
      (fun v H2 => v = .non ∧ ∃ (d : Addr) (fs : List (Str × V)), H2 a = some (exo a C (some d)) ∧ H2 d = some (exd d fs) ∧ H1 d = none ∧ Q (.ref C) (some d) (upd (del H2 a) d (.xd fs))) (fun _ _ _ => False) := by
  refine ⟨by show 1 ≤ 1000; decide, fun a na => ⟨a, y, rfl, upd_same, fun dx nd ne => ?_⟩⟩
  rw [upd_ne ne] at nd
  refine ⟨rfl, dx, [(f, y)], upd_same, (upd_ne ne).trans upd_same, nd, q _ _ (fun b o e => ?_) upd_same⟩
  have hb : b ≠ a := fun z => by rw [z, na] at e; cases e
  have hd : b ≠ dx := fun z => by rw [z, nd] at e; cases e
  rw [upd_ne hd, del_ne hb, upd_ne hb, upd_ne hd, upd_ne hb]
  exact e
end
/-! ### isinstance of the error that a suite holds -/
def rIsX (K : PySem.W.Frag) (cls : Value) (d : Option Addr) (D a : Addr) : List V → Hp → VK → Prop := fun xs H Q => ∃ (c : V) (b : Bool), xs = [.ref a, c] ∧ cls = .ref D ∧ (∃ (dd : Addr) (fs : List (Str × V)), d = some dd ∧ H dd = some (.xd fs)) ∧
  ((∃ cv, (∀ u, RelV c u → u = cv) ∧ PySem.W.kitOne K (.ref D) cv = some b) ∨ ∃ (tp : Addr) (cs : List Addr), c = .ref tp ∧ H tp = some (.tup (cs.map V.ref)) ∧ PySem.W.kitAny K (.ref D) (cs.map Value.ref) = some b) ∧ Q (.bl b) H
theorem vals_refs : ∀ {cs : List Addr} {its : List Value}, Vals (cs.map V.ref) its → its = cs.map Value.ref
  | [], _, h => by cases h; rfl
  | c :: cs, _, h => by
    cases h with
    | cons r1 r2 =>
      cases r1
      rw [vals_refs r2]
      rfl
theorem isX {X : Cx} {a D : Addr} {oe : Obj} {cls : Value} {d : Option Addr} {pn : List (Addr × Obj)} (C : ExcC X.K D) (hcl : (PySem.W.clsIn X.K D).isSome = true) (hz : Zc cls d oe) (hf : ∃ vs, oe.data = .fields vs) :
    CallR (X.suite a ((a, oe) :: pn)) (.builtin "isinstance") (rIsX X.K cls d D a) := by
  intro pins s σ H xs us Q I r h
  obtain ⟨c, b, rfl, ec, ⟨dd, fs, ed, ex⟩, hk, q⟩ := h
  subst ec ed
  cases r with
  | cons rx rr =>
    cases rr with
    | cons rt rr =>
      cases rr
      cases rx
      obtain ⟨hget, _⟩ := I.pin (a, oe) (List.mem_append.mpr (.inl List.mem_cons_self))
      obtain ⟨vs, hv⟩ := hf
      have hx : ObjOk X.prog X.w H s.heap dd (.xd fs) := I.hok dd _ ex
      obtain ⟨mA, hns, hr⟩ := hx
      obtain ⟨od, ho, hl⟩ := lookIn_ns hns
      have J : PySem.W.InstAt s.heap a oe D (some od) := ⟨hget, hz.1, by unfold PySem.W.notCls; rw [hv] <;> rfl, by rw [hz.2]; exact ho⟩
      have Z := PySem.W.kitx_exc (x := a) (ox := oe) (od := some od) hcl C.hg C.hk C.hs C.ha C.hn C.ht C.hm
      rcases hk with ⟨cv, hcv, e⟩ | ⟨tp, cs, e1, e2, e⟩
      · have ec := hcv _ rt
        subst ec
        exact PySem.W.kia_one Z I.kIn J e (fun z => nomatch z) fun tk => ⟨.bl b, H, I.kept (t' := tk) fun _ _ z => z, rfl, q⟩
      · subst e1
        cases rt
        obtain ⟨_, its, r, o, h1, h2, n, h3⟩ := (show ObjOk X.prog X.w H s.heap tp (.tup (cs.map V.ref)) from I.hok tp _ e2)
        have ei : its = cs.map Value.ref := vals_refs r
        subst ei
        obtain ⟨oc, od2, oda, osl⟩ := o
        dsimp only at h2 h3
        subst h2 h3
        exact PySem.W.kia_tup Z I.kIn J h1 e (fun z => nomatch z) fun tk => ⟨.bl b, H, I.kept (t' := tk) fun _ _ z => z, rfl, q⟩
/-! ### in short, within a suite -/
theorem isXK (K : PySem.W.Frag) {X : Cx} {P : Program} {w : World} {mg : Str → Option Value} {base : Heap} {x f : Str} {a D : Addr} {oe : Obj} {cls : Value} {d : Option Addr} {pn : List (Addr × Obj)} (T : ErrC P w K mg base x f D) (hz : Zc cls d oe) (hf : ∃ vs, oe.data = .fields vs) (h : X.K = K := by rfl) :
    CallR (X.suite a ((a, oe) :: pn)) (.builtin "isinstance") (rIsX K cls d D a) := by
  subst h
  exact isX T.exc T.cls hz hf
theorem xfK (K : PySem.W.Frag) {X : Cx} {P : Program} {w : World} {mg : Str → Option Value} {base : Heap} {x n : Str} {a C : Addr} {oe : Obj} {cls : Value} {d : Option Addr} {pn : List (Addr × Obj)} {e : Expr} {te : TE} {pos : Pos} (T : ErrC P w K mg base x n C)
    (hz : Zc cls d oe) (hf : ∃ vs, oe.data = .fields vs) (he : PE (X.suite a ((a, oe) :: pn)) e te) (h : X.K = K := by rfl) (hb : attributeBase e n X.env (eval e X.env) = eval e X.env := by rfl) :
    PE (X.suite a ((a, oe) :: pn)) (.Attribute e n pos) (tXf a cls d C n te) := by
  subst h
  exact pe_xf T.xf T.nof hz hf he hb
/-! ### what the written part says of classes -/
section
variable {K : PySem.W.Frag} {C D : Addr}
theorem cls_of (h : PySem.W.hasDictIn K C = true) : (PySem.W.clsIn K C).isSome = true := by
  obtain ⟨cd, hc, _⟩ := PySem.W.any_some h
  rw [hc]
  rfl
theorem kit_own {b : Bool} (hd : PySem.W.hasDictIn K D = true) (ht : PySem.W.typeIn K (.ref D) = some (.type "type")) (hs : PySem.W.subIn K (.ref C) (.ref D) = some b) (self : PySem.W.subIn K (.ref C) (.ref C) = some true) : PySem.W.kitOne K (.ref C) (.ref D) = some b := by
  unfold PySem.W.kitOne
  by_cases e : (Value.ref C == Value.ref D) = true
  · rw [if_pos e]
    have e2 := beq_iff_eq.mp e
    rw [← e2, self] at hs
    exact hs
  · rw [if_neg e]
    unfold PySem.W.kitCls
    have e2 : ((PySem.W.clsIn K D).isSome && PySem.W.typeIn K (.ref D) == some (.type "type")) = true := by
      rw [cls_of hd, ht]
      rfl
    show (if ((PySem.W.clsIn K D).isSome && PySem.W.typeIn K (.ref D) == some (.type "type")) = true then _ else _) = _
    rw [if_pos e2]
    exact hs
theorem kit_ve {T : String} (hm : PySem.W.kitMeta T = true) (hs : PySem.W.subIn K (.ref C) (.type T) = some true) : PySem.W.kitOne K (.ref C) (.type T) = some true := by
  unfold PySem.W.kitOne
  rw [if_neg (by intro z; cases beq_iff_eq.mp z)]
  unfold PySem.W.kitCls
  show (if PySem.W.kitMeta T = true then _ else _) = _
  rw [if_pos hm]
  exact hs
theorem exm_own {b : Bool} (h1 : PySem.W.subIn K (.ref D) (.type "BaseException") = some true) (hd : PySem.W.hasDictIn K D = true) (ht : PySem.W.typeIn K (.ref D) = some (.type "type")) (h4 : PySem.W.subIn K (.ref C) (.ref D) = some b) : PySem.W.exmOne K (.ref C) (.ref D) = some b := PySem.W.exm_ref h1 hd ht h4
theorem kitAny_no : ∀ {cs : List Addr}, (∀ c ∈ cs, PySem.W.kitOne K (.ref C) (.ref c) = some false) → PySem.W.kitAny K (.ref C) (cs.map Value.ref) = some false
  | [], _ => rfl
  | c :: cs, h => by
    show (match PySem.W.kitOne K (.ref C) (.ref c) with | some true => some true | some false => PySem.W.kitAny K (.ref C) (cs.map Value.ref) | none => none) = _
    rw [h c List.mem_cons_self]
    exact kitAny_no fun c hc => h c (List.mem_cons_of_mem _ hc)
end
/-- the own __init__ of such a class -/
structure IniC (K : PySem.W.Frag) (C : Addr) (f : Str) : Prop where
  oex : OexC K C
  nof : PySem.W.findIn K (.ref C) f = some none
end TL
namespace TL
open PySem PySem.Spec PyProof.Rows L2
/-! ### name, *rest = a tuple -/
theorem walks_from {prog : Program} {w : World} {A : Around} (hh : A.handled = none) (I ax : Addr) (hne : ax ≠ I) (items : Array Value) (k : Nat) (hk : k ≤ items.size) :
    Walks prog w A I [I, ax] [I] (items.size - k) (fun i v => items[k + i]? = some v) (fun i h => h.IsTupleIter I ax (k + i) ∧ h.IsTuple ax items) where
  sub := fun b hb => by simp at hb; simp [hb]
  frame := fun _ _ _ st hk => ⟨st.1.at fun o e => hk I (by simp) o e, st.2.at fun o e => hk ax (by simp) o e⟩
  item := fun i s Q E hi st hQ => by
    have hlt : k + i < items.size := by omega
    refine wpAny_pyNext_tuple_item st.1 st.2 (x := items[k + i]) (by simp [hlt]) fun h' hit' hs' => ?_
    exact hQ _ h' s.toks (by simp [hlt]) ⟨hit', st.2.extBut hs'.extBut hne⟩ fun b o hb e => hs'.extBut b o (fun h => hb (by simp [h])) e
  done := fun s Q E st hQ => wpAny_pyNext_tuple_end hh st.1 st.2 (by
    rw [show k + (items.size - k) = items.size by omega]
    simp) fun h' he' => hQ h' s.toks fun b o hb e => he' b o (fun h => hb (by simp [h])) e
  self := fun _ _ _ _ st hQ => wpAny_pyIter_tupleiter st.1 hQ
section
variable {prog : Program} {w : World} {A : Around} {E : Value → Shared → Prop} {s : Shared}
theorem moved_state {s s' : Shared} {wr : List Addr} (m : Moved wr (fun a b => b = a) s s') : ∃ h' tk, s' = { s with heap := h', toks := tk } ∧ ∀ b o, b ∉ wr → s.heap.get? b = some o → h'.get? b = some o := by
  refine ⟨s'.heap, s'.toks, ?_, fun b o hb e => m.heap b o hb e⟩
  obtain ⟨hp, g, d, tk, os⟩ := s'
  have h1 : g = s.gens := m.gens
  have h2 : d = s.drawn := m.drawn
  have h3 : os = s.os := m.os
  subst h1
  subst h2
  subst h3
  rfl
theorem unpack_star1 {t : Addr} {items : Array Value} {Q : List Value → Shared → Prop} (hh : A.handled = none) (ht : s.heap.IsTuple t items) (h0 : 0 < items.size) (hz : items.size ≤ sizeLine)
    (hQ : ∀ (h' : Heap) (tk : Nat), (∀ b o, s.heap.get? b = some o → h'.get? b = some o) → Q [items[0], .ref h'.objs.size] { s with heap := h'.push { cls := .type "list", data := .seq (items.toList.drop 1).toArray }, toks := tk }) :
    wpAny (model prog w) A (unpackItems (.ref t) 2 (some 1)) Q E s := by
  have hlt : t ≠ s.heap.objs.size := by obtain ⟨o, ho, _⟩ := ht; exact Nat.ne_of_lt (Heap.lt_size ho)
  have hltt : t < s.heap.objs.size := by obtain ⟨o, ho, _⟩ := ht; exact Heap.lt_size ho
  unfold unpackItems
  refine wpAny_bind ?_
  · unfold notIterableAtAll
    refine wpAny_bind (wpAny_specialOf ht.typeIs F.slot_tuple_iter.lookup ?_)
    refine wpAny_pure ?_
    simp only [Bool.false_eq_true, if_false]
    refine wpAny_bind (wpAny_holding (wpAny_pyIter_tuple ht ?_))
    refine wpAny_bind (wpAny_holding (wpAny_draw_tuple hlt 1 0 _ _ ⟨_, Heap.get?_push_size _ rfl, rfl, rfl⟩ (ht.push _) (by omega) fun h₁ hit₁ hs₁ => ?_))
    have e1 : (items.toList.drop 0).take 1 = [items[0]] := by
      rw [List.drop_zero]
      have hl : 0 < items.toList.length := by simpa using h0
      rw [List.take_one, List.head?_eq_getElem?, List.getElem?_eq_getElem hl]
      simp
    rw [e1]
    rw [if_neg (by simp)]
    have ht₁ : h₁.IsTuple t items := (ht.push _).extBut hs₁.extBut hlt
    have W := (walks_from (prog := prog) (w := w) (A := A.in1) hh s.heap.objs.size t hlt items 1 h0).toS
    have sz1 : s.heap.objs.size < h₁.objs.size := by
      obtain ⟨o, ho, _⟩ := hit₁
      exact Heap.lt_size ho
    have ht₁l : t < h₁.objs.size := by
      obtain ⟨o, ho, _⟩ := ht₁
      exact Heap.lt_size ho
    refine wpAny_bind (wpAny_holding (wpAny_collect_iter (T := "tuple_iterator") (by simp) W (fun i s' st => st.1.typeIs) ⟨hit₁, ht₁⟩ (fun b hb => ?_) (by simp) (fun s' acc m ia => ?_) (by omega)))
    · simp at hb
      rcases hb with rfl | rfl
      · exact sz1
      · exact ht₁l
    obtain ⟨h₂, tk, rfl, k2⟩ := moved_state m
    have ea : acc.toList = items.toList.drop 1 := by
      refine List.ext_getElem? fun j => ?_
      rw [List.getElem?_drop]
      by_cases hj : j < acc.size
      · have e := ia.2 j acc[j] (by simp [hj])
        have e2 : items.toList[1 + j]? = some acc[j] := by simpa using e
        rw [e2]
        simp [hj]
      · have hs := ia.1
        rw [List.getElem?_eq_none (by simpa using Nat.le_of_not_lt hj), List.getElem?_eq_none (by simp; omega)]
    rw [ea]
    have ln : (items.toList.drop 1).length = items.size - 1 := by simp
    simp only [show 2 - 1 - 1 = 0 from rfl, Nat.not_lt_zero, if_false, Nat.sub_zero, List.take_length, List.drop_length]
    refine wpAny_bind (wpAny_newList ?_ (by rw [ln]; omega))
    refine wpAny_pure ?_
    show Q ([items[0]] ++ [Value.ref h₂.objs.size] ++ []) _
    refine hQ h₂ tk (fun b o e => ?_)
    · have nb : b ≠ s.heap.objs.size := Nat.ne_of_lt (Heap.lt_size e)
      exact k2 b o (by simpa using nb) (hs₁.extBut b o nb (Heap.get?_push_of_some _ e))
end
section
variable {X : Cx} {pos : Pos}
def gTupS (K : PySem.W.Frag) (t : TGs) : TG := fun v σ H Q => ∃ (a : Addr) (x : V) (xs : List V), v = .ref a ∧ SqT K H a (x :: xs) ∧ ∀ L, H L = none → t [x, .ref L] σ (upd H L (.lst xs)) Q
theorem pg_tupS {es : List Expr} {k : Nat} {t : TGs} (hc : X.calm = true) (h : PGs X es t)
    (hn : (assignEach es X.env).length = 2 := by rfl) (hst : (assignEach es X.env).findIdx? (·.1) = some 1 := by rfl) : PG X (.Tuple es k pos) (gTupS X.K t) := by
  refine ⟨fun pins s σ H v u Q I r hw => ?_⟩
  obtain ⟨a, x, xs, e1, hq, hw⟩ := hw
  subst e1
  cases r
  obtain ⟨its, rv, ht, hz⟩ := I.tuple hq
  obtain ⟨ux, us, rfl, rx, rxs⟩ : ∃ ux us, its = ux :: us ∧ RelV x ux ∧ Vals xs us := by
    cases rv with
    | cons rx rxs => exact ⟨_, _, rfl, rx, rxs⟩
  · rw [arm_assign_Tuple]
    refine wpAny_bind (wpAny_standAt ?_)
    unfold unpack
    rw [hn, hst]
    have lz : (ux :: us).toArray.size ≤ sizeLine := by
      have := rxs.length
      rw [List.length_cons] at hz
      rw [List.size_toArray, List.length_cons]
      omega
    refine wpAny_bind (wpAny_holding (unpack_star1 (I.ok.hd hc) ht (by simp) lz fun h' tk kp => ?_))
    have I1 : Inv X pins σ H { s with heap := h', toks := tk } := I.kept kp
    have zl : xs.length ≤ sizeLine := by
      rw [List.length_cons] at hz
      omega
    have I2 := I1.laid (a := h'.objs.size) (o := .lst xs) (h' := h'.push { cls := .type "list", data := .seq us.toArray }) (t' := tk) (fun b u e => Heap.get?_push_of_some _ e) (Nat.le_refl _) ⟨zl, us, 0, rxs, Heap.get?_push_size _ rfl⟩
    exact h.run pins _ σ _ [x, .ref h'.objs.size] _ Q I2 (.cons rx (.cons rfl .nil)) (hw _ (I1.hok.fresh (Nat.le_refl _)))
theorem pgTupSK (K : PySem.W.Frag) {es : List Expr} {k : Nat} {t : TGs} (h : PGs X es t) (hc : X.calm = true := by rfl) (hK : X.K = K := by rfl)
    (hn : (assignEach es X.env).length = 2 := by rfl) (hst : (assignEach es X.env).findIdx? (·.1) = some 1 := by rfl) : PG X (.Tuple es k pos) (gTupS K t) := hK ▸ pg_tupS hc h hn hst
theorem pgs_consS {e : Expr} {p : Pos} {es : List Expr} {t : TG} {u : TGs} (h1 : PG X e t) (h2 : PGs X es u)
    (hs : (assignEach (.Starred e p :: es) X.env).map (·.2) = assign e X.env :: (assignEach es X.env).map (·.2) := by rfl) : PGs X (.Starred e p :: es) (gCons t u) := by
  refine ⟨fun pins s σ H vs us Q I r h => ?_⟩
  obtain ⟨v, vr, e1, h⟩ := h
  subst e1
  cases r with
  | cons r rr =>
    rw [hs]
    refine assignInOrder_cons (thn (h1.run pins s σ H _ _ _ I r h) fun _ s1 ⟨σ1, H1, I1, q1⟩ => ?_)
    exact h2.run pins s1 σ1 H1 _ _ Q I1 rr q1
/-- o.f as a target -/
def gFld (K : PySem.W.Frag) (to : TE) (f : Str) : TG := fun v σ H Q => to σ H fun x H1 => ∃ a C dx fs, x = .ref a ∧ H1 a = some (.ins C dx fs) ∧ Cls K C ∧ NoAttr K C f ∧ fs.length < 1000 ∧ Q σ (upd H1 a (.ins C dx (putF f v fs)))
end
section
variable {X : Cx} {o e : Expr} {f : Str} {pos pos' : Pos} {ta tv : TE}
theorem fldK (K : PySem.W.Frag) (he : PE X e ta) (hb : attributeBase e f X.env (eval e X.env) = eval e X.env) (h : X.K = K := by rfl) : PE X (.Attribute e f pos) (tFld K ta f) := h ▸ pe_fld he hb
theorem fldSK (K : PySem.W.Frag) {value : Expr} (ha : PE X o ta) (hv : PE X value tv) (hs : swapsWith value (some (.Attribute o f pos')) pos.line X.env = pure false) (h : X.K = K := by rfl) : PS X (.Assign [.Attribute o f pos'] value pos) (sFld K ta tv f) := h ▸ ps_fld ha hv hs
theorem starK (K : PySem.W.Frag) {es : List Expr} {t : TA} {p : Pos} {te : TE} (he : PE X e te) (hr : PA X es t) (h : X.K = K := by rfl) (hs : starEach (.Starred e p :: es) X.env = (true, eval e X.env) :: starEach es X.env := by rfl) : PA X (.Starred e p :: es) (StX.tStar K te t) := h ▸ StX.pa_star he hr hs
end
/-! ### methods -/
section
variable {P : Program} {w : World} {K : PySem.W.Frag} {mg : Str → Option Value} {base : Heap}
/-- a method of the class at C -/
structure Mt (P : Program) (w : World) (K : PySem.W.Frag) (mg : Str → Option Value) (base : Heap) (C : Addr) (x : Str) (k : Nat) (ps : List Str) (dvs : List V) (sp : Sp) : Prop where
  cl : Cls K C
  ex : ∃ (f : Addr) (fd : FuncData) (ds : List Value), FnOk P w K mg base CX0 k f fd ps sp ∧ Meth K C x f ∧ Vals dvs ds ∧ Binds K fd ps ds
/-- .. that may raise -/
structure MtX (P : Program) (w : World) (K : PySem.W.Frag) (mg : Str → Option Value) (base : Heap) (C : Addr) (x : Str) (k : Nat) (ps : List Str) (dvs : List V) (sp : Sp) : Prop where
  cl : Cls K C
  ex : ∃ (f : Addr) (fd : FuncData) (ds : List Value), FnOk P w K mg base (L2.CX P w) k f fd ps sp ∧ Meth K C x f ∧ Vals dvs ds ∧ Binds K fd ps ds
/-- making an instance -/
structure Nw (P : Program) (w : World) (K : PySem.W.Frag) (mg : Str → Option Value) (base : Heap) (x : Str) (C : Addr) (k : Nat) (ps : List Str) (sp : Sp) : Prop where
  ex : ∃ (f : Addr) (fd : FuncData), FnOk P w K mg base CX0 k f fd ps sp ∧ Mk K C f ∧ mg x = some (.ref C) ∧ Binds K fd ps []
structure NwX (P : Program) (w : World) (K : PySem.W.Frag) (mg : Str → Option Value) (base : Heap) (x : Str) (C : Addr) (k : Nat) (ps : List Str) (sp : Sp) : Prop where
  ex : ∃ (f : Addr) (fd : FuncData), FnOk P w K mg base (L2.CX P w) k f fd ps sp ∧ Mk K C f ∧ mg x = some (.ref C) ∧ Binds K fd ps []
theorem binds_kw1 {x qual : Str} {st : Stmt} {f D : Addr} {oc : Value} {od an : Option Addr} {osl : Array (Option Value)} {doc pm cdv ct : Value} {kn : Str} {ps : List Str}
    (_l : K.lookup f = some ⟨oc, od, .func (PySem.W.fnOf x qual (defArgs st) (defBody st) (defScope st) .none (.ref D) doc pm an cdv ct), osl⟩) (q : PySem.W.nsIn K D kn = some (some .none))
    (h : ∀ (doc pm : Value) (an : Option Addr) (cdv ct : Value) (u v : Value), KwChain D [(kn, v)] (bindArgs (PySem.W.fnOf x qual (defArgs st) (defBody st) (defScope st) .none (.ref D) doc pm an cdv ct) ⟨[u], []⟩) (ps.zip [u, v])) (hp : ps.length = 2 := by rfl) :
    Binds K (PySem.W.fnOf x qual (defArgs st) (defBody st) (defScope st) .none (.ref D) doc pm an cdv ct) ps [.none] := by
  intro s us X hl
  rw [List.length_append, hp] at hl
  match us, hl with
  | [u], _ =>
    exact BindsTo.of_looks fun M => KwChain.looks X (fun z hz => by
      rw [List.mem_singleton.mp hz]
      exact q) (h doc pm an cdv ct u .none)
  | [], hl => exact absurd hl (by show ¬ (0 + 1 = 2); decide)
  | _ :: _ :: r, hl => exact absurd hl (by simp)
end
section
variable {X : Cx} {k : Nat} {ps : List Str} {dvs : List V} {sp : Sp} {C : Addr} {x : Str} {p pos apos : Pos} {e o : Expr} {es : List Expr} {ta : TE} {t : TA} {W : WX}
theorem pe_mt {pl : Sem Bool} (M : Mt X.prog X.w X.K X.mg X.base C x k ps dvs sp) (hr : Room k X.A) (he : PE X o ta) (ha : PA X (e :: es) t)
    (hst : starEach (e :: es) X.env = (false, eval e X.env) :: starEach es X.env := by rfl) (hpl : (backTo pos (starEach es X.env)).any (·.1) = false := by rfl)
    (ht : eval (.Call (.Attribute o x apos) (e :: es) [] pos) X.env = (do
      let ov ← eval o X.env
      standAt apos.atName
      let (f, first) ← holding [ov] (getMethod ov x pl)
      callWith pos f first (backTo pos (starEach (e :: es) X.env)) (backToKw pos (keywordEach [] X.env))) := by rfl) :
    PE X (.Call (.Attribute o x apos) (e :: es) [] pos) (tMeth C x sp dvs E0 ta t) := by
  obtain ⟨f, fd, ds, F, hm, hv, hb⟩ := M.ex
  exact pe_meth he M.cl hm F hr hb hv pass0 ha hst hpl ht
theorem pe_mt0 {pl : Sem Bool} (M : Mt X.prog X.w X.K X.mg X.base C x k ps dvs sp) (hr : Room k X.A) (he : PE X o ta)
    (ht : eval (.Call (.Attribute o x apos) [] [] pos) X.env = (do
      let ov ← eval o X.env
      standAt apos.atName
      let (f, first) ← holding [ov] (getMethod ov x pl)
      callWith pos f first (backTo pos (starEach [] X.env)) (backToKw pos (keywordEach [] X.env))) := by rfl) :
    PE X (.Call (.Attribute o x apos) [] [] pos) (tMeth C x sp dvs E0 ta tNil) := by
  obtain ⟨f, fd, ds, F, hm, hv, hb⟩ := M.ex
  exact pe_meth0 he M.cl hm F hr hb hv pass0 ht
def tMethS (C : Addr) (m : Str) (sp : Sp) (dvs : List V) (E : L2.St → XK) (ta : TE) (t : TA) : TE := fun σ H Q => ta σ H fun x H1 => ∃ a dx fs, x = .ref a ∧ H1 a = some (.ins C dx fs) ∧ fs.lookup m = none ∧
  t σ H1 fun vs H2 => sp (x :: (vs ++ dvs)) H2 Q (E σ)
theorem pe_mtX {pl : Sem Bool} (M : MtX X.prog X.w X.K X.mg X.base C x k ps dvs sp) (hr : Room k X.A) (tk : Takes X W) (he : PE X o ta) (ha : PA X (e :: es) t)
    (hst : starEach (e :: es) X.env = (false, eval e X.env) :: starEach es X.env := by rfl) (hpl : (backTo pos (starEach es X.env)).any (·.1) = false := by rfl)
    (ht : eval (.Call (.Attribute o x apos) (e :: es) [] pos) X.env = (do
      let ov ← eval o X.env
      standAt apos.atName
      let (f, first) ← holding [ov] (getMethod ov x pl)
      callWith pos f first (backTo pos (starEach (e :: es) X.env)) (backToKw pos (keywordEach [] X.env))) := by rfl) :
    PE X (.Call (.Attribute o x apos) (e :: es) [] pos) (tMethS C x sp dvs (WE W) ta t) := by
  obtain ⟨f, fd, ds, F, hm, hv, hb⟩ := M.ex
  refine ⟨fun pins s σ H Q I h => ?_⟩
  refine PySem.W.methodCall_KW (pl := pl) (thn (he.run pins s σ H _ I h) fun u s1 ⟨x, H1, I1, rx, a, dx, fs, ex, ea, l, q⟩ => ?_) ht
  subst ex
  obtain rfl : u = Value.ref a := rx
  refine getmeth_ok I1 ea M.cl hm l ?_
  refine PySem.W.callWith_K (first := [.ref a]) (h₀ := X.base) I.ok.mod.kin hm.kp (thn (ha.run pos pins s1 σ H1 _ I1 q) fun us s2 ⟨vs, H2, I2, r, q2⟩ => ⟨I2.kIn, ?_⟩) hst hpl
  exact run_fnSD (E := WE W) (us := .ref a :: us) (vs := .ref a :: vs) F hr hb hv (passAt tk σ) I2 (.cons rfl r) q2
theorem pe_mtX0 {pl : Sem Bool} (M : MtX X.prog X.w X.K X.mg X.base C x k ps dvs sp) (hr : Room k X.A) (tk : Takes X W) (he : PE X o ta)
    (ht : eval (.Call (.Attribute o x apos) [] [] pos) X.env = (do
      let ov ← eval o X.env
      standAt apos.atName
      let (f, first) ← holding [ov] (getMethod ov x pl)
      callWith pos f first (backTo pos (starEach [] X.env)) (backToKw pos (keywordEach [] X.env))) := by rfl) :
    PE X (.Call (.Attribute o x apos) [] [] pos) (tMethS C x sp dvs (WE W) ta tNil) := by
  obtain ⟨f, fd, ds, F, hm, hv, hb⟩ := M.ex
  refine ⟨fun pins s σ H Q I h => ?_⟩
  refine PySem.W.methodCall_KW (pl := pl) (thn (he.run pins s σ H _ I h) fun u s1 ⟨x, H1, I1, rx, a, dx, fs, ex, ea, l, q⟩ => ?_) ht
  subst ex
  obtain rfl : u = Value.ref a := rx
  refine getmeth_ok I1 ea M.cl hm l ?_
  exact PySem.W.callWith_K0 (first := [.ref a]) I1.kIn hm.kp (run_fnSD (E := WE W) (us := [.ref a]) (vs := [.ref a]) F hr hb hv (passAt tk σ) I1 (.cons rfl .nil) q)
theorem pe_new (M : Nw X.prog X.w X.K X.mg X.base x C k ps sp) (hr : Room (k + 1) X.A) (hg : Gl X x) (ha : PA X (e :: es) t) (hdb : (x == ("__debug__" : Str)) = false := by decide)
    (he : starEach (e :: es) X.env = (false, eval e X.env) :: starEach es X.env := by rfl) (hpl : (backTo pos (starEach es X.env)).any (·.1) = false := by rfl) :
    PE X (.Call (.Name x p) (e :: es) [] pos) (tMake C sp [] E0 t) := by
  obtain ⟨f, fd, F, hm, hg2, hb⟩ := M.ex
  exact pe_make hm F hr hg hg2 hb .nil pass0 ha hdb he hpl
end
/-! ### len and str of an own instance -/
section
variable {X : Cx} {k : Nat} {ps : List Str} {sp : Sp} {C : Addr}
def rLenO (C : Addr) (sp : Sp) : List V → Hp → VK → Prop := fun xs H Q => ∃ a dx fs, xs = [.ref a] ∧ H a = some (.ins C dx fs) ∧ sp [.ref a] H (fun v H' => ∃ n : Nat, v = .int (n : Int) ∧ n < 1000000 ∧ Q (.int (n : Int)) H') E0
theorem lenO (M : Mt X.prog X.w X.K X.mg X.base C "__len__" k ps [] sp) (hr : Room (k + 1) X.A) : CallR X (.builtin "len") (rLenO C sp) := by
  intro pins s σ H xs us Q I r h
  obtain ⟨a, dx, fs, rfl, ha, h⟩ := h
  obtain ⟨u, rfl, ru⟩ := vals1 r
  cases ru
  obtain ⟨f, fd, ds, F, hm, hv, hb⟩ := M.ex
  cases hv
  obtain ⟨mA, J, _⟩ := ins_get I.hok ha
  obtain ⟨od, J, _⟩ := J.look
  refine Calls.call_function_entry PySem.kind_len PySem.plain_len PySem.entry_len (PySem.args_len1 _) ?_
  unfold Builtin.«len»
  refine wpAny_bind (m := oneArg "len" _) (wpAny_pure ?_)
  refine wpAny_bind (m := callSpecial? (.ref a) (PySem.Str.ofString "__len__")) (PySem.W.special_fn I.kIn J hm.at_ (beq_iff_eq.mp hm.fn) ?_)
  have hl := F.len _ _ _ _ h
  refine wpAny_call (codeAny_mono (F.run _ X.stack s H ⟨[.ref a], []⟩ [.ref a] [.ref a] _ E0 hr.in1 I.env0.in1 (by
    have := hb s [.ref a] I.kIn (by simpa using hl)
    simpa using this) (.cons rfl .nil) h) fun r s' hq => ?_)
  match r, hq with
  | .error e, hq => exact False.elim hq
  | .ok .next, hq => exact False.elim hq
  | .ok .brk, hq => exact False.elim hq
  | .ok .cont, hq => exact False.elim hq
  | .ok (.ret u), hq =>
    obtain ⟨v, H', I', rv, n, rfl, hn, q⟩ := I.after hq
    obtain ⟨t, rfl⟩ := rv
    refine wpAny_bind (wpAny_holding (wpAny_pure ?_))
    refine wpAny_bind (wpAny_letGo ?_)
    show wpAny _ _ (if ((n : Nat) : Int) < 0 then _ else _) _ _ _
    rw [if_neg (by omega)]
    show wpAny _ _ (if ((n : Nat) : Int) ≥ 2 ^ 63 then _ else _) _ _ _
    rw [if_neg (by omega)]
    exact wpAny_bind (wpAny_mkInt (wpAny_pure ⟨_, rfl, .int n, H', I'.tok _, ⟨_, rfl⟩, q⟩))
def rStrO (C : Addr) (sp : Sp) : List V → Hp → VK → Prop := fun xs H Q => ∃ a dx fs, xs = [.ref a] ∧ H a = some (.ins C dx fs) ∧ sp [.ref a] H (fun v H' => ∃ z : Str, v = .str z ∧ Q (.str z) H') E0
theorem strO (M : Mt X.prog X.w X.K X.mg X.base C "__str__" k ps [] sp) (hr : Room (k + 2) X.A) : CallR X (.type "str") (rStrO C sp) := by
  intro pins s σ H xs us Q I r h
  obtain ⟨a, dx, fs, rfl, ha, h⟩ := h
  obtain ⟨u, rfl, ru⟩ := vals1 r
  cases ru
  obtain ⟨f, fd, ds, F, hm, hv, hb⟩ := M.ex
  cases hv
  obtain ⟨mA, J, _⟩ := ins_get I.hok ha
  obtain ⟨od, J, _⟩ := J.look
  have hr2 : Room k X.A.in1.in1 := hr.in1.in1
  have hl := F.len _ _ _ _ h
  refine PySem.W.kso_call hr2.units0 I.kIn J hm.at_ hm.fn ?_
  refine wpAny_call (codeAny_mono (F.run _ X.stack s H ⟨[.ref a], []⟩ [.ref a] [.ref a] _ E0 hr2 I.env0.in1.in1 (by
    have := hb s [.ref a] I.kIn (by simpa using hl)
    simpa using this) (.cons rfl .nil) h) fun r s' hq => ?_)
  match r, hq with
  | .error e, hq => exact False.elim hq
  | .ok .next, hq => exact False.elim hq
  | .ok .brk, hq => exact False.elim hq
  | .ok .cont, hq => exact False.elim hq
  | .ok (.ret u), hq =>
    obtain ⟨v, H', I', rv, z, rfl, q⟩ := I.after hq
    obtain ⟨t, rfl⟩ := rv
    exact ⟨.str z, H', I', ⟨_, rfl⟩, q⟩
end
/-! ### a local name that holds one of several defs, called with a star -/
section
variable {X : Cx} {k i : Nat} {x : Str} {p pos : Pos} {e : Expr} {es : List Expr} {t : TA} {W : WX}
structure HeldR (P : Program) (w : World) (K : PySem.W.Frag) (mg : Str → Option Value) (base : Heap) (CX : CXT) (k : Nat) (f : Addr) (sp : Sp) : Prop where
  fn : FnR P w K mg base CX k f sp
  kp : PySem.W.keepIn K (.ref f) = true
def tCallAS (i : Nat) (S : Addr → Sp → Prop) (E : L2.St → XK) (t : TA) : TE := fun σ H Q => ∃ f sp, σ[i]? = some (some (.ref f)) ∧ S f sp ∧ t σ H fun vs H1 => sp vs H1 Q (E σ)
theorem pe_callAS {S : Addr → Sp → Prop} {CX : CXT} {E : L2.St → XK} (A : ∀ f sp, S f sp → HeldR X.prog X.w X.K X.mg X.base CX k f sp) (hr : Room k X.A) (hN : X.N[i]? = some x) (hv : Vis X.env.scope x) (hx : ∀ σ, PassesAt CX X σ (E σ)) (ha : PA X (e :: es) t)
    (hdb : (x == ("__debug__" : Str)) = false := by decide) (hcd : (x == ("__classdict__" : Str)) = false := by decide)
    (he : starEach (e :: es) X.env = (false, eval e X.env) :: starEach es X.env := by rfl) (hst : (backTo pos (starEach es X.env)).any (·.1) = true := by rfl) : PE X (.Call (.Name x p) (e :: es) [] pos) (tCallAS i S E t) := by
  refine ⟨fun pins s σ H Q I h => ?_⟩
  obtain ⟨f, sp, hs, hS, ht⟩ := h
  have HF := A f sp hS
  refine wpAny_Call_Name_kw (thn ((pe_var (pos := p) hN hv hdb hcd).run pins s σ H (fun v H1 => v = .ref f ∧ H1 = H) I ⟨.ref f, hs, rfl, rfl⟩) fun u s1 ⟨v, H1, I1, r1, q1⟩ => ?_)
  obtain ⟨rfl, rfl⟩ := q1
  cases r1
  refine PySem.W.callWith_S2 (h₀ := X.base) I.ok.mod.kin HF.kp (thn (ha.run pos pins s1 σ _ _ I1 ht) fun us s2 ⟨vs, H2, I2, r, q⟩ => ⟨I2.kIn, ?_⟩) he hst
  refine wpAny_call (codeAny_mono (HF.fn X.A X.stack s2 H2 us vs Q (E σ) hr I2.env0 r q) fun r s' hq => ?_)
  cases r with
  | error e => exact hx σ pins H2 s2 e s' I2 hq
  | ok fl =>
    cases fl with
    | ret u => exact I2.after hq
    | next => exact False.elim hq
    | brk => exact False.elim hq
    | cont => exact False.elim hq
theorem pass0At {σ : L2.St} : PassesAt CX0 X σ (E0) := fun _ _ _ _ _ _ z => z.elim
theorem kdK (K : PySem.W.Frag) (w : World) (h : X.K = K := by rfl) (h2 : X.w = w := by rfl) : IxR X (rIxD K w) := by
  subst h h2
  exact ix_kdict
end
end TL
namespace TL
open PySem PySem.Spec PyProof.Rows L2
/-! ### methods called with keywords -/
def gK {α : Type} (n m : Nat) (us ws : List α) : List α := if us.length = n ∧ ws.length = m then us ++ ws else []
theorem gK_eq {α : Type} {n m : Nat} {us ws : List α} (h1 : us.length = n) (h2 : ws.length = m) : gK n m us ws = us ++ ws := if_pos ⟨h1, h2⟩
theorem gK_rel {n m : Nat} {vs : List V} {us : List Value} {zs : List V} {ws : List Value} (r : Vals vs us) (rz : Vals zs ws) : Vals (gK n m vs zs) (gK n m us ws) := by
  unfold gK
  rw [r.length, rz.length]
  by_cases h : us.length = n ∧ ws.length = m
  · rw [if_pos h, if_pos h]
    exact Vals.append r rz
  · rw [if_neg h, if_neg h]
    exact .nil
section
variable {K : PySem.W.Frag}
theorem kbinds_kw1 {x qual : Str} {st : Stmt} {f D : Addr} {oc : Value} {od an : Option Addr} {osl : Array (Option Value)} {doc pm cdv ct : Value} {kn : Str} {ps : List Str}
    (_l : K.lookup f = some ⟨oc, od, .func (PySem.W.fnOf x qual (defArgs st) (defBody st) (defScope st) .none (.ref D) doc pm an cdv ct), osl⟩)
    (h : ∀ (doc pm : Value) (an : Option Addr) (cdv ct : Value) (u v : Value), bindArgs (PySem.W.fnOf x qual (defArgs st) (defBody st) (defScope st) .none (.ref D) doc pm an cdv ct) ⟨[u], [(kn, v)]⟩ = pure (ps.zip [u, v])) (hp : ps.length = 2 := by rfl) :
    KBinds K (PySem.W.fnOf x qual (defArgs st) (defBody st) (defScope st) .none (.ref D) doc pm an cdv ct) ps [kn] (gK 1 1) (gK 1 1) := by
  refine ⟨fun s us ws X hl => ?_, gK_rel⟩
  unfold gK at hl ⊢
  by_cases c : us.length = 1 ∧ ws.length = 1
  · rw [if_pos c] at hl ⊢
    match us, ws, c with
    | [u], [v], _ => exact BindsTo.of_eq (h doc pm an cdv ct u v)
  · rw [if_neg c, hp] at hl
    exact absurd hl (by decide)
theorem kbinds_kw2 {x qual : Str} {st : Stmt} {f D : Addr} {oc : Value} {od an : Option Addr} {osl : Array (Option Value)} {doc pm cdv ct : Value} {kn : Str} {ps : List Str}
    (_l : K.lookup f = some ⟨oc, od, .func (PySem.W.fnOf x qual (defArgs st) (defBody st) (defScope st) .none (.ref D) doc pm an cdv ct), osl⟩)
    (h : ∀ (doc pm : Value) (an : Option Addr) (cdv ct : Value) (u t v : Value), bindArgs (PySem.W.fnOf x qual (defArgs st) (defBody st) (defScope st) .none (.ref D) doc pm an cdv ct) ⟨[u, t], [(kn, v)]⟩ = pure (ps.zip [u, t, v])) (hp : ps.length = 3 := by rfl) :
    KBinds K (PySem.W.fnOf x qual (defArgs st) (defBody st) (defScope st) .none (.ref D) doc pm an cdv ct) ps [kn] (gK 2 1) (gK 2 1) := by
  refine ⟨fun s us ws X hl => ?_, gK_rel⟩
  unfold gK at hl ⊢
  by_cases c : us.length = 2 ∧ ws.length = 1
  · rw [if_pos c] at hl ⊢
    match us, ws, c with
    | [u, t], [v], _ => exact BindsTo.of_eq (h doc pm an cdv ct u t v)
  · rw [if_neg c, hp] at hl
    exact absurd hl (by decide)
end
section
variable {P : Program} {w : World} {K : PySem.W.Frag} {mg : Str → Option Value} {base : Heap}
structure MtK (P : Program) (w : World) (K : PySem.W.Frag) (mg : Str → Option Value) (base : Heap) (C : Addr) (x : Str) (k : Nat) (ps ks : List Str) (n m : Nat) (sp : Sp) : Prop where
  cl : Cls K C
  ex : ∃ (f : Addr) (fd : FuncData), FnOk P w K mg base CX0 k f fd ps sp ∧ Meth K C x f ∧ KBinds K fd ps ks (gK n m) (gK n m)
structure MtXK (P : Program) (w : World) (K : PySem.W.Frag) (mg : Str → Option Value) (base : Heap) (C : Addr) (x : Str) (k : Nat) (ps ks : List Str) (n m : Nat) (sp : Sp) : Prop where
  cl : Cls K C
  ex : ∃ (f : Addr) (fd : FuncData), FnOk P w K mg base (L2.CX P w) k f fd ps sp ∧ Meth K C x f ∧ KBinds K fd ps ks (gK n m) (gK n m)
end
section
variable {X : Cx} {k n m : Nat} {ps ks : List Str} {sp : Sp} {C : Addr} {x : Str} {pos apos : Pos} {e o : Expr} {es : List Expr} {kws : List Keyword} {ta : TE} {t tk : TA} {W : WX}
def tMethK (C : Addr) (m : Str) (sp : Sp) (nk : Nat) (E : L2.St → XK) (ta : TE) (tk : TA) : TE := fun σ H Q => ta σ H fun x H1 => ∃ a dx fs, x = .ref a ∧ H1 a = some (.ins C dx fs) ∧ fs.lookup m = none ∧
  tk σ H1 fun zs H2 => zs.length = nk ∧ sp (x :: zs) H2 Q (E σ)
def tMethAK (C : Addr) (m : Str) (sp : Sp) (np nk : Nat) (E : L2.St → XK) (ta : TE) (t tk : TA) : TE := fun σ H Q => ta σ H fun x H1 => ∃ a dx fs, x = .ref a ∧ H1 a = some (.ins C dx fs) ∧ fs.lookup m = none ∧
  t σ H1 fun vs H2 => tk σ H2 fun zs H3 => vs.length = np ∧ zs.length = nk ∧ sp (x :: (vs ++ zs)) H3 Q (E σ)
/-- o.x(k = v, ..) -/
theorem pe_mtk {pl : Sem Bool} (M : MtK X.prog X.w X.K X.mg X.base C x k ps ks 1 m sp) (hr : Room k X.A) (he : PE X o ta) (hkw : PK X kws tk)
    (hall : (backToKw pos (keywordEach kws X.env)).all (·.1.isSome) = true := by rfl) (hks : (backToKw pos (keywordEach kws X.env)).filterMap (·.1) = ks := by rfl)
    (hpl : ((backTo pos (starEach [] X.env)).any (·.1) || (backToKw pos (keywordEach kws X.env)).any (·.1.isNone)) = false := by rfl)
    (ht : eval (.Call (.Attribute o x apos) [] kws pos) X.env = (do
      let ov ← eval o X.env
      standAt apos.atName
      let (f, first) ← holding [ov] (getMethod ov x pl)
      callWith pos f first (backTo pos (starEach [] X.env)) (backToKw pos (keywordEach kws X.env))) := by rfl) :
    PE X (.Call (.Attribute o x apos) [] kws pos) (tMethK C x sp m (fun _ => E0) ta tk) := by
  obtain ⟨f, fd, F, hm, hb⟩ := M.ex
  refine ⟨fun pins s σ H Q I h => ?_⟩
  refine PySem.W.methodCall_KW (pl := pl) (thn (he.run pins s σ H _ I h) fun u s1 ⟨x, H1, I1, rx, a, dx, fs, ex, ea, l, q⟩ => ?_) ht
  subst ex
  obtain rfl : u = Value.ref a := rx
  refine getmeth_ok I1 ea M.cl hm l ?_
  refine PySem.W.callWith_KW0 (first := [.ref a]) (h₀ := X.base) I.ok.mod.kin hm.kp hall (thn (hkw.run pos pins s1 σ H1 _ I1 q) fun ws s2 ⟨zs, H2, I2, rz, hz, q2⟩ => ⟨I2.kIn, ?_⟩) hpl
  rw [hks]
  refine run_fnk (us := [.ref a]) (vs := [.ref a]) F hr hb pass0 I2 (.cons rfl .nil) rz ?_
  rw [gK_eq (us := [V.ref a]) (n := 1) rfl hz]
  exact q2
/-- o.x(e, .., k = v, ..) -/
theorem pe_mtak {pl : Sem Bool} (M : MtK X.prog X.w X.K X.mg X.base C x k ps ks (n + 1) m sp) (hr : Room k X.A) (he : PE X o ta) (ha : PA X (e :: es) t) (hkw : PK X kws tk)
    (hall : (backToKw pos (keywordEach kws X.env)).all (·.1.isSome) = true := by rfl) (hks : (backToKw pos (keywordEach kws X.env)).filterMap (·.1) = ks := by rfl)
    (hst : starEach (e :: es) X.env = (false, eval e X.env) :: starEach es X.env := by rfl)
    (hpl : ((backTo pos (starEach (e :: es) X.env)).any (·.1) || (backToKw pos (keywordEach kws X.env)).any (·.1.isNone)) = false := by rfl)
    (ht : eval (.Call (.Attribute o x apos) (e :: es) kws pos) X.env = (do
      let ov ← eval o X.env
      standAt apos.atName
      let (f, first) ← holding [ov] (getMethod ov x pl)
      callWith pos f first (backTo pos (starEach (e :: es) X.env)) (backToKw pos (keywordEach kws X.env))) := by rfl) :
    PE X (.Call (.Attribute o x apos) (e :: es) kws pos) (tMethAK C x sp n m (fun _ => E0) ta t tk) := by
  obtain ⟨f, fd, F, hm, hb⟩ := M.ex
  refine ⟨fun pins s σ H Q I h => ?_⟩
  refine PySem.W.methodCall_KW (pl := pl) (thn (he.run pins s σ H _ I h) fun u s1 ⟨x, H1, I1, rx, a, dx, fs, ex, ea, l, q⟩ => ?_) ht
  subst ex
  obtain rfl : u = Value.ref a := rx
  refine getmeth_ok I1 ea M.cl hm l ?_
  refine PySem.W.callWith_KW (first := [.ref a]) (h₀ := X.base) I.ok.mod.kin hm.kp hall (thn (ha.run pos pins s1 σ H1 _ I1 q) fun us s2 ⟨vs, H2, I2, r, q2⟩ => ?_) hpl hst
  refine thn (hkw.run pos pins s2 σ H2 _ I2 q2) fun ws s3 ⟨zs, H3, I3, rz, hv, hz, q3⟩ => ⟨I3.kIn, ?_⟩
  rw [hks]
  refine run_fnk (us := .ref a :: us) (vs := .ref a :: vs) F hr hb pass0 I3 (.cons rfl r) rz ?_
  rw [gK_eq (by rw [List.length_cons, hv]) hz]
  exact q3
theorem run_fnkA {CX : CXT} {E : XK} {g : List Value → List Value → List Value} {gV : List V → List V → List V} {f : Addr} {fd : FuncData} {pins : List (Addr × Obj)} {σ : L2.St} {H : Hp} {s : Shared} {Q : VK} {us ws : List Value} {vs zs : List V} (F : FnOk X.prog X.w X.K X.mg X.base CX k f fd ps sp) (hr : Room k X.A) (hb : KBinds X.K fd ps ks g gV) (hx : PassesAt CX X σ E)
    (I : Inv X pins σ H s) (r : Vals vs us) (rz : Vals zs ws) (h : sp (gV vs zs) H Q E) : wpAny (model X.prog X.w) X.A (call (.ref f) us (ks.zip ws)) (EP X pins σ Q) X.xe s := by
  have r2 := hb.rel r rz
  have hl : (g us ws).length = ps.length := by rw [← r2.length]; exact F.len _ _ _ _ h
  refine wpAny_call (codeAny_mono (F.run X.A X.stack s H ⟨us, ks.zip ws⟩ (g us ws) (gV vs zs) Q E hr I.env0 (hb.to s us ws I.kIn hl) r2 h) fun r s' hq => ?_)
  cases r with
  | error e => exact hx pins H s e s' I hq
  | ok fl =>
    cases fl with
    | ret u => exact I.after hq
    | next => exact False.elim hq
    | brk => exact False.elim hq
    | cont => exact False.elim hq
theorem pe_mtXk {pl : Sem Bool} (M : MtXK X.prog X.w X.K X.mg X.base C x k ps ks 1 m sp) (hr : Room k X.A) (tq : Takes X W) (he : PE X o ta) (hkw : PK X kws tk)
    (hall : (backToKw pos (keywordEach kws X.env)).all (·.1.isSome) = true := by rfl) (hks : (backToKw pos (keywordEach kws X.env)).filterMap (·.1) = ks := by rfl)
    (hpl : ((backTo pos (starEach [] X.env)).any (·.1) || (backToKw pos (keywordEach kws X.env)).any (·.1.isNone)) = false := by rfl)
    (ht : eval (.Call (.Attribute o x apos) [] kws pos) X.env = (do
      let ov ← eval o X.env
      standAt apos.atName
      let (f, first) ← holding [ov] (getMethod ov x pl)
      callWith pos f first (backTo pos (starEach [] X.env)) (backToKw pos (keywordEach kws X.env))) := by rfl) :
    PE X (.Call (.Attribute o x apos) [] kws pos) (tMethK C x sp m (WE W) ta tk) := by
  obtain ⟨f, fd, F, hm, hb⟩ := M.ex
  refine ⟨fun pins s σ H Q I h => ?_⟩
  refine PySem.W.methodCall_KW (pl := pl) (thn (he.run pins s σ H _ I h) fun u s1 ⟨x, H1, I1, rx, a, dx, fs, ex, ea, l, q⟩ => ?_) ht
  subst ex
  obtain rfl : u = Value.ref a := rx
  refine getmeth_ok I1 ea M.cl hm l ?_
  refine PySem.W.callWith_KW0 (first := [.ref a]) (h₀ := X.base) I.ok.mod.kin hm.kp hall (thn (hkw.run pos pins s1 σ H1 _ I1 q) fun ws s2 ⟨zs, H2, I2, rz, hz, q2⟩ => ⟨I2.kIn, ?_⟩) hpl
  rw [hks]
  refine run_fnkA (E := WE W σ) (us := [.ref a]) (vs := [.ref a]) F hr hb (passAt tq σ) I2 (.cons rfl .nil) rz ?_
  rw [gK_eq (us := [V.ref a]) (n := 1) rfl hz]
  exact q2
theorem pe_mtXak {pl : Sem Bool} (M : MtXK X.prog X.w X.K X.mg X.base C x k ps ks (n + 1) m sp) (hr : Room k X.A) (tq : Takes X W) (he : PE X o ta) (ha : PA X (e :: es) t) (hkw : PK X kws tk)
    (hall : (backToKw pos (keywordEach kws X.env)).all (·.1.isSome) = true := by rfl) (hks : (backToKw pos (keywordEach kws X.env)).filterMap (·.1) = ks := by rfl)
    (hst : starEach (e :: es) X.env = (false, eval e X.env) :: starEach es X.env := by rfl)
    (hpl : ((backTo pos (starEach (e :: es) X.env)).any (·.1) || (backToKw pos (keywordEach kws X.env)).any (·.1.isNone)) = false := by rfl)
    (ht : eval (.Call (.Attribute o x apos) (e :: es) kws pos) X.env = (do
      let ov ← eval o X.env
      standAt apos.atName
      let (f, first) ← holding [ov] (getMethod ov x pl)
      callWith pos f first (backTo pos (starEach (e :: es) X.env)) (backToKw pos (keywordEach kws X.env))) := by rfl) :
    PE X (.Call (.Attribute o x apos) (e :: es) kws pos) (tMethAK C x sp n m (WE W) ta t tk) := by
  obtain ⟨f, fd, F, hm, hb⟩ := M.ex
  refine ⟨fun pins s σ H Q I h => ?_⟩
  refine PySem.W.methodCall_KW (pl := pl) (thn (he.run pins s σ H _ I h) fun u s1 ⟨x, H1, I1, rx, a, dx, fs, ex, ea, l, q⟩ => ?_) ht
  subst ex
  obtain rfl : u = Value.ref a := rx
  refine getmeth_ok I1 ea M.cl hm l ?_
  refine PySem.W.callWith_KW (first := [.ref a]) (h₀ := X.base) I.ok.mod.kin hm.kp hall (thn (ha.run pos pins s1 σ H1 _ I1 q) fun us s2 ⟨vs, H2, I2, r, q2⟩ => ?_) hpl hst
  refine thn (hkw.run pos pins s2 σ H2 _ I2 q2) fun ws s3 ⟨zs, H3, I3, rz, hv, hz, q3⟩ => ⟨I3.kIn, ?_⟩
  rw [hks]
  refine run_fnkA (E := WE W σ) (us := .ref a :: us) (vs := .ref a :: vs) F hr hb (passAt tq σ) I3 (.cons rfl r) rz ?_
  rw [gK_eq (by rw [List.length_cons, hv]) hz]
  exact q3
end
end TL
namespace TL
open PySem PySem.Spec PyProof.Rows L2
/-! ### the head by one run in the kernel, its facts by names -/
abbrev AlZ : Type := Bool × (List He.FnW × List (Option (List (Option (Str × Int)))))
section
variable {ex : List (PySem.W.Frag → Bool)} {fn : List He.DefD} {ts : List He.Tab} {w : World} {K : PySem.W.Frag}
def obsZ (ex : List (PySem.W.Frag → Bool)) (fn : List He.DefD) (ts : List He.Tab) (K : PySem.W.Frag) : AlZ :=
  ((ex.all fun f => f K) && fn.all fun d => d.ok K, fn.map fun d => He.fnW K d.at_, ts.map fun t => He.dicW K (t.1 K))
def valZ (fn : List He.DefD) (ts : List He.Tab) (w : World) : AlZ := (true, fn.map He.DefD.val, ts.map fun t => some (He.keysIn w.params t.2))
def SaysZ (ex : List (PySem.W.Frag → Bool)) (fn : List He.DefD) (ts : List He.Tab) (w : World) (K : PySem.W.Frag) : Prop := obsZ ex fn ts K = valZ fn ts w
def obsZG (n : Nat) (ex : List (PySem.W.Frag → Bool)) (fn : List He.DefD) (ts : List He.Tab) (g : Addr → Option Obj) : AlZ := obsZ ex fn ts (He.frG g (He.asD g n))
def hookZ (n : Nat) (ex : List (PySem.W.Frag → Bool)) (fn : List He.DefD) (ts : List He.Tab) : PySem.W.Hook where
  α := AlZ
  obs := fun s => obsZG n ex fn ts s.heap.get?
  val := fun w => valZ fn ts w
  says := fun w h => ∃ K : PySem.W.Frag, K.In h ∧ SaysZ ex fn ts w K
  of := fun _ _ e => ⟨_, He.frG_in, e⟩
  keeps := fun _ _ _ ⟨K, hK, c⟩ k => ⟨K, PySem.W.Frag.In.keeps hK k, c⟩
theorem obsZG_eq {n : Nat} {g : Addr → Option Obj} {s : Shared} (h : ∀ a, g a = s.heap.get? a) : obsZG n ex fn ts g = (hookZ n ex fn ts).obs s := by
  have e : g = s.heap.get? := funext h
  rw [e] <;> rfl
theorem SaysZ.tst (c : SaysZ ex fn ts w K) (i : Nat) {f : PySem.W.Frag → Bool} (h : ex[i]? = some f := by rfl) : f K = true := by
  have c1 := (He.ba (show ((ex.all fun f => f K) && fn.all fun d => d.ok K) = true from congrArg (fun z : AlZ => z.1) c)).1
  exact List.all_eq_true.mp c1 f (List.mem_of_getElem? h)
theorem SaysZ.dfn (c : SaysZ ex fn ts w K) (i : Nat) {p : Str × Option Str} {nm qual : Str} {pa : Arguments} {bo : List Stmt} {sc : Scope} {kw : List (Str × He.Dv)} (h : fn[i]? = some ⟨p, nm, qual, pa, bo, sc, [], kw⟩ := by rfl) :
    ∃ (oc : Value) (od : Option Addr) (kV dc pm : Value) (an : Option Addr) (cd ct : Value) (sl : Array (Option Value)), K.lookup (He.fAd K p) = some ⟨oc, od, .func (PySem.W.fnOf nm qual pa bo sc .none kV dc pm an cd ct), sl⟩ ∧
      PySem.W.codeIn K cd qual = true ∧ PySem.W.keepIn K (.ref (He.fAd K p)) = true ∧ KwdV K kV (kw.map fun q => (q.1, q.2.v K)) := by
  have c2 := (He.ba (show ((ex.all fun f => f K) && fn.all fun d => d.ok K) = true from congrArg (fun z : AlZ => z.1) c)).2
  have e : fn.map (fun d => He.fnW K d.at_) = fn.map He.DefD.val := congrArg (fun z : AlZ => z.2.1) c
  have e2 : (fn.map fun d => He.fnW K d.at_)[i]? = (fn.map He.DefD.val)[i]? := by rw [e]
  rw [List.getElem?_map, List.getElem?_map, h] at e2
  obtain ⟨fd, ⟨oc, od, dV, kV, dc, pm, an, cd, ct, sl, rfl, l, cc, dv, kv⟩, kp⟩ := He.DefD.funD (Option.some.inj e2) (List.all_eq_true.mp c2 _ (List.mem_of_getElem? h))
  have dn : dV = .none := by
    rcases dv with ⟨_, z⟩ | ⟨z, _⟩
    · exact z
    · exact absurd rfl z
  subst dn
  exact ⟨oc, od, kV, dc, pm, an, cd, ct, sl, l, cc, kp, kv⟩
theorem kw_one {kV : Value} {kn : Str} (h : KwdV K kV ([(kn, He.Dv.non)].map fun q => (q.1, q.2.v K))) : ∃ D : Addr, kV = .ref D ∧ PySem.W.nsIn K D kn = some (some .none) := by
  rcases h with h | ⟨D, e, h⟩
  · cases h
  · obtain ⟨u, h1, h2⟩ := h _ List.mem_cons_self
    refine ⟨D, e, ?_⟩
    rw [h1]
    have h3 : u = Value.none := h2
    rw [h3]
theorem SaysZ.tab (c : SaysZ ex fn ts w K) (i : Nat) {a : PySem.W.Frag → Addr} {ks : List Str} (h : ts[i]? = some (a, ks) := by rfl) : ∃ (es : Array DictEntry) (n : Nat), K.lookup (a K) = some ⟨.type "dict", none, .dict es n, #[]⟩ ∧ PySem.W.KeysLit w.params es.toList := by
  have e : ts.map (fun t => He.dicW K (t.1 K)) = ts.map fun t => some (He.keysIn w.params t.2) := congrArg (fun z : AlZ => z.2.2) c
  have e2 : (ts.map fun t => He.dicW K (t.1 K))[i]? = (ts.map fun t => some (He.keysIn w.params t.2))[i]? := by rw [e]
  rw [List.getElem?_map, List.getElem?_map, h] at e2
  obtain ⟨es, n, q⟩ := He.dicW_ok (Option.some.inj e2)
  exact ⟨es, n, q.1, q.2⟩
theorem glo_get {x : Str} (h : (He.Fa.glo x).ok K = true) : PySem.W.nsIn K mainGlobals x = some (some (.ref (He.fAd K (x, none)))) := He.eqO_ok h
theorem cls_get {x : Str} (h : (He.Fa.cls x).ok K = true) : PySem.W.plainGet K (He.ga K x) Str.empty = true ∧ PySem.W.hasDictIn K (He.ga K x) = true ∧ PySem.W.plainOver K (He.ga K x) = true ∧ PySem.W.findIn K (.ref (He.ga K x)) "__setattr__" = some (some (.builtin "object.__setattr__")) := by
  obtain ⟨c1, c⟩ := He.ba h
  obtain ⟨c2, c⟩ := He.ba c
  obtain ⟨c3, c4⟩ := He.ba c
  exact ⟨c1, c2, c3, He.eqO_ok c4⟩
theorem mkr_get {x : Str} (h : (He.Fa.mkr x).ok K = true) : PySem.W.makesIn K (He.ga K x) = true ∧ PySem.W.keepIn K (.ref (He.ga K x)) = true := by
  obtain ⟨c1, c⟩ := He.ba h
  obtain ⟨c2, c⟩ := He.ba c
  obtain ⟨c3, c4⟩ := He.ba c
  exact ⟨c1, c4⟩
theorem met_get {x m : Str} (h : (He.Fa.meth x m).ok K = true) : PySem.W.findIn K (.ref (He.ga K x)) m = some (some (.ref (He.fAd K (x, some m)))) ∧ PySem.W.isFn K (.ref (He.fAd K (x, some m))) = true := by
  obtain ⟨c1, c⟩ := He.ba h
  obtain ⟨c2, c3⟩ := He.ba c
  exact ⟨He.eqO_ok c1, c2⟩
theorem int_get {x : Str} {i : Int} (h : (He.Fa.int x i).ok K = true) : ∃ t, PySem.W.nsIn K mainGlobals x = some (some (.int i t)) := by
  have c2 : (match PySem.W.nsIn K mainGlobals x with
    | some (some (.int j _)) => decide (j = i)
    | _ => false) = true := h
  cases e : PySem.W.nsIn K mainGlobals x with
  | none =>
    rw [e] at c2
    cases c2
  | some o =>
    rw [e] at c2
    cases o with
    | none => cases c2
    | some v =>
      cases v with
      | int j t =>
        have ej : j = i := of_decide_eq_true c2
        rw [ej]
        exact ⟨t, rfl⟩
      | _ => cases c2
theorem str_get {x y : Str} (h : (He.Fa.str x y).ok K = true) : ∃ t, PySem.W.nsIn K mainGlobals x = some (some (.str y t)) := by
  have c2 : (match PySem.W.nsIn K mainGlobals x with
    | some (some (.str z _)) => decide (z = y)
    | _ => false) = true := h
  cases e : PySem.W.nsIn K mainGlobals x with
  | none =>
    rw [e] at c2
    cases c2
  | some o =>
    rw [e] at c2
    cases o with
    | none => cases c2
    | some v =>
      cases v with
      | str j t =>
        have ej : j = y := of_decide_eq_true c2
        rw [ej]
        exact ⟨t, rfl⟩
      | _ => cases c2
end
theorem walk_ofGE {l : PySem.W.OpenLaw} {n k : Nat} {q : Program} {loose : List Str} {XP : (Str → Option Value) → Heap → Prop} {YP : World → Heap → Prop} {d : DefRec} {x : Str}
    (hn : l.most = some n) (hn2 : n ≤ sizeLine) (hdf : d.params.defaults = []) (hr : Room k callerA)
    (F : ∀ (w : World) (mg : Str → Option Value) (fa : Addr) (h : Heap), YP w h → h.Ns mainGlobals mg → mg d.name = some (.ref fa) →
      ∃ (K : PySem.W.Frag) (fd : FuncData) (sp : Sp), K.In h ∧ (∀ (s : Shared) (u : Value), BindsTo s fd ⟨[u], []⟩ [(x, u)]) ∧
        (∀ (H : Hp) (a : Addr) (ns : List Int), ns.length ≤ n → Only H → SqL K H a (ns.map V.int) → sp [.ref a] H (fun v _ => v = .bl true) E0) ∧
        ∀ base : Heap, K.In base → base.Ns mainGlobals mg → FnG l.prog w K mg base k fa fd [x] sp) :
    PySem.W.WalkO q loose XP YP l.row.toRowW d [] (fun f vs => PySem.call f vs) := by
  refine Att.attach_call hn hdf fun w s₀ s₁ mg mb fa o pm cd doc a vs ns G Y ho hd hcd hmg hobj hints hlen hg => ?_
  obtain ⟨K, fd, sp, KX, hb, hsp, hF⟩ := F w mg fa _ Y G.T.g hmg
  exact law_callG KX G.T.g G.T.b G.T.builtins G.T.nolimit hg hobj hints (Nat.le_trans hlen hn2) hr hF hb fun H hO hS => hsp H a ns hlen hO hS
end TL
namespace TL
open PySem PySem.Spec PyProof.Rows L2
/-! ### a suite that the calls at hand never reach; try .. finally that raises nothing -/
theorem ps_dead {X : Cx} {st : Stmt} : PS X st (fun _ _ _ => False) := ⟨fun _ _ _ _ _ _ h => h.elim⟩
theorem pe_dead {X : Cx} {e : Expr} : PE X e (fun _ _ _ => False) := ⟨fun _ _ _ _ _ _ h => h.elim⟩
def tFinN (tb tf : TS) : TS := fun D σ H => tb { nx := fun σ1 H1 => tf D σ1 H1, rt := fun _ _ => False } σ H
theorem ps_finN {X : Cx} {body : List Stmt} {f₀ : Stmt} {fs : List Stmt} {pos : Pos} {tb tf : TS} (hb : PSs X.nox body tb) (hf : PSs X.nox (f₀ :: fs) tf) : PS X (.Try body [] [] (f₀ :: fs) pos) (tFinN tb tf) := by
  refine ⟨fun pins s σ H D I h => ?_⟩
  refine wpAny_Try_finally (wpAny_mono (hb.run pins s σ H { nx := fun σ1 H1 => tf D σ1 H1, rt := fun _ _ => False } (I.wish _) h) (fun g s1 z => ?_) fun _ _ z => False.elim z)
  have z := z.unwish
  cases g with
  | ret u =>
    obtain ⟨_, _, _, _, _, q⟩ := z
    exact False.elim q
  | brk =>
    obtain ⟨_, _, _, q⟩ := z
    exact False.elim q
  | cont =>
    obtain ⟨_, _, _, q⟩ := z
    exact False.elim q
  | next =>
    obtain ⟨σ1, H1, J1, q1⟩ := z
    refine wpAny_execs_nil ?_
    refine wpAny_mono (hf.run pins s1 σ1 H1 D (J1.wish _) q1) (fun g2 s2 q2 => ?_) fun _ _ e => False.elim e
    have q3 : SP X pins D g2 s2 := q2.unwish
    cases g2 <;> exact q3
/-! ### a written dict's get -/
def KDw (K : PySem.W.Frag) (w : World) (a : Addr) : Prop := (a == sysModules) = false ∧ ∃ es n, K.lookup a = some ⟨.type "dict", none, .dict es n, #[]⟩ ∧ PySem.W.KeysLit w.params es.toList
def KNow (K : PySem.W.Frag) (a : Addr) (x : Str) : Prop := PySem.W.nsIn K a x = some none
def tKGet (K : PySem.W.Frag) (w : World) (td ty : TE) : TE := fun σ H Q => td σ H fun x H1 => ∃ p, x = .ref p ∧ KDw K w p ∧ ty σ H1 fun y H2 => ∃ z, y = .str z ∧ ((∃ v, KDct K w p z v ∧ Q v H2) ∨ (KNow K p z ∧ Q .non H2))
theorem pe_kget {X : Cx} {o e : Expr} {apos cpos : Pos} {td ty : TE} (K : PySem.W.Frag) (w : World) (ho : PE X o td) (he : PE X e ty) (m : M1 X o "get" apos e cpos) (h : X.K = K := by rfl) (h2 : X.w = w := by rfl) : PE X (.Call (.Attribute o "get" apos) [e] [] cpos) (tKGet K w td ty) := by
  subst h h2
  refine ⟨fun pins s σ H Q I h => ?_⟩
  refine wpAny_Call_method m.base m.few m.line PySem.F.plainAttrs_dict PySem.F.slot_dict_get PySem.F.type_dict_get (thn (ho.run pins s σ H _ I h) fun u s1 ⟨x, H1, I1, rx, a, ex, ⟨low, es, n, hl, hk⟩, q1⟩ => ?_)
  subst ex
  obtain rfl : u = Value.ref a := rx
  have hm := PySem.W.mapOf_K (prog := X.prog) (w := X.w) I1.kIn hl hk
  refine ⟨hm.typeIs, fun b q => ?_, ?_⟩
  · cases q
    exact ⟨_, I1.kIn _ _ hl, rfl⟩
  rw [m.trees]
  refine Calls.callWith_builtin rfl (Calls.evalArgs_plain (Calls.spliced_cons (thn (he.run pins s1 σ H1 _ I1 q1) fun iv s2 ⟨y, H2, I2, ry, z, ey, q2⟩ => Calls.spliced_nil ?_)))
  subst ey
  obtain ⟨t, rfl⟩ := (show ∃ t, iv = Value.str z t from ry)
  have hm2 := PySem.W.mapOf_K (prog := X.prog) (w := X.w) I2.kIn hl hk
  refine call_meetsIn PySem.F.slot_dict_get hm2.typeIs PySem.F.entry_dict_get (PySem.F.args_dict_get_2 _ _) (meets_dict_get (PySem.strKind X.prog X.w) a (PySem.strKind_is X.prog X.w z t) low) ⟨_, hm2, ?_⟩
  rcases q2 with ⟨v, ⟨es', n', u0, hl', hk', e, ru⟩, q⟩ | ⟨hno, q⟩
  · rw [PySem.W.find_K hl e]
    exact ⟨v, H2, I2.tok _, ru, q⟩
  · rw [PySem.W.find_K hl hno]
    exact ⟨.non, H2, I2.tok _, rfl, q⟩
/-! ### enumerate of a list or a tuple; for over it -/
def kint (K : PySem.W.Frag) (x key : Str) (i : Int) : Bool := match PySem.W.nsIn K (He.ga K x) key with
  | some (some (.int j _)) => decide (j = i)
  | _ => false
theorem kint_get {K : PySem.W.Frag} {x key : Str} {i : Int} (h : kint K x key i = true) : ∃ t, PySem.W.nsIn K (He.ga K x) key = some (some (.int i t)) := by
  unfold kint at h
  cases e : PySem.W.nsIn K (He.ga K x) key with
  | none =>
    rw [e] at h
    cases h
  | some o =>
    rw [e] at h
    cases o with
    | none => cases h
    | some v =>
      cases v with
      | int j t =>
        have ej : j = i := of_decide_eq_true h
        rw [ej]
        exact ⟨t, rfl⟩
      | _ => cases h
theorem low_get {K : PySem.W.Frag} {x : Str} (h : (!(He.ga K x == sysModules)) = true) : (He.ga K x == sysModules) = false := by
  cases e : (He.ga K x == sysModules) with
  | false => rfl
  | true =>
    rw [e] at h
    cases h
theorem pi_or {X : Cx} {tg e : Expr} {a b : TI} (h1 : PI X tg e a) (h2 : PI X tg e b) : PI X tg e (fun σ H R => a σ H R ∨ b σ H R) := ⟨fun pins s σ H R I h => h.elim (h1.run pins s σ H R I) (h2.run pins s σ H R I)⟩
theorem pi_enumA (K : PySem.W.Frag) {X : Cx} {e : Expr} {ta : TA} {p pos tpos : Pos} {elts : List Expr} {kk : Nat} (hg : Gl X "enumerate") (hm : X.mg "enumerate" = none)
    (ha : PA X [e] ta) (hK : X.K = K := by rfl) (hs : starEach [e] X.env = [(false, eval e X.env)] := by rfl) :
    PI X (.Tuple elts kk tpos) (.Call (.Name "enumerate" p) [e] [] pos) (fun σ H R => iEnum K ta σ H R ∨ iEnumT K ta σ H R) := by
  subst hK
  exact pi_or (pi_enum hg hm ha hs) (pi_enumT X.K hg hm ha rfl hs)
theorem isiTK (K : PySem.W.Frag) {X : Cx} (h : X.K = K := by rfl) : CallR X (.builtin "isinstance") (rIsiT K) := h ▸ call_isiT
/-! ### o.f, .. = .. : a field among the targets -/
def gFldT (K : PySem.W.Frag) (ta : TE) (f : Str) : TG := fun v σ H Q => ta σ H fun x H1 => ∃ a C dx fs, x = .ref a ∧ H1 a = some (.ins C dx fs) ∧ Cls K C ∧ NoAttr K C f ∧ fs.length < 1000 ∧ Q σ (upd H1 a (.ins C dx (putF f v fs)))
theorem pg_fldK (K : PySem.W.Frag) {X : Cx} {o : Expr} {f : Str} {pos : Pos} {ta : TE} (ha : PE X o ta) (hK : X.K = K := by rfl) : PG X (.Attribute o f pos) (gFldT K ta f) := by
  subst hK
  refine ⟨fun pins s σ H v u Q I r h => ?_⟩
  rw [arm_assign_Attribute]
  refine wpAny_bind (wpAny_holding (thn (ha.run pins s σ H _ I h) fun ov s1 ⟨x, H1, I1, rx, a, C, dx, fs, ex, ea, c, n, l, q2⟩ => ?_))
  subst ex
  obtain rfl : ov = Value.ref a := rx
  refine wpAny_bind (wpAny_standAt (wpAny_bind (wpAny_holding (setattr_ok I1 ea c n l r fun s3 I3 => ?_))))
  exact wpAny_release ⟨σ, _, I3, q2⟩
/-! ### two arguments and one keyword-only that is left out -/
theorem binds_kw2 {K : PySem.W.Frag} {x qual : Str} {st : Stmt} {f D : Addr} {oc : Value} {od an : Option Addr} {osl : Array (Option Value)} {doc pm cdv ct : Value} {kn : Str} {ps : List Str}
    (_l : K.lookup f = some ⟨oc, od, .func (PySem.W.fnOf x qual (defArgs st) (defBody st) (defScope st) .none (.ref D) doc pm an cdv ct), osl⟩) (q : PySem.W.nsIn K D kn = some (some .none))
    (h : ∀ (doc pm : Value) (an : Option Addr) (cdv ct : Value) (u t v : Value), KwChain D [(kn, v)] (bindArgs (PySem.W.fnOf x qual (defArgs st) (defBody st) (defScope st) .none (.ref D) doc pm an cdv ct) ⟨[u, t], []⟩) (ps.zip [u, t, v])) (hp : ps.length = 3 := by rfl) :
    Binds K (PySem.W.fnOf x qual (defArgs st) (defBody st) (defScope st) .none (.ref D) doc pm an cdv ct) ps [.none] := by
  intro s us X hl
  rw [List.length_append, hp] at hl
  match us, hl with
  | [u, t], _ =>
    exact BindsTo.of_looks fun M => KwChain.looks X (fun z hz => by
      rw [List.mem_singleton.mp hz]
      exact q) (h doc pm an cdv ct u t .none)
  | [], hl => exact absurd hl (by show ¬ (0 + 1 = 3); decide)
  | [_], hl => exact absurd hl (by show ¬ (1 + 1 = 3); decide)
  | _ :: _ :: _ :: r, hl => exact absurd hl (by simp)
end TL
namespace TL
open PySem PySem.Spec PyProof.Rows L2
/-! ### the state of the draws, cells of any sign -/
structure Dr (H : Hp) (d r c : Addr) (n : Nat) : Prop where
  ex : ∃ (k : Nat) (cs rs : List Int), k ≤ n ∧ H d = some (.lst [.ref c, .int (k : Int), .ref r]) ∧ H c = some (.lst (cs.map V.int)) ∧ H r = some (.lst (rs.map V.int)) ∧
    c ≠ r ∧ 0 < cs.length ∧ rs.length = cs.length ∧ cs.length ≤ 63 ∧ (∀ z ∈ rs, 0 ≤ z)
theorem Dr.same {H H' : Hp} {d r c : Addr} {n : Nat} (h : Dr H d r c n) (e : Same H H') : Dr H' d r c n := by
  obtain ⟨k, cs, rs, hk, h1, h2, h3, h4⟩ := h.ex
  exact ⟨k, cs, rs, hk, e _ _ h1, e _ _ h2, e _ _ h3, h4⟩
theorem Dr.le {H : Hp} {d r c : Addr} {n m : Nat} (h : Dr H d r c n) (e : n ≤ m) : Dr H d r c m := by
  obtain ⟨k, cs, rs, hk, h4⟩ := h.ex
  exact ⟨k, cs, rs, Nat.le_trans hk e, h4⟩
theorem Dr.off {H : Hp} {d r c a : Addr} {n : Nat} (h : Dr H d r c n) (ha : H a = none) : a ≠ d ∧ a ≠ r ∧ a ≠ c := by
  obtain ⟨k, cs, rs, hk, h1, h2, h3, h4⟩ := h.ex
  exact ⟨fun z => (by rw [z, h1] at ha; cases ha), fun z => (by rw [z, h3] at ha; cases ha), fun z => (by rw [z, h2] at ha; cases ha)⟩
theorem Dr.put {H : Hp} {d r c a : Addr} {n : Nat} {o : HO} (h : Dr H d r c n) (e : a ≠ d ∧ a ≠ r ∧ a ≠ c) : Dr (upd H a o) d r c n := by
  obtain ⟨k, cs, rs, hk, h1, h2, h3, h4⟩ := h.ex
  exact ⟨k, cs, rs, hk, by rw [upd_ne e.1.symm]; exact h1, by rw [upd_ne e.2.2.symm]; exact h2, by rw [upd_ne e.2.1.symm]; exact h3, h4⟩
theorem Fm.ktr {K : PySem.W.Frag} {H H' : Hp} {d r c : Addr} {n : Nat} (e : Fm d r H H') (h : Dr H d r c n) : KT K H H' := by
  obtain ⟨k, cs, rs, hk, h1, h2, h3, h4⟩ := h.ex
  intro a xs q
  rcases q with (q | ⟨o, q⟩) | q
  · refine .inl (.inl (e _ _ (fun z => ?_) (fun z => ?_) q))
    · rw [z, h1] at q; cases q
    · rw [z, h3] at q; cases q
  · refine .inl (.inr ⟨o, e _ _ (fun z => ?_) (fun z => ?_) q⟩)
    · rw [z, h1] at q; cases q
    · rw [z, h3] at q; cases q
  · exact .inr q
/-! ### s[i], s a list or a tuple -/
section
variable {X : Cx}
def rIxA (K : PySem.W.Frag) : R2 := fun x y H Q => ∃ p xs i v, x = .ref p ∧ y = .int i ∧ (SqL K H p xs ∨ SqT K H p xs) ∧ atI xs i = some v ∧ Q v H
theorem ix_any : IxR X (rIxA X.K) := by
  intro value slice pins s σ H x y v u Q I rx ry h hs
  obtain ⟨p, xs, i, z, ex, ey, hq, ha, q⟩ := h
  rcases hq with hq | hq
  · exact ix_list value slice pins s σ H x y v u Q I rx ry ⟨p, xs, i, z, ex, ey, hq, ha, q⟩ hs
  · exact ix_tup value slice pins s σ H x y v u Q I rx ry ⟨p, xs, i, z, ex, ey, hq, ha, q⟩ hs
theorem ixAK (K : PySem.W.Frag) (h : X.K = K := by rfl) : IxR X (rIxA K) := h ▸ ix_any
end
end TL
namespace TL
open PySem PySem.Spec PyProof.Rows L2
/-! ### an error class of the text without a field -/
structure Err0 (K : PySem.W.Frag) (mg : Str → Option Value) (x : Str) (C : Addr) : Prop where
  exc : PySem.W.excIn K C [.type "ValueError", .type "Exception", .type "BaseException", .type "object"] "ValueError.__new__" = true
  glo : mg x = some (.ref C)
  kp : PySem.W.keepIn K (.ref C) = true
  sb : PySem.W.subIn K (.ref C) (.type "BaseException") = some true
  ty : PySem.W.typeIn K (.ref C) = some (.type "type")
section
variable {X : Cx} {x : Str} {C : Addr} {p pos pos' : Pos} {W : WX}
theorem pmk_own0 (T : Err0 X.K X.mg x C) (hg : Gl X x) (hdb : (x == ("__debug__" : Str)) = false := by decide) : PMk X (.Call (.Name x p) [] [] pos) (fun _ H Q => Q (.ref C) none H) := by
  intro pins s σ H Q I h
  refine wpAny_Call_Name_kw (ld_glob I hg T.glo ?_ hdb)
  refine PySem.W.callWith_K0 I.kIn T.kp ?_
  show wpAny _ _ (call (.ref C) []) _ _ _
  obtain ⟨bm, N, nm, qn, bs, hdct, sn, sub, ab, col, dd, k0, k1, k2, k3, k5, mN, hC, hN, hni, TT⟩ := exc_obj I.kIn T.exc
  refine wpAny_call_exc_subT PySem.F.excBase_ValueError TT hC hN hni (fun h' e hm => ?_) (Nat.zero_le _)
  exact mk_of I hm (raises_own T.sb T.ty) h (I.hok.gone hm.new)
theorem ps_err0 (T : Err0 X.K X.mg x C) (tk : Takes X W) (hg : Gl X x) (hc : X.calm = true := by rfl) (hdb : (x == ("__debug__" : Str)) = false := by decide) :
    PS X (.Raise (some (.Call (.Name x p) [] [] pos)) none pos') (fun _ σ H => W (.ref C) none σ H) := ps_raise hc tk (pmk_own0 T hg hdb)
end
/-! ### isinstance of a held error without a field -/
def rIs0 (K : PySem.W.Frag) (cls : Value) (d : Option Addr) (a : Addr) : List V → Hp → VK → Prop := fun xs H Q =>
  ∃ (D : Addr) (c : V) (b : Bool), ExcC K D ∧ (PySem.W.clsIn K D).isSome = true ∧ xs = [.ref a, c] ∧ cls = .ref D ∧ d = none ∧
  ((∃ cv, (∀ u, RelV c u → u = cv) ∧ PySem.W.kitOne K (.ref D) cv = some b) ∨ ∃ (tp : Addr) (cs : List V) (ws : List Value), c = .ref tp ∧ H tp = some (.tup cs) ∧ (∀ its, Vals cs its → its = ws) ∧ PySem.W.kitAny K (.ref D) ws = some b) ∧ Q (.bl b) H
theorem is0K (K : PySem.W.Frag) {X : Cx} {a : Addr} {oe : Obj} {cls : Value} {d : Option Addr} {pn : List (Addr × Obj)} (hz : Zc cls d oe) (hf : ∃ vs, oe.data = .fields vs) (h : X.K = K := by rfl) :
    CallR (X.suite a ((a, oe) :: pn)) (.builtin "isinstance") (rIs0 K cls d a) := by
  subst h
  intro pins s σ H xs us Q I r h
  obtain ⟨D, c, b, C, hcl, rfl, ec, ed, hk, q⟩ := h
  subst ec ed
  cases r with
  | cons rx rr =>
    cases rr with
    | cons rt rr =>
      cases rr
      cases rx
      obtain ⟨hget, _⟩ := I.pin (a, oe) (List.mem_append.mpr (.inl List.mem_cons_self))
      obtain ⟨vs, hv⟩ := hf
      have J : PySem.W.InstAt s.heap a oe D none := ⟨hget, hz.1, by unfold PySem.W.notCls; rw [hv] <;> rfl, by rw [hz.2] <;> trivial⟩
      have Z := PySem.W.kitx_exc (x := a) (ox := oe) (od := none) hcl C.hg C.hk C.hs C.ha C.hn C.ht C.hm
      rcases hk with ⟨cv, hcv, e⟩ | ⟨tp, cs, ws, e1, e2, e3, e⟩
      · have ec := hcv _ rt
        subst ec
        exact PySem.W.kia_one Z I.kIn J e (fun z => nomatch z) fun tk => ⟨.bl b, H, I.kept (t' := tk) fun _ _ z => z, rfl, q⟩
      · subst e1
        cases rt
        obtain ⟨_, its, r, o, h1, h2, n, h3⟩ := (show ObjOk X.prog X.w H s.heap tp (.tup cs) from I.hok tp _ e2)
        have ei : its = ws := e3 _ r
        subst ei
        obtain ⟨oc, od2, oda, osl⟩ := o
        dsimp only at h2 h3
        subst h2 h3
        exact PySem.W.kia_tup Z I.kIn J h1 e (fun z => nomatch z) fun tk => ⟨.bl b, H, I.kept (t' := tk) fun _ _ z => z, rfl, q⟩
end TL
namespace TL
open PySem PySem.Spec PyProof.Rows L2
/-! ### data with dicts in it -/
def kD : Key → PyData
  | .inl i => .int i
  | .inr x => .str x
mutual
inductive Dq (K : PySem.W.Frag) (H : Hp) : V → PyData → Prop
  | non : Dq K H .non .none
  | bl (b : Bool) : Dq K H (.bl b) (.bool b)
  | int (i : Int) : Dq K H (.int i) (.int i)
  | str (x : Str) : Dq K H (.str x) (.str x)
  | lst {a : Addr} {xs : List V} {ds : List PyData} : a ≠ sysModules → H a = some (.lst xs) → DqAll K H xs ds → Dq K H (.ref a) (.list ds)
  | tup {a : Addr} {xs : List V} {ds : List PyData} : SqT K H a xs → DqAll K H xs ds → Dq K H (.ref a) (.tuple ds)
  | dct {a : Addr} {kvs : List (Key × V)} {ps : List (PyData × PyData)} : H a = some (.dK kvs) → ps.map (·.1) = kvs.map (fun p => kD p.1) → DqAll K H (kvs.map (·.2)) (ps.map (·.2)) → Dq K H (.ref a) (.dict ps)
inductive DqAll (K : PySem.W.Frag) (H : Hp) : List V → List PyData → Prop
  | nil : DqAll K H [] []
  | cons {v : V} {vs : List V} {d : PyData} {ds : List PyData} : Dq K H v d → DqAll K H vs ds → DqAll K H (v :: vs) (d :: ds)
end
section
variable {X : Cx} {pins : List (Addr × Obj)} {σ : L2.St} {H : Hp} {s : Shared}
theorem keys_reads : ∀ {es : List DictEntry} {vs : List (Key × Value)} {kvs : List (Key × V)}, Pairs (mixKind X.prog X.w) es vs → KV kvs vs → ReadsAll s.heap (es.map (·.key)) (kvs.map fun p => kD p.1) [] ∧ Vals (kvs.map (·.2)) (es.map (·.val))
  | _, _, _, .nil, .nil => ⟨.nil, .nil⟩
  | e :: es, _, p :: kvs, .cons h1 h2 t, .cons r q => by
    obtain ⟨a, b⟩ := keys_reads t q
    refine ⟨?_, .cons ?_ b⟩
    · obtain ⟨k, v⟩ := p
      have h1 : keyIs _ e.key = true := h1
      rw [← r.1] at h1
      show ReadsAll s.heap (e.key :: es.map (·.key)) (kD k :: kvs.map fun p => kD p.1) []
      rcases keyIs_shape h1 with ⟨i, t, hk, hv⟩ | ⟨x, t, hk, hv⟩
      · have hk : k = .inl i := hk
        rw [hk, hv]
        exact .cons (as := []) (bs := []) (.int i t) a
      · have hk : k = .inr x := hk
        rw [hk, hv]
        exact .cons (as := []) (bs := []) (.str x t) a
    · show RelV p.2 e.val
      rw [h2]
      exact r.2
mutual
theorem Dq.reads (I : Inv X pins σ H s) : ∀ {v : V} {d : PyData} {u : Value}, Dq X.K H v d → RelV v u → ∃ as, Reads s.heap u d as ∧ sysModules ∉ as
  | _, _, _, .non, r => by cases r; exact ⟨_, Reads.none, by simp⟩
  | _, _, _, .bl b, r => by cases r; exact ⟨_, Reads.bool b, by simp⟩
  | _, _, _, .int i, r => by obtain ⟨t, rfl⟩ := r; exact ⟨_, Reads.int i t, by simp⟩
  | _, _, _, .str x, r => by obtain ⟨t, rfl⟩ := r; exact ⟨_, Reads.str x t, by simp⟩
  | _, _, _, .lst hs e ha, r => by
    cases r
    obtain ⟨its, rv, ⟨o, n, ho, hc, _, hd⟩, _⟩ := I.list (SqL.of e)
    obtain ⟨as, hr, hn⟩ := Dq.readsAll I ha rv
    refine ⟨_, Reads.list ho hc hd hr, fun z => ?_⟩
    rcases List.mem_cons.mp z with z | z
    · exact hs z.symm
    · exact hn z
  | _, _, _, .tup e ha, r => by
    cases r
    obtain ⟨its, rv, ⟨o, ho, hc, n, hd⟩, _⟩ := I.tuple e
    obtain ⟨as, hr, hn⟩ := Dq.readsAll I ha rv
    exact ⟨_, Reads.tuple ho hc hd hr, hn⟩
  | _, _, _, .dct e ek ha, r => by
    cases r
    obtain ⟨_, hsm, vs, rel, o, es, ep, ho, hx, hd, _, hp, _⟩ := dk_of I.hok e
    obtain ⟨rk, rv⟩ := keys_reads (s := s) hp rel
    obtain ⟨bs, hr, hn⟩ := Dq.readsAll I ha rv
    rw [← ek] at rk
    refine ⟨_, Reads.dict ho hx.1 hd rk hr, fun z => ?_⟩
    rcases List.mem_cons.mp z with z | z
    · rw [← z] at hsm
      cases hsm
    · exact hn z
theorem Dq.readsAll (I : Inv X pins σ H s) : ∀ {vs : List V} {ds : List PyData} {us : List Value}, DqAll X.K H vs ds → Vals vs us → ∃ as, ReadsAll s.heap us ds as ∧ sysModules ∉ as
  | _, _, _, .nil, r => by cases r; exact ⟨_, ReadsAll.nil, by simp⟩
  | _, _, _, .cons h1 h2, r => by
    cases r with
    | cons r1 r2 =>
      obtain ⟨as, q1, n1⟩ := Dq.reads I h1 r1
      obtain ⟨bs, q2, n2⟩ := Dq.readsAll I h2 r2
      exact ⟨_, ReadsAll.cons q1 q2, fun z => (List.mem_append.mp z).elim n1 n2⟩
end
end
structure ShowsQ (d : PyData) : Prop where
  can : d.showable = true
  deep : d.depth ≤ 60
  fits : d.shown.length ≤ sizeLine
def rReprQ (K : PySem.W.Frag) : List V → Hp → VK → Prop := fun xs H Q =>
  ∃ (y : V) (d : PyData), xs = [y] ∧ Dq K H y d ∧ ShowsQ d ∧ Q (.str d.shown) H
section
variable {X : Cx}
theorem call_reprQ (gd : X.A.guards = some []) (hu : X.A.units + 64 < cLine) :
    CallR X (.builtin "repr") (rReprQ X.K) := by
  intro pins s σ H xs us Q I r h
  obtain ⟨y, d, rfl, hd, sh, q⟩ := h
  cases r with
  | cons r1 r2 =>
    rename_i u us'
    cases r2
    obtain ⟨as, rd, hn⟩ := Dq.reads I hd r1
    have big : ∀ a, u = Value.ref a → wpAny (model X.prog X.w) X.A (call (.builtin "repr") [u]) (EP X pins σ Q) X.xe s := by
      intro a e
      subst e
      exact repr_of_reads' rd sh.can (fun z => hn) gd (by have := sh.deep; omega) (fun _ _ e => e) (fun h' u tk hk => ⟨.str d.shown, H, I.kept (t' := tk) hk, ⟨u, rfl⟩, q⟩) sh.fits
    cases hd with
    | non =>
      obtain rfl : u = Value.none := r1
      rw [PyData.shown_none] at q
      exact PySem.P.repr_of_none ⟨.str _, H, I.tok _, ⟨_, rfl⟩, q⟩
    | bl b =>
      obtain rfl : u = Value.bool b := r1
      rw [PyData.shown_bool] at q
      exact PySem.P.repr_of_bool ⟨.str _, H, I.tok _, ⟨_, rfl⟩, q⟩
    | int i =>
      obtain ⟨t, rfl⟩ := r1
      rw [PyData.shown_int] at q
      exact PySem.P.repr_of_int (by have := sh.can; simpa [PyData.showable] using this) ⟨.str _, H, I.tok _, ⟨_, rfl⟩, q⟩
    | str x =>
      obtain ⟨t, rfl⟩ := r1
      have z := sh.fits
      rw [PyData.shown_str] at q z
      exact PySem.P.repr_of_str ⟨.str _, H, I.tok _, ⟨_, rfl⟩, q⟩ z
    | lst hs he ha => exact big _ r1
    | tup hs ha => exact big _ r1
    | dct hs ek ha => exact big _ r1
end
/-! ### repr of either kind of data -/
def rReprO (K : PySem.W.Frag) : List V → Hp → VK → Prop := fun xs H Q =>
  ∃ (y : V) (d : PyData), xs = [y] ∧ ((Dp K H y d ∧ Shows d) ∨ (Dq K H y d ∧ ShowsQ d)) ∧ Q (.str d.shown) H
theorem reprO (K : PySem.W.Frag) {X : Cx} (gd : X.A.guards = some []) (hu : X.A.units + 64 < cLine) (h : X.K = K := by rfl) : CallR X (.builtin "repr") (rReprO K) := by
  subst h
  intro pins s σ H xs us Q I r h
  obtain ⟨y, d, ex, h | h, q⟩ := h
  · exact call_reprD gd hu pins s σ H xs us Q I r ⟨y, d, ex, h.1, h.2, q⟩
  · exact call_reprQ gd hu pins s σ H xs us Q I r ⟨y, d, ex, h.1, h.2, q⟩
/-! ### a held error of any class -/
def rIsA (K : PySem.W.Frag) (cls : Value) (d : Option Addr) (a : Addr) : List V → Hp → VK → Prop := fun xs H Q =>
  ∃ D : Addr, ExcC K D ∧ (PySem.W.clsIn K D).isSome = true ∧ rIsX K cls d D a xs H Q
theorem isAK (K : PySem.W.Frag) {X : Cx} {a : Addr} {oe : Obj} {cls : Value} {d : Option Addr} {pn : List (Addr × Obj)} (hz : Zc cls d oe) (hf : ∃ vs, oe.data = .fields vs) (h : X.K = K := by rfl) :
    CallR (X.suite a ((a, oe) :: pn)) (.builtin "isinstance") (rIsA K cls d a) := by
  subst h
  intro pins s σ H xs us Q I r h
  obtain ⟨D, hc, hcl, h⟩ := h
  exact isX hc hcl hz hf pins s σ H xs us Q I r h
def tXfA (K : PySem.W.Frag) (a : Addr) (cls : Value) (d : Option Addr) (n : Str) (te : TE) : TE := fun σ H Q =>
  ∃ C : Addr, XfC K C ∧ PySem.W.findIn K (.ref C) n = some none ∧ tXf a cls d C n te σ H Q
theorem xfA (K : PySem.W.Frag) {X : Cx} {n : Str} {a : Addr} {oe : Obj} {cls : Value} {d : Option Addr} {pn : List (Addr × Obj)} {e : Expr} {te : TE} {pos : Pos}
    (hz : Zc cls d oe) (hf : ∃ vs, oe.data = .fields vs) (he : PE (X.suite a ((a, oe) :: pn)) e te) (h : X.K = K := by rfl) (hb : attributeBase e n X.env (eval e X.env) = eval e X.env := by rfl) :
    PE (X.suite a ((a, oe) :: pn)) (.Attribute e n pos) (tXfA K a cls d n te) := by
  subst h
  refine ⟨fun pins s σ H Q I h => ?_⟩
  obtain ⟨C, T, hno, h⟩ := h
  exact (pe_xf T hno hz hf he hb).run pins s σ H Q I h
/-! ### count of bools -/
def eqb (k : Bool) (v : Value) : Bool := match v with
  | .bool n => n == k
  | _ => false
theorem bools_of : ∀ {bs : List Bool} {us : List Value}, Vals (bs.map V.bl) us → us = bs.map Value.bool
  | [], _, h => by cases h; rfl
  | b :: bs, _, h => by
    cases h with
    | cons r1 r2 =>
      cases r1
      rw [bools_of r2]
      rfl
theorem eqb_count (k : Bool) : ∀ bs : List Bool, (bs.map Value.bool).countP (eqb k) = bs.count k
  | [] => rfl
  | b :: bs => by
    rw [List.map_cons, List.countP_cons, List.count_cons, eqb_count k bs]
    rfl
def rCntB (K : PySem.W.Frag) : V → List V → Hp → VK → Prop := fun x xs H Q => ∃ (p : Addr) (bs : List Bool) (k : Bool), x = .ref p ∧ xs = [.bl k] ∧ SqL K H p (bs.map V.bl) ∧ Q (.int (bs.count k : Nat)) H
theorem mt_lcountB {X : Cx} (hu : X.A.units + 64 < cLine) : MtR X "list.count" (rCntB X.K) := by
  intro pins s σ H x xs v us Q I rx rxs h
  obtain ⟨p, bs, k, rfl, rfl, hs, q⟩ := h
  cases rx
  obtain ⟨u, rfl, ru⟩ := rxs.one
  cases ru
  obtain ⟨its, rv, ⟨⟨cls, dd, data, sl⟩, n, ho, hc, hdn, hd⟩, hlen⟩ := I.list hs
  simp only at hc hd
  subst hc hd
  have hi := bools_of rv
  subst hi
  refine call_meets PySem.F.slot_list_count ⟨_, ho, rfl⟩ PySem.F.entry_list_count (PySem.F.args_list_count_2 _ _)
    (SeqAt.list_countAt p _ n dd sl (.bool k) (eqb k)) ⟨ho, fun y hy => ?_, ?_⟩
  · obtain ⟨b, hb, rfl⟩ := List.mem_map.mp (List.mem_toArray.mp hy)
    have h := SeqAt.eqAt_reads (.bool b) (.bool k) X.A.in1 s _ _ _ _ (Reads.bool b) (Reads.bool k) rfl rfl (by
      show X.A.units + 1 + min (PyData.depth (.bool b)) (PyData.depth (.bool k)) < cLine
      simp only [PyData.depth]
      omega)
    have e : PyData.eqv (.bool b) (.bool k) = eqb k (.bool b) := by
      cases b <;> cases k <;> simp [PyData.eqv, eqb]
    rw [← e]
    exact h
  have ec : ((bs.map Value.bool).toArray).toList.countP (eqb k) = bs.count k := eqb_count k bs
  refine ⟨.int (bs.count k : Nat), H, I.tok _, ⟨s.toks, ?_⟩, q⟩
  show Value.int ((((bs.map Value.bool).toArray).toList.countP (eqb k) : Nat) : Int) s.toks = Value.int ((bs.count k : Nat) : Int) s.toks
  rw [ec]
end TL
namespace TL
open PySem PySem.Spec PyProof.Rows L2
/-- [..]: the new list does not stand where sys.modules stands -/
def tLstS (t : TA) : TE := fun σ H Q => t σ H fun xs H1 => xs.length ≤ sizeLine ∧ ∀ p, H1 p = none → p ≠ sysModules → Q (.ref p) (upd H1 p (.lst xs))
theorem pe_lstS {X : Cx} {es : List Expr} {t : TA} {pos : Pos} (h : PA X es t) : PE X (.List es pos) (tLstS t) := by
  refine ⟨fun pins s σ H Q I hq => ?_⟩
  refine wpAny_List_spliced (thn (h.run pos pins s σ H _ I hq) fun us s1 ⟨xs, H1, I1, r, z, q⟩ => ⟨by rw [← r.length]; exact z, ?_⟩)
  have hf : H1 s1.heap.objs.size = none := I1.hok.fresh (Nat.le_refl _)
  refine ⟨.ref s1.heap.objs.size, upd H1 s1.heap.objs.size (.lst xs), I1.laid (t' := s1.toks) (fun b u e => Heap.get?_push_of_some _ e) (Nat.le_refl _) ?_, rfl, q _ hf (Nat.ne_of_gt I1.big)⟩
  exact ⟨z, us, 0, r, Heap.get?_push_size _ rfl⟩
end TL
/-! ### a dict compared with a text; a value of any kind compared with a text -/
namespace PySem.SeqAt
open AutoSeq1 (wpAny_loadPart')
open MeetsSeq
theorem dk_no_text (a : Addr) (es : Array DictEntry) (n : Nat) (o1 : Option Addr) (sl : Array (Option Value)) (x : Str) (t : Tok) :
    Meets (Builtin.«dict.__eq__» ⟨[.ref a, .str x t], []⟩) (fun _ R s => s.heap.get? a = some ⟨.type "dict", o1, .dict es n, sl⟩ ∧ R (.ok (.ret .notImplemented)) s) :=
  .of_wp fun prog w A R s h => by
    obtain ⟨hp, g, d, tk, os⟩ := s
    obtain ⟨at1, q⟩ := h
    have no := F.sub_str_dict
    wp_walk using wpAny_loadPart' at1, wpAny_load at1
    exact ⟨_, rfl, q⟩
theorem text_no_dk (x : Str) (t : Tok) (a : Addr) (c : Value) (es : Array DictEntry) (n : Nat) (o1 : Option Addr) (sl : Array (Option Value)) :
    Meets (Builtin.«str.__eq__» ⟨[.str x t, .ref a], []⟩) (fun _ R s => s.heap.get? a = some ⟨c, o1, .dict es n, sl⟩ ∧ R (.ok (.ret .notImplemented)) s) :=
  .of_wp fun prog w A R s h => by
    obtain ⟨hp, g, d, tk, os⟩ := s
    obtain ⟨at1, q⟩ := h
    wp_walk using wpAny_loadPart' at1, wpAny_load at1
    exact ⟨_, rfl, q⟩
end PySem.SeqAt
namespace TL
open PySem PySem.Spec PyProof.Rows L2
/-- what == says of a value and a text -/
inductive TxV (K : PySem.W.Frag) (H : Hp) : V → Str → Bool → Prop
  | sc {x : V} {z : Str} (h : scal x (.str z) = true) : TxV K H x z (decide (x = .str z))
  | lst {a : Addr} {xs : List V} {z : Str} (h : H a = some (.lst xs)) : TxV K H (.ref a) z false
  | tup {a : Addr} {xs : List V} {z : Str} (h : SqT K H a xs) : TxV K H (.ref a) z false
  | dct {a : Addr} {kvs : List (Key × V)} {z : Str} (h : H a = some (.dK kvs)) : TxV K H (.ref a) z false
def rEqT (K : PySem.W.Frag) : R2 := fun x y H Q => ∃ (z : Str) (b : Bool), y = .str z ∧ TxV K H x z b ∧ Q (.bl b) H
theorem eqTK (K : PySem.W.Frag) {X : Cx} (hu : X.A.units + 64 < cLine) (h : X.K = K := by rfl) : OpR X (compareOp .Eq) (rEqT K) := by
  subst h
  have room : X.A.units < cLine := by omega
  intro pins s σ H x y v u Q I rx ry ⟨z, b, ey, tv, q⟩
  subst ey
  cases tv with
  | sc h => exact op_eq pins s σ H x _ v u Q I rx ry ⟨h, q⟩
  | lst hl =>
    cases rx
    obtain ⟨t, rfl⟩ := ry
    obtain ⟨its, r, pl, _⟩ := I.list (SqL.of hl)
    exact SeqAt.RcAt.list_str z t pl.isList room _ _ _ _ ⟨.bl _, H, I, rfl, q⟩
  | tup ht =>
    cases rx
    obtain ⟨t, rfl⟩ := ry
    obtain ⟨its, r, pl, _⟩ := I.tuple ht
    exact SeqAt.RcAt.tuple_str z t pl room _ _ _ _ ⟨.bl _, H, I, rfl, q⟩
  | dct hd =>
    cases rx
    obtain ⟨t, rfl⟩ := ry
    obtain ⟨_, _, vs, _, o, es, ep, ho, hx, hdt, _⟩ := dk_of I.hok hd
    obtain ⟨c, o1, dt, sl⟩ := o
    have hc : c = .type "dict" := hx.1
    have hdt : dt = .dict es ep := hdt
    subst hc
    subst hdt
    show wpAny _ X.A (richCompare .Eq _ _) _ _ _
    exact SeqAt.rc_eq_decline_or (k := false) ⟨_, ho, rfl⟩ (typeIs_str s z t) (by decide) F.sub_str_dict F.slot_dict_eq F.slot_str_eq_refl
      (fun _ g => call_meets F.slot_dict_eq ⟨_, ho, rfl⟩ F.entry_dict_eq (F.args_dict_eq_2 _ _) (SeqAt.dk_no_text _ es ep o1 sl z t) ⟨ho, g⟩)
      (fun _ g => call_meets F.slot_str_eq_refl (typeIs_str s z t) F.entry_str_eq (F.args_str_eq_2 _ _) (SeqAt.text_no_dk z t _ (.type "dict") es ep o1 sl) ⟨ho, g⟩)
      (fun _ g => wpAny_of_eq rfl g) (.inr room) ⟨.bl _, H, I, rfl, q⟩
/-- a tuple of any items compared with the empty one -/
def rEqE (K : PySem.W.Frag) : R2 := fun x y H Q => ∃ (a b : Addr) (xs : List V), x = .ref a ∧ y = .ref b ∧ SqT K H a xs ∧ SqT K H b [] ∧ Q (.bl xs.isEmpty) H
theorem eqEK (K : PySem.W.Frag) {X : Cx} (hu : X.A.units + 64 < cLine) (h : X.K = K := by rfl) : OpR X (compareOp .Eq) (rEqE K) := by
  subst h
  have room : X.A.units < cLine := by omega
  intro pins s σ H x y v u Q I rx ry ⟨a, b, xs, ex, ey, ta, tb, q⟩
  subst ex
  subst ey
  cases rx
  cases ry
  obtain ⟨its, r, pl, _⟩ := I.tuple ta
  obtain ⟨its2, r2, pl2, _⟩ := I.tuple tb
  cases r2
  refine SeqAt.eq_tupleAt (e := fun _ => true) pl pl2 room (fun j _ h2 => absurd h2 (by simp)) ⟨.bl _, H, I, ?_, q⟩
  cases r with
  | nil => rfl
  | cons _ _ => simp [L2.RelV]
end TL
/-! ### a value of any kind != the empty tuple -/
namespace PySem.SeqAt
open AutoSeq1 (wpAny_loadPart')
open MeetsSeq
theorem dk_ne_tup (a : Addr) (es : Array DictEntry) (n : Nat) (o1 : Option Addr) (sl : Array (Option Value)) (b : Addr) (its : Array Value) (m : Nat) (o2 : Option Addr) (sl2 : Array (Option Value)) :
    Meets (Builtin.«dict.__ne__» ⟨[.ref a, .ref b], []⟩) (fun _ R s => s.heap.get? a = some ⟨.type "dict", o1, .dict es n, sl⟩ ∧ s.heap.get? b = some ⟨.type "tuple", o2, .seq its m, sl2⟩ ∧ R (.ok (.ret .notImplemented)) s) :=
  .of_wp fun prog w A R s h => by
    obtain ⟨hp, g, d, tk, os⟩ := s
    obtain ⟨at1, at2, q⟩ := h
    have no := F.sub_tuple_dict
    wp_walk using wpAny_loadPart' at1, wpAny_load at1, wpAny_loadPart' at2, wpAny_load at2
    exact ⟨_, rfl, q⟩
theorem tup_ne_dk (b : Addr) (its : Array Value) (m : Nat) (o2 : Option Addr) (sl2 : Array (Option Value)) (a : Addr) (es : Array DictEntry) (n : Nat) (o1 : Option Addr) (sl : Array (Option Value)) :
    Meets (Builtin.«tuple.__ne__» ⟨[.ref b, .ref a], []⟩) (fun _ R s => s.heap.get? a = some ⟨.type "dict", o1, .dict es n, sl⟩ ∧ s.heap.get? b = some ⟨.type "tuple", o2, .seq its m, sl2⟩ ∧ R (.ok (.ret .notImplemented)) s) :=
  .of_wp fun prog w A R s h => by
    obtain ⟨hp, g, d, tk, os⟩ := s
    obtain ⟨at1, at2, q⟩ := h
    have no := F.sub_dict_tuple
    wp_walk using wpAny_loadPart' at2, wpAny_load at2, wpAny_loadPart' at1, wpAny_load at1
    exact ⟨_, rfl, q⟩
end PySem.SeqAt
namespace TL
open PySem PySem.Spec PyProof.Rows L2
inductive NeV (K : PySem.W.Frag) (H : Hp) : V → Bool → Prop
  | dat {x : V} {d : PyData} (h : Dp K H x d) (s : SeqAt.shaped d = true) : NeV K H x (!PyData.eqv d (.tuple []))
  | dct {a : Addr} {kvs : List (Key × V)} (h : H a = some (.dK kvs)) : NeV K H (.ref a) true
def rNeX (K : PySem.W.Frag) : R2 := fun x y H Q => ∃ (c : Addr) (b : Bool), y = .ref c ∧ SqT K H c [] ∧ NeV K H x b ∧ Q (.bl b) H
theorem neXK (K : PySem.W.Frag) {X : Cx} (hu : X.A.units + 64 < cLine) (h : X.K = K := by rfl) : OpR X (compareOp .NotEq) (rNeX K) := by
  subst h
  have room : X.A.units < cLine := by omega
  intro pins s σ H x y v u Q I rx ry ⟨c, b, ey, hc, nv, q⟩
  subst ey
  cases nv with
  | dat hd sd => exact op_neD hu pins s σ H x _ v u Q I rx ry ⟨_, .tuple [], hd, .tup hc .nil, sd, by decide +kernel, q⟩
  | dct hd =>
    cases rx
    cases ry
    obtain ⟨_, _, vs, _, o, es, ep, ho, hx, hdt, _⟩ := dk_of I.hok hd
    obtain ⟨cl, o1, dt, sl⟩ := o
    have hcl : cl = .type "dict" := hx.1
    have hdt : dt = .dict es ep := hdt
    subst hcl
    subst hdt
    obtain ⟨its, r, pl, _⟩ := I.tuple hc
    obtain ⟨⟨cls, dd, data, sl2⟩, ho2, hc2, n2, hd2⟩ := id pl
    simp only at hc2 hd2
    subst hc2 hd2
    have ne : ∀ {a b : Addr} {o o' : Obj}, s.heap.get? a = some o → s.heap.get? b = some o' → o ≠ o' → a ≠ b := fun h1 h2 n z => n (by rw [z, h2] at h1; exact (Option.some.inj h1).symm)
    have ne := ne ho ho2 (fun z => by
      have z2 : Value.type "dict" = Value.type "tuple" := congrArg Obj.cls z
      exact absurd z2 (by decide))
    show wpAny _ X.A (richCompare .NotEq _ _) _ _ _
    exact SeqAt.rc_ne_decline_or (k := false) ⟨_, ho, rfl⟩ ⟨_, ho2, rfl⟩ (by decide) F.sub_tuple_dict F.slot_dict_ne F.slot_tuple_ne_refl
      (fun _ g => call_meets F.slot_dict_ne ⟨_, ho, rfl⟩ F.entry_dict_ne (F.args_dict_ne_2 _ _) (SeqAt.dk_ne_tup _ es ep o1 sl _ its.toArray n2 dd sl2) ⟨ho, ho2, g⟩)
      (fun _ g => call_meets F.slot_tuple_ne_refl ⟨_, ho2, rfl⟩ F.entry_tuple_ne (F.args_tuple_ne_2 _ _) (SeqAt.tup_ne_dk _ its.toArray n2 dd sl2 _ es ep o1 sl) ⟨ho, ho2, g⟩)
      (fun _ g => wpAny_isSame_ref_other ne ho ho2 (by show ¬ (Value.type "dict" = Value.type "tuple"); decide) g) (.inr room) ⟨.bl _, H, I, rfl, q⟩
end TL
namespace TL
open PySem PySem.Spec PyProof.Rows L2
/-! ### data whose leaves have up to forty signs -/
mutual
theorem lv_mono {B C : Nat} (h : B ≤ C) : ∀ d : PyData, d.leavesShort B = true → d.leavesShort C = true
  | .none, _ => by simp [PyData.leavesShort]
  | .bool _, _ => by simp [PyData.leavesShort]
  | .int i, q => by
    simp only [PyData.leavesShort] at q ⊢
    exact decide_eq_true (Nat.le_trans (of_decide_eq_true q) h)
  | .str x, q => by
    simp only [PyData.leavesShort] at q ⊢
    exact q
  | .list xs, q => by
    simp only [PyData.leavesShort] at q ⊢
    exact lv_monoAll h xs q
  | .tuple xs, q => by
    simp only [PyData.leavesShort] at q ⊢
    exact lv_monoAll h xs q
  | .dict kvs, q => by
    simp only [PyData.leavesShort] at q ⊢
    exact lv_monoKv h kvs q
theorem lv_monoAll {B C : Nat} (h : B ≤ C) : ∀ ds : List PyData, PyData.leavesShortAll B ds = true → PyData.leavesShortAll C ds = true
  | [], _ => rfl
  | d :: ds, q => by
    simp only [PyData.leavesShortAll, Bool.and_eq_true] at q ⊢
    exact ⟨lv_mono h d q.1, lv_monoAll h ds q.2⟩
theorem lv_monoKv {B C : Nat} (h : B ≤ C) : ∀ ds : List (PyData × PyData), PyData.leavesShortKv B ds = true → PyData.leavesShortKv C ds = true
  | [], _ => rfl
  | (k, v) :: ds, q => by
    simp only [PyData.leavesShortKv, Bool.and_eq_true] at q ⊢
    exact ⟨⟨lv_mono h k q.1.1, lv_mono h v q.1.2⟩, lv_monoKv h ds q.2⟩
end
structure Sw (d : PyData) (n k : Nat) : Prop where
  can : d.showable = true
  deep : d.depth ≤ k
  short : d.leavesShort 40 = true
  light : d.weight ≤ n
theorem Sm.sw {d : PyData} {n k : Nat} (h : Sm d n k) : Sw d n k := ⟨h.can, h.deep, lv_mono (by decide) d h.short, h.light⟩
theorem Sw.le {d : PyData} {n k m j : Nat} (h : Sw d n k) (hn : n ≤ m) (hk : k ≤ j) : Sw d m j := ⟨h.can, Nat.le_trans h.deep hk, h.short, Nat.le_trans h.light hn⟩
theorem Sw.fits {d : PyData} {n k : Nat} (h : Sw d n k) (hn : n ≤ 100000) : d.shown.length ≤ sizeLine := by
  have h1 := PyData.shown_le 40 (by decide) d h.short
  have h2 : (40 + 2) * d.weight ≤ 42 * 100000 := Nat.mul_le_mul (by decide) (Nat.le_trans h.light hn)
  exact Nat.le_trans h1 (Nat.le_trans (Nat.add_le_add_right h2 40) (by decide))
theorem Sw.showsQ {d : PyData} {n k : Nat} (h : Sw d n k) (hn : n ≤ 100000) (hk : k ≤ 60) : ShowsQ d := ⟨h.can, Nat.le_trans h.deep hk, h.fits hn⟩
theorem Sw.shows {d : PyData} {n k : Nat} (h : Sw d n k) (nod : d.hasDict = false) (hn : n ≤ 100000) (hk : k ≤ 60) : Shows d := ⟨h.can, nod, Nat.le_trans h.deep hk, h.fits hn⟩
structure SwA (ds : List PyData) (n k : Nat) : Prop where
  can : PyData.showableAll ds = true
  deep : PyData.depthAll ds ≤ k
  short : PyData.leavesShortAll 40 ds = true
  light : PyData.weightAll ds ≤ ds.length * (n + 1)
theorem SwA.of {n k : Nat} : ∀ {ds : List PyData}, (∀ d ∈ ds, Sw d n k) → SwA ds n k
  | [], _ => ⟨rfl, by simp [PyData.depthAll], rfl, by simp [PyData.weightAll]⟩
  | d :: ds, h => by
    have h1 := h d List.mem_cons_self
    have h2 := SwA.of (n := n) (k := k) fun e he => h e (List.mem_cons_of_mem _ he)
    refine ⟨?_, ?_, ?_, ?_⟩
    · simp only [PyData.showableAll, h1.can, h2.can, Bool.and_self]
    · simp only [PyData.depthAll]
      exact Nat.max_le.mpr ⟨h1.deep, h2.deep⟩
    · simp only [PyData.leavesShortAll, h1.short, h2.short, Bool.and_self]
    · have a := h1.light
      have b := h2.light
      simp only [PyData.weightAll, List.length_cons, Nat.add_mul, Nat.one_mul]
      omega
theorem Sw.tup {n k m : Nat} {ds : List PyData} (h : ∀ d ∈ ds, Sw d n k) (hm : ds.length ≤ m) : Sw (.tuple ds) (m * (n + 1)) (k + 1) := by
  have q := SwA.of h
  have z : ds.length * (n + 1) ≤ m * (n + 1) := Nat.mul_le_mul_right _ hm
  refine ⟨?_, ?_, ?_, ?_⟩
  · simp only [PyData.showable]; exact q.can
  · simp only [PyData.depth]; have := q.deep; omega
  · simp only [PyData.leavesShort]; exact q.short
  · simp only [PyData.weight]; exact Nat.le_trans q.light z
theorem Sw.lst {n k m : Nat} {ds : List PyData} (h : ∀ d ∈ ds, Sw d n k) (hm : ds.length ≤ m) : Sw (.list ds) (m * (n + 1)) (k + 1) := by
  have q := SwA.of h
  have z : ds.length * (n + 1) ≤ m * (n + 1) := Nat.mul_le_mul_right _ hm
  refine ⟨?_, ?_, ?_, ?_⟩
  · simp only [PyData.showable]; exact q.can
  · simp only [PyData.depth]; have := q.deep; omega
  · simp only [PyData.leavesShort]; exact q.short
  · simp only [PyData.weight]; exact Nat.le_trans q.light z
theorem sw_big {i : Int} (h : i.natAbs ≤ 10 ^ 29) : Sw (.int i) 200 0 := by
  have h2 : i.natAbs < 10 ^ 30 := Nat.lt_of_le_of_lt h (by decide)
  have e := PySem.int_text_length_le10 (k := 30) (by decide) h2
  have lg : i.natAbs.log2 < 110 := PySem.Flt.log2_lt_of (by decide) (Nat.lt_of_lt_of_le h2 (by decide))
  refine ⟨?_, by simp [PyData.depth], ?_, ?_⟩
  · simp only [PyData.showable]
    exact decide_eq_true (by omega)
  · simp only [PyData.leavesShort]
    refine decide_eq_true ?_
    show (Str.ofString (toString i)).length ≤ 40
    rw [PySem.ofString_length]
    exact Nat.le_trans e (by decide)
  · simp only [PyData.weight]
    split <;> omega
/-! ### data without lists and dicts has no dict -/
mutual
theorem nod_of_only : ∀ d : PyData, only d = true → d.hasDict = false
  | .none, _ => by simp [PyData.hasDict]
  | .bool _, _ => by simp [PyData.hasDict]
  | .int i, q => by simp [PyData.hasDict]
  | .str x, q => by simp [PyData.hasDict]
  | .list xs, q => by simp [only] at q
  | .tuple xs, q => by
    simp only [only] at q
    simp only [PyData.hasDict]
    exact nod_of_onlyAll xs q
  | .dict kvs, q => by simp [only] at q
theorem nod_of_onlyAll : ∀ ds : List PyData, onlyAll ds = true → PyData.hasDictAll ds = false
  | [], _ => rfl
  | d :: ds, q => by
    simp only [onlyAll, Bool.and_eq_true] at q
    simp only [PyData.hasDictAll, nod_of_only d q.1, nod_of_onlyAll ds q.2, Bool.or_self]
end
mutual
theorem Dp.toq {K : PySem.W.Frag} {H : Hp} : ∀ {v : V} {d : PyData}, Dp K H v d → only d = true → Dq K H v d
  | _, _, .non, _ => .non
  | _, _, .bl b, _ => .bl b
  | _, _, .int i, _ => .int i
  | _, _, .str x, _ => .str x
  | _, _, .lst h a, o => by simp [only] at o
  | _, _, .tup h a, o => .tup h (Dp.toqAll a (by simpa [only] using o))
theorem Dp.toqAll {K : PySem.W.Frag} {H : Hp} : ∀ {vs : List V} {ds : List PyData}, DpAll K H vs ds → onlyAll ds = true → DqAll K H vs ds
  | _, _, .nil, _ => .nil
  | _, _, .cons h a, o => by
    simp only [onlyAll, Bool.and_eq_true] at o
    exact .cons (Dp.toq h o.1) (Dp.toqAll a o.2)
end
end TL
namespace TL
open PySem PySem.Spec PyProof.Rows L2
/-! ### making an instance whose __init__ may raise -/
def tMakeX (C : Addr) (sp : Sp) (E : L2.St → XK) (t : TA) : TE := fun σ H Q => t σ H fun vs H1 => ∀ x dx, H1 x = none → H1 dx = none → dx ≠ x →
  sp (.ref x :: vs) (upd (upd H1 dx (.own x)) x (.ins C dx [])) (fun v H2 => v = .non ∧ Q (.ref x) H2) (E σ)
section
variable {X : Cx} {CX : CXT} {k : Nat} {ps : List Str} {sp : Sp} {C f : Addr} {fd : FuncData} {x : Str} {p pos : Pos} {e : Expr} {es : List Expr} {t : TA} {W : WX}
theorem run_makeX {E : XK} {pins : List (Addr × Obj)} {σ : L2.St} {H : Hp} {s : Shared} {Q : VK} {us : List Value} {vs : List V} (M : Mk X.K C f) (F : FnOk X.prog X.w X.K X.mg X.base CX k f fd ps sp) (hr : Room (k + 1) X.A) (hb : Binds X.K fd ps [])
    (hx : PassesAt CX X σ E) (I : Inv X pins σ H s) (r : Vals vs us)
    (h : ∀ x dx, H x = none → H dx = none → dx ≠ x → sp (.ref x :: vs) (upd (upd H dx (.own x)) x (.ins C dx [])) (fun v H2 => v = .non ∧ Q (.ref x) H2) E) :
    wpAny (model X.prog X.w) X.A (call (.ref C) us) (EP X pins σ Q) X.xe s := by
  have hq := h (s.heap.objs.size + 1) s.heap.objs.size (I.hok.fresh (Nat.le_succ _)) (I.hok.fresh (Nat.le_refl _)) (Nat.ne_of_lt (Nat.lt_succ_self _))
  have I2 := Inv.made (C := C) I
  have r2 : Vals (V.ref (s.heap.objs.size + 1) :: vs) (Value.ref (s.heap.objs.size + 1) :: us) := .cons rfl r
  have hl : (Value.ref (s.heap.objs.size + 1) :: us).length = ps.length := by
    have e := r2.length
    rw [F.len _ _ _ _ hq] at e
    exact e.symm
  have b := hb _ (Value.ref (s.heap.objs.size + 1) :: us) I2.kIn (by rw [List.append_nil]; exact hl)
  rw [List.append_nil] at b
  refine wpAny_call (make_map (f := f) I.kIn M.makes M.init (beq_iff_eq.mp M.fn) (codeAny_mono (F.run _ X.stack _ _ ⟨Value.ref (s.heap.objs.size + 1) :: us, []⟩ (Value.ref (s.heap.objs.size + 1) :: us) _ _ E (hr.make C us [])
    (I2.env0.make C us []) b r2 hq) fun r s' hq' => ?_))
  cases r with
  | error e => exact hx _ _ _ e s' I2 hq'
  | ok fl =>
    cases fl with
    | ret u =>
      obtain ⟨v, H', I3, rv, ev, q3⟩ := I2.after hq'
      subst ev
      exact ⟨rv, ⟨V.ref (s.heap.objs.size + 1), H', I3, rfl, q3⟩⟩
    | next => exact False.elim hq'
    | brk => exact False.elim hq'
    | cont => exact False.elim hq'
theorem pe_newX (M : NwX X.prog X.w X.K X.mg X.base x C k ps sp) (hr : Room (k + 1) X.A) (tk : Takes X W) (hg : Gl X x) (ha : PA X (e :: es) t) (hdb : (x == ("__debug__" : Str)) = false := by decide)
    (he : starEach (e :: es) X.env = (false, eval e X.env) :: starEach es X.env := by rfl) (hpl : (backTo pos (starEach es X.env)).any (·.1) = false := by rfl) :
    PE X (.Call (.Name x p) (e :: es) [] pos) (tMakeX C sp (WE W) t) := by
  obtain ⟨f, fd, F, hm, hg2, hb⟩ := M.ex
  refine ⟨fun pins s σ H Q I h => ?_⟩
  refine wpAny_Call_Name_kw (ld_glob I hg hg2 ?_ hdb)
  refine PySem.W.callWith_K (h₀ := X.base) I.ok.mod.kin hm.kp (thn (ha.run pos pins s σ H _ I h) fun us s1 ⟨vs, H1, I1, r, q⟩ => ⟨I1.kIn, ?_⟩) he hpl
  exact run_makeX hm F hr hb (passAt tk σ) I1 r q
end
/-! ### isinstance of a held error, with a field or without one -/
def rIsM (K : PySem.W.Frag) (cls : Value) (d : Option Addr) (a : Addr) : List V → Hp → VK → Prop := fun xs H Q => rIsA K cls d a xs H Q ∨ rIs0 K cls d a xs H Q
theorem isMK (K : PySem.W.Frag) {X : Cx} {a : Addr} {oe : Obj} {cls : Value} {d : Option Addr} {pn : List (Addr × Obj)} (hz : Zc cls d oe) (hf : ∃ vs, oe.data = .fields vs) (h : X.K = K := by rfl) :
    CallR (X.suite a ((a, oe) :: pn)) (.builtin "isinstance") (rIsM K cls d a) := by
  subst h
  intro pins s σ H xs us Q I r h
  rcases h with h | h
  · exact isAK X.K hz hf rfl pins s σ H xs us Q I r h
  · exact is0K X.K hz hf rfl pins s σ H xs us Q I r h
end TL
namespace TL
open PySem PySem.Spec PyProof.Rows L2
section
variable {X : Cx} {o e : Expr} {to te : TE}
theorem joinK (K : PySem.W.Frag) {apos pos : Pos} (ho : PE X o to) (he : PE X e te) (h : X.K = K := by rfl) (hs : starEach [e] X.env = [(false, eval e X.env)] := by rfl) (hbase : attributeBase o "join" X.env (eval o X.env) = eval o X.env := by rfl) (hline : (apos.endLine == pos.line) = true := by rfl) :
    PE X (.Call (.Attribute o "join" apos) [e] [] pos) (tM1 (fun x xs H Q => ∃ a p, ∃ ys : List Str, x = .str a ∧ xs = [.ref p] ∧ (SqL K H p (ys.map V.str) ∨ SqT K H p (ys.map V.str)) ∧
      (ys.map (·.length)).sum + ys.length * a.length ≤ 16777216 ∧ Q (.str (Txt.join a ys)) H) to te) := by
  subst h
  exact pe_join ho he hs hbase hline
end
def tJd (ts : List TE) : TE := fun σ H Q => tJs ts Str.empty σ H fun out H1 => Q (.str out) H1
theorem pe_jd {X : Cx} {v1 v2 : Expr} {rest : List Expr} {ts : List TE} {pos : Pos} (h : PJ X (v1 :: v2 :: rest) ts) : PE X (.JoinedStr (v1 :: v2 :: rest) pos) (tJd ts) := pe_joined h
/-! ### texts of pairs -/
abbrev dig (i : Int) : Str := (toString i : String)
def wrd (g : Str) (p : Int × Int) : Str := dig p.1 ++ g ++ dig p.2
def wds (g : Str) (ps : List (Int × Int)) : List Str := if ps = [] then [("none" : Str)] else ps.map (wrd g)
def txt (g : Str) (ps : List (Int × Int)) : Str := Txt.join " " (wds g ps)
def sm12 (p : Int × Int) : Prop := (0 ≤ p.1 ∧ p.1 ≤ 12) ∧ 0 ≤ p.2 ∧ p.2 ≤ 12
theorem dig_all : ∀ i : Fin 13, (∀ c ∈ tl (dig ((i : Nat) : Int)), 48 ≤ c ∧ c ≤ 57) ∧ (dig ((i : Nat) : Int)).length ≤ 2 ∧ ∀ j : Fin 13, tl (dig ((i : Nat) : Int)) = tl (dig ((j : Nat) : Int)) → i = j := by
  decide +kernel
theorem dig_ok {i : Int} (h : 0 ≤ i ∧ i ≤ 12) : (∀ c ∈ tl (dig i), 48 ≤ c ∧ c ≤ 57) ∧ (dig i).length ≤ 2 := by
  have e : i = (((⟨i.toNat, by omega⟩ : Fin 13) : Nat) : Int) := by show i = (i.toNat : Int); omega
  have := dig_all ⟨i.toNat, by omega⟩
  rw [e]
  exact ⟨this.1, this.2.1⟩
theorem dig_inj {i j : Int} (h : 0 ≤ i ∧ i ≤ 12) (g : 0 ≤ j ∧ j ≤ 12) (e : dig i = dig j) : i = j := by
  have ei : i = (((⟨i.toNat, by omega⟩ : Fin 13) : Nat) : Int) := by show i = (i.toNat : Int); omega
  have ej : j = (((⟨j.toNat, by omega⟩ : Fin 13) : Nat) : Int) := by show j = (j.toNat : Int); omega
  have := (dig_all ⟨i.toNat, by omega⟩).2.2 ⟨j.toNat, by omega⟩ (by rw [← ei, ← ej, e])
  have := congrArg (fun z : Fin 13 => z.val) this
  simp only at this
  omega
/-- a sign of its own between two numbers -/
structure Sg (g : Str) (s : Nat) : Prop where
  one : tl g = [s]
  low : g.cps.all (· < 256) = true
  is : s = 45 ∨ s = 62
theorem sg_edge : Sg "-" 45 := ⟨by decide +kernel, by decide +kernel, .inl rfl⟩
theorem sg_slide : Sg ">" 62 := ⟨by decide +kernel, by decide +kernel, .inr rfl⟩
section
variable {g : Str} {s : Nat}
theorem wrd_join (g : Str) (p : Int × Int) : wrd g p = Txt.join g [dig p.1, dig p.2] := by
  rw [join_eq]
  rfl
theorem wrd_split (G : Sg g s) {p : Int × Int} (h : sm12 p) : Txt.split (wrd g p) g = [dig p.1, dig p.2] := by
  rw [wrd_join]
  refine split_join (s := s) (S := []) G.one G.low (by simp) fun z hz => ?_
  have key : ∀ i : Int, 0 ≤ i ∧ i ≤ 12 → s ∉ tl (dig i) := fun i hi z => by
    have := (dig_ok hi).1 s z
    have := G.is
    omega
  rcases List.mem_cons.mp hz with rfl | hz
  · exact key _ h.1
  · rw [List.mem_singleton.mp hz]
    exact key _ h.2
theorem wrd_inj (G : Sg g s) {p q : Int × Int} (h : sm12 p) (k : sm12 q) (e : wrd g p = wrd g q) : p = q := by
  have h1 := wrd_split G h
  rw [e, wrd_split G k] at h1
  injection h1 with e1 e2
  injection e2 with e2 _
  exact Prod.ext (dig_inj h.1 k.1 e1.symm) (dig_inj h.2 k.2 e2.symm)
theorem wrd_mem (G : Sg g s) {p : Int × Int} (h : sm12 p) : s ∈ tl (wrd g p) ∧ (32 ∉ tl (wrd g p)) ∧ (wrd g p).length ≤ 5 := by
  unfold wrd
  rw [tl_append, tl_append, G.one]
  refine ⟨by simp, fun z => ?_, ?_⟩
  · rcases List.mem_append.mp z with z | z
    · rcases List.mem_append.mp z with z | z
      · have := (dig_ok h.1).1 _ z
        omega
      · have := List.mem_singleton.mp z
        have := G.is
        omega
    · have := (dig_ok h.2).1 _ z
      omega
  · rw [Str.length_append, Str.length_append]
    have h1 := (dig_ok h.1).2
    have h2 := (dig_ok h.2).2
    have h3 : g.length = 1 := by rw [len_tl, G.one]; rfl
    omega
theorem wds_ok (G : Sg g s) {ps : List (Int × Int)} (h : ∀ p ∈ ps, sm12 p) : wds g ps ≠ [] ∧ (∀ w ∈ wds g ps, 32 ∉ tl w ∧ w.length ≤ 5) ∧ (wds g ps).length ≤ ps.length + 1 := by
  unfold wds
  split
  · refine ⟨by simp, fun w hw => ?_, by simp⟩
    rw [List.mem_singleton.mp hw]
    exact ⟨by decide +kernel, by decide +kernel⟩
  · rename_i hn
    refine ⟨fun z => hn (List.map_eq_nil_iff.mp z), fun w hw => ?_, by rw [List.length_map]; omega⟩
    obtain ⟨p, hp, rfl⟩ := List.mem_map.mp hw
    exact ⟨(wrd_mem G (h p hp)).2.1, (wrd_mem G (h p hp)).2.2⟩
theorem txt_inj (G : Sg g s) {ps qs : List (Int × Int)} (h : ∀ p ∈ ps, sm12 p) (k : ∀ p ∈ qs, sm12 p) (e : txt g ps = txt g qs) : ps = qs := by
  have sp : ∀ {ps : List (Int × Int)}, (∀ p ∈ ps, sm12 p) → Txt.split (txt g ps) " " = wds g ps := fun {ps} h => by
    obtain ⟨h1, h2, _⟩ := wds_ok G h
    exact split_join (s := 32) (S := []) (by decide +kernel) (by decide +kernel) h1 fun w hw => (h2 w hw).1
  have e2 : wds g ps = wds g qs := by rw [← sp h, e, sp k]
  have no : ∀ {qs : List (Int × Int)}, (∀ p ∈ qs, sm12 p) → ("none" : Str) ∉ qs.map (wrd g) := fun {qs} k z => by
    obtain ⟨q, hq, eq⟩ := List.mem_map.mp z
    have := (wrd_mem G (k q hq)).1
    rw [eq] at this
    have n1 : tl ("none" : Str) = [110, 111, 110, 101] := by decide +kernel
    rw [n1] at this
    have := G.is
    simp at *
    omega
  unfold wds at e2
  split at e2
  · split at e2
    · rename_i h1 h2
      rw [h1, h2]
    · exact absurd (by rw [← e2]; exact List.mem_singleton.mpr rfl) (no k)
  · split at e2
    · exact absurd (by rw [e2]; exact List.mem_singleton.mpr rfl) (no h)
    · rename_i h1 h2
      clear h1 h2 e
      induction ps generalizing qs with
      | nil =>
        cases qs with
        | nil => rfl
        | cons _ _ => cases e2
      | cons p ps ih =>
        cases qs with
        | nil => cases e2
        | cons q qs =>
          rw [List.map_cons, List.map_cons] at e2
          injection e2 with e3 e4
          rw [wrd_inj G (h p List.mem_cons_self) (k q List.mem_cons_self) e3, ih (fun p hp => h p (List.mem_cons_of_mem _ hp)) (fun p hp => k p (List.mem_cons_of_mem _ hp)) e4]
theorem joinL_len (S : List Nat) : ∀ parts : List (List Nat), (joinL S parts).length ≤ (parts.map List.length).sum + parts.length * S.length
  | [] => Nat.zero_le _
  | [p] => by
    show p.length ≤ _
    rw [List.map_cons, List.sum_cons]
    omega
  | p :: q :: r => by
    have ih := joinL_len S (q :: r)
    show (p ++ (S ++ joinL S (q :: r))).length ≤ _
    rw [List.length_append, List.length_append, List.map_cons, List.sum_cons, List.length_cons (a := p), Nat.add_mul]
    omega
theorem sum_le {ws : List Str} {n : Nat} (h : ∀ w ∈ ws, w.length ≤ n) : (ws.map (·.length)).sum ≤ n * ws.length := by
  induction ws with
  | nil => exact Nat.zero_le _
  | cons w ws ih =>
    have h1 := h w List.mem_cons_self
    have h2 := ih fun w hw => h w (List.mem_cons_of_mem _ hw)
    rw [List.map_cons, List.sum_cons, List.length_cons, Nat.mul_add]
    omega
theorem txt_len (G : Sg g s) {ps : List (Int × Int)} (h : ∀ p ∈ ps, sm12 p) : (txt g ps).length ≤ 6 * (ps.length + 1) := by
  obtain ⟨h1, h2, h3⟩ := wds_ok G h
  unfold txt
  rw [len_tl, join_eq, tl_join]
  have e : (((wds g ps).map tl).map List.length).sum = ((wds g ps).map (·.length)).sum := by
    rw [List.map_map]
    congr 1
  have h4 := joinL_len (tl (" " : Str)) ((wds g ps).map tl)
  rw [e, List.length_map, show (tl (" " : Str)).length = 1 by decide +kernel] at h4
  have h5 := sum_le fun w hw => (h2 w hw).2
  omega
end
/-! ### texts of forests -/
def ftx (n : Int) (es : List (Int × Int)) : Str := dig n ++ ": " ++ txt "-" es
theorem ftx_inj {n k : Int} {es fs : List (Int × Int)} (hn : 0 ≤ n ∧ n ≤ 12) (hk : 0 ≤ k ∧ k ≤ 12) (h : ∀ p ∈ es, sm12 p) (g : ∀ p ∈ fs, sm12 p) (e : ftx n es = ftx k fs) : n = k ∧ es = fs := by
  have key : ∀ {n : Int} {es : List (Int × Int)}, (0 ≤ n ∧ n ≤ 12) → Txt.partition (ftx n es) (": " : Str) = (dig n, (": " : Str), txt "-" es) := fun {n es} hn =>
    partition_app (y := (": " : Str)) (s := 58) (S := [32]) (by decide +kernel) fun z => by
      have := (dig_ok hn).1 _ z
      omega
  have e1 := key (es := es) hn
  rw [e, key hk] at e1
  injection e1 with e2 e3
  injection e3 with _ e4
  exact ⟨dig_inj hn hk e2.symm, txt_inj sg_edge h g e4.symm⟩
end TL
namespace TL
open PySem PySem.Spec PyProof.Rows L2
/-! ### sorted(a tuple of pairs of ints) -/
@[irreducible] def rSortTP (K : PySem.W.Frag) : List V → Hp → VK → Prop := fun vs H Q => ∃ (ps : List (Int × Int)) (a : Addr) (xs : List V), vs = [.ref a] ∧ SqT K H a xs ∧ DpAll K H xs (ps.map prD) ∧ ps.length ≤ 1000 ∧
  ∀ p ys, H p = none → DpAll K H ys ((srtP ps).map prD) → Q (.ref p) (upd H p (.lst ys))
section
variable {X : Cx}
theorem pair_reads {pins : List (Addr × Obj)} {σ : L2.St} {H : Hp} {s : Shared} (I : Inv X pins σ H s) {h' : Heap} (kp : ∀ b o, s.heap.get? b = some o → h'.get? b = some o) (c : Addr) :
    ∀ {xs : List V} {us : List Value} {ps : List (Int × Int)}, Vals xs us → DpAll X.K H xs (ps.map prD) → PySem.W.EachIs (fun (u : Value) (b : Int × Int) => ∃ as, Reads h' u (prD b) as ∧ c ∉ as) us ps
  | _, _, [], .nil, _ => .nil
  | _, _, _ :: _, .nil, h => nomatch h
  | _, _, [], .cons _ _, h => nomatch h
  | _, _, b :: bs, .cons r t, .cons h a => by
    refine .cons ⟨[], ?_, fun z => nomatch z⟩ (pair_reads I kp c t a)
    obtain ⟨q, rfl, hq⟩ := Dp.prI h
    cases r
    obtain ⟨its, rv, ⟨oq, hoq, hcq, n, hdq⟩, _⟩ := I.tuple (xs := [b.1, b.2].map V.int) hq
    exact .tuple (kp _ _ hoq) hcq hdq (reads_ints (ns := [b.1, b.2]) (Vals.ints rv))
theorem sorted_TP (hu : X.A.units + 64 < cLine) : CallR X (.builtin "sorted") (rSortTP X.K) := by
  intro pins s σ H vs us Q I rr h
  unfold rSortTP at h
  obtain ⟨ps, a, xs, ev, hq, hA, lp, q⟩ := h
  subst ev
  rw [Vals.ref1 rr]
  obtain ⟨its, rv, ⟨oq, hoq, hcq, n, hdq⟩, hz⟩ := I.tuple hq
  have lx : xs.length = ps.length := by rw [DpAll.length hA, List.length_map]
  have li := rv.length
  refine Calls.call_function_entry kind_sorted plain_sorted entry_sorted (args_sorted1 _) ?_
  unfold Builtin.«sorted»
  refine wpAny_bind (m := checkCount "sorted" 1 1 _) (wpAny_pure ?_)
  refine wpAny_bind (wpAny_collect_seq a (.inr rfl) hoq hcq hdq (fun G kp => ?_) (by rw [List.size_toArray]; omega))
  have J : Inv X pins σ H { s with heap := G } := I.kept (t' := s.toks) kp
  refine wpAny_bind (wpAny_newList ?_ (by show its.length ≤ _; omega))
  have hoL : (G.push (seqObj "list" its.toArray 0)).get? G.objs.size = some (seqObj "list" its.toArray 0) := Heap.get?_push_size _ rfl
  have k1 : ∀ b o, s.heap.get? b = some o → (G.push (seqObj "list" its.toArray 0)).get? b = some o := fun b o e => Heap.get?_push_of_some _ (kp b o e)
  refine wpAny_bind (wpAny_holding (PySem.W.list_sort_data (s := { s with heap := G.push (seqObj "list" its.toArray 0) }) hoL (each_of prD rv hA) (pair_reads I k1 _ rv hA) ?_ ?_ (Nat.le_of_lt (small1000 lp)) (fun b _ => ?_) fun out ho2 eo => ?_))
  · intro d hd e he
    obtain ⟨x, _, rfl⟩ := List.mem_map.mp hd
    obtain ⟨y, _, rfl⟩ := List.mem_map.mp he
    simp [prD, PySem.W.alike, PySem.W.alikeAll]
  · refine .inl fun d hd => ?_
    obtain ⟨x, hx, rfl⟩ := List.mem_map.mp hd
    exact ⟨_, _, rfl⟩
  · have := dep_pr b
    show X.A.in1.units + 1 + _ < _
    have : X.A.in1.units ≤ X.A.units + 1 := Nat.le_refl _
    omega
  obtain ⟨ys, ry, dy⟩ := of_each prD eo
  obtain ⟨c, hc2⟩ := sortedHeap_at (vs := its) (out := out.toArray) hoL
  have hk : ∀ b o, G.get? b = some o → (sortedHeap (G.push (seqObj "list" its.toArray 0)) G.objs.size its out.toArray).get? b = some o := fun b u e => by
    have hlt := Heap.lt_size e
    rw [sortedHeap_old (Nat.ne_of_lt hlt) (by rw [size_push']; exact Nat.lt_succ_of_lt hlt)]
    exact Heap.get?_push_of_some _ e
  have hn : H G.objs.size = none := J.hok.fresh (Nat.le_refl _)
  have hlen : ys.length ≤ sizeLine := by rw [ry.length, ho2]; exact Nat.le_of_lt (small1000 lp)
  have J2 := J.laid (t' := s.toks) (o := .lst ys) hk (Nat.le_refl _) ⟨hlen, out, c, ry, hc2⟩
  rw [le_pr_fun] at dy
  exact wpAny_pure ⟨_, rfl, ⟨.ref G.objs.size, _, J2, rfl, q _ ys hn dy⟩⟩
theorem sortTPK (K : PySem.W.Frag) (hu : X.A.units + 64 < cLine) (h : X.K = K := by rfl) : CallR X (.builtin "sorted") (rSortTP K) := h ▸ sorted_TP hu
end
end TL
namespace TL
open PySem PySem.Spec PyProof.Rows L2
/-! ### sorted(a tuple of ints) -/
@[irreducible] def rSortTI (K : PySem.W.Frag) : List V → Hp → VK → Prop := fun vs H Q => ∃ (ns : List Int) (a : Addr), vs = [.ref a] ∧ SqT K H a (ns.map V.int) ∧ ns.length ≤ 1000 ∧
  ∀ p, H p = none → Q (.ref p) (upd H p (.lst ((srtI ns).map V.int)))
section
variable {X : Cx}
theorem ints_reads {h' : Heap} (c : Addr) : ∀ {us : List Value} {ns : List Int}, IntsAre us ns → PySem.W.EachIs (fun (u : Value) (b : Int) => ∃ as, Reads h' u (PyData.int b) as ∧ c ∉ as) us ns
  | [], [], _ => .nil
  | v :: vs, n :: ns, a => by
    cases a with
    | cons _ t a2 => exact .cons ⟨[], .int n t, fun z => nomatch z⟩ (ints_reads c a2)
theorem sorted_TI (hu : X.A.units + 64 < cLine) : CallR X (.builtin "sorted") (rSortTI X.K) := by
  intro pins s σ H vs us Q I rr h
  unfold rSortTI at h
  obtain ⟨ns, a, ev, hq, lp, q⟩ := h
  subst ev
  rw [Vals.ref1 rr]
  obtain ⟨its, rv, ⟨oq, hoq, hcq, n, hdq⟩, hz⟩ := I.tuple hq
  have li := rv.length
  rw [List.length_map] at li
  refine Calls.call_function_entry kind_sorted plain_sorted entry_sorted (args_sorted1 _) ?_
  unfold Builtin.«sorted»
  refine wpAny_bind (m := checkCount "sorted" 1 1 _) (wpAny_pure ?_)
  refine wpAny_bind (wpAny_collect_seq a (.inr rfl) hoq hcq hdq (fun G kp => ?_) (by rw [List.size_toArray]; exact Nat.le_of_lt (small1000 (by omega))))
  have J : Inv X pins σ H { s with heap := G } := I.kept (t' := s.toks) kp
  refine wpAny_bind (wpAny_newList ?_ (by show its.length ≤ _; exact Nat.le_of_lt (small1000 (by omega))))
  have hoL : (G.push (seqObj "list" its.toArray 0)).get? G.objs.size = some (seqObj "list" its.toArray 0) := Heap.get?_push_size _ rfl
  refine wpAny_bind (wpAny_holding (PySem.W.list_sort_data (s := { s with heap := G.push (seqObj "list" its.toArray 0) }) hoL (each_of (K := X.K) (H := H) PyData.int rv (DpAll.of_ints ns)) (ints_reads _ (Vals.ints rv)) ?_ ?_ (Nat.le_of_lt (small1000 lp)) (fun b _ => ?_) fun out ho2 eo => ?_))
  · intro d hd e he
    obtain ⟨x, _, rfl⟩ := List.mem_map.mp hd
    obtain ⟨y, _, rfl⟩ := List.mem_map.mp he
    simp [PySem.W.alike]
  · refine .inr fun d hd => ?_
    obtain ⟨x, hx, rfl⟩ := List.mem_map.mp hd
    exact ⟨fun z => (nomatch z), fun _ z => (nomatch z)⟩
  · show X.A.in1.units + 1 + _ < _
    have : X.A.in1.units ≤ X.A.units + 1 := Nat.le_refl _
    simp only [PyData.depth]
    omega
  obtain ⟨ys, ry, dy⟩ := of_each PyData.int eo
  rw [le_int_fun] at dy
  have ey := DpAll.ints dy
  subst ey
  obtain ⟨c, hc2⟩ := sortedHeap_at (vs := its) (out := out.toArray) hoL
  have hk : ∀ b o, G.get? b = some o → (sortedHeap (G.push (seqObj "list" its.toArray 0)) G.objs.size its out.toArray).get? b = some o := fun b u e => by
    have hlt := Heap.lt_size e
    rw [sortedHeap_old (Nat.ne_of_lt hlt) (by rw [size_push']; exact Nat.lt_succ_of_lt hlt)]
    exact Heap.get?_push_of_some _ e
  have hn : H G.objs.size = none := J.hok.fresh (Nat.le_refl _)
  have hlen : ((srtI ns).map V.int).length ≤ sizeLine := by rw [List.length_map, srtI_length]; exact Nat.le_of_lt (small1000 lp)
  have J2 := J.laid (t' := s.toks) (o := .lst ((srtI ns).map V.int)) hk (Nat.le_refl _) ⟨hlen, out, c, ry, hc2⟩
  exact wpAny_pure ⟨_, rfl, ⟨.ref G.objs.size, _, J2, rfl, q _ hn⟩⟩
theorem sortTIK (K : PySem.W.Frag) (hu : X.A.units + 64 < cLine) (h : X.K = K := by rfl) : CallR X (.builtin "sorted") (rSortTI K) := h ▸ sorted_TI hu
end
theorem sortTupI {K : PySem.W.Frag} {H : Hp} {x : V} {ns : List Int} {Q : VK} (hx : Dp K H x (intsD ns)) (hl : ns.length ≤ 1000) (q : ∀ p, H p = none → Q (.ref p) (upd H p (.lst ((srtI ns).map V.int)))) : rSortTI K [x] H Q := by
  obtain ⟨a, rfl, h1⟩ := Dp.intsI hx
  unfold rSortTI
  exact ⟨ns, a, rfl, h1, hl, q⟩
/-! ### one lamp more or less, one vertex more -/
theorem IsGr.less {m : Nat} {es : List (Int × Int)} {S S' G G' : List Int} {x : Int} (h : IsGr m es S G) (h' : IsGr m es S' G') (e : ∀ z, z ∈ S' ↔ z ∈ S ∧ z ≠ x) : (x ∉ G → G' = G) ∧ ∀ z ∈ G', z ∈ G ∧ z ≠ x := by
  have sub : ∀ z ∈ G', z ∈ G ∧ z ≠ x := fun z hz => ⟨h'.mono h (fun y hy => ((e y).mp hy).1) z hz, ((e z).mp (h'.sub z hz)).2⟩
  refine ⟨fun nx => asc_ext h'.asc h.asc fun z => ⟨fun hz => (sub z hz).1, fun hz => ?_⟩, sub⟩
  exact h'.max G (fun y hy => (e y).mpr ⟨h.sub y hy, fun z => nx (z ▸ hy)⟩) h.cl z hz
theorem IsGr.alone {m : Nat} {es : List (Int × Int)} {S G : List Int} {x : Int} (h : IsGr m es S G) (hx : x ∈ S) (n : nearL m es x = []) : x ∈ G := by
  refine h.max [x] (fun y hy => by rw [List.mem_singleton.mp hy]; exact hx) (fun y hy v hv => ?_) x (List.mem_singleton.mpr rfl)
  rw [List.mem_singleton.mp hy, n] at hv
  cases hv
theorem IsGr.grown {m : Nat} {es : List (Int × Int)} {S G : List Int} {l : Int} (f : IsFor m es) (hl : 0 ≤ l ∧ l < m) (h : IsGr (m + 1) (srtP (es ++ [(l, (m : Int))])) S G) : l ∉ G := by
  intro z
  have f' := f.attach hl
  have ed : ordP l (m : Int) ∈ srtP (es ++ [(l, (m : Int))]) := by
    rw [mem_srtP, ordP_eq (by omega)]
    exact List.mem_append_right _ (List.mem_singleton.mpr rfl)
  have hw : (m : Int) ∈ nearL (m + 1) (srtP (es ++ [(l, (m : Int))])) l := mem_nearL.mpr ⟨by omega, by rw [ordP_comm]; exact ed⟩
  obtain ⟨y, y1, y2, y3⟩ := h.cl.other z hw
  rcases f'.mem_ord.mp (mem_nearL.mp y3).2 with q | q
  · rcases List.mem_append.mp (mem_srtP.mp q) with q | q
    · have := f.rng _ q
      simp only at this
      omega
    · have := List.mem_singleton.mp q
      injection this with e1 e2
      exact y2 e1
  · rcases List.mem_append.mp (mem_srtP.mp q) with q | q
    · have := f.rng _ q
      simp only at this
      omega
    · have := List.mem_singleton.mp q
      injection this with e1 e2
      omega
end TL
namespace TL
open PySem PySem.Spec PyProof.Rows L2
/-! ### what is due -/
def rNeE (K : PySem.W.Frag) : R2 := fun x y H Q => ∃ (a b : Addr) (xs : List V), x = .ref a ∧ y = .ref b ∧ SqL K H a xs ∧ SqL K H b [] ∧ Q (.bl (!xs.isEmpty)) H
theorem op_neE {X : Cx} (hu : X.A.units + 64 < cLine) : OpR X (compareOp .NotEq) (rNeE X.K) := by
  intro pins s σ H x y v u Q I rx ry h
  obtain ⟨a, b, xs, rfl, rfl, ha, hb, q⟩ := h
  cases rx
  cases ry
  obtain ⟨its, rv, ⟨o, n, ho, hc, _, hd⟩, _⟩ := I.list ha
  obtain ⟨its2, rv2, ⟨o2, n2, ho2, hc2, _, hd2⟩, _⟩ := I.list hb
  cases rv2
  have hl : s.heap.IsList a its.toArray := ⟨_, ho, hc, _, hd⟩
  have hl2 : s.heap.IsList b #[] := ⟨_, ho2, hc2, _, hd2⟩
  cases xs with
  | nil =>
    cases rv
    exact (SeqAt.RcNeAt.lists hl hl2 rfl (by omega) (fun j j1 _ => absurd j1 (Nat.not_lt_zero _)) (e := fun _ => true)) X.prog X.w X.xe _ ⟨.bl _, H, I, rfl, q⟩
  | cons x xs =>
    cases rv with
    | cons r1 r2 => exact (SeqAt.RcNeAt.lists_lengths hl hl2 (by simp) (by omega)) X.prog X.w X.xe _ ⟨.bl _, H, I, rfl, q⟩
theorem neEK (K : PySem.W.Frag) {X : Cx} (hu : X.A.units + 64 < cLine) (h : X.K = K := by rfl) : OpR X (compareOp .NotEq) (rNeE K) := h ▸ op_neE hu
end TL
namespace TL
/-! ### a list of different ascending lists of vertices has at most 2 ^ m items -/
def subs : List Int → List (List Int)
  | [] => [[]]
  | a :: l => subs l ++ (subs l).map (a :: ·)
theorem subs_length : ∀ l : List Int, (subs l).length = 2 ^ l.length
  | [] => rfl
  | a :: l => by
    show (subs l ++ (subs l).map (a :: ·)).length = 2 ^ (l.length + 1)
    rw [List.length_append, List.length_map, subs_length l, Nat.pow_succ]
    omega
theorem mem_subs {r l : List Int} (h : r.Sublist l) : r ∈ subs l := by
  induction h with
  | slnil => exact List.mem_singleton.mpr rfl
  | cons a _ ih => exact List.mem_append_left _ ih
  | cons_cons a _ ih => exact List.mem_append_right _ (List.mem_map.mpr ⟨_, ih, rfl⟩)
theorem asc_sublist : ∀ {l r : List Int}, Asc l → Asc r → (∀ x ∈ r, x ∈ l) → r.Sublist l
  | [], [], _, _, _ => List.Sublist.slnil
  | [], x :: _, _, _, h => nomatch h x List.mem_cons_self
  | a :: l, [], _, _, _ => List.nil_sublist _
  | a :: l, x :: r, hl, hr, h => by
    obtain ⟨l1, l2⟩ := List.pairwise_cons.mp hl
    obtain ⟨r1, r2⟩ := List.pairwise_cons.mp hr
    by_cases e : x = a
    · subst e
      refine (asc_sublist l2 r2 fun y hy => ?_).cons_cons _
      rcases List.mem_cons.mp (h y (List.mem_cons_of_mem _ hy)) with rfl | z
      · exact absurd (r1 _ hy) (Int.lt_irrefl _)
      · exact z
    · refine (asc_sublist l2 hr fun y hy => ?_).cons _
      have hx : x ∈ l := (List.mem_cons.mp (h x List.mem_cons_self)).resolve_left e
      rcases List.mem_cons.mp (h y hy) with rfl | z
      · exfalso
        have ax := l1 x hx
        rcases List.mem_cons.mp hy with rfl | hy
        · exact e rfl
        · have := r1 _ hy
          omega
      · exact z
theorem sets_few {m : Nat} {es : List (Int × Int)} {L : List (List Int)} (nd : L.Nodup) (h : ∀ r ∈ L, IsSet m es r) : L.length ≤ 2 ^ m := by
  have := nd.length_le_of_subset (l₂ := subs (rng m)) fun r hr => mem_subs (asc_sublist (rng_asc m) (h r hr).asc fun x hx => mem_rng.mpr ((h r hr).rng x hx))
  rw [subs_length, rng_length] at this
  exact this
end TL
namespace TL
open PySem PySem.Spec PyProof.Rows L2
/-! ### min(a list of ints) -/
def rMinI (K : PySem.W.Frag) : List V → Hp → VK → Prop := fun vs H Q => ∃ (a : Addr) (n : Int) (ns : List Int), vs = [.ref a] ∧ SqL K H a ((n :: ns).map V.int) ∧ Q (.int (ns.foldl min n)) H
theorem foldl_min {n : Int} : ∀ {ns : List Int}, (∀ k ∈ ns, n ≤ k) → ns.foldl min n = n
  | [], _ => rfl
  | k :: ns, h => by
    rw [List.foldl_cons, show min n k = n from Int.min_eq_left (h k List.mem_cons_self)]
    exact foldl_min fun j hj => h j (List.mem_cons_of_mem _ hj)
section
variable {X : Cx}
theorem depth_ints : ∀ ns : List Int, PyData.depthAll (ns.map .int) = 0
  | [] => by simp [PyData.depthAll]
  | n :: ns => by simp [PyData.depthAll, PyData.depth, depth_ints ns]
theorem call_minI (hc : X.calm = true) (hu : X.A.units + 64 < cLine) : CallR X (.builtin "min") (rMinI X.K) := by
  intro pins s σ H vs us Q I r h
  obtain ⟨a, n, ns, rfl, hs, q⟩ := h
  rw [Vals.ref1 r]
  obtain ⟨its, rv, hl, _⟩ := I.list hs
  obtain ⟨as, hr⟩ := Dp.readsAll I _ _ _ (DpAll.of_ints (n :: ns)) rv
  refine PySem.W.min_list_data (x := .int n) (xs := ns.map .int) (as := as) (I.ok.hd hc) hl.isList hr ⟨fun x hx y hy => ?_, fun x hx => ?_⟩ ?_ (fun i v h' tk bs hv rd hk => ?_)
  · have hx : x ∈ (n :: ns).map PyData.int := hx
    have hy : y ∈ (n :: ns).map PyData.int := hy
    obtain ⟨i, _, rfl⟩ := List.mem_map.mp hx
    obtain ⟨j, _, rfl⟩ := List.mem_map.mp hy
    simp [PySem.W.alike]
  · have hx : x ∈ (n :: ns).map PyData.int := hx
    obtain ⟨i, _, rfl⟩ := List.mem_map.mp hx
    exact fun z => nomatch z
  · have e : PyData.depthAll (PyData.int n :: ns.map .int) = 0 := depth_ints (n :: ns)
    rw [e]
    omega
  · rw [PySem.W.minD_ints] at rd
    cases rd
    exact ⟨.int _, H, I.kept hk, ⟨_, rfl⟩, q⟩
def rMaxI (K : PySem.W.Frag) : List V → Hp → VK → Prop := fun vs H Q => ∃ (a : Addr) (n : Int) (ns : List Int), vs = [.ref a] ∧ SqL K H a ((n :: ns).map V.int) ∧ Q (.int (ns.foldl max n)) H
theorem call_maxI (hc : X.calm = true) (hu : X.A.units + 64 < cLine) : CallR X (.builtin "max") (rMaxI X.K) := by
  intro pins s σ H vs us Q I r h
  obtain ⟨a, n, ns, rfl, hs, q⟩ := h
  rw [Vals.ref1 r]
  obtain ⟨its, rv, hl, _⟩ := I.list hs
  obtain ⟨as, hr⟩ := Dp.readsAll I _ _ _ (DpAll.of_ints (n :: ns)) rv
  refine PySem.W.max_list_data (x := .int n) (xs := ns.map .int) (as := as) (I.ok.hd hc) hl.isList hr ⟨fun x hx y hy => ?_, fun x hx => ?_⟩ ?_ (fun i v h' tk bs hv rd hk => ?_)
  · have hx : x ∈ (n :: ns).map PyData.int := hx
    have hy : y ∈ (n :: ns).map PyData.int := hy
    obtain ⟨i, _, rfl⟩ := List.mem_map.mp hx
    obtain ⟨j, _, rfl⟩ := List.mem_map.mp hy
    simp [PySem.W.alike]
  · have hx : x ∈ (n :: ns).map PyData.int := hx
    obtain ⟨i, _, rfl⟩ := List.mem_map.mp hx
    exact fun z => nomatch z
  · have e : PyData.depthAll (PyData.int n :: ns.map .int) = 0 := depth_ints (n :: ns)
    rw [e]
    omega
  · rw [PySem.W.maxD_ints] at rd
    cases rd
    exact ⟨.int _, H, I.kept hk, ⟨_, rfl⟩, q⟩
theorem maxIK (K : PySem.W.Frag) (hu : X.A.units + 64 < cLine) (hc : X.calm = true := by rfl) (h : X.K = K := by rfl) : CallR X (.builtin "max") (rMaxI K) := h ▸ call_maxI hc hu
theorem minIK (K : PySem.W.Frag) (hu : X.A.units + 64 < cLine) (hc : X.calm = true := by rfl) (h : X.K = K := by rfl) : CallR X (.builtin "min") (rMinI K) := h ▸ call_minI hc hu
end
end TL
namespace TL
open PySem PySem.Spec PyProof.Rows L2
/-! ### the head's looks over a written list of addresses -/
section
variable {α : Type}
def frGF (g : Addr → Option Obj) : List Addr → (PySem.W.Frag → α) → α
  | [], k => k []
  | a :: r, k => match g a with
    | some o => frGF g r fun K => k ((a, o) :: K)
    | none => frGF g r k
theorem frG_cons {g : Addr → Option Obj} {a : Addr} {r : List Addr} : He.frG g (a :: r) = match g a with
    | some o => (a, o) :: He.frG g r
    | none => He.frG g r := by
  unfold He.frG
  rw [List.filterMap_cons]
  cases g a <;> rfl
theorem frGF_eq (g : Addr → Option Obj) : ∀ (l : List Addr) (k : PySem.W.Frag → α), frGF g l k = k (He.frG g l)
  | [], _ => rfl
  | a :: r, k => by
    show (match g a with
      | some o => frGF g r fun K => k ((a, o) :: K)
      | none => frGF g r k) = _
    rw [frG_cons]
    cases g a with
    | some o => exact frGF_eq g r _
    | none => exact frGF_eq g r _
end
def hookL (as : List Addr) (ex : List (PySem.W.Frag → Bool)) (fn : List He.DefD) (ts : List He.Tab) : PySem.W.Hook where
  α := AlZ
  obs := fun s => obsZ ex fn ts (He.frG s.heap.get? as)
  val := fun w => valZ fn ts w
  says := fun w h => ∃ K : PySem.W.Frag, K.In h ∧ SaysZ ex fn ts w K
  of := fun _ _ e => ⟨_, He.frG_in, e⟩
  keeps := fun _ _ _ ⟨K, hK, c⟩ k => ⟨K, PySem.W.Frag.In.keeps hK k, c⟩
def obsL (as : List Addr) (ex : List (PySem.W.Frag → Bool)) (fn : List He.DefD) (ts : List He.Tab) (g : Addr → Option Obj) : AlZ := frGF g as fun K => obsZ ex fn ts K
theorem obsL_eq {as : List Addr} {ex : List (PySem.W.Frag → Bool)} {fn : List He.DefD} {ts : List He.Tab} {g : Addr → Option Obj} {s : Shared} (h : ∀ a, g a = s.heap.get? a) : obsL as ex fn ts g = (hookL as ex fn ts).obs s := by
  unfold obsL
  rw [frGF_eq]
  have e : g = s.heap.get? := funext h
  rw [e] <;> rfl
/-! ### which addresses: by names (a tool, not part of a proof) -/
def refV : Value → List Addr
  | .ref a => [a]
  | _ => []
def entsOf (g : Addr → Option Obj) (a : Addr) : List (Str × Value) := match g a with
  | some ⟨_, _, .dict es _, _⟩ => es.toList.filterMap fun e => match e.key with
    | .str x _ => some (x, e.val)
    | _ => none
  | _ => []
def fnA (g : Addr → Option Obj) (a : Addr) : List Addr := match g a with
  | some ⟨_, _, .func fd, _⟩ => a :: (refV fd.code ++ refV fd.kwdefaults)
  | _ => []
def clA (g : Addr → Option Obj) (ms : List Str) (a : Addr) : List Addr := match g a with
  | some ⟨_, _, .cls cd, _⟩ => a :: cd.ns :: (entsOf g cd.ns).flatMap fun e => if ms.contains e.1 then (refV e.2).flatMap (fnA g) else []
  | _ => []
def needA (g : Addr → Option Obj) (xs ms : List Str) : List Addr := mainGlobals :: (entsOf g mainGlobals).flatMap fun e => if xs.contains e.1 then (match e.2 with
  | .ref a => (match g a with
    | some ⟨_, _, .func _, _⟩ => fnA g a
    | some ⟨_, _, .cls _, _⟩ => clA g ms a
    | some ⟨_, _, .dict _ _, _⟩ => [a]
    | _ => [])
  | _ => []) else []
/-- the classes and their names, the dicts: looked up often -/
def clsA (g : Addr → Option Obj) (xs : List Str) : List Addr := (entsOf g mainGlobals).flatMap fun e => if xs.contains e.1 then (match e.2 with
  | .ref a => (match g a with
    | some ⟨_, _, .cls cd, _⟩ => [a, cd.ns]
    | some ⟨_, _, .dict _ _, _⟩ => [a]
    | _ => [])
  | _ => []) else []
end TL
namespace TL
open PySem PySem.Spec PyProof.Rows L2
/-! ### the head's looks at an error class of the text -/
def excOb (K : PySem.W.Frag) (C : Addr) : Bool := match K.lookup C with
  | some ⟨.type "type", _, .cls cd, sl⟩ => (match cd.mro, sl.toList with
    | .ref C' :: bm, [_, _, _, _, some (.builtin n), _] => C' == C && (n == "ValueError.__new__" && (cd.hasDict && (!cd.hasDel && PySem.HandSPX.refsVE bm)))
    | _, _ => false)
  | _ => false
theorem excOb_ok {K : PySem.W.Frag} {C : Addr} (h : excOb K C = true) : ∃ nm q N bs bm sn sub ab col dd k0 k1 k2 k3 k5, K.lookup C = some (excClassObj nm q C N bs bm true sn sub ab col dd k0 k1 k2 k3 k5 "ValueError.__new__") ∧ PySem.HandSPX.refsVE bm = true := by
  unfold excOb at h
  split at h
  · rename_i dd cd sl ho
    split at h
    · rename_i C' bm k0 k1 k2 k3 n k5 hm hs
      simp only [Bool.and_eq_true, beq_iff_eq, Bool.not_eq_true'] at h
      obtain ⟨rfl, rfl, hd, hdel, hr⟩ := h
      obtain ⟨nm, bs, mro, ns, qn, hdc, sn, sub, ab, col, del⟩ := cd
      dsimp only at hm hdel hd
      subst hm hdel hd
      have hsl : sl = #[k0, k1, k2, k3, some (.builtin "ValueError.__new__"), k5] := by
        obtain ⟨l⟩ := sl
        simp only at hs
        rw [hs]
      subst hsl
      exact ⟨nm, qn, ns, bs, bm, sn, sub, ab, col, dd, k0, k1, k2, k3, k5, ho, hr⟩
    · cases h
  · cases h
theorem isFn_ty {K : PySem.W.Frag} {v : Value} (h : PySem.W.isFn K v = true) : PySem.W.typeIn K v = some (.type "function") := eq_of_beq h
end TL
namespace TL
open PySem PySem.Spec PyProof.Rows L2
/-! ### t >= u of two pairs of ints -/
def rGeP (K : PySem.W.Frag) : R2 := fun x y H Q => ∃ (a b : Addr) (p q : Int × Int), x = .ref a ∧ y = .ref b ∧ SqT K H a [V.int p.1, V.int p.2] ∧ SqT K H b [V.int q.1, V.int q.2] ∧ Q (.bl (decide (q.1 < p.1 ∨ (q.1 = p.1 ∧ q.2 ≤ p.2)))) H
theorem beqd (a b : Int) : (a == b) = decide (a = b) := by
  by_cases h : a = b
  · rw [decide_eq_true h]; exact beq_iff_eq.mpr h
  · rw [decide_eq_false h]; exact beq_eq_false_iff_ne.mpr h
theorem gePK (K : PySem.W.Frag) {X : Cx} (hu : X.A.units + 64 < cLine) (h : X.K = K := by rfl) : OpR X (compareOp .GtE) (rGeP K) := by
  subst h
  have room : X.A.units < cLine := by omega
  intro pins s σ H x y v u Q I rx ry ⟨a, b, p, q, ex, ey, ta, tb, g⟩
  subst ex
  subst ey
  cases rx
  cases ry
  obtain ⟨its, r1, p1, _⟩ := I.tuple ta
  obtain ⟨its2, r2, p2, _⟩ := I.tuple tb
  cases r1 with
  | cons h1 r1 => cases r1 with
  | cons h2 r1 =>
  cases r1
  cases r2 with
  | cons h3 r2 => cases r2 with
  | cons h4 r2 =>
  cases r2
  obtain ⟨t1, rfl⟩ := h1
  obtain ⟨t2, rfl⟩ := h2
  obtain ⟨t3, rfl⟩ := h3
  obtain ⟨t4, rfl⟩ := h4
  have R := Ob.RcOp.tuples_ge (A := X.A) (s := s) (e := fun j => if j = 0 then (p.1 == q.1) else (p.2 == q.2)) (r := fun j => if j = 0 then decide (q.1 ≤ p.1) else decide (q.2 ≤ p.2)) p1 p2 room (fun j j1 j2 => by
    match j, j1, j2 with
    | 0, _, _ => exact SeqAt.EqAt.int_int _ _ _ _
    | 1, _, _ => exact SeqAt.EqAt.int_int _ _ _ _) (fun j j1 j2 _ => by
    match j, j1, j2 with
    | 0, _, _ => exact Ob.RcOp.ge_int _ _ _ _
    | 1, _, _ => exact Ob.RcOp.ge_int _ _ _ _)
  refine R X.prog X.w X.xe (EP X pins σ Q) ⟨.bl _, H, I, ?_, g⟩
  show Value.bool _ = Value.bool _
  congr 1
  show (if (p.1 == q.1) = true then (if (p.2 == q.2) = true then _ else decide (q.2 ≤ p.2)) else decide (q.1 ≤ p.1)) = _
  rw [beqd, beqd]
  by_cases c1 : p.1 = q.1
  · rw [decide_eq_true c1, if_pos rfl]
    by_cases c2 : p.2 = q.2
    · rw [decide_eq_true c2, if_pos rfl]
      show true = _
      rw [decide_eq_true (by omega)]
    · rw [decide_eq_false c2, if_neg Bool.false_ne_true]
      exact decide_eq_decide.mpr (by omega)
  · rw [decide_eq_false c1, if_neg Bool.false_ne_true]
    exact decide_eq_decide.mpr (by omega)
theorem le2TK (K : PySem.W.Frag) {X : Cx} (hu : X.A.units + 64 < cLine) (h : X.K = K := by rfl) : OpR X (compareOp .LtE) (rLeT K) := h ▸ op_leT (by omega)
end TL
namespace TL
open PySem PySem.Spec PyProof.Rows L2
/-! ### an edge taken away, and put back -/
theorem IsFor.filt {m : Nat} {es : List (Int × Int)} (f : IsFor m es) (c : Int × Int → Bool) : IsFor m (es.filter c) := by
  obtain ⟨nm, ks, g, pm⟩ := f.grow
  refine ⟨f.asc.filter _, fun p hp => f.rng p (List.mem_filter.mp hp).1, nm, ks.filter (fun q => c (edgeOf nm q)), ⟨g.names, g.up.filter _, fun q hq => g.down q (List.mem_filter.mp hq).1⟩, ?_⟩
  have := pm.filter c
  rw [List.filter_map] at this
  exact this
def cutR (es : List (Int × Int)) (a b : Int) : List (Int × Int) := es.filter fun q => !decide (q = ordP a b)
theorem IsFor.ord_lt {m : Nat} {es : List (Int × Int)} (f : IsFor m es) {a b : Int} (h : (a, b) ∈ es) : ordP a b = (a, b) := by
  have := f.rng _ h
  unfold ordP
  rw [if_pos (by omega)]
theorem IsFor.cut {m : Nat} {es : List (Int × Int)} {a b : Int} (f : IsFor m es) (he : ordP a b ∈ es) (p : List Int) : ¬ Pth (cutR es a b) a b p := fun h => by
  have mem : ∀ q ∈ cutR es a b, q ∈ es ∧ q ≠ ordP a b := fun q hq => by
    obtain ⟨h1, h2⟩ := List.mem_filter.mp hq
    exact ⟨h1, fun z => by rw [decide_eq_true z] at h2; cases h2⟩
  have h1 : Pth es a b p := h.mono fun q hq => (mem q hq).1
  have ad : Adj es a b := f.mem_ord.mp he
  have ne : a ≠ b := fun z => by
    subst z
    exact f.loop _ he
  have h2 : Pth es a b [a, b] := (Pth.one a).snoc ad fun z => ne (List.mem_singleton.mp z).symm
  have e := f.uniq _ _ _ _ h1 h2
  subst e
  cases h with
  | cons ad' h' n =>
    cases h' with
    | one =>
      rcases ad' with z | z
      · exact (mem _ z).2 (f.ord_lt (mem _ z).1).symm
      · exact (mem _ z).2 (by rw [ordP_comm, f.ord_lt (mem _ z).1])
    | cons _ h'' _ => cases h''
theorem AscP.nodup' {es : List (Int × Int)} (h : AscP es) : es.Nodup := h.imp fun {p q} hl e => by
  subst e
  unfold LtP at hl
  omega
theorem IsFor.back {m : Nat} {es : List (Int × Int)} {a b : Int} (f : IsFor m es) (he : ordP a b ∈ es) : srtP (cutR es a b ++ [ordP a b]) = es := by
  have nd := AscP.nodup' f.asc
  have nd2 : (cutR es a b ++ [ordP a b]).Nodup := by
    refine List.nodup_append.mpr ⟨nd.filter _, List.pairwise_singleton _ _, fun x hx y hy e => ?_⟩
    rw [List.mem_singleton.mp hy] at e
    have := (List.mem_filter.mp hx).2
    rw [decide_eq_true e] at this
    cases this
  have pm : (cutR es a b ++ [ordP a b]).Perm es := (List.perm_ext_iff_of_nodup nd2 nd).mpr fun x => by
    rw [List.mem_append, List.mem_singleton]
    unfold cutR
    rw [List.mem_filter]
    constructor
    · rintro (h | h)
      · exact h.1
      · rw [h]; exact he
    · intro h
      by_cases e : x = ordP a b
      · exact .inr e
      · exact .inl ⟨h, by rw [decide_eq_false e]; rfl⟩
  rw [srtP_congr pm, srtP_of_asc f.asc]
theorem cutR_comm (es : List (Int × Int)) (a b : Int) : cutR es a b = cutR es b a := by
  unfold cutR
  rw [ordP_comm]
end TL
namespace TL
open PySem PySem.Spec PyProof.Rows L2
/-! ### an edge between two trees -/
/-- what the program looks at -/
structure Fr (m : Nat) (es : List (Int × Int)) : Prop where
  asc : AscP es
  rng : ∀ p ∈ es, 0 ≤ p.1 ∧ p.1 < p.2 ∧ p.2 < m
  opn : ∀ A p B, es = A ++ p :: B → ¬ Conn A p.1 p.2
theorem Fr.open {m : Nat} {A B : List (Int × Int)} {p : Int × Int} (f : Fr m (A ++ p :: B)) : ¬ Conn A p.1 p.2 := f.opn A p B rfl
theorem IsFor.fr {m : Nat} {es : List (Int × Int)} (f : IsFor m es) : Fr m es := ⟨f.asc, f.rng, fun A p B e => by subst e; exact f.open⟩
theorem Conn.edge {F A : List (Int × Int)} {u v : Int} (s : ∀ q ∈ F, q ∈ A ∨ q = ordP u v) {x y : Int} (h : Conn F x y) : Conn A x y ∨ (Conn A x u ∧ Conn A v y) ∨ (Conn A x v ∧ Conn A u y) := by
  induction h with
  | refl => exact .inl (.refl _)
  | @step b c h e ih =>
    have key : ((b, c) ∈ A ∨ (c, b) ∈ A) ∨ (b = u ∧ c = v) ∨ (b = v ∧ c = u) := by
      have two : ∀ p q : Int, (p, q) = ordP u v → (p = u ∧ q = v) ∨ (p = v ∧ q = u) := fun p q z => by
        unfold ordP at z
        split at z
        · exact .inl ⟨(Prod.mk.inj z).1, (Prod.mk.inj z).2⟩
        · exact .inr ⟨(Prod.mk.inj z).1, (Prod.mk.inj z).2⟩
      rcases e with e | e
      · rcases s _ e with z | z
        · exact .inl (.inl z)
        · exact .inr (two _ _ z)
      · rcases s _ e with z | z
        · exact .inl (.inr z)
        · rcases two _ _ z with ⟨z1, z2⟩ | ⟨z1, z2⟩
          · exact .inr (.inr ⟨z2, z1⟩)
          · exact .inr (.inl ⟨z2, z1⟩)
    rcases key with ad | ⟨rfl, rfl⟩ | ⟨rfl, rfl⟩
    · rcases ih with i | ⟨i, j⟩ | ⟨i, j⟩
      · exact .inl (.step i ad)
      · exact .inr (.inl ⟨i, .step j ad⟩)
      · exact .inr (.inr ⟨i, .step j ad⟩)
    · rcases ih with i | ⟨i, j⟩ | ⟨i, j⟩
      · exact .inr (.inl ⟨i, .refl _⟩)
      · exact .inr (.inl ⟨i, .refl _⟩)
      · exact .inl i
    · rcases ih with i | ⟨i, j⟩ | ⟨i, j⟩
      · exact .inr (.inr ⟨i, .refl _⟩)
      · exact .inl i
      · exact .inr (.inr ⟨i, .refl _⟩)
theorem Conn.adj {es : List (Int × Int)} {p : Int × Int} (h : p ∈ es) : Conn es p.1 p.2 := .step (.refl _) (.inl h)
theorem ord_conn {es : List (Int × Int)} {u v : Int} (h : Conn es (ordP u v).1 (ordP u v).2) : Conn es u v := by
  unfold ordP at h
  split at h
  · exact h
  · exact h.symm
theorem IsFor.joined {m : Nat} {es : List (Int × Int)} {u v : Int} (f : IsFor m es) (hu : 0 ≤ u ∧ u < m) (hv : 0 ≤ v ∧ v < m) (np : ∀ p, ¬ Pth es u v p) : Fr m (srtP (es ++ [ordP u v])) := by
  have nc : ¬ Conn es u v := fun h => by
    obtain ⟨p, hp⟩ := h.pth
    exact np p hp
  have ne : u ≠ v := fun z => by
    subst z
    exact nc (.refl _)
  have nm : ordP u v ∉ es := fun z => nc (ord_conn (Conn.adj z))
  have nd : (es ++ [ordP u v]).Nodup := List.nodup_append.mpr ⟨AscP.nodup' f.asc, List.pairwise_singleton _ _, fun x hx y hy e => nm (by rw [← List.mem_singleton.mp hy, ← e]; exact hx)⟩
  have ro : 0 ≤ (ordP u v).1 ∧ (ordP u v).1 < (ordP u v).2 ∧ (ordP u v).2 < m := by
    unfold ordP
    split
    · exact ⟨hu.1, by show u < v; omega, hv.2⟩
    · exact ⟨hv.1, by show v < u; omega, hu.2⟩
  refine ⟨srtP_asc nd, fun p hp => ?_, fun A p B e h => ?_⟩
  · rcases List.mem_append.mp (mem_srtP.mp hp) with z | z
    · exact f.rng p z
    · rw [List.mem_singleton.mp z]
      exact ro
  · have ndA : (A ++ p :: B).Nodup := by
      rw [← e]
      exact AscP.nodup' (srtP_asc nd)
    have pA : p ∉ A := fun z => (List.nodup_append.mp ndA).2.2 p z p List.mem_cons_self rfl
    have mem : ∀ q ∈ A ++ p :: B, q ∈ es ∨ q = ordP u v := fun q hq => by
      rw [← e] at hq
      rcases List.mem_append.mp (mem_srtP.mp hq) with z | z
      · exact .inl z
      · exact .inr (List.mem_singleton.mp z)
    by_cases ep : p = ordP u v
    · have sub : ∀ q ∈ A, q ∈ es := fun q hq => by
        rcases mem q (List.mem_append_left _ hq) with z | z
        · exact z
        · exact absurd (by rw [ep, ← z]; exact hq) pA
      have h2 := h.mono sub
      rw [ep] at h2
      exact nc (ord_conn h2)
    · have pe : p ∈ es := (mem p (List.mem_append_right _ List.mem_cons_self)).resolve_right ep
      have op : ordP p.1 p.2 = p := f.ord_lt (a := p.1) (b := p.2) pe
      have sub : ∀ q ∈ A, q ∈ cutR es p.1 p.2 ∨ q = ordP u v := fun q hq => by
        rcases mem q (List.mem_append_left _ hq) with z | z
        · refine .inl (List.mem_filter.mpr ⟨z, ?_⟩)
          rw [op, decide_eq_false fun y => pA (by rw [← y]; exact hq)]
          rfl
        · exact .inr z
      have cs : ∀ {x y : Int}, Conn (cutR es p.1 p.2) x y → Conn es x y := fun h => h.mono fun q hq => (List.mem_filter.mp hq).1
      have pq : Conn es p.1 p.2 := Conn.adj pe
      rcases h.edge sub with c | ⟨c1, c2⟩ | ⟨c1, c2⟩
      · obtain ⟨q, hq⟩ := c.pth
        exact f.cut (by rw [op]; exact pe) q hq
      · exact nc (((cs c1).symm.trans pq).trans (cs c2).symm)
      · exact nc ((((cs c2).trans pq.symm)).trans (cs c1))
theorem Fr.shows {m : Nat} {es : List (Int × Int)} (h : Fr m es) (hm : m ≤ 12) (hl : es.length ≤ 13) : Sm (forD m es) 700 3 := by
  have h1 : Sm (prsD es) (13 * 23) 2 := Sm.prs (fun p hp => by have := h.rng p hp; unfold smP sm; omega) hl
  have h2 : Sm (.int (m : Int)) (13 * 23) 2 := (Sm.int (by unfold sm; omega)).le (by decide) (by decide)
  refine (Sm.tup (n := 13 * 23) (k := 2) (m := 2) (fun d hd => ?_) (Nat.le_refl _)).le (by decide) (by decide)
  rcases List.mem_cons.mp hd with rfl | hd
  · exact h2
  · obtain rfl := List.mem_singleton.mp hd
    exact h1
/-! ### paths, level by level -/
def ends (p : List Int) : Int := p.getLastD 0
def lev (m : Nat) (es : List (Int × Int)) (a : Int) : Nat → List (List Int)
  | 0 => [[a]]
  | k + 1 => (lev m es a k).flatMap fun p => ((nearL m es (ends p)).filter fun o => !decide (o ∈ p)).map fun o => p ++ [o]
theorem ends_snoc (p : List Int) (o : Int) : ends (p ++ [o]) = o := by
  unfold ends
  simp
theorem Pth.ends {es : List (Int × Int)} {a b : Int} {p : List Int} (h : Pth es a b p) : TL.ends p = b := by
  induction h with
  | one => rfl
  | @cons a b c p ad hp n ih =>
    unfold TL.ends at ih ⊢
    cases p with
    | nil => cases hp
    | cons x xs =>
      rw [← ih]
      rfl
section
variable {m : Nat} {es : List (Int × Int)} {a : Int}
theorem lev_pth (f : IsFor m es) : ∀ {k : Nat} {p : List Int}, p ∈ lev m es a k → Pth es a (ends p) p ∧ p.length = k + 1
  | 0, p, h => by
    rw [List.mem_singleton.mp h]
    exact ⟨.one a, rfl⟩
  | k + 1, p, h => by
    obtain ⟨q, hq, hp⟩ := List.mem_flatMap.mp h
    obtain ⟨o, ho, rfl⟩ := List.mem_map.mp hp
    obtain ⟨h1, h2⟩ := List.mem_filter.mp ho
    obtain ⟨pq, lq⟩ := lev_pth f hq
    have no : o ∉ q := fun z => by rw [decide_eq_true z] at h2; cases h2
    rw [ends_snoc]
    refine ⟨pq.snoc ((f.mem_ord.mp (mem_nearL.mp h1).2).symm) no, ?_⟩
    rw [List.length_append, lq]
    rfl
theorem Pth.unsnoc {b : Int} {p : List Int} (h : Pth es a b p) (hl : 2 ≤ p.length) : ∃ q c, p = q ++ [b] ∧ Pth es a c q ∧ Adj es c b ∧ b ∉ q := by
  have r := h.rev
  cases hp : p.reverse with
  | nil =>
    have := congrArg List.length hp
    rw [List.length_reverse] at this
    rw [this] at hl
    exact absurd hl (by decide)
  | cons x xs =>
    rw [hp] at r
    have ep : p = xs.reverse ++ [x] := by
      rw [← List.reverse_reverse p, hp, List.reverse_cons]
    cases r with
    | one =>
      rw [ep] at hl
      simp at hl
    | @cons _ c _ _ ad h' n =>
      exact ⟨xs.reverse, c, ep, h'.rev, ad.symm, fun z => n (List.mem_reverse.mp z)⟩
theorem lev_all (f : IsFor m es) : ∀ {k : Nat} {b : Int} {p : List Int}, Pth es a b p → p.length = k + 1 → p ∈ lev m es a k
  | 0, b, p, h, hl => by
    cases h with
    | one => exact List.mem_singleton.mpr rfl
    | cons ad h' n =>
      cases h' <;> simp at hl
  | k + 1, b, p, h, hl => by
    obtain ⟨q, c, rfl, hq, ad, n⟩ := h.unsnoc (by omega)
    rw [List.length_append, List.length_singleton] at hl
    have ih := lev_all f hq (by omega : q.length = k + 1)
    refine List.mem_flatMap.mpr ⟨q, ih, List.mem_map.mpr ⟨b, List.mem_filter.mpr ⟨?_, by rw [decide_eq_false n]; rfl⟩, rfl⟩⟩
    rw [hq.ends]
    have rb : 0 ≤ b ∧ b < m := by
      rcases ad with z | z
      · have := f.rng _ z; simp only at this; omega
      · have := f.rng _ z; simp only at this; omega
    exact mem_nearL.mpr ⟨rb, f.mem_ord.mpr ad.symm⟩
theorem IsFor.on_rng (f : IsFor m es) {b : Int} {p : List Int} (h : Pth es a b p) (ha : 0 ≤ a ∧ a < m) : ∀ x ∈ p, 0 ≤ x ∧ x < (m : Int) := by
  induction h with
  | one => intro x hx; rw [List.mem_singleton.mp hx]; exact ha
  | cons ad _ _ ih =>
    intro x hx
    rcases List.mem_cons.mp hx with rfl | hx
    · exact ha
    · refine ih ?_ x hx
      rcases ad with z | z
      · have := f.rng _ z; simp only at this; omega
      · have := f.rng _ z; simp only at this; omega
theorem lev_nodup (f : IsFor m es) : ∀ k : Nat, (lev m es a k).Nodup
  | 0 => List.pairwise_singleton _ _
  | k + 1 => by
    refine List.pairwise_flatMap.mpr ⟨fun p hp => ?_, ?_⟩
    · refine List.pairwise_map.mpr (((nearL_asc m es _).nodup.filter _).imp fun {x y} h e => h ?_)
      have := List.append_cancel_left e
      exact (List.cons.inj this).1
    · refine (lev_nodup f k).imp fun {p q} h x hx y hy e => h ?_
      obtain ⟨o, _, rfl⟩ := List.mem_map.mp hx
      obtain ⟨o', _, rfl⟩ := List.mem_map.mp hy
      exact (List.append_inj' e rfl).1
theorem lev_len (f : IsFor m es) (ha : 0 ≤ a ∧ a < m) (k : Nat) : (lev m es a k).length ≤ m := by
  have nd : ((lev m es a k).map ends).Nodup := by
    refine List.pairwise_map.mpr ((List.Pairwise.and_mem.mp (lev_nodup f k)).imp ?_)
    rintro p q ⟨hp, hq, h⟩ e
    have h1 := (lev_pth f hp).1
    have h2 := (lev_pth f hq).1
    rw [← e] at h2
    exact h (f.uniq _ _ _ _ h1 h2)
  have rg : ∀ x ∈ (lev m es a k).map ends, 0 ≤ x ∧ x < (m : Int) := fun x hx => by
    obtain ⟨p, hp, rfl⟩ := List.mem_map.mp hx
    have h1 := (lev_pth f hp).1
    have : ∀ {b c : Int} {q : List Int}, Pth es b c q → (0 ≤ b ∧ b < (m : Int)) → 0 ≤ c ∧ c < (m : Int) := by
      intro b c q h
      induction h with
      | one => exact id
      | cons ad _ _ ih =>
        intro hb
        refine ih ?_
        rcases ad with z | z
        · have := f.rng _ z; simp only at this; omega
        · have := f.rng _ z; simp only at this; omega
    exact this h1 ha
  have := (IsSet.mk (es := []) (m := m) (srtI_asc nd) (fun v hv => rg v (mem_srtI.mp hv)) (fun _ _ _ _ z => nomatch z)).len
  rw [srtI_length, List.length_map] at this
  exact this
end
end TL
namespace TL
open PySem PySem.Spec PyProof.Rows L2
/-! ### boards: a forest with lamps; edits -/
structure BS where
  m : Nat
  es : List (Int × Int)
  S : List Int
structure BS.ok (s : BS) : Prop where
  m12 : s.m ≤ 12
  isf : IsFor s.m s.es
  iss : IsSet s.m s.es s.S
def BS.d (s : BS) : PyData := .tuple [forD s.m s.es, intsD s.S]
inductive Ed where
  | light (v : Int)
  | dim (v : Int)
  | slide (u v : Int)
  | grow (o : Option Int)
  | join (a b : Int)
  | cut (a b : Int)
def optD : Option Int → PyData
  | none => .none
  | some v => .int v
def Ed.nm : Ed → Str
  | .light _ => "light"
  | .dim _ => "dim"
  | .slide _ _ => "slide"
  | .grow _ => "grow"
  | .join _ _ => "join"
  | .cut _ _ => "cut"
def Ed.vals : Ed → List PyData
  | .light v => [.int v]
  | .dim v => [.int v]
  | .slide u v => [.int u, .int v]
  | .grow o => [optD o]
  | .join a b => [.int a, .int b]
  | .cut a b => [.int a, .int b]
def Ed.d (e : Ed) : PyData := .tuple (.str e.nm :: e.vals)
def attE (m : Nat) : Option Int → List (Int × Int)
  | none => []
  | some v => [(v, (m : Int))]
def litS (S : List Int) (v : Int) : List Int := srtI (S ++ [v])
def dimS (S : List Int) (v : Int) : List Int := S.filter fun x => !decide (x = v)
def cutB (es : List (Int × Int)) (a b : Int) : List (Int × Int) := es.filter fun q => !decide (q = ordP a b)
def Ed.app : Ed → BS → BS
  | .light v, s => ⟨s.m, s.es, litS s.S v⟩
  | .dim v, s => ⟨s.m, s.es, dimS s.S v⟩
  | .slide u v, s => ⟨s.m, s.es, after s.S u v⟩
  | .grow o, s => ⟨s.m + 1, srtP (s.es ++ attE s.m o), s.S⟩
  | .join a b, s => ⟨s.m, srtP (s.es ++ [ordP a b]), s.S⟩
  | .cut a b, s => ⟨s.m, cutB s.es a b, s.S⟩
def okV (s : BS) (v : Int) : Prop := 0 ≤ v ∧ v < s.m
def Ed.can : Ed → BS → Prop
  | .light v, s => okV s v ∧ v ∉ s.S ∧ (nearL s.m s.es v).filter (fun o => decide (o ∈ s.S)) = []
  | .dim v, s => v ∈ s.S
  | .slide u v, s => (u, v) ∈ slidesP s.m s.es s.S
  | .grow o, s => s.m < 12 ∧ ∀ v, o = some v → okV s v
  | .join a b, s => okV s a ∧ okV s b ∧ (∀ p, ¬ Pth s.es a b p) ∧ ¬ (a ∈ s.S ∧ b ∈ s.S)
  | .cut a b, s => okV s a ∧ okV s b ∧ ordP a b ∈ s.es
theorem ok_light {s : BS} {v : Int} (h : s.ok) (c : (Ed.light v).can s) : ((Ed.light v).app s).ok := by
  obtain ⟨hv, nv, hn⟩ := c
  refine ⟨h.m12, h.isf, ⟨srtI_asc (List.nodup_append.mpr ⟨h.iss.asc.nodup, by simp, fun a ha b hb => ?_⟩), fun x hx => ?_, fun x hx y hy => ?_⟩⟩
  · rw [List.mem_singleton.mp hb]
    intro e
    rw [e] at ha
    exact nv ha
  · rcases List.mem_append.mp (mem_srtI.mp hx) with hx | hx
    · exact h.iss.rng x hx
    · rw [List.mem_singleton.mp hx]
      exact hv
  · have key : ∀ u ∈ s.S, ordP u v ∉ s.es := fun u hu h2 => by
      have : u ∈ (nearL s.m s.es v).filter (fun o => decide (o ∈ s.S)) := List.mem_filter.mpr ⟨mem_nearL.mpr ⟨h.iss.rng u hu, h2⟩, decide_eq_true hu⟩
      rw [hn] at this
      cases this
    rcases List.mem_append.mp (mem_srtI.mp hx) with h1 | h1
    · rcases List.mem_append.mp (mem_srtI.mp hy) with h2 | h2
      · exact h.iss.free x h1 y h2
      · rw [List.mem_singleton.mp h2]
        exact key x h1
    · rw [List.mem_singleton.mp h1]
      rcases List.mem_append.mp (mem_srtI.mp hy) with h2 | h2
      · rw [ordP_comm]
        exact key y h2
      · rw [List.mem_singleton.mp h2]
        exact h.isf.loop v
theorem ok_dim {s : BS} {v : Int} (h : s.ok) : ((Ed.dim v).app s).ok :=
  ⟨h.m12, h.isf, ⟨h.iss.asc.filter _, fun x hx => h.iss.rng x (List.mem_filter.mp hx).1, fun x hx y hy => h.iss.free x (List.mem_filter.mp hx).1 y (List.mem_filter.mp hy).1⟩⟩
theorem ok_slide {s : BS} {u v : Int} (h : s.ok) (c : (Ed.slide u v).can s) : ((Ed.slide u v).app s).ok := ⟨h.m12, h.isf, h.iss.slide h.isf c⟩
theorem ok_cut {s : BS} {a b : Int} (h : s.ok) : ((Ed.cut a b).app s).ok :=
  ⟨h.m12, h.isf.filt _, ⟨h.iss.asc, h.iss.rng, fun x hx y hy z => h.iss.free x hx y hy (List.mem_filter.mp z).1⟩⟩
theorem only_BS (s : BS) : only s.d = true := by
  show only (.tuple [forD s.m s.es, intsD s.S]) = true
  have h1 := only_forD s.m s.es
  have h2 := only_ints s.S
  have h3 : only (intsD s.S) = true := by
    show only (.tuple (s.S.map .int)) = true
    simpa [only] using h2
  simp [only, onlyAll, h1, h3]
theorem only_BSs (l : List BS) : onlyAll (l.map BS.d) = true := by
  induction l with
  | nil => rfl
  | cons s l ih =>
    show (only s.d && onlyAll (l.map BS.d)) = true
    rw [only_BS, ih]
    rfl
theorem only_Ed (e : Ed) : only e.d = true := by
  cases e with
  | grow o => cases o <;> rfl
  | _ => rfl
theorem only_Eds (l : List Ed) : onlyAll (l.map Ed.d) = true := by
  induction l with
  | nil => rfl
  | cons s l ih =>
    show (only s.d && onlyAll (l.map Ed.d)) = true
    rw [only_Ed, ih]
    rfl
/-! ### the heap: all but one address -/
def Fo (b : Addr) (H H' : Hp) : Prop := ∀ a o, a ≠ b → H a = some o → H' a = some o
theorem Same.fo {b : Addr} {H H' : Hp} (h : Same H H') : Fo b H H' := fun a o _ e => h a o e
theorem Fo.refl {b : Addr} {H : Hp} : Fo b H H := fun _ _ _ e => e
theorem Fo.trans {b : Addr} {H H1 H2 : Hp} (h : Fo b H H1) (g : Fo b H1 H2) : Fo b H H2 := fun a o n e => g a o n (h a o n e)
theorem Fo.kt {K : PySem.W.Frag} {b C dx : Addr} {fs : List (Str × V)} {H H' : Hp} (h : Fo b H H') (hb : H b = some (.ins C dx fs)) : KT K H H' := by
  intro a xs q
  rcases q with (q | ⟨o, q⟩) | q
  · exact .inl (.inl (h _ _ (fun z => by rw [z, hb] at q; cases q) q))
  · exact .inl (.inr ⟨o, h _ _ (fun z => by rw [z, hb] at q; cases q) q⟩)
  · exact .inr q
theorem Fo.upd {b : Addr} {H : Hp} {o : HO} : Fo b H (upd H b o) := fun a u n e => by
  rw [upd_ne n]
  exact e
theorem Deck.fo {b d l C dx : Addr} {n : Nat} {fs : List (Str × V)} {H H' : Hp} (hD : Deck H d l n) (h : Fo b H H') (hb : H b = some (.ins C dx fs)) : Deck H' d l n := by
  obtain ⟨c, ns, hc, h1, h2, h3⟩ := hD
  exact ⟨c, ns, hc, h _ _ (fun z => by rw [z, hb] at h1; cases h1) h1, h _ _ (fun z => by rw [z, hb] at h2; cases h2) h2, h3⟩
theorem Deck.ins {d l b C dx : Addr} {n : Nat} {fs : List (Str × V)} {H : Hp} (hD : Deck H d l n) (hb : H b = some (.ins C dx fs)) : b ≠ d ∧ b ≠ l := by
  obtain ⟨c, ns, hc, h1, h2, h3⟩ := hD
  exact ⟨fun z => (by rw [z, h1] at hb; cases hb), fun z => (by rw [z, h2] at hb; cases hb)⟩
/-! ### a board as it stands -/
def flds (sa ma : Addr) (busy : Bool) : List (Str × V) := [("states", .ref sa), ("made", .ref ma), ("busy", .bl busy)]
structure Bd (K : PySem.W.Frag) (C : Addr) (H : Hp) (b : Addr) (sts : List BS) (eds : List Ed) : Prop where
  at_ : ∃ dx sa ma, H b = some (.ins C dx (flds sa ma false)) ∧ Dp K H (.ref sa) (.tuple (sts.map BS.d)) ∧ Dp K H (.ref ma) (.tuple (eds.map Ed.d))
  len : sts.length = eds.length + 1
  le : eds.length ≤ 60
  ok : ∀ s ∈ sts, s.ok
theorem only_tup {ds : List PyData} (h : onlyAll ds = true) : only (.tuple ds) = true := by
  simpa [only] using h
theorem Bd.kt {K : PySem.W.Frag} {C b : Addr} {H H' : Hp} {sts : List BS} {eds : List Ed} (h : Bd K C H b sts eds) (k : KT K H H') (e : ∀ o, H b = some o → H' b = some o) : Bd K C H' b sts eds := by
  obtain ⟨dx, sa, ma, h1, h2, h3⟩ := h.at_
  exact ⟨⟨dx, sa, ma, e _ h1, Dp.kt k h2 (only_tup (only_BSs _)), Dp.kt k h3 (only_tup (only_Eds _))⟩, h.len, h.le, h.ok⟩
theorem Bd.same {K : PySem.W.Frag} {C b : Addr} {H H' : Hp} {sts : List BS} {eds : List Ed} (h : Bd K C H b sts eds) (s : Same H H') : Bd K C H' b sts eds := h.kt (Same.kt s) fun o e => s b o e
theorem Bd.fm {K : PySem.W.Frag} {C b d l : Addr} {n : Nat} {H H' : Hp} {sts : List BS} {eds : List Ed} (h : Bd K C H b sts eds) (hD : Deck H d l n) (f : Fm d l H H') : Bd K C H' b sts eds := by
  obtain ⟨dx, sa, ma, h1, _⟩ := id h.at_
  have ne := hD.ins h1
  exact h.kt (f.kt hD) fun o e => f b o ne.1 ne.2 e
theorem Bd.ins {K : PySem.W.Frag} {C b : Addr} {H : Hp} {sts : List BS} {eds : List Ed} (h : Bd K C H b sts eds) : ∃ dx fs, H b = some (.ins C dx fs) := let ⟨dx, _, _, h1, _⟩ := h.at_; ⟨dx, _, h1⟩
theorem Bd.fo {K : PySem.W.Frag} {C b c : Addr} {H H' : Hp} {sts : List BS} {eds : List Ed} {dx Cc : Addr} {fs : List (Str × V)} (h : Bd K C H b sts eds) (hc : H c = some (.ins Cc dx fs)) (f : Fo c H H') (n : b ≠ c) : Bd K C H' b sts eds := h.kt (f.kt hc) fun o e => f b o n e
theorem ne_sm : ¬ (("states" : Str) = "made") := by decide +kernel
theorem ne_sb : ¬ (("states" : Str) = "busy") := by decide +kernel
theorem ne_mb : ¬ (("made" : Str) = "busy") := by decide +kernel
section
variable {sa ma : Addr} {k : Bool}
theorem look_cons {f g : Str} {v : V} {r : List (Str × V)} : ((g, v) :: r).lookup f = if f = g then some v else r.lookup f := by
  rw [List.lookup_cons]
  by_cases h : f = g
  · rw [if_pos h, h, beq_self_eq_true]
  · rw [if_neg h, show (f == g) = false from beq_eq_false_iff_ne.mpr h]
theorem flds_states : (flds sa ma k).lookup ("states" : Str) = some (.ref sa) := by
  unfold flds
  rw [look_cons, if_pos rfl]
theorem flds_made : (flds sa ma k).lookup ("made" : Str) = some (.ref ma) := by
  unfold flds
  rw [look_cons, if_neg (fun z => ne_sm z.symm), look_cons, if_pos rfl]
theorem flds_busy : (flds sa ma k).lookup ("busy" : Str) = some (.bl k) := by
  unfold flds
  rw [look_cons, if_neg (fun z => ne_sb z.symm), look_cons, if_neg (fun z => ne_mb z.symm), look_cons, if_pos rfl]
theorem flds_no {x : Str} (h1 : ¬ x = "states") (h2 : ¬ x = "made") (h3 : ¬ x = "busy") : (flds sa ma k).lookup x = none := by
  unfold flds
  rw [look_cons, if_neg h1, look_cons, if_neg h2, look_cons, if_neg h3]
  rfl
theorem putF_here {f : Str} {v u : V} {r : List (Str × V)} : putF f v ((f, u) :: r) = (f, v) :: r := by
  show (if f = f then _ else _) = _
  rw [if_pos rfl]
theorem putF_next {f g : Str} {v u : V} {r : List (Str × V)} (h : ¬ g = f) : putF f v ((g, u) :: r) = (g, u) :: putF f v r := by
  show (if g = f then _ else _) = _
  rw [if_neg h]
theorem put_states {z : Addr} : putF ("states" : Str) (.ref z) (flds sa ma k) = flds z ma k := putF_here
theorem put_made {z : Addr} : putF ("made" : Str) (.ref z) (flds sa ma k) = flds sa z k := by
  unfold flds
  rw [putF_next ne_sm, putF_here]
theorem put_busy {z : Bool} : putF ("busy" : Str) (.bl z) (flds sa ma k) = flds sa ma z := by
  unfold flds
  rw [putF_next ne_sb, putF_next ne_mb, putF_here]
end
end TL
namespace TL
/-! ### a lamp is brought to a leaf -/
section
variable {m : Nat} {E : List (Int × Int)}
theorem Pth.drop {a b : Int} {p : List Int} (h : Pth E a b p) : a ≠ b → ∃ g, Pth E a g p.dropLast ∧ Adj E g b ∧ p = p.dropLast ++ [b] ∧ b ∉ p.dropLast := by
  induction h with
  | one a => exact fun n => absurd rfl n
  | @cons a x c p ad hp na ih =>
    intro n
    by_cases e : x = c
    · subst e
      rw [hp.self] at na ⊢
      refine ⟨a, .one a, ad, rfl, fun z => ?_⟩
      exact n (List.mem_singleton.mp z).symm
    · obtain ⟨g, h1, h2, h3, h4⟩ := ih e
      have ne : p ≠ [] := fun z => by rw [z] at hp; cases hp
      have ed : (a :: p).dropLast = a :: p.dropLast := List.dropLast_cons_of_ne_nil ne
      refine ⟨g, ?_, h2, ?_, ?_⟩
      · rw [ed]
        exact .cons ad h1 fun z => na (List.dropLast_subset p z)
      · rw [ed, List.cons_append, ← h3]
      · rw [ed]
        intro z
        rcases List.mem_cons.mp z with z | z
        · exact n z.symm
        · exact h4 z
theorem Pth.upto {a b : Int} {p : List Int} (h : Pth E a b p) {c : Int} : c ∈ p → ∃ q, Pth E a c q ∧ q.length ≤ p.length ∧ (c ≠ b → q.length < p.length) ∧ ∀ z ∈ q, z ∈ p := by
  induction h with
  | one a =>
    intro hc
    rw [List.mem_singleton.mp hc]
    exact ⟨[a], .one a, Nat.le_refl _, fun n => absurd rfl n, fun _ h => h⟩
  | @cons a x b p ad hp na ih =>
    intro hc
    by_cases e : c = a
    · subst e
      have pos := List.length_pos_of_mem hp.first
      refine ⟨[c], .one c, by simp, fun _ => by simp only [List.length_cons, List.length_nil]; omega, fun z hz => ?_⟩
      rw [List.mem_singleton.mp hz]
      exact List.mem_cons_self
    · obtain ⟨q, h1, h2, h3, h4⟩ := ih ((List.mem_cons.mp hc).resolve_left e)
      refine ⟨a :: q, .cons ad h1 fun z => na (h4 a z), by simp only [List.length_cons]; omega, fun n => by have := h3 n; simp only [List.length_cons]; omega, fun z hz => ?_⟩
      rcases List.mem_cons.mp hz with rfl | hz
      · exact List.mem_cons_self
      · exact List.mem_cons_of_mem _ (h4 z hz)
theorem Pth.beside {a b : Int} {p : List Int} (h : Pth E a b p) {c o : Int} (hc : c ∈ p) (n : c ≠ b) (ad : Adj E c o) : ∃ q, Pth E a o q ∧ q.length ≤ p.length := by
  obtain ⟨q, h1, _, h3, _⟩ := h.upto hc
  have lt := h3 n
  by_cases ho : o ∈ q
  · obtain ⟨q2, k1, k2, _⟩ := h1.upto ho
    exact ⟨q2, k1, by omega⟩
  · exact ⟨q ++ [o], h1.snoc ad ho, by rw [List.length_append, List.length_singleton]; omega⟩
theorem Pth.connCut {a b g : Int} {p : List Int} (h : Pth E a b p) : g ∉ p → ∀ c ∈ p, Conn (cutE E g) a c := by
  induction h with
  | one a =>
    intro _ c hc
    rw [List.mem_singleton.mp hc]
    exact .refl _
  | @cons a x b p ad hp na ih =>
    intro hg c hc
    rcases List.mem_cons.mp hc with rfl | hc
    · exact .refl _
    · have e : Adj (cutE E g) a x := adj_cut.mpr ⟨ad, fun z => hg (z ▸ List.mem_cons_self), fun z => hg (z ▸ List.mem_cons_of_mem _ hp.first)⟩
      exact (Conn.step (.refl _) e).trans (ih (fun z => hg (List.mem_cons_of_mem _ z)) c hc)
theorem Pth.rng (f : IsFor m E) {a b : Int} {p : List Int} (h : Pth E a b p) (ha : 0 ≤ a ∧ a < m) : ∀ c ∈ p, 0 ≤ c ∧ c < m := by
  induction h with
  | one a =>
    intro c hc
    rw [List.mem_singleton.mp hc]
    exact ha
  | @cons a x b p ad hp na ih =>
    intro c hc
    rcases List.mem_cons.mp hc with rfl | hc
    · exact ha
    · exact ih (near_rng f (adj_near f ad)).2 c hc
/-- a lamp walks along a path that no other lamp is beside -/
theorem walk_along (f : IsFor m E) {g v : Int} {r : List Int} (h : Pth E g v r) : ∀ {T : List Int} {x : Int}, IsSet m E T → x ∈ T → Adj E x g → x ∉ r → (∀ c ∈ r, ∀ o ∈ T, o ≠ x → o ∉ nearL m E c) →
    ∃ T', walk m E T ((x :: r).zip r) = some T' ∧ ∀ z, z ∈ T' ↔ (z ∈ T ∧ z ≠ x) ∨ z = v := by
  induction h with
  | one g =>
    intro T x sT hx ad nx no
    have ps : (x, g) ∈ slidesP m E T := mem_slidesP.mpr ⟨hx, adj_near f ad.symm, List.eq_nil_iff_forall_not_mem.mpr fun o ho => by
      obtain ⟨o1, o2, o3⟩ := mem_oth.mp ho
      exact no g (List.mem_singleton.mpr rfl) o o2 o3 o1⟩
    refine ⟨after T x g, ?_, fun z => mem_after⟩
    show walk m E T [(x, g)] = _
    unfold walk
    rw [if_pos ps]
    rfl
  | @cons g y v r ad2 hp ng ih =>
    intro T x sT hx ad nx no
    have ps : (x, g) ∈ slidesP m E T := mem_slidesP.mpr ⟨hx, adj_near f ad.symm, List.eq_nil_iff_forall_not_mem.mpr fun o ho => by
      obtain ⟨o1, o2, o3⟩ := mem_oth.mp ho
      exact no g List.mem_cons_self o o2 o3 o1⟩
    have s1 := sT.slide f ps
    obtain ⟨T', w, k⟩ := ih (T := after T x g) (x := g) s1 (mem_after.mpr (.inr rfl)) ad2 ng fun c hc o ho n => by
      rcases mem_after.mp ho with h | h
      · exact no c (List.mem_cons_of_mem _ hc) o h.1 h.2
      · exact absurd h n
    refine ⟨T', ?_, fun z => ?_⟩
    · show walk m E T ((x, g) :: (g :: r).zip r) = _
      rw [walk_push ps]
      exact w
    · have gT : g ∉ T := adj_free sT hx (adj_near f ad.symm)
      rw [k z, mem_after]
      constructor
      · rintro (⟨h1 | h1, h2⟩ | h1)
        · exact .inl h1
        · exact absurd h1 h2
        · exact .inr h1
      · rintro (h1 | h1)
        · exact .inl ⟨.inl h1, fun e => gT (e ▸ h1.1)⟩
        · exact .inr h1
theorem walk_uncut (f : IsFor m E) {g : Int} : ∀ {ps : List (Int × Int)} {A B : List Int}, g ∉ A → walk m (cutE E g) A ps = some B → walk m E A ps = some B ∧ g ∉ B
  | [], A, B, h, w => by
    cases w
    exact ⟨rfl, h⟩
  | p :: ps, A, B, h, w => by
    obtain ⟨w1, w2⟩ := walk_cons w
    obtain ⟨p1, p2, p3⟩ := mem_slidesP.mp (show (p.1, p.2) ∈ _ from w1)
    obtain ⟨q1, q2, q3⟩ := (near_cut f).mp p2
    have ps' : p ∈ slidesP m E A := (mem_slidesP (u := p.1) (v := p.2)).mpr ⟨p1, q1, List.eq_nil_iff_forall_not_mem.mpr fun o ho => by
      obtain ⟨o1, o2, o3⟩ := mem_oth.mp ho
      have : o ∈ oth m (cutE E g) A p.1 p.2 := mem_oth.mpr ⟨(near_cut f).mpr ⟨o1, fun e => h (e ▸ o2), q2⟩, o2, o3⟩
      rw [p3] at this
      cases this⟩
    have h2 : g ∉ after A p.1 p.2 := fun z => by
      rcases mem_after.mp z with z | z
      · exact h z.1
      · exact q2 z.symm
    obtain ⟨k1, k2⟩ := walk_uncut f h2 w2
    exact ⟨by rw [walk_push ps']; exact k1, k2⟩
def besideL (m : Nat) (E : List (Int × Int)) (A : List Int) (g : Int) : List Int := A.filter fun l => decide (l ∈ nearL m E g)
def stuckL (m : Nat) (E : List (Int × Int)) (A : List Int) (g : Int) (ks : List (Int × Int)) : List Int := (besideL m E A g).filter fun l => decide (l ∉ ks.map (·.1))
def walkerL (m : Nat) (E : List (Int × Int)) (A : List Int) (g : Int) (ks : List (Int × Int)) : Int := hdI (stuckL m E A g ks ++ besideL m E A g)
def awayL (m : Nat) (E : List (Int × Int)) (A : List Int) (g : Int) (ks : List (Int × Int)) : List Int := (besideL m E A g).filter fun l => !decide (l = walkerL m E A g ks)
def leafS (m : Nat) (E : List (Int × Int)) (A p : List Int) (g : Int) (ks : List (Int × Int)) : List (Int × Int) :=
  (awayL m E A g ks).flatMap (outL m (cutE E g) A (exV ks) 13) ++ (walkerL m E A g ks :: p.dropLast.reverse).zip p.dropLast.reverse
theorem mem_besideL {A : List Int} {g l : Int} : l ∈ besideL m E A g ↔ l ∈ A ∧ l ∈ nearL m E g := by
  unfold besideL
  rw [List.mem_filter, decide_eq_true_eq]
theorem mem_stuckL {A : List Int} {g l : Int} {ks : List (Int × Int)} : l ∈ stuckL m E A g ks ↔ l ∈ besideL m E A g ∧ l ∉ ks.map (·.1) := by
  unfold stuckL
  rw [List.mem_filter, decide_eq_true_eq]
theorem mem_awayL {A : List Int} {g l : Int} {ks : List (Int × Int)} : l ∈ awayL m E A g ks ↔ l ∈ besideL m E A g ∧ l ≠ walkerL m E A g ks := by
  unfold awayL
  rw [List.mem_filter, Bool.not_eq_true', decide_eq_false_iff_not]
theorem stuck_one (f : IsFor m E) {A : List Int} {g : Int} {ks : List (Int × Int)} (sA : IsSet m E A) (gA : IsGr m E A []) (xf : Xf m (cutE E g) A [] ks) {a b : Int} (ha : a ∈ stuckL m E A g ks) (hb : b ∈ stuckL m E A g ks) : a = b := by
  refine Classical.byContradiction fun ne => ?_
  obtain ⟨a1, a2⟩ := mem_stuckL.mp ha
  obtain ⟨b1, b2⟩ := mem_stuckL.mp hb
  have aL := mem_lfX.mpr ⟨(mem_besideL.mp a1).1, a2⟩
  have bL := mem_lfX.mpr ⟨(mem_besideL.mp b1).1, b2⟩
  have gr := xf.gr sA.asc
  have cl : Cl m E (lfX A ks) := Cl.of fun x hx v hv => by
    by_cases e : v = g
    · subst e
      by_cases ex : x = a
      · subst ex
        exact ⟨b, bL, fun z => ne z.symm, (mem_besideL.mp b1).2⟩
      · exact ⟨a, aL, fun z => ex z.symm, (mem_besideL.mp a1).2⟩
    · by_cases exg : x = g
      · have : a ∈ A := (mem_lfX.mp aL).1
        exact absurd ((mem_lfX.mp hx).1) (exg ▸ adj_free sA this ((mem_nearL_comm f).mp (mem_besideL.mp a1).2))
      · obtain ⟨y, y1, y2, y3⟩ := gr.cl.other hx ((near_cut f).mpr ⟨hv, e, exg⟩)
        exact ⟨y, y1, y2, ((near_cut f).mp y3).1⟩
  have := gA.max _ (fun x hx => (mem_lfX.mp hx).1) cl a aL
  cases this
theorem walker_is (f : IsFor m E) {A : List Int} {g l : Int} {ks : List (Int × Int)} (sA : IsSet m E A) (gA : IsGr m E A []) (xf : Xf m (cutE E g) A [] ks) (hl : l ∈ besideL m E A g) :
    walkerL m E A g ks ∈ besideL m E A g ∧ ∀ y ∈ awayL m E A g ks, y ∈ ks.map (·.1) := by
  have key : ∀ w L, stuckL m E A g ks ++ besideL m E A g = w :: L → w ∈ besideL m E A g ∧ ∀ y ∈ besideL m E A g, y ≠ w → y ∈ ks.map (·.1) := fun w L e => by
    cases hs : stuckL m E A g ks with
    | nil =>
      rw [hs, List.nil_append] at e
      refine ⟨by rw [e]; exact List.mem_cons_self, fun y hy _ => Classical.byContradiction fun no => ?_⟩
      have := mem_stuckL.mpr ⟨hy, no⟩
      rw [hs] at this
      cases this
    | cons a L' =>
      have ma : a ∈ stuckL m E A g ks := by rw [hs]; exact List.mem_cons_self
      rw [hs, List.cons_append] at e
      injection e with e _
      subst e
      exact ⟨(mem_stuckL.mp ma).1, fun y hy n => Classical.byContradiction fun no => n (stuck_one f sA gA xf (mem_stuckL.mpr ⟨hy, no⟩) ma)⟩
  obtain ⟨w, L, e⟩ : ∃ w L, stuckL m E A g ks ++ besideL m E A g = w :: L := by
    match hx : stuckL m E A g ks ++ besideL m E A g with
    | [] =>
      have := (List.append_eq_nil_iff.mp hx).2
      rw [this] at hl
      cases hl
    | w :: L => exact ⟨w, L, rfl⟩
  have ew : walkerL m E A g ks = w := by
    unfold walkerL
    rw [e]
    rfl
  obtain ⟨k1, k2⟩ := key w L e
  rw [ew]
  exact ⟨k1, fun y hy => by
    obtain ⟨h1, h2⟩ := mem_awayL.mp hy
    exact k2 y h1 (ew ▸ h2)⟩
end
end TL
namespace TL
open PySem PySem.Spec PyProof.Rows L2
/-! ### edges without a cycle can be drawn one by one -/
def Br (F : List (Int × Int)) : Prop := ∀ q ∈ F, ¬ Conn (F.filter fun r => !decide (r = q)) q.1 q.2
theorem Br.filt {F : List (Int × Int)} (h : Br F) (c : Int × Int → Bool) : Br (F.filter c) := fun q hq k => by
  refine h q (List.mem_filter.mp hq).1 (k.mono fun r hr => ?_)
  obtain ⟨h1, h2⟩ := List.mem_filter.mp hr
  exact List.mem_filter.mpr ⟨(List.mem_filter.mp h1).1, h2⟩
theorem ordP_self {p : Int × Int} (h : p.1 < p.2) : ordP p.1 p.2 = p := by
  unfold ordP
  rw [if_pos (by omega)]
theorem adj_ord {F : List (Int × Int)} (hF : ∀ p ∈ F, p.1 < p.2) {a b : Int} (h : Adj F a b) : ordP a b ∈ F ∧ a ≠ b := by
  rcases h with h | h
  · have := hF _ h
    exact ⟨by rw [show ordP a b = (a, b) from ordP_self (p := (a, b)) this]; exact h, by simp only at this; omega⟩
  · have := hF _ h
    exact ⟨by rw [ordP_comm, show ordP b a = (b, a) from ordP_self (p := (b, a)) this]; exact h, by simp only at this; omega⟩
theorem ord_adj {F : List (Int × Int)} {a b : Int} (h : ordP a b ∈ F) : Adj F a b := by
  unfold ordP at h
  split at h
  · exact .inl h
  · exact .inr h
theorem one_nb {F : List (Int × Int)} (hF : ∀ p ∈ F, p.1 < p.2) (br : Br F) {a b c x : Int} {q : List Int} (h : Pth F a c q) (hc : Adj F c b) (hb : b ∉ q) (hx : x ∈ q) (ad : Adj F x b) : x = c := by
  refine Decidable.byContradiction fun ne => ?_
  have e := adj_ord hF ad
  have h1 := h.connCut hb x hx
  have h2 := h.connCut hb c h.last
  have h3 : Conn (cutE F b) x c := h1.symm.trans h2
  have h4 : Conn (F.filter fun r => !decide (r = ordP x b)) x c := h3.mono fun r hr => by
    unfold cutE at hr
    obtain ⟨m1, m2⟩ := List.mem_filter.mp hr
    refine List.mem_filter.mpr ⟨m1, ?_⟩
    by_cases z : r = ordP x b
    · exfalso
      rw [z] at m2
      unfold ordP at m2
      split at m2 <;> simp at m2
    · rw [decide_eq_false z]
      rfl
  have ec := adj_ord hF hc
  have n2 : ordP c b ≠ ordP x b := fun z => by
    rcases ordP_inj z with ⟨z1, _⟩ | ⟨z1, _⟩
    · exact ne z1.symm
    · exact ec.2 z1
  have h5 : Conn (F.filter fun r => !decide (r = ordP x b)) x b := .step h4 (ord_adj (List.mem_filter.mpr ⟨ec.1, by rw [decide_eq_false n2]; rfl⟩))
  refine br _ e.1 ?_
  unfold ordP at h5 ⊢
  split
  · rename_i z
    rw [if_pos z] at h5
    exact h5
  · rename_i z
    rw [if_neg z] at h5
    exact h5.symm
theorem leaf_here {F : List (Int × Int)} (hF : ∀ p ∈ F, p.1 < p.2) (br : Br F) {a b : Int} {p : List Int} (h : Pth F a b p) (all : ∀ w, Adj F b w → w ∈ p) {x y : Int} (hx : Adj F b x) (hy : Adj F b y) : x = y := by
  by_cases hl : 2 ≤ p.length
  · obtain ⟨q, c, e, hq, hc, hb⟩ := h.unsnoc hl
    have key : ∀ z, Adj F b z → z = c := fun z hz => by
      have m := all z hz
      rw [e] at m
      have n := (adj_ord hF hz).2
      rcases List.mem_append.mp m with m | m
      · exact one_nb hF br hq hc hb m hz.symm
      · exact absurd (List.mem_singleton.mp m).symm n
    rw [key x hx, key y hy]
  · have e : ∀ z ∈ p, z = b := fun z hz => by
      have hb := h.last
      match p, hl, hz, hb with
      | [w], _, hz, hb => rw [List.mem_singleton.mp hz, List.mem_singleton.mp hb]
      | _ :: _ :: _, hl, _, _ => exact absurd (by simp) hl
    exact absurd (e x (all x hx)).symm (adj_ord hF hx).2
theorem leaf_at {V : List Int} {F : List (Int × Int)} (hF : ∀ p ∈ F, p.1 < p.2) (hV : ∀ p ∈ F, p.1 ∈ V ∧ p.2 ∈ V) (br : Br F) : ∀ (k : Nat) {a b : Int} {p : List Int}, Pth F a b p → (∀ x ∈ p, x ∈ V) → V.length ≤ p.length + k → ∃ b ∈ V, ∀ x y, Adj F b x → Adj F b y → x = y := by
  intro k
  induction k with
  | zero =>
    intro a b p h hp hk
    refine ⟨b, hp b h.last, fun x y hx hy => leaf_here hF br h (fun w hw => Decidable.byContradiction fun n => ?_) hx hy⟩
    have h2 := h.snoc hw n
    have := h2.nodup.length_le_of_subset (l₂ := V) fun z hz => by
      rcases List.mem_append.mp hz with hz | hz
      · exact hp z hz
      · rw [List.mem_singleton.mp hz]
        exact hw.elim (fun e => (hV _ e).2) fun e => (hV _ e).1
    rw [List.length_append, List.length_singleton] at this
    omega
  | succ k ih =>
    intro a b p h hp hk
    by_cases ex : ∃ w, Adj F b w ∧ w ∉ p
    · obtain ⟨w, hw, n⟩ := ex
      refine ih (h.snoc hw n) (fun z hz => ?_) (by rw [List.length_append, List.length_singleton]; omega)
      rcases List.mem_append.mp hz with hz | hz
      · exact hp z hz
      · rw [List.mem_singleton.mp hz]
        exact hw.elim (fun e => (hV _ e).2) fun e => (hV _ e).1
    · exact ⟨b, hp b h.last, fun x y hx hy => leaf_here hF br h (fun w hw => Decidable.byContradiction fun n => ex ⟨w, hw, n⟩) hx hy⟩
theorem getD_app {a b : List Int} {i : Nat} (h : i < a.length) : (a ++ b).getD i 0 = a.getD i 0 := by
  rw [List.getD_eq_getElem?_getD, List.getD_eq_getElem?_getD, List.getElem?_append_left h]
theorem order_of : ∀ (n : Nat) (V : List Int) (F : List (Int × Int)), V.length = n → V.Nodup → (∀ p ∈ F, p.1 < p.2) → (∀ p ∈ F, p.1 ∈ V ∧ p.2 ∈ V) → F.Nodup → Br F →
    ∃ (nm : List Int) (ks : List (Nat × Nat)), nm.Perm V ∧ ks.Pairwise (fun a b => a.1 < b.1) ∧ (∀ q ∈ ks, q.2 < q.1 ∧ q.1 < n) ∧ F.Perm (ks.map (edgeOf nm)) := by
  intro n
  induction n with
  | zero =>
    intro V F hl nd hF hV nF br
    obtain rfl := List.eq_nil_of_length_eq_zero hl
    have e : F = [] := List.eq_nil_iff_forall_not_mem.mpr fun p hp => nomatch (hV p hp).1
    subst e
    exact ⟨[], [], List.Perm.refl _, .nil, (fun _ h => nomatch h), List.Perm.refl _⟩
  | succ n ih =>
    intro V F hl nd hF hV nF br
    obtain ⟨a0, V0, eV⟩ : ∃ a V0, V = a :: V0 := by
      cases V with
      | nil => cases hl
      | cons a V0 => exact ⟨a, V0, rfl⟩
    obtain ⟨b, hb, lf⟩ := leaf_at hF hV br V.length (.one a0) (fun x hx => by rw [List.mem_singleton.mp hx, eV]; exact List.mem_cons_self) (by omega)
    let c : Int × Int → Bool := fun p => !decide (p.1 = b) && !decide (p.2 = b)
    have hc : ∀ p, c p = true ↔ p.1 ≠ b ∧ p.2 ≠ b := fun p => by simp [c]
    obtain ⟨nm, ks, pm, up, dn, fp⟩ := ih (V.erase b) (F.filter c) (by rw [List.length_erase_of_mem hb, hl]; rfl) (nd.erase b) (fun p hp => hF p (List.mem_filter.mp hp).1) (fun p hp => by
      obtain ⟨h1, h2⟩ := List.mem_filter.mp hp
      have h3 := (hc p).mp h2
      have h4 := hV p h1
      exact ⟨(List.mem_erase_of_ne h3.1).mpr h4.1, (List.mem_erase_of_ne h3.2).mpr h4.2⟩) (nF.filter _) (br.filt c)
    have ln : nm.length = n := by rw [pm.length_eq, List.length_erase_of_mem hb, hl]; rfl
    have pV : (nm ++ [b]).Perm V := (List.perm_append_comm.trans (List.Perm.cons b pm)).trans (List.perm_cons_erase hb).symm
    have same : ks.map (edgeOf nm) = ks.map (edgeOf (nm ++ [b])) := List.map_congr_left fun q hq => by
      have := dn q hq
      unfold edgeOf
      rw [getD_app (by omega), getD_app (by omega)]
    by_cases he : ∃ w, Adj F b w
    · obtain ⟨w, hw⟩ := he
      have ew := adj_ord hF hw
      have wV : w ∈ nm := pm.mem_iff.mpr ((List.mem_erase_of_ne ew.2.symm).mpr (hw.elim (fun e => (hV _ e).2) fun e => (hV _ e).1))
      have iw : nm.idxOf w < nm.length := List.idxOf_lt_length_iff.mpr wV
      have touch : F.filter (fun p => !c p) = [ordP b w] := by
        have all : ∀ p ∈ F.filter (fun p => !c p), p = ordP b w := fun p hp => by
          obtain ⟨h1, h2⟩ := List.mem_filter.mp hp
          have lt := hF p h1
          have h3 : ¬ (p.1 ≠ b ∧ p.2 ≠ b) := fun z => by
            rw [(hc p).mpr z] at h2
            cases h2
          by_cases z1 : p.1 = b
          · have e2 : p.2 = w := lf _ _ (.inl (by rw [← z1]; exact h1)) hw
            rw [← z1, ← e2, ordP_self lt]
          · have z2 : p.2 = b := Decidable.byContradiction fun z => h3 ⟨z1, z⟩
            have e2 : p.1 = w := lf _ _ (.inr (by rw [← z2]; exact h1)) hw
            rw [← z2, ← e2, ordP_comm, ordP_self lt]
        have mem : ordP b w ∈ F.filter (fun p => !c p) := List.mem_filter.mpr ⟨ew.1, by
          have : c (ordP b w) = false := by
            cases z : c (ordP b w) with
            | false => rfl
            | true =>
              have := (hc _).mp z
              unfold ordP at this
              split at this
              · exact absurd rfl this.1
              · exact absurd rfl this.2
          rw [this]
          rfl⟩
        have nd2 := nF.filter (fun p => !c p)
        match h : F.filter (fun p => !c p), all, mem, nd2 with
        | [x], all, _, _ => rw [all x List.mem_cons_self]
        | x :: y :: r, all, _, nd2 => exact absurd (by rw [all x List.mem_cons_self, all y (List.mem_cons_of_mem _ List.mem_cons_self)]; exact List.mem_cons_self) (List.nodup_cons.mp nd2).1
      refine ⟨nm ++ [b], ks ++ [(n, nm.idxOf w)], pV, List.pairwise_append.mpr ⟨up, List.pairwise_singleton _ _, fun x hx y hy => ?_⟩, fun q hq => ?_, ?_⟩
      · rw [List.mem_singleton.mp hy]
        exact (dn x hx).2
      · rcases List.mem_append.mp hq with hq | hq
        · have := dn q hq
          exact ⟨this.1, by omega⟩
        · rw [List.mem_singleton.mp hq]
          exact ⟨by show nm.idxOf w < n; omega, Nat.lt_succ_self n⟩
      · have e1 : edgeOf (nm ++ [b]) (n, nm.idxOf w) = ordP b w := by
          unfold edgeOf
          have g1 : (nm ++ [b]).getD n 0 = b := by
            rw [List.getD_eq_getElem?_getD, List.getElem?_append_right (by omega), ln, Nat.sub_self]
            rfl
          have g2 : (nm ++ [b]).getD (nm.idxOf w) 0 = w := by
            rw [getD_app iw, List.getD_eq_getElem?_getD, List.getElem?_eq_getElem iw, List.getElem_idxOf iw]
            rfl
          rw [g1, g2]
        rw [List.map_append, ← same, List.map_singleton, e1, ← touch]
        exact (List.filter_append_perm c F).symm.trans (List.Perm.append_right _ fp)
    · have e : F.filter c = F := List.filter_eq_self.mpr fun p hp => (hc p).mpr ⟨fun z => he ⟨p.2, .inl (by rw [← z]; exact hp)⟩, fun z => he ⟨p.1, .inr (by rw [← z]; exact hp)⟩⟩
      rw [e, same] at fp
      exact ⟨nm ++ [b], ks, pV, up, fun q hq => ⟨(dn q hq).1, Nat.lt_succ_of_lt (dn q hq).2⟩, fp⟩
theorem IsFor.of_br {m : Nat} {F : List (Int × Int)} (asc : AscP F) (r : ∀ p ∈ F, 0 ≤ p.1 ∧ p.1 < p.2 ∧ p.2 < m) (br : Br F) : IsFor m F := by
  obtain ⟨nm, ks, pm, up, dn, fp⟩ := order_of m (TL.rng m) F (rng_length m) (rng_asc m).nodup (fun p hp => (r p hp).2.1) (fun p hp => by
    have := r p hp
    exact ⟨mem_rng.mpr ⟨by omega, by omega⟩, mem_rng.mpr ⟨by omega, by omega⟩⟩) (AscP.nodup' asc) br
  exact ⟨asc, r, nm, ks, ⟨pm, up, dn⟩, fp⟩
/-- an edge between two parts -/
theorem IsFor.join {m : Nat} {es : List (Int × Int)} {u v : Int} (f : IsFor m es) (hu : 0 ≤ u ∧ u < m) (hv : 0 ≤ v ∧ v < m) (np : ∀ p, ¬ Pth es u v p) : IsFor m (srtP (es ++ [ordP u v])) := by
  have fr := f.joined hu hv np
  refine IsFor.of_br fr.asc fr.rng fun p hp h => ?_
  have nc : ¬ Conn es u v := fun h => by
    obtain ⟨p, hp⟩ := h.pth
    exact np p hp
  have mem : ∀ q ∈ srtP (es ++ [ordP u v]), q ∈ es ∨ q = ordP u v := fun q hq => by
    rcases List.mem_append.mp (mem_srtP.mp hq) with z | z
    · exact .inl z
    · exact .inr (List.mem_singleton.mp z)
  by_cases ep : p = ordP u v
  · have h2 : Conn es p.1 p.2 := h.mono fun q hq => by
      obtain ⟨h1, h2⟩ := List.mem_filter.mp hq
      rcases mem q h1 with z | z
      · exact z
      · rw [z, ← ep, decide_eq_true rfl] at h2
        cases h2
    rw [ep] at h2
    exact nc (ord_conn h2)
  · have pe : p ∈ es := (mem p hp).resolve_right ep
    have op : ordP p.1 p.2 = p := f.ord_lt (a := p.1) (b := p.2) pe
    have sub : ∀ q ∈ (srtP (es ++ [ordP u v])).filter (fun r => !decide (r = p)), q ∈ cutR es p.1 p.2 ∨ q = ordP u v := fun q hq => by
      obtain ⟨h1, h2⟩ := List.mem_filter.mp hq
      rcases mem q h1 with z | z
      · refine .inl (List.mem_filter.mpr ⟨z, ?_⟩)
        rw [op]
        exact h2
      · exact .inr z
    have cs : ∀ {x y : Int}, Conn (cutR es p.1 p.2) x y → Conn es x y := fun h => h.mono fun q hq => (List.mem_filter.mp hq).1
    have pq : Conn es p.1 p.2 := Conn.adj pe
    rcases h.edge sub with c | ⟨c1, c2⟩ | ⟨c1, c2⟩
    · obtain ⟨q, hq⟩ := c.pth
      exact f.cut (by rw [op]; exact pe) q hq
    · exact nc (((cs c1).symm.trans pq).trans (cs c2).symm)
    · exact nc ((((cs c2).trans pq.symm)).trans (cs c1))
end TL
namespace TL
/-! ### edges that stay open: neighbours, one path at most, the paths in a row -/
theorem Fr.mem_ord {m : Nat} {es : List (Int × Int)} (f : Fr m es) {o v : Int} : ordP o v ∈ es ↔ (o, v) ∈ es ∨ (v, o) ∈ es := by
  unfold ordP
  by_cases h : o ≤ v
  · rw [if_pos h]
    refine ⟨.inl, fun q => q.elim id fun q => ?_⟩
    have := f.rng _ q
    simp only at this
    omega
  · rw [if_neg h]
    refine ⟨.inr, fun q => q.elim (fun q => ?_) id⟩
    have := f.rng _ q
    simp only at this
    omega
theorem Fr.nb {m : Nat} {es : List (Int × Int)} (f : Fr m es) (v : Int) : nbL es v = nearL m es v := by
  refine asc_ext ?_ (nearL_asc m es v) fun o => ?_
  · unfold nbL
    refine List.pairwise_append.mpr ⟨?_, ?_, ?_⟩
    · rw [List.pairwise_map]
      refine (List.Pairwise.and_mem.mp (f.asc.filter fun p => decide (p.2 = v))).imp ?_
      rintro a b ⟨ha, hb, hab⟩
      have h1 : a.2 = v := of_decide_eq_true (List.mem_filter.mp ha).2
      have h2 : b.2 = v := of_decide_eq_true (List.mem_filter.mp hb).2
      rcases hab with h | h <;> omega
    · rw [List.pairwise_map]
      refine (List.Pairwise.and_mem.mp (f.asc.filter fun p => decide (p.1 = v))).imp ?_
      rintro a b ⟨ha, hb, hab⟩
      have h1 : a.1 = v := of_decide_eq_true (List.mem_filter.mp ha).2
      have h2 : b.1 = v := of_decide_eq_true (List.mem_filter.mp hb).2
      rcases hab with h | h <;> omega
    · intro x hx y hy
      obtain ⟨a, ha, rfl⟩ := List.mem_map.mp hx
      obtain ⟨b, hb, rfl⟩ := List.mem_map.mp hy
      have a1 := f.rng _ (List.mem_filter.mp ha).1
      have b1 := f.rng _ (List.mem_filter.mp hb).1
      have h1 : a.2 = v := of_decide_eq_true (List.mem_filter.mp ha).2
      have h2 : b.1 = v := of_decide_eq_true (List.mem_filter.mp hb).2
      omega
  · rw [mem_nbL, mem_nearL, f.mem_ord]
    refine ⟨fun h => ⟨?_, h⟩, fun h => h.2⟩
    rcases h with h | h
    · have := f.rng _ h
      simp only at this
      omega
    · have := f.rng _ h
      simp only at this
      omega
theorem Pth.conn {es : List (Int × Int)} {a b : Int} {p : List Int} (h : Pth es a b p) : Conn es a b := by
  induction h with
  | one => exact .refl _
  | cons ad _ _ ih => exact Conn.trans (.step (.refl _) ad) ih
section
variable {A : List (Int × Int)} {e : Int × Int}
theorem pth_edge {a b : Int} {p : List Int} (h : Pth (A ++ [e]) a b p) : Pth A a b p ∨ (∃ p1 p2, p = p1 ++ p2 ∧ Pth A a e.1 p1 ∧ Pth A e.2 b p2) ∨ ∃ p1 p2, p = p1 ++ p2 ∧ Pth A a e.2 p1 ∧ Pth A e.1 b p2 := by
  induction h with
  | one a => exact .inl (.one a)
  | @cons a c b p ad hp n ih =>
    have ad' : Adj A a c ∨ (a = e.1 ∧ c = e.2) ∨ (a = e.2 ∧ c = e.1) := by
      rcases ad with h | h
      · rcases List.mem_append.mp h with h | h
        · exact .inl (.inl h)
        · have h := List.mem_singleton.mp h
          exact .inr (.inl ⟨congrArg Prod.fst h, congrArg Prod.snd h⟩)
      · rcases List.mem_append.mp h with h | h
        · exact .inl (.inr h)
        · have h := List.mem_singleton.mp h
          exact .inr (.inr ⟨congrArg Prod.snd h, congrArg Prod.fst h⟩)
    rcases ih with h | ⟨p1, p2, rfl, h1, h2⟩ | ⟨p1, p2, rfl, h1, h2⟩
    · rcases ad' with ad | ⟨rfl, rfl⟩ | ⟨rfl, rfl⟩
      · exact .inl (.cons ad h n)
      · exact .inr (.inl ⟨[e.1], p, rfl, .one _, h⟩)
      · exact .inr (.inr ⟨[e.2], p, rfl, .one _, h⟩)
    · have n1 : a ∉ p1 := fun z => n (List.mem_append.mpr (.inl z))
      have n2 : a ∉ p2 := fun z => n (List.mem_append.mpr (.inr z))
      rcases ad' with ad | ⟨rfl, rfl⟩ | ⟨rfl, rfl⟩
      · exact .inr (.inl ⟨a :: p1, p2, rfl, .cons ad h1 n1, h2⟩)
      · exact absurd h1.last n1
      · exact absurd h2.first n2
    · have n1 : a ∉ p1 := fun z => n (List.mem_append.mpr (.inl z))
      have n2 : a ∉ p2 := fun z => n (List.mem_append.mpr (.inr z))
      rcases ad' with ad | ⟨rfl, rfl⟩ | ⟨rfl, rfl⟩
      · exact .inr (.inr ⟨a :: p1, p2, rfl, .cons ad h1 n1, h2⟩)
      · exact absurd h2.first n2
      · exact absurd h1.last n1
theorem uniq_edge (U : Uniq A) (n : ¬ Conn A e.1 e.2) : Uniq (A ++ [e]) := by
  intro a b p q hp hq
  rcases pth_edge hp with h | ⟨p1, p2, rfl, h1, h2⟩ | ⟨p1, p2, rfl, h1, h2⟩
  · rcases pth_edge hq with k | ⟨q1, q2, rfl, k1, k2⟩ | ⟨q1, q2, rfl, k1, k2⟩
    · exact U _ _ _ _ h k
    · exact absurd ((k1.conn.symm.trans h.conn).trans k2.conn.symm) n
    · exact absurd ((k2.conn.trans h.conn.symm).trans k1.conn) n
  · rcases pth_edge hq with k | ⟨q1, q2, rfl, k1, k2⟩ | ⟨q1, q2, rfl, k1, k2⟩
    · exact absurd ((h1.conn.symm.trans k.conn).trans h2.conn.symm) n
    · rw [U _ _ _ _ h1 k1, U _ _ _ _ h2 k2]
    · exact absurd (h1.conn.symm.trans k1.conn) n
  · rcases pth_edge hq with k | ⟨q1, q2, rfl, k1, k2⟩ | ⟨q1, q2, rfl, k1, k2⟩
    · exact absurd ((h2.conn.trans k.conn.symm).trans h1.conn) n
    · exact absurd (k1.conn.symm.trans h1.conn) n
    · rw [U _ _ _ _ h1 k1, U _ _ _ _ h2 k2]
end
theorem uniq_open : ∀ (n : Nat) {es : List (Int × Int)}, es.length = n → (∀ A p B, es = A ++ p :: B → ¬ Conn A p.1 p.2) → Uniq es
  | 0, es, h, _ => by
    rw [List.length_eq_zero_iff.mp h]
    exact uniq_nil
  | n + 1, es, h, o => by
    rcases List.eq_nil_or_concat es with e | ⟨A, p, e⟩
    · rw [e] at h
      cases h
    · rw [List.concat_eq_append] at e
      subst e
      rw [List.length_append, List.length_singleton] at h
      refine uniq_edge (uniq_open n (by omega) fun B q C hB => ?_) (o A p [] rfl)
      exact o B q (C ++ [p]) (by rw [hB, List.append_assoc]; rfl)
section
variable {m : Nat} {es : List (Int × Int)}
theorem Fr.uniq (f : Fr m es) : Uniq es := uniq_open _ rfl f.opn
theorem Fr.on_rng (f : Fr m es) {a b : Int} {p : List Int} (h : Pth es a b p) (ha : 0 ≤ a ∧ a < m) : ∀ x ∈ p, 0 ≤ x ∧ x < (m : Int) := by
  induction h with
  | one => intro x hx; rw [List.mem_singleton.mp hx]; exact ha
  | cons ad _ _ ih =>
    intro x hx
    rcases List.mem_cons.mp hx with rfl | hx
    · exact ha
    · refine ih ?_ x hx
      rcases ad with z | z
      · have := f.rng _ z; simp only at this; omega
      · have := f.rng _ z; simp only at this; omega
def grwF (m : Nat) (es : List (Int × Int)) (p : List Int) : List (List Int) := ((nearL m es (ends p)).filter fun o => !decide (o ∈ p)).map fun o => p ++ [o]
theorem mem_grwF {p q : List Int} : q ∈ grwF m es p ↔ ∃ o, o ∈ nearL m es (ends p) ∧ o ∉ p ∧ q = p ++ [o] := by
  unfold grwF
  rw [List.mem_map]
  constructor
  · rintro ⟨o, ho, rfl⟩
    obtain ⟨h1, h2⟩ := List.mem_filter.mp ho
    exact ⟨o, h1, fun z => (by rw [decide_eq_true z] at h2; cases h2), rfl⟩
  · rintro ⟨o, h1, h2, rfl⟩
    exact ⟨o, List.mem_filter.mpr ⟨h1, by rw [decide_eq_false h2]; rfl⟩, rfl⟩
theorem grwF_nd (p : List Int) : (grwF m es p).Nodup := by
  refine List.pairwise_map.mpr (((nearL_asc m es _).nodup.filter _).imp fun {x y} h e => h ?_)
  have := List.append_cancel_left e
  exact (List.cons.inj this).1
theorem grwF_len (m : Nat) (es : List (Int × Int)) (p : List Int) : (grwF m es p).length ≤ m := by
  unfold grwF
  rw [List.length_map]
  refine Nat.le_trans (List.length_filter_le _ _) ?_
  have := List.length_filter_le (fun o => decide (ordP o (ends p) ∈ es)) (rng m)
  rw [rng_length] at this
  exact this
/-- the paths from u in a row; those before the i-th are passed -/
structure Qu (m : Nat) (es : List (Int × Int)) (u : Int) (Ps : List (List Int)) (i : Nat) : Prop where
  pth : ∀ p ∈ Ps, Pth es u (ends p) p
  nd : Ps.Nodup
  ex : ∀ p ∈ Ps.take i, ∀ q ∈ grwF m es p, q ∈ Ps
  back : ∀ p ∈ Ps, p = [u] ∨ p.dropLast ∈ Ps.take i
  start : [u] ∈ Ps
theorem Qu.init {u : Int} : Qu m es u [[u]] 0 := ⟨fun p hp => by rw [List.mem_singleton.mp hp]; exact .one u, List.pairwise_singleton _ _, (fun p hp => nomatch hp), fun p hp => .inl (List.mem_singleton.mp hp), List.mem_singleton.mpr rfl⟩
theorem Qu.next {u : Int} {Ps : List (List Int)} {i : Nat} {p : List Int} (f : Fr m es) (h : Qu m es u Ps i) (hp : Ps[i]? = some p) : Qu m es u (Ps ++ grwF m es p) (i + 1) := by
  have mp := List.mem_of_getElem? hp
  have hi := (List.getElem?_eq_some_iff.mp hp).1
  have tk : (Ps ++ grwF m es p).take (i + 1) = Ps.take i ++ [p] := by
    rw [List.take_append_of_le_length (by omega), List.take_add_one, hp]
    rfl
  refine ⟨fun q hq => ?_, List.nodup_append.mpr ⟨h.nd, grwF_nd p, fun x hx y hy e => ?_⟩, fun x hx q hq => ?_, fun q hq => ?_, List.mem_append.mpr (.inl h.start)⟩
  · rcases List.mem_append.mp hq with hq | hq
    · exact h.pth q hq
    · obtain ⟨o, h1, h2, rfl⟩ := mem_grwF.mp hq
      rw [ends_snoc]
      exact (h.pth p mp).snoc ((f.mem_ord.mp (mem_nearL.mp h1).2).symm) h2
  · subst e
    obtain ⟨o, h1, h2, rfl⟩ := mem_grwF.mp hy
    rcases h.back _ hx with e | e
    · have := congrArg List.length e
      rw [List.length_append, List.length_singleton, List.length_singleton] at this
      have l0 : p = [] := List.length_eq_zero_iff.mp (by omega)
      have := (h.pth p mp).first
      rw [l0] at this
      cases this
    · rw [List.dropLast_concat] at e
      obtain ⟨j, hj⟩ := List.mem_iff_getElem?.mp e
      have hj2 := (List.getElem?_eq_some_iff.mp hj).1
      rw [List.length_take] at hj2
      rw [List.getElem?_take, if_pos (by omega)] at hj
      have := (List.getElem?_inj hi h.nd).mp (hp.trans hj.symm)
      omega
  · rw [tk] at hx
    rcases List.mem_append.mp hx with hx | hx
    · exact List.mem_append.mpr (.inl (h.ex x hx q hq))
    · rw [List.mem_singleton.mp hx] at hq
      exact List.mem_append.mpr (.inr hq)
  · rw [tk]
    rcases List.mem_append.mp hq with hq | hq
    · rcases h.back q hq with e | e
      · exact .inl e
      · exact .inr (List.mem_append.mpr (.inl e))
    · obtain ⟨o, h1, h2, rfl⟩ := mem_grwF.mp hq
      rw [List.dropLast_concat]
      exact .inr (List.mem_append.mpr (.inr (List.mem_singleton.mpr rfl)))
theorem nd_len2 {m : Nat} {l : List Int} (nd : l.Nodup) (h : ∀ x ∈ l, 0 ≤ x ∧ x < (m : Int)) : l.length ≤ m := by
  have h1 : (srtI l).length = l.length := (srtI_perm l).length_eq
  have nds : (srtI l).Nodup := (srtI_perm l).nodup_iff.mpr nd
  have asc : Asc (srtI l) := by
    have le : (srtI l).Pairwise (· ≤ ·) := srtI_le l
    exact (List.Pairwise.and le nds).imp fun {a b} h => by have := h.1; have := h.2; omega
  have := asc_len (m := m) (lo := 0) asc fun x hx => h x ((srtI_perm l).mem_iff.mp hx)
  omega
theorem Qu.len {u : Int} {Ps : List (List Int)} {i : Nat} (f : Fr m es) (hu : 0 ≤ u ∧ u < m) (h : Qu m es u Ps i) : Ps.length ≤ m := by
  have nd : (Ps.map ends).Nodup := by
    refine List.pairwise_map.mpr (List.Pairwise.imp_of_mem (fun {p q} hp hq hne e => hne ?_) h.nd)
    have h1 := h.pth p hp
    rw [e] at h1
    exact f.uniq _ _ _ _ h1 (h.pth q hq)
  have := nd_len2 (m := m) nd fun x hx => by
    obtain ⟨p, hp, rfl⟩ := List.mem_map.mp hx
    exact f.on_rng (h.pth p hp) hu _ (h.pth p hp).last
  rw [List.length_map] at this
  exact this
theorem Qu.all {u : Int} {Ps : List (List Int)} (f : Fr m es) (h : Qu m es u Ps Ps.length) : ∀ (n : Nat) {v : Int} {p : List Int}, p.length = n → Pth es u v p → p ∈ Ps
  | n, v, p, hn, hp => by
    by_cases l2 : 2 ≤ p.length
    · obtain ⟨q, c, rfl, hq, ad, nb⟩ := hp.unsnoc l2
      have lq : q.length < n := by
        rw [← hn, List.length_append, List.length_singleton]
        omega
      have ih := Qu.all f h q.length rfl hq
      refine h.ex q (by rw [List.take_length]; exact ih) _ (mem_grwF.mpr ⟨v, ?_, nb, rfl⟩)
      rw [hq.ends]
      refine mem_nearL.mpr ⟨?_, f.mem_ord.mpr ad.symm⟩
      rcases ad with z | z
      · have := f.rng _ z; simp only at this; omega
      · have := f.rng _ z; simp only at this; omega
    · cases hp with
      | one => exact h.start
      | cons ad h' n' =>
        cases h' <;> simp at l2
termination_by n => n
theorem Qu.none {u v : Int} {Ps : List (List Int)} {i : Nat} (f : Fr m es) (h : Qu m es u Ps i) (hi : Ps.length ≤ i) (n : ∀ p ∈ Ps, ends p ≠ v) : ¬ Conn es u v := fun c => by
  have h' : Qu m es u Ps Ps.length := ⟨h.pth, h.nd, fun p hp => h.ex p (by rw [List.take_of_length_le hi]; exact List.mem_of_mem_take hp), fun p hp => (h.back p hp).imp id fun e => (by rw [List.take_length]; exact List.mem_of_mem_take e), h.start⟩
  obtain ⟨p, hp⟩ := c.pth
  exact n p (Qu.all f h' _ rfl hp) hp.ends
theorem Fr.grow (f : Fr m es) {p : Int × Int} (r : 0 ≤ p.1 ∧ p.1 < p.2 ∧ p.2 < (m : Int)) (b : ∀ q ∈ es, q.1 < p.1 ∨ q.1 = p.1 ∧ q.2 < p.2) (n : ¬ Conn es p.1 p.2) : Fr m (es ++ [p]) := by
  refine ⟨?_, fun q hq => ?_, fun A q B e => ?_⟩
  · refine List.pairwise_append.mpr ⟨f.asc, List.pairwise_singleton _ _, fun x hx y hy => ?_⟩
    rw [List.mem_singleton.mp hy]
    exact b x hx
  · rcases List.mem_append.mp hq with hq | hq
    · exact f.rng q hq
    · rw [List.mem_singleton.mp hq]
      exact r
  · rcases List.eq_nil_or_concat B with h | ⟨B', x, h⟩
    · subst h
      have := List.append_inj' e rfl
      rw [← this.1]
      have e2 := (List.cons.inj this.2).1
      rw [← e2]
      exact n
    · rw [List.concat_eq_append] at h
      subst h
      rw [← List.cons_append, ← List.append_assoc] at e
      have := List.append_inj' e rfl
      exact f.opn A q B' this.1
theorem Fr.nil : Fr m [] := ⟨.nil, (fun _ h => nomatch h), fun A p B e => by simp at e⟩
end
end TL
namespace TL
open PySem PySem.Spec PyProof.Rows L2
/-! ### list(x): the new list does not stand where sys.modules stands (after the library's rule for list(x), whose address is new but not said to be another) -/
def rListS (K : PySem.W.Frag) : List V → Hp → VK → Prop := fun xs H Q => ∃ p ys, xs = [.ref p] ∧ (SqL K H p ys ∨ SqT K H p ys) ∧ ∀ l, H l = none → l ≠ sysModules → Q (.ref l) (upd H l (.lst ys))
theorem listSK (K : PySem.W.Frag) {X : Cx} (h : X.K = K := by rfl) : CallR X (.type "list") (rListS K) := by
  subst h
  intro pins s σ H args us Q I rel ⟨p, ys, eargs, side, q⟩
  subst eargs
  obtain ⟨u, rfl, ru⟩ := vals1 rel
  cases ru
  have room : ∀ {its : List Value}, Vals ys its → ys.length ≤ sizeLine → its.toArray.size ≤ sizeLine := fun r z => by rw [List.size_toArray, ← r.length]; exact z
  have done : ∀ (its : List Value), Vals ys its → ys.length ≤ sizeLine → ∀ (h2 : Heap) (c2 : Nat), (∀ a o, s.heap.get? a = some o → h2.get? a = some o) →
      h2.get? s.heap.objs.size = some ⟨.type "list", none, .seq its.toArray c2, #[]⟩ → EP X pins σ Q (.ref s.heap.objs.size) { s with heap := h2 } := fun its r z h2 c2 keep at2 => by
    have fresh := I.hok.fresh (Nat.le_refl s.heap.objs.size)
    refine ⟨.ref s.heap.objs.size, upd H s.heap.objs.size (.lst ys), I.laid (t' := s.toks) keep (Nat.le_refl _) ?_, rfl, q _ fresh (Nat.ne_of_gt I.big)⟩
    exact ⟨z, _, c2, r, at2⟩
  cases side with
  | inl sl =>
    obtain ⟨its, r, pl, z⟩ := I.list sl
    obtain ⟨o, at1, cls1, n, data1⟩ := pl.isList
    have small := room r z
    exact call_list_seq p (Or.inl rfl) at1 cls1 data1 (fun _ _ keep at2 => done its r z _ _ keep at2) (by omega)
  | inr st =>
    obtain ⟨its, r, pl, z⟩ := I.tuple st
    obtain ⟨o, at1, cls1, n, data1⟩ := pl
    have small := room r z
    exact call_list_seq p (Or.inr rfl) at1 cls1 data1 (fun _ _ keep at2 => done its r z _ _ keep at2) (by omega)
end TL
namespace TL
open PySem PySem.Spec PyProof.Rows L2
/-! ### the law's own state: a list of forest and lamps; its list of edits -/
def StL (K : PySem.W.Frag) (H : Hp) (p : Addr) (s : BS) : Prop := ∃ x y, H p = some (.lst [x, y]) ∧ Dp K H x (forD s.m s.es) ∧ Dp K H y (intsD s.S)
def EdL (K : PySem.W.Frag) (H : Hp) (g : Addr) (eds : List Ed) : Prop := ∃ zs, H g = some (.lst zs) ∧ DpAll K H zs (eds.map Ed.d)
section
variable {K : PySem.W.Frag} {H H' : Hp} {p g b d l C dx n : Addr} {fs : List (Str × V)} {s : BS} {eds : List Ed}
theorem StL.kt (h : StL K H p s) (k : KT K H H') (e : ∀ o, H p = some o → H' p = some o) : StL K H' p s := by
  obtain ⟨x, y, h1, h2, h3⟩ := h
  exact ⟨x, y, e _ h1, Dp.kt k h2 (only_forD _ _), Dp.kt k h3 (only_intsD _)⟩
theorem StL.same (h : StL K H p s) (e : Same H H') : StL K H' p s := h.kt (Same.kt e) fun o q => e p o q
theorem StL.fm (h : StL K H p s) (hD : Deck H d l n) (f : Fm d l H H') (h1 : p ≠ d) (h2 : p ≠ l) : StL K H' p s := h.kt (f.kt hD) fun o q => f p o h1 h2 q
theorem StL.fo (h : StL K H p s) (hb : H b = some (.ins C dx fs)) (f : Fo b H H') : StL K H' p s := h.kt (f.kt hb) fun o q => f p o (fun z => by
  obtain ⟨x, y, h1, _⟩ := h
  rw [z, hb] at h1
  cases h1) q
theorem StL.put (h : StL K H p s) {xs ys : List V} (hg : H g = some (.lst xs)) (n : p ≠ g) : StL K (upd H g (.lst ys)) p s := h.kt (kt_lst hg) fun o q => by
  rw [upd_ne n]
  exact q
theorem EdL.kt (h : EdL K H g eds) (k : KT K H H') (e : ∀ o, H g = some o → H' g = some o) : EdL K H' g eds := by
  obtain ⟨zs, h1, h2⟩ := h
  exact ⟨zs, e _ h1, DpAll.kt k h2 (only_Eds _)⟩
theorem EdL.same (h : EdL K H g eds) (e : Same H H') : EdL K H' g eds := h.kt (Same.kt e) fun o q => e g o q
theorem EdL.fm (h : EdL K H g eds) (hD : Deck H d l n) (f : Fm d l H H') (h1 : g ≠ d) (h2 : g ≠ l) : EdL K H' g eds := h.kt (f.kt hD) fun o q => f g o h1 h2 q
theorem EdL.fo (h : EdL K H g eds) (hb : H b = some (.ins C dx fs)) (f : Fo b H H') : EdL K H' g eds := h.kt (f.kt hb) fun o q => f g o (fun z => by
  obtain ⟨zs, h1, _⟩ := h
  rw [z, hb] at h1
  cases h1) q
theorem EdL.len (h : EdL K H g eds) : ∃ zs, H g = some (.lst zs) ∧ zs.length = eds.length ∧ DpAll K H zs (eds.map Ed.d) := by
  obtain ⟨zs, h1, h2⟩ := h
  exact ⟨zs, h1, by rw [DpAll.length h2, List.length_map], h2⟩
theorem EdL.push (h : EdL K H g eds) {zs : List V} (hg : H g = some (.lst zs)) {v : V} {e : Ed} (hv : Dp K H v e.d) : EdL K (upd H g (.lst (zs ++ [v]))) g (eds ++ [e]) := by
  obtain ⟨zs', h1, h2⟩ := h
  rw [hg] at h1
  cases h1
  refine ⟨zs ++ [v], upd_same, ?_⟩
  have h3 := DpAll.append h2 (show DpAll K H [v] [e.d] from .cons hv .nil)
  have e2 : eds.map Ed.d ++ [e.d] = (eds ++ [e]).map Ed.d := by rw [List.map_append]; rfl
  rw [e2] at h3
  exact DpAll.kt (kt_lst hg) h3 (only_Eds _)
theorem EdL.put (h : EdL K H g eds) {xs ys : List V} (hp : H p = some (.lst xs)) (n : g ≠ p) : EdL K (upd H p (.lst ys)) g eds := h.kt (kt_lst hp) fun o q => by
  rw [upd_ne n]
  exact q
theorem Bd.putL {sts : List BS} (h : Bd K C H b sts eds) {xs ys : List V} (hg : H g = some (.lst xs)) : Bd K C (upd H g (.lst ys)) b sts eds := h.kt (kt_lst hg) fun o q => by
  obtain ⟨dx, sa, ma, h1, _⟩ := h.at_
  rw [upd_ne (fun z => by rw [z, hg] at h1; cases h1)]
  exact q
theorem Deck.putL {k : Nat} (h : Deck H d l k) {xs ys : List V} (hg : H g = some (.lst xs)) (h1 : g ≠ d) (h2 : g ≠ l) : Deck (upd H g (.lst ys)) d l k := h.put h1 h2
end
end TL
namespace TL
open PySem PySem.Spec PyProof.Rows L2
/-! ### min, max of a tuple of ints -/
def rMinT (K : PySem.W.Frag) : List V → Hp → VK → Prop := fun vs H Q => ∃ (a : Addr) (n : Int) (ns : List Int), vs = [.ref a] ∧ SqT K H a ((n :: ns).map V.int) ∧ Q (.int (ns.foldl min n)) H
def rMaxT (K : PySem.W.Frag) : List V → Hp → VK → Prop := fun vs H Q => ∃ (a : Addr) (n : Int) (ns : List Int), vs = [.ref a] ∧ SqT K H a ((n :: ns).map V.int) ∧ Q (.int (ns.foldl max n)) H
section
variable {X : Cx}
theorem call_minT (hc : X.calm = true) (hu : X.A.units + 64 < cLine) : CallR X (.builtin "min") (rMinT X.K) := by
  intro pins s σ H vs us Q I r h
  obtain ⟨a, n, ns, rfl, hs, q⟩ := h
  rw [Vals.ref1 r]
  obtain ⟨its, rv, hl, _⟩ := I.tuple hs
  obtain ⟨as, hr⟩ := Dp.readsAll I _ _ _ (DpAll.of_ints (n :: ns)) rv
  refine PySem.W.min_tuple_data (x := .int n) (xs := ns.map .int) (as := as) (I.ok.hd hc) hl hr ⟨fun x hx y hy => ?_, fun x hx => ?_⟩ ?_ (fun i v h' tk bs hv rd hk => ?_)
  · have hx : x ∈ (n :: ns).map PyData.int := hx
    have hy : y ∈ (n :: ns).map PyData.int := hy
    obtain ⟨i, _, rfl⟩ := List.mem_map.mp hx
    obtain ⟨j, _, rfl⟩ := List.mem_map.mp hy
    simp [PySem.W.alike]
  · have hx : x ∈ (n :: ns).map PyData.int := hx
    obtain ⟨i, _, rfl⟩ := List.mem_map.mp hx
    exact fun z => nomatch z
  · have e : PyData.depthAll (PyData.int n :: ns.map .int) = 0 := depth_ints (n :: ns)
    rw [e]
    omega
  · rw [PySem.W.minD_ints] at rd
    cases rd
    exact ⟨.int _, H, I.kept hk, ⟨_, rfl⟩, q⟩
theorem call_maxT (hc : X.calm = true) (hu : X.A.units + 64 < cLine) : CallR X (.builtin "max") (rMaxT X.K) := by
  intro pins s σ H vs us Q I r h
  obtain ⟨a, n, ns, rfl, hs, q⟩ := h
  rw [Vals.ref1 r]
  obtain ⟨its, rv, hl, _⟩ := I.tuple hs
  obtain ⟨as, hr⟩ := Dp.readsAll I _ _ _ (DpAll.of_ints (n :: ns)) rv
  refine PySem.W.max_tuple_data (x := .int n) (xs := ns.map .int) (as := as) (I.ok.hd hc) hl hr ⟨fun x hx y hy => ?_, fun x hx => ?_⟩ ?_ (fun i v h' tk bs hv rd hk => ?_)
  · have hx : x ∈ (n :: ns).map PyData.int := hx
    have hy : y ∈ (n :: ns).map PyData.int := hy
    obtain ⟨i, _, rfl⟩ := List.mem_map.mp hx
    obtain ⟨j, _, rfl⟩ := List.mem_map.mp hy
    simp [PySem.W.alike]
  · have hx : x ∈ (n :: ns).map PyData.int := hx
    obtain ⟨i, _, rfl⟩ := List.mem_map.mp hx
    exact fun z => nomatch z
  · have e : PyData.depthAll (PyData.int n :: ns.map .int) = 0 := depth_ints (n :: ns)
    rw [e]
    omega
  · rw [PySem.W.maxD_ints] at rd
    cases rd
    exact ⟨.int _, H, I.kept hk, ⟨_, rfl⟩, q⟩
theorem minTK (K : PySem.W.Frag) (hu : X.A.units + 64 < cLine) (hc : X.calm = true := by rfl) (h : X.K = K := by rfl) : CallR X (.builtin "min") (rMinT K) := h ▸ call_minT hc hu
theorem maxTK (K : PySem.W.Frag) (hu : X.A.units + 64 < cLine) (hc : X.calm = true := by rfl) (h : X.K = K := by rfl) : CallR X (.builtin "max") (rMaxT K) := h ▸ call_maxT hc hu
end
end TL
namespace TL
open PySem PySem.Spec PyProof.Rows L2
/-! ### sorted(set(t)), t a tuple of ints -/
section
variable {X : Cx}
def tSortSI (K : PySem.W.Frag) (ta : TE) : TE := fun σ H Q => ta σ H fun x H1 => ∃ (l : Addr) (ns : List Int), x = V.ref l ∧ SqT K H1 l (ns.map V.int) ∧ ns.length < 64 ∧
  ∀ (ms : List Int) (p : Addr), ms.Pairwise (· < ·) → (∀ k : Int, k ∈ ms ↔ k ∈ ns) → H1 p = none → Q (.ref p) (upd H1 p (.lst (ms.map V.int)))
theorem sort_R {pins : List (Addr × Obj)} {s : Shared} {σ : L2.St} {H : Hp} {a : Addr} {S : Int → Bool} {n : Nat} {Q : VK} (I : L2.Inv X pins σ H s) (R : SetR X.w s.heap a S n) (hc : X.calm = true) (h64 : n < 64)
    (q : ∀ (ms : List Int) (p : Addr), ms.Pairwise (· < ·) → (∀ k : Int, k ∈ ms ↔ S k = true) → H p = none → Q (.ref p) (upd H p (.lst (ms.map V.int)))) : wpAny (model X.prog X.w) X.A (call (.builtin "sorted") [.ref a]) (EP X pins σ Q) X.xe s := by
  refine sorted_set R (I.ok.hd hc) h64 fun s' p out c ms k g o hp hg hi hs hm hl => ?_
  have hlen : (ms.map V.int).length ≤ sizeLine := by rw [List.length_map, hl, sizeLine_eq]; omega
  have hn : H p = none := I.hok.fresh hp
  have J : Inv X pins σ (upd H p (.lst (ms.map V.int))) { s with heap := s'.heap, gens := s'.gens, drawn := s'.drawn, toks := s'.toks } :=
    I.call (ch := []) (Un.laid k hp hn) (I.hok.laid k hp ⟨hlen, out.toList, c, vals_of_ints hi, hg⟩) (by rw [g]; exact I.bare) (fun _ z => nomatch z)
  have e : s' = { s with heap := s'.heap, gens := s'.gens, drawn := s'.drawn, toks := s'.toks } := by
    cases s'
    cases s
    cases o
    rfl
  rw [e]
  exact ⟨.ref p, _, J, rfl, q ms p hs hm hn⟩
theorem pe_sortSI {a : Expr} {ta : TE} {p p2 q pos : Pos} (hc : X.calm = true) (hg : Gl X "sorted") (hm : X.mg "sorted" = none) (hg2 : Gl X "set") (hm2 : X.mg "set" = none) (ha : PE X a ta)
    (na : starEach [a] X.env = (false, eval a X.env) :: starEach [] X.env := by rfl) : PE X (.Call (.Name "sorted" p) [.Call (.Name "set" p2) [a] [] q] [] pos) (tSortSI X.K ta) := by
  refine ⟨fun pins s σ H Q I h => ?_⟩
  refine Call_ (ld_blt I hg hm boot_sorted ?_)
  refine PyProof.Rows.callWith_builtin1 (PyProof.Rows.args_cons ?_ rfl) rfl rfl
  refine Call_ (ld_blt I hg2 hm2 PyProof.Rows.boot_set ?_)
  refine PyProof.Rows.callWith_type1 (PyProof.Rows.args_cons (thn (ha.run pins s σ H _ I h) fun v s1 ⟨x, H1, I1, r1, q1⟩ => PyProof.Rows.args_nil ?_) na) na rfl
  obtain ⟨l, ns, rfl, hq, h1, q1⟩ := q1
  cases r1
  obtain ⟨its, r, pl, hz⟩ := I1.tuple hq
  refine call_set_tupI ns (I1.ok.hd hc) pl (by simpa using r.ints) (by unfold scanBound; omega) fun h' tk c hS hc' hk => ?_
  refine PyProof.Rows.args_nil ?_
  have I2 : L2.Inv X pins σ H1 { s1 with heap := h', toks := tk } := I1.kept hk
  exact sort_R I2 hS hc (by omega) fun ms p hs hm hn => q1 ms p hs (fun k => by rw [hm k]; exact decide_eq_true_iff) hn
theorem sortSIK (K : PySem.W.Frag) {a : Expr} {ta : TE} {p p2 q pos : Pos} (hc : X.calm = true) (hg : Gl X "sorted") (hm : X.mg "sorted" = none) (hg2 : Gl X "set") (hm2 : X.mg "set" = none) (ha : PE X a ta)
    (na : starEach [a] X.env = (false, eval a X.env) :: starEach [] X.env := by rfl) (h : X.K = K := by rfl) : PE X (.Call (.Name "sorted" p) [.Call (.Name "set" p2) [a] [] q] [] pos) (tSortSI K ta) := h ▸ pe_sortSI hc hg hm hg2 hm2 ha na
end
end TL
namespace TL
open PySem PySem.Spec PyProof.Rows L2
def topS (i : Nat) : Stmt := PySem.Challenge.pw_treelamps_k48_boards_created.main.body.getD i (.Pass ⟨0, 0, 0, 0⟩)
def clsS : Stmt → Nat → Stmt
  | .ClassDef _ _ _ body _ _ _ _ _ _ _, j => body.getD j (.Pass ⟨0, 0, 0, 0⟩)
  | s, _ => s
abbrev sBadforestInit : Stmt := clsS (topS 12) 0
abbrev nBadforestInit : List Str := ["self", "error"]
theorem scBadforestInit : FnScope nBadforestInit ["self", "error"] (defScope sBadforestInit) :=
  ⟨rfl, rfl, rfl, by decide +kernel, rfl, by decide +kernel, by decide +kernel⟩
abbrev sWall : Stmt := topS 0
abbrev nWall : List Str := ["k"]
theorem scWall : FnScope nWall ["k"] (defScope sWall) :=
  ⟨rfl, rfl, rfl, by decide +kernel, rfl, by decide +kernel, by decide +kernel⟩
abbrev sIsNumber : Stmt := topS 23
abbrev nIsNumber : List Str := ["value"]
theorem scIsNumber : FnScope nIsNumber ["value"] (defScope sIsNumber) :=
  ⟨rfl, rfl, rfl, by decide +kernel, rfl, by decide +kernel, by decide +kernel⟩
abbrev sIsPair : Stmt := topS 24
abbrev nIsPair : List Str := ["value"]
theorem scIsPair : FnScope nIsPair ["value"] (defScope sIsPair) :=
  ⟨rfl, rfl, rfl, by decide +kernel, rfl, by decide +kernel, by decide +kernel⟩
abbrev sIsVertex : Stmt := topS 25
abbrev nIsVertex : List Str := ["n", "value"]
theorem scIsVertex : FnScope nIsVertex ["n", "value"] (defScope sIsVertex) :=
  ⟨rfl, rfl, rfl, by decide +kernel, rfl, by decide +kernel, by decide +kernel⟩
abbrev sIsEdge : Stmt := topS 26
abbrev nIsEdge : List Str := ["n", "value", "a", "b"]
theorem scIsEdge : FnScope nIsEdge ["n", "value"] (defScope sIsEdge) :=
  ⟨rfl, rfl, rfl, by decide +kernel, rfl, by decide +kernel, by decide +kernel⟩
abbrev sIsAscending : Stmt := topS 27
abbrev nIsAscending : List Str := ["n", "value", "least", "item"]
theorem scIsAscending : FnScope nIsAscending ["n", "value"] (defScope sIsAscending) :=
  ⟨rfl, rfl, rfl, by decide +kernel, rfl, by decide +kernel, by decide +kernel⟩
abbrev sMerged : Stmt := topS 28
abbrev nMerged : List Str := ["labels", "a", "b", "old", "new", "vertex"]
theorem scMerged : FnScope nMerged ["labels", "a", "b"] (defScope sMerged) :=
  ⟨rfl, rfl, rfl, by decide +kernel, rfl, by decide +kernel, by decide +kernel⟩
abbrev sEdgesError : Stmt := topS 29
abbrev nEdgesError : List Str := ["n", "edges", "labels", "index", "edge", "a", "b", "vertex"]
theorem scEdgesError : FnScope nEdgesError ["n", "edges"] (defScope sEdgesError) :=
  ⟨rfl, rfl, rfl, by decide +kernel, rfl, by decide +kernel, by decide +kernel⟩
abbrev sForestError : Stmt := topS 30
abbrev nForestError : List Str := ["value", "n", "edges"]
theorem scForestError : FnScope nForestError ["value"] (defScope sForestError) :=
  ⟨rfl, rfl, rfl, by decide +kernel, rfl, by decide +kernel, by decide +kernel⟩
abbrev sIsSetting : Stmt := topS 31
abbrev nIsSetting : List Str := ["forest", "value", "n", "edges", "a", "b"]
theorem scIsSetting : FnScope nIsSetting ["forest", "value"] (defScope sIsSetting) :=
  ⟨rfl, rfl, rfl, by decide +kernel, rfl, by decide +kernel, by decide +kernel⟩
abbrev sNeighboursOf : Stmt := topS 32
abbrev nNeighboursOf : List Str := ["forest", "vertex", "n", "edges", "lower", "upper", "a", "b"]
theorem scNeighboursOf : FnScope nNeighboursOf ["forest", "vertex"] (defScope sNeighboursOf) :=
  ⟨rfl, rfl, rfl, by decide +kernel, rfl, by decide +kernel, by decide +kernel⟩
abbrev sPathBetween : Stmt := topS 33
abbrev nPathBetween : List Str := ["forest", "first", "second", "paths", "waiting", "vertex", "other"]
theorem scPathBetween : FnScope nPathBetween ["forest", "first", "second"] (defScope sPathBetween) :=
  ⟨rfl, rfl, rfl, by decide +kernel, rfl, by decide +kernel, by decide +kernel⟩
abbrev sEdgeOf : Stmt := topS 35
abbrev nEdgeOf : List Str := ["first", "second"]
theorem scEdgeOf : FnScope nEdgeOf ["first", "second"] (defScope sEdgeOf) :=
  ⟨rfl, rfl, rfl, by decide +kernel, rfl, by decide +kernel, by decide +kernel⟩
abbrev sCheckVertices : Stmt := topS 36
abbrev nCheckVertices : List Str := ["forest", "values", "n", "edges", "value"]
theorem scCheckVertices : FnScope nCheckVertices ["forest", "values"] (defScope sCheckVertices) :=
  ⟨rfl, rfl, rfl, by decide +kernel, rfl, by decide +kernel, by decide +kernel⟩
abbrev sAttachVertex : Stmt := topS 37
abbrev nAttachVertex : List Str := ["forest", "vertex", "n", "edges"]
theorem scAttachVertex : FnScope nAttachVertex ["forest", "vertex"] (defScope sAttachVertex) :=
  ⟨rfl, rfl, rfl, by decide +kernel, rfl, by decide +kernel, by decide +kernel⟩
abbrev sAddEdge : Stmt := topS 38
abbrev nAddEdge : List Str := ["forest", "first", "second", "path", "n", "edges"]
theorem scAddEdge : FnScope nAddEdge ["forest", "first", "second"] (defScope sAddEdge) :=
  ⟨rfl, rfl, rfl, by decide +kernel, rfl, by decide +kernel, by decide +kernel⟩
abbrev sRemoveEdge : Stmt := topS 39
abbrev nRemoveEdge : List Str := ["forest", "first", "second", "n", "edges", "edge"]
theorem scRemoveEdge : FnScope nRemoveEdge ["forest", "first", "second"] (defScope sRemoveEdge) :=
  ⟨rfl, rfl, rfl, by decide +kernel, rfl, by decide +kernel, by decide +kernel⟩
abbrev sBlockingLamps : Stmt := topS 41
abbrev nBlockingLamps : List Str := ["forest", "setting", "u", "v", "vertex"]
theorem scBlockingLamps : FnScope nBlockingLamps ["forest", "setting", "u", "v"] (defScope sBlockingLamps) :=
  ⟨rfl, rfl, rfl, by decide +kernel, rfl, by decide +kernel, by decide +kernel⟩
abbrev sCheckLamp : Stmt := topS 42
abbrev nCheckLamp : List Str := ["setting", "value"]
theorem scCheckLamp : FnScope nCheckLamp ["setting", "value"] (defScope sCheckLamp) :=
  ⟨rfl, rfl, rfl, by decide +kernel, rfl, by decide +kernel, by decide +kernel⟩
abbrev sSlideLamp : Stmt := topS 43
abbrev nSlideLamp : List Str := ["forest", "setting", "u", "v", "blocking", "lamp"]
theorem scSlideLamp : FnScope nSlideLamp ["forest", "setting", "u", "v"] (defScope sSlideLamp) :=
  ⟨rfl, rfl, rfl, by decide +kernel, rfl, by decide +kernel, by decide +kernel⟩
abbrev sChosenNeighbours : Stmt := topS 45
abbrev nChosenNeighbours : List Str := ["forest", "chosen", "vertex", "other"]
theorem scChosenNeighbours : FnScope nChosenNeighbours ["forest", "chosen", "vertex"] (defScope sChosenNeighbours) :=
  ⟨rfl, rfl, rfl, by decide +kernel, rfl, by decide +kernel, by decide +kernel⟩
abbrev sWithLamp : Stmt := topS 47
abbrev nWithLamp : List Str := ["forest", "lamps", "vertex", "beside"]
theorem scWithLamp : FnScope nWithLamp ["forest", "lamps", "vertex"] (defScope sWithLamp) :=
  ⟨rfl, rfl, rfl, by decide +kernel, rfl, by decide +kernel, by decide +kernel⟩
abbrev sWithoutLamp : Stmt := topS 48
abbrev nWithoutLamp : List Str := ["forest", "lamps", "vertex", "lamp"]
theorem scWithoutLamp : FnScope nWithoutLamp ["forest", "lamps", "vertex"] (defScope sWithoutLamp) :=
  ⟨rfl, rfl, rfl, by decide +kernel, rfl, by decide +kernel, by decide +kernel⟩
abbrev sWithSlide : Stmt := topS 49
abbrev nWithSlide : List Str := ["forest", "lamps", "u", "v"]
theorem scWithSlide : FnScope nWithSlide ["forest", "lamps", "u", "v"] (defScope sWithSlide) :=
  ⟨rfl, rfl, rfl, by decide +kernel, rfl, by decide +kernel, by decide +kernel⟩
abbrev sWithVertex : Stmt := topS 50
abbrev nWithVertex : List Str := ["forest", "lamps", "vertex"]
theorem scWithVertex : FnScope nWithVertex ["forest", "lamps", "vertex"] (defScope sWithVertex) :=
  ⟨rfl, rfl, rfl, by decide +kernel, rfl, by decide +kernel, by decide +kernel⟩
abbrev sWithEdge : Stmt := topS 51
abbrev nWithEdge : List Str := ["forest", "lamps", "first", "second", "joined"]
theorem scWithEdge : FnScope nWithEdge ["forest", "lamps", "first", "second"] (defScope sWithEdge) :=
  ⟨rfl, rfl, rfl, by decide +kernel, rfl, by decide +kernel, by decide +kernel⟩
abbrev sWithoutEdge : Stmt := topS 52
abbrev nWithoutEdge : List Str := ["forest", "lamps", "first", "second"]
theorem scWithoutEdge : FnScope nWithoutEdge ["forest", "lamps", "first", "second"] (defScope sWithoutEdge) :=
  ⟨rfl, rfl, rfl, by decide +kernel, rfl, by decide +kernel, by decide +kernel⟩
abbrev sIsEdit : Stmt := topS 55
abbrev nIsEdit : List Str := ["value", "name"]
theorem scIsEdit : FnScope nIsEdit ["value"] (defScope sIsEdit) :=
  ⟨rfl, rfl, rfl, by decide +kernel, rfl, by decide +kernel, by decide +kernel⟩
abbrev sCopiedEdits : Stmt := topS 56
abbrev nCopiedEdits : List Str := ["value", "index", "item"]
theorem scCopiedEdits : FnScope nCopiedEdits ["value"] (defScope sCopiedEdits) :=
  ⟨rfl, rfl, rfl, by decide +kernel, rfl, by decide +kernel, by decide +kernel⟩
abbrev sLDeck : Stmt := topS 59
abbrev nLDeck : List Str := ["_law_script", "_law_cell"]
theorem scLDeck : FnScope nLDeck ["_law_script"] (defScope sLDeck) :=
  ⟨rfl, rfl, rfl, by decide +kernel, rfl, by decide +kernel, by decide +kernel⟩
abbrev sLDraw : Stmt := topS 60
abbrev nLDraw : List Str := ["_law_deck_here", "_law_many", "_law_cell", "_law_place"]
theorem scLDraw : FnScope nLDraw ["_law_deck_here", "_law_many"] (defScope sLDraw) :=
  ⟨rfl, rfl, rfl, by decide +kernel, rfl, by decide +kernel, by decide +kernel⟩
abbrev sLForest : Stmt := topS 61
abbrev nLForest : List Str := ["_law_deck_here", "_law_most", "_law_n", "_law_left", "_law_order", "_law_edges", "_law_lacks", "_law_way", "_law_k", "_law_other"]
theorem scLForest : FnScope nLForest ["_law_deck_here", "_law_most"] (defScope sLForest) :=
  ⟨rfl, rfl, rfl, by decide +kernel, rfl, by decide +kernel, by decide +kernel⟩
abbrev sLNear : Stmt := topS 62
abbrev nLNear : List Str := ["_law_forest_here", "_law_vertex", "_law_found", "_law_one", "_law_two"]
theorem scLNear : FnScope nLNear ["_law_forest_here", "_law_vertex"] (defScope sLNear) :=
  ⟨rfl, rfl, rfl, by decide +kernel, rfl, by decide +kernel, by decide +kernel⟩
abbrev sLSetting : Stmt := topS 63
abbrev nLSetting : List Str := ["_law_deck_here", "_law_forest_here", "_law_left", "_law_lamps", "_law_share", "_law_vertex", "_law_drawn", "_law_near_here", "_law_one"]
theorem scLSetting : FnScope nLSetting ["_law_deck_here", "_law_forest_here"] (defScope sLSetting) :=
  ⟨rfl, rfl, rfl, by decide +kernel, rfl, by decide +kernel, by decide +kernel⟩
abbrev sLPath : Stmt := topS 64
abbrev nLPath : List Str := ["_law_forest_here", "_law_first", "_law_second", "_law_paths", "_law_at", "_law_path_here", "_law_one"]
theorem scLPath : FnScope nLPath ["_law_forest_here", "_law_first", "_law_second"] (defScope sLPath) :=
  ⟨rfl, rfl, rfl, by decide +kernel, rfl, by decide +kernel, by decide +kernel⟩
abbrev sLRight : Stmt := topS 65
abbrev nLRight : List Str := ["_law_table", "_law_state", "_law_edits", "_law_found", "_law_words"]
theorem scLRight : FnScope nLRight ["_law_table", "_law_state", "_law_edits"] (defScope sLRight) :=
  ⟨rfl, rfl, rfl, by decide +kernel, rfl, by decide +kernel, by decide +kernel⟩
abbrev sLBegun : Stmt := topS 66
abbrev nLBegun : List Str := ["_law_deck_here", "_law_most", "_law_forest_here"]
theorem scLBegun : FnScope nLBegun ["_law_deck_here", "_law_most"] (defScope sLBegun) :=
  ⟨rfl, rfl, rfl, by decide +kernel, rfl, by decide +kernel, by decide +kernel⟩
abbrev sLIsBelow : Stmt := topS 67
abbrev nLIsBelow : List Str := ["_law_value", "_law_limit"]
theorem scLIsBelow : FnScope nLIsBelow ["_law_value", "_law_limit"] (defScope sLIsBelow) :=
  ⟨rfl, rfl, rfl, by decide +kernel, rfl, by decide +kernel, by decide +kernel⟩
abbrev sLError : Stmt := topS 68
abbrev nLError : List Str := ["_law_value", "_law_n", "_law_edges", "_law_index", "_law_edge"]
theorem scLError : FnScope nLError ["_law_value"] (defScope sLError) :=
  ⟨rfl, rfl, rfl, by decide +kernel, rfl, by decide +kernel, by decide +kernel⟩
abbrev sLIsSetting : Stmt := topS 69
abbrev nLIsSetting : List Str := ["_law_forest_here", "_law_value", "_law_one", "_law_k", "_law_edge"]
theorem scLIsSetting : FnScope nLIsSetting ["_law_forest_here", "_law_value"] (defScope sLIsSetting) :=
  ⟨rfl, rfl, rfl, by decide +kernel, rfl, by decide +kernel, by decide +kernel⟩
abbrev sLOdd : Stmt := topS 70
abbrev nLOdd : List Str := ["_law_deck_here", "_law_some"]
theorem scLOdd : FnScope nLOdd ["_law_deck_here"] (defScope sLOdd) :=
  ⟨rfl, rfl, rfl, by decide +kernel, rfl, by decide +kernel, by decide +kernel⟩
abbrev sLChanged : Stmt := topS 71
abbrev nLChanged : List Str := ["_law_deck_here", "_law_row", "_law_place", "_law_odd_here", "_law_some"]
theorem scLChanged : FnScope nLChanged ["_law_deck_here", "_law_row"] (defScope sLChanged) :=
  ⟨rfl, rfl, rfl, by decide +kernel, rfl, by decide +kernel, by decide +kernel⟩
abbrev sLMade : Stmt := topS 72
abbrev nLMade : List Str := ["_law_forest_here", "_law_lamps", "e", "_law_flags"]
theorem scLMade : FnScope nLMade ["_law_forest_here", "_law_lamps"] (defScope sLMade) :=
  ⟨rfl, rfl, rfl, by decide +kernel, rfl, by decide +kernel, by decide +kernel⟩
abbrev sLaw : Stmt := topS 73
abbrev nLaw : List Str := ["_law_script", "_law_deck_here", "_law_turn", "_law_forest_here", "_law_lamps", "_law_way", "_law_more", "_law_some", "_law_value", "_law_held", "_law_made_here", "_law_due"]
theorem scLaw : FnScope nLaw ["_law_script"] (defScope sLaw) :=
  ⟨rfl, rfl, rfl, by decide +kernel, rfl, by decide +kernel, by decide +kernel⟩
abbrev sBoardInit : Stmt := clsS (topS 57) 0
abbrev nBoardInit : List Str := ["self", "forest", "lamps", "error"]
theorem scBoardInit : FnScope nBoardInit ["self", "forest", "lamps"] (defScope sBoardInit) :=
  ⟨rfl, rfl, rfl, by decide +kernel, rfl, by decide +kernel, by decide +kernel⟩
abbrev sBoardLight : Stmt := clsS (topS 57) 1
abbrev nBoardLight : List Str := ["self", "vertex"]
theorem scBoardLight : FnScope nBoardLight ["self", "vertex"] (defScope sBoardLight) :=
  ⟨rfl, rfl, rfl, by decide +kernel, rfl, by decide +kernel, by decide +kernel⟩
abbrev sBoardDim : Stmt := clsS (topS 57) 2
abbrev nBoardDim : List Str := ["self", "vertex"]
theorem scBoardDim : FnScope nBoardDim ["self", "vertex"] (defScope sBoardDim) :=
  ⟨rfl, rfl, rfl, by decide +kernel, rfl, by decide +kernel, by decide +kernel⟩
abbrev sBoardSlide : Stmt := clsS (topS 57) 3
abbrev nBoardSlide : List Str := ["self", "u", "v"]
theorem scBoardSlide : FnScope nBoardSlide ["self", "u", "v"] (defScope sBoardSlide) :=
  ⟨rfl, rfl, rfl, by decide +kernel, rfl, by decide +kernel, by decide +kernel⟩
abbrev sBoardGrow : Stmt := clsS (topS 57) 4
abbrev nBoardGrow : List Str := ["self", "vertex"]
theorem scBoardGrow : FnScope nBoardGrow ["self", "vertex"] (defScope sBoardGrow) :=
  ⟨rfl, rfl, rfl, by decide +kernel, rfl, by decide +kernel, by decide +kernel⟩
abbrev sBoardJoin : Stmt := clsS (topS 57) 5
abbrev nBoardJoin : List Str := ["self", "first", "second"]
theorem scBoardJoin : FnScope nBoardJoin ["self", "first", "second"] (defScope sBoardJoin) :=
  ⟨rfl, rfl, rfl, by decide +kernel, rfl, by decide +kernel, by decide +kernel⟩
abbrev sBoardCut : Stmt := clsS (topS 57) 6
abbrev nBoardCut : List Str := ["self", "first", "second"]
theorem scBoardCut : FnScope nBoardCut ["self", "first", "second"] (defScope sBoardCut) :=
  ⟨rfl, rfl, rfl, by decide +kernel, rfl, by decide +kernel, by decide +kernel⟩
abbrev sBoardUndo : Stmt := clsS (topS 57) 7
abbrev nBoardUndo : List Str := ["self"]
theorem scBoardUndo : FnScope nBoardUndo ["self"] (defScope sBoardUndo) :=
  ⟨rfl, rfl, rfl, by decide +kernel, rfl, by decide +kernel, by decide +kernel⟩
abbrev sBoardAttempt : Stmt := clsS (topS 57) 8
abbrev nBoardAttempt : List Str := ["self", "edits", "goal", "wanted", "states", "made", "done"]
theorem scBoardAttempt : FnScope nBoardAttempt ["self", "edits", "goal"] (defScope sBoardAttempt) :=
  ⟨rfl, rfl, rfl, by decide +kernel, rfl, by decide +kernel, by decide +kernel⟩
abbrev sBoardForest : Stmt := clsS (topS 57) 9
abbrev nBoardForest : List Str := ["self", "version"]
theorem scBoardForest : FnScope nBoardForest ["self", "version"] (defScope sBoardForest) :=
  ⟨rfl, rfl, rfl, by decide +kernel, rfl, by decide +kernel, by decide +kernel⟩
abbrev sBoardLamps : Stmt := clsS (topS 57) 10
abbrev nBoardLamps : List Str := ["self", "version"]
theorem scBoardLamps : FnScope nBoardLamps ["self", "version"] (defScope sBoardLamps) :=
  ⟨rfl, rfl, rfl, by decide +kernel, rfl, by decide +kernel, by decide +kernel⟩
abbrev sBoardRigid : Stmt := clsS (topS 57) 11
abbrev nBoardRigid : List Str := ["self", "version"]
theorem scBoardRigid : FnScope nBoardRigid ["self", "version"] (defScope sBoardRigid) :=
  ⟨rfl, rfl, rfl, by decide +kernel, rfl, by decide +kernel, by decide +kernel⟩
abbrev sBoardNormal : Stmt := clsS (topS 57) 12
abbrev nBoardNormal : List Str := ["self", "version"]
theorem scBoardNormal : FnScope nBoardNormal ["self", "version"] (defScope sBoardNormal) :=
  ⟨rfl, rfl, rfl, by decide +kernel, rfl, by decide +kernel, by decide +kernel⟩
abbrev sBoardReaches : Stmt := clsS (topS 57) 13
abbrev nBoardReaches : List Str := ["self", "setting"]
theorem scBoardReaches : FnScope nBoardReaches ["self", "setting"] (defScope sBoardReaches) :=
  ⟨rfl, rfl, rfl, by decide +kernel, rfl, by decide +kernel, by decide +kernel⟩
abbrev sBoardEdits : Stmt := clsS (topS 57) 14
abbrev nBoardEdits : List Str := ["self"]
theorem scBoardEdits : FnScope nBoardEdits ["self"] (defScope sBoardEdits) :=
  ⟨rfl, rfl, rfl, by decide +kernel, rfl, by decide +kernel, by decide +kernel⟩
abbrev sBoardLen : Stmt := clsS (topS 57) 15
abbrev nBoardLen : List Str := ["self"]
theorem scBoardLen : FnScope nBoardLen ["self"] (defScope sBoardLen) :=
  ⟨rfl, rfl, rfl, by decide +kernel, rfl, by decide +kernel, by decide +kernel⟩
abbrev sBoardStr : Stmt := clsS (topS 57) 16
abbrev nBoardStr : List Str := ["self"]
theorem scBoardStr : FnScope nBoardStr ["self"] (defScope sBoardStr) :=
  ⟨rfl, rfl, rfl, by decide +kernel, rfl, by decide +kernel, by decide +kernel⟩
abbrev sBoardEq : Stmt := clsS (topS 57) 17
abbrev nBoardEq : List Str := ["self", "other"]
theorem scBoardEq : FnScope nBoardEq ["self", "other"] (defScope sBoardEq) :=
  ⟨rfl, rfl, rfl, by decide +kernel, rfl, by decide +kernel, by decide +kernel⟩
abbrev sBoardStateAt : Stmt := clsS (topS 57) 18
abbrev nBoardStateAt : List Str := ["self", "version"]
theorem scBoardStateAt : FnScope nBoardStateAt ["self", "version"] (defScope sBoardStateAt) :=
  ⟨rfl, rfl, rfl, by decide +kernel, rfl, by decide +kernel, by decide +kernel⟩
abbrev sBoardCheckIdle : Stmt := clsS (topS 57) 19
abbrev nBoardCheckIdle : List Str := ["self"]
theorem scBoardCheckIdle : FnScope nBoardCheckIdle ["self"] (defScope sBoardCheckIdle) :=
  ⟨rfl, rfl, rfl, by decide +kernel, rfl, by decide +kernel, by decide +kernel⟩
abbrev sBoardEdited : Stmt := clsS (topS 57) 20
abbrev nBoardEdited : List Str := ["self", "edit"]
theorem scBoardEdited : FnScope nBoardEdited ["self", "edit"] (defScope sBoardEdited) :=
  ⟨rfl, rfl, rfl, by decide +kernel, rfl, by decide +kernel, by decide +kernel⟩
abbrev sBoardChanged : Stmt := clsS (topS 57) 21
abbrev nBoardChanged : List Str := ["self", "edit", "name", "values", "change", "forest", "lamps", "state"]
theorem scBoardChanged : FnScope nBoardChanged ["self", "edit"] (defScope sBoardChanged) :=
  ⟨rfl, rfl, rfl, by decide +kernel, rfl, by decide +kernel, by decide +kernel⟩
abbrev sBoardDoneUntil : Stmt := clsS (topS 57) 22
abbrev nBoardDoneUntil : List Str := ["self", "edits", "goal", "index", "edit"]
theorem scBoardDoneUntil : FnScope nBoardDoneUntil ["self", "edits", "goal"] (defScope sBoardDoneUntil) :=
  ⟨rfl, rfl, rfl, by decide +kernel, rfl, by decide +kernel, by decide +kernel⟩
abbrev sBoardIsAccepted : Stmt := clsS (topS 57) 23
abbrev nBoardIsAccepted : List Str := ["self", "goal"]
theorem scBoardIsAccepted : FnScope nBoardIsAccepted ["self", "goal"] (defScope sBoardIsAccepted) :=
  ⟨rfl, rfl, rfl, by decide +kernel, rfl, by decide +kernel, by decide +kernel⟩
section
variable {P : Program} {w : World} {K : PySem.W.Frag} {mg : Str → Option Value} {base : Heap}
/-! ### the deck and its draws -/
def spLDeck (K : PySem.W.Frag) : Sp := fun vs H Q _ => ∃ (a : Addr) (ns : List Int), vs = [.ref a] ∧
  SqL K H a (ns.map V.int) ∧ ns.length ≤ 63 ∧ ∀ H' d l, Same H H' → Deck H' d l 0 → Q (.ref d) H'
theorem ok_LDeck {f : Addr} {fd : FuncData} {k : Nat} (F : Fun K "_law_deck" "_law_deck" sLDeck f fd) (m_abs : mg "abs" = none) :
    FnOk P w K mg base CX0 (k + 1) f fd ["_law_script"] (spLDeck K) := by
  refine F.ok scLDeck (fun vs H Q E h => ?_) (fun cdv A outer s H vs Q E hr h => ?_)
  · obtain ⟨a, ns, rfl, _⟩ := h
    rfl
  · obtain ⟨a, ns, rfl, hS, hlen, q⟩ := h
    refine ⟨_, (pss_one (ps_ret (pe_lst (pa_cons (pe_lc (own := [("_law_cell", 1)]) (g := (gName 1)) (tt := tYes) rfl scLDeck.nd (piLK K (pe_slice (slLK K) (pv 0) po_none (po_some pe_int)))
      (blkOk_by (own := [("_law_cell", 1)]) (N := nLDeck) (sc := (defScope sLDeck)) (by decide +kernel))
      (fun _ _ _ _ _ => (pg_name (i := 1) scLDeck.nd rfl (Or.inl rfl))) (fun _ _ _ _ _ => pts_nil)
      (fun _ _ _ _ _ => (pe_callB call_abs (by rfl) m_abs (by decide +kernel) (pa_cons (pv 1) pa_nil)))) (pa_cons pe_int pa_nil))))), ?_⟩
    refine ⟨.ref a, rfl, 63, rfl, a, ns.map V.int, rfl, hS, fun c nc => ?_⟩
    rw [cut63 hlen]
    refine ⟨c, rfl, ⟨_, SqL.of upd_same⟩, fun D nD => ?_⟩
    have s1 : Same H (upd H c (.lst (ns.map V.int))) := same_upd nc
    have s2 : Same (upd H c (.lst (ns.map V.int))) (upd (upd H c (.lst (ns.map V.int))) D (.lst [])) := same_upd nD
    have ncD : c ≠ D := ne_of_none (upd_same) nD
    have nHD : H D = none := s1.free nD
    refine lc_list (K := K) (a := c) (xs := ns.map V.int) (fun i H' => Same H H' ∧ H' c = some (.lst (ns.map V.int)) ∧
      H' D = some (.lst (((ns.take i).map fun z => if z < 0 then -z else z).map V.int))) ?_ ?_ ?_ ?_
    · exact ⟨s1.trans s2, by rw [upd_ne ncD, upd_same], by rw [upd_same]; rfl⟩
    · exact fun i H' _ p => SqL.of p.2.1
    · rintro i x H' hx ⟨p1, p2, p3⟩
      rw [List.getElem?_map] at hx
      obtain ⟨z, hz, rfl⟩ := Option.map_eq_some_iff.mp hx
      obtain ⟨hi, _⟩ := List.getElem?_eq_some_iff.mp hz
      refine ⟨rfl, yesI (iteT ?_)⟩
      refine ⟨.int z, rfl, z, rfl, _, p3, ?_, ?_, ?_, ?_⟩
      · rw [List.length_map, List.length_map, List.length_take]
        exact small1000 (by omega)
      · exact fun b o e => by
          have nb : b ≠ D := ne_of_none e nHD
          rw [upd_ne nb]
          exact p1 b o e
      · rw [upd_ne ncD]
        exact p2
      · rw [upd_same, List.take_add_one, hz, List.map_append, List.map_append]
        rfl
    · rintro H' ⟨p1, p2, p3⟩
      rw [List.length_map, List.take_length] at p3
      refine ⟨by show 2 ≤ sizeLine; decide, fun d nd => ?_⟩
      have ndD : D ≠ d := ne_of_none p3 nd
      refine q _ d D (p1.trans (same_upd nd)) ⟨0, (ns.map fun z => if z < 0 then -z else z), Nat.le_refl _, ?_, ?_, ?_, ?_⟩
      · rw [upd_same]
        rfl
      · rw [upd_ne ndD]
        exact p3
      · intro z hz
        obtain ⟨y, _, rfl⟩ := List.mem_map.mp hz
        show 0 ≤ if y < 0 then -y else y
        split <;> omega
      · rw [List.length_map]
        exact hlen

def spLDraw : Sp := fun vs H Q _ => ∃ (d l : Addr) (n : Nat) (m : Int), vs = [.ref d, .int m] ∧ 0 < m ∧ m < 1000000 ∧ Deck H d l n ∧ n < 1000000 ∧
  ∀ H' r, 0 ≤ r → r < m → Fm d l H H' → Deck H' d l (n + 1) → Q (.int r) H'
theorem deck_put {H : Hp} {d l : Addr} {n c : Nat} {ns ns' : List Int} {H1 : Hp} (hc : c ≤ n) (h1 : H1 d = some (.lst [.ref l, .int (c : Int)])) (h2 : H1 l = some (.lst (ns'.map V.int)))
    (h3 : ∀ z ∈ ns', 0 ≤ z) (h4 : ns'.length ≤ 63) : Deck H1 d l n := ⟨c, ns', hc, h1, h2, h3, h4⟩
theorem mod_in {x m : Int} (h : 0 < m) : 0 ≤ x % m ∧ x % m < m := ⟨Int.emod_nonneg x (by omega), Int.emod_lt_of_pos x h⟩
theorem pow_in {x : Int} {c : Nat} (h : c < 1000001) : ((x % 2147483587 + 7919 * (c : Int) + 1)).natAbs < 2 ^ 64 := by
  have := mod_in (x := x) (m := 2147483587) (by decide)
  omega
theorem ok_LDraw {f : Addr} {fd : FuncData} {k : Nat} (F : Fun K "_law_draw" "_law_draw" sLDraw f fd) (m_len : mg "len" = none) :
    FnOk P w K mg base CX0 (k + 1) f fd ["_law_deck_here", "_law_many"] spLDraw := by
  refine F.ok scLDraw (fun vs H Q E h => ?_) (fun cdv A outer s H vs Q E hr h => ?_)
  · obtain ⟨d, l, n, m, rfl, _⟩ := h
    rfl
  · obtain ⟨d, l, n, m, rfl, m0, m1, hD, hn, q⟩ := h
    refine ⟨_, (pss_cons (ps_asg (pe_op op_add (pe_ix (ixLK K) (pv 0) pe_int (fun _ _ => rfl)) pe_int) (pg_sub (pv 0) pe_int set_list))
    (pss_cons (ps_set (i := 2) scLDraw.nd rfl (.inl rfl) pe_int)
    (pss_cons (ps_set (i := 3) scLDraw.nd rfl (.inl rfl) (pe_un un_neg pe_int))
    (pss_cons (ps_if (pt_cmpR op_gt (pe_callB (lenK K) (by rfl) m_len (by decide +kernel) (pa_cons (pe_ix (ixLK K) (pv 0) pe_int (fun _ _ => rfl)) pa_nil)) pe_int (nomark _)) (pss_cons (ps_set (i := 3) scLDraw.nd rfl (.inl rfl) (pe_op op_mod (pe_ix (ixLK K) (pv 0) pe_int (fun _ _ => rfl)) (pe_callB (lenK K) (by rfl) m_len (by decide +kernel) (pa_cons (pe_ix (ixLK K) (pv 0) pe_int (fun _ _ => rfl)) pa_nil))))
    (pss_one (ps_set (i := 2) scLDraw.nd rfl (.inl rfl) (pe_ix (ixLK K) (pe_ix (ixLK K) (pv 0) pe_int (fun _ _ => rfl)) (pv 3) (fun _ _ => rfl))))) pss_nil)
    (pss_cons (ps_if (pt_cmpR op_ge (pv 2) (pe_op op_pow pe_int pe_int) (nomark _)) (pss_cons (ps_asg (pe_op op_fdiv (pv 2) (pv 1)) (pg_sub (pe_ix (ixLK K) (pv 0) pe_int (fun _ _ => rfl)) (pv 3) set_list))
    (pss_one (ps_ret (pe_op op_mod (pv 2) (pv 1))))) pss_nil)
    (pss_one (ps_ret (pe_op op_mod (pe_op op_mod (pe_op op_pow (pe_op op_add (pe_op op_add (pe_op op_mod (pv 2) pe_int) (pe_op op_mul pe_int (pe_ix (ixLK K) (pv 0) pe_int (fun _ _ => rfl)))) pe_int) pe_int) pe_int) (pv 1))))))))), ?_⟩
    have nel := hD.ne
    obtain ⟨c, ns, hc, h1, h2, h3, h4⟩ := hD
    -- deck[1] = deck[1] + 1
    refine ⟨.ref d, rfl, d, _, 1, .int (c : Int), rfl, rfl, SqL.of h1, atI_nat (j := 1) rfl, (c : Int), 1, rfl, rfl,
      .ref d, rfl, d, _, 1, 1, rfl, rfl, h1, rfl, ?_⟩
    have e1 : (upd H d (.lst ([V.ref l, V.int (c : Int)].set 1 (.int ((c : Int) + 1))))) d = some (.lst [V.ref l, V.int ((c : Int) + 1)]) := upd_same
    generalize hH1 : upd H d (.lst ([V.ref l, V.int (c : Int)].set 1 (.int ((c : Int) + 1)))) = H1 at e1 ⊢
    have e2 : H1 l = some (.lst (ns.map V.int)) := by
      rw [← hH1, upd_ne nel.symm]
      exact h2
    have f1 : Fm d l H H1 := fun b o n1 n2 e => by
      rw [← hH1, upd_ne n1]
      exact e
    have ec : ((c : Int) + 1) = ((c + 1 : Nat) : Int) := by omega
    rw [ec] at e1
    -- cell, place
    refine ⟨1, rfl, ?_⟩
    generalize hH2 : H1 = H2 at e1 e2 f1 ⊢
    -- the last row, for any cell
    have last : ∀ (x : Int), (0 : Int) ≤ ((x % 2147483587 + 7919 * ((c + 1 : Nat) : Int) + 1) ^ (5 : Int).toNat % 2147483647) % m ∧
        ((x % 2147483587 + 7919 * ((c + 1 : Nat) : Int) + 1) ^ (5 : Int).toNat % 2147483647) % m < m := fun x => mod_in m0
    have p64 : ∀ x : Int, (x % 2147483587 + 7919 * ((c + 1 : Nat) : Int) + 1).natAbs < 2 ^ 64 := fun x => pow_in (by omega)
    have dk : Deck H2 d l (n + 1) := ⟨c + 1, ns, by omega, e1, e2, h3, h4⟩
    -- if len(deck[0]) > 0
    refine ⟨.ref d, rfl, d, _, 0, .ref l, rfl, rfl, SqL.of e1, atI_nat (j := 0) rfl, l, ns.map V.int, rfl, .inl (SqL.of e2), _, 0, rfl, rfl, _, rfl, ite2 (fun hlen => ?_) (fun hlen => ?_)⟩
    · have hpos : 0 < ns.length := by
        have := of_decide_eq_true hlen
        rw [List.length_map] at this
        omega
      obtain ⟨i0, i1⟩ := mod_in (x := ((c + 1 : Nat) : Int)) (m := (((ns.map V.int).length : Nat) : Int)) (by rw [List.length_map]; omega)
      -- index
      refine ⟨.ref d, rfl, d, _, 1, .int ((c + 1 : Nat) : Int), rfl, rfl, SqL.of e1, atI_nat (j := 1) rfl, .ref d, rfl, d, _, 0, .ref l, rfl, rfl, SqL.of e1, atI_nat (j := 0) rfl, l, ns.map V.int, rfl, .inl (SqL.of e2), _, _, rfl, rfl, by rw [List.length_map]; omega, ?_⟩
      obtain ⟨j, hj⟩ : ∃ j : Nat, ((c + 1 : Nat) : Int) % (((ns.map V.int).length : Nat) : Int) = (j : Int) :=
        ⟨(((c + 1 : Nat) : Int) % (((ns.map V.int).length : Nat) : Int)).toNat, by omega⟩
      have hjl : j < ns.length := by
        rw [hj, List.length_map] at i1
        omega
      have hx : (ns.map V.int)[j]? = some (.int ns[j]) := by
        rw [List.getElem?_map, List.getElem?_eq_getElem hjl]
        rfl
      have hx0 : 0 ≤ ns[j] := h3 _ (List.getElem_mem hjl)
      generalize ns[j] = z at hx hx0
      -- cell
      refine ⟨.ref d, rfl, d, _, 0, .ref l, rfl, rfl, SqL.of e1, atI_nat (j := 0) rfl, _, rfl, l, _, _, .int z, rfl, rfl, SqL.of e2, at_of hj hx, ?_⟩
      -- if cell >= 10 ** 18
      refine ⟨.int z, rfl, 10, 18, rfl, rfl, ⟨by decide, by decide, by decide⟩, z, _, rfl, rfl, _, rfl, ite2 (fun hbig => ?_) (fun hbig => ?_)⟩
      · refine ⟨.int z, rfl, .int m, rfl, z, m, rfl, rfl, ⟨m0, by omega⟩, .ref d, rfl, d, _, 0, .ref l, rfl, rfl, SqL.of e1, atI_nat (j := 0) rfl, _, rfl, l, _, _, j, rfl, rfl, e2, ?_, ?_⟩
        · rw [hj]
          unfold ixN
          rw [if_pos (by omega), if_pos (by rw [List.length_map]; omega)]
          simp
        · refine ⟨.int z, rfl, .int m, rfl, z, m, rfl, rfl, m0, ?_⟩
          obtain ⟨r0, r1⟩ := mod_in (x := z) m0
          refine q _ _ r0 r1 (fun b o n1 n2 e => ?_) ⟨c + 1, ns.set j (z / m), by omega, ?_, ?_, ?_, ?_⟩
          · rw [upd_ne n2]
            exact f1 b o n1 n2 e
          · rw [upd_ne nel]
            exact e1
          · rw [upd_same, List.map_set]
          · intro y hy
            rcases List.mem_or_eq_of_mem_set hy with hy | rfl
            · exact h3 y hy
            · exact Int.ediv_nonneg hx0 (by omega)
          · rw [List.length_set]
            exact h4
      · -- the last row
        refine ⟨.int z, rfl, z, 2147483587, rfl, rfl, (by show (0 : Int) < 2147483587; decide), .ref d, rfl, d, _, 1, .int ((c + 1 : Nat) : Int), rfl, rfl, SqL.of e1, atI_nat (j := 1) rfl, 7919, _, rfl, rfl, .inl ⟨by decide, by decide⟩,
          _, _, rfl, rfl, _, _, rfl, rfl, _, _, rfl, rfl, ⟨by decide, by decide, p64 z⟩, _, _, rfl, rfl, (by show (0 : Int) < 2147483647; decide), .int m, rfl, _, m, rfl, rfl, m0, ?_⟩
        exact q _ _ (last z).1 (last z).2 f1 dk
    · refine ⟨.int 0, rfl, 10, 18, rfl, rfl, ⟨by decide, by decide, by decide⟩, 0, _, rfl, rfl, _, rfl, ite2 (fun hbig => ?_) (fun hbig => ?_)⟩
      · exact absurd (of_decide_eq_true hbig) (by decide)
      · refine ⟨.int 0, rfl, 0, 2147483587, rfl, rfl, (by show (0 : Int) < 2147483587; decide), .ref d, rfl, d, _, 1, .int ((c + 1 : Nat) : Int), rfl, rfl, SqL.of e1, atI_nat (j := 1) rfl, 7919, _, rfl, rfl, .inl ⟨by decide, by decide⟩,
          _, _, rfl, rfl, _, _, rfl, rfl, _, _, rfl, rfl, ⟨by decide, by decide, p64 0⟩, _, _, rfl, rfl, (by show (0 : Int) < 2147483647; decide), .int m, rfl, _, m, rfl, rfl, m0, ?_⟩
        exact q _ _ (last 0).1 (last 0).2 f1 dk
end
end TL
namespace TL
open PySem PySem.Spec PyProof.Rows L2
/-! ### the head -/
def exs0 : List (PySem.W.Frag → Bool) := [fun K => (He.Fa.glo "Board").ok K,
  fun K => (He.Fa.cls "Board").ok K,
  fun K => (He.Fa.mkr "Board").ok K,
  fun K => (He.Fa.noat "Board" "states").ok K,
  fun K => (He.Fa.noat "Board" "made").ok K,
  fun K => (He.Fa.noat "Board" "busy").ok K,
  fun K => decide (PySem.W.typeIn K (.ref (He.ga K "Board")) = some (.type "type")),
  fun K => decide (PySem.W.subIn K (.ref (He.ga K "Board")) (.ref (He.ga K "Board")) = some true),
  fun K => decide (PySem.W.findIn K (.ref (He.ga K "Board")) "__class__" = some (some (.builtin "object.__class__"))),
  fun K => decide (PySem.W.specialIn K (.builtin "object.__class__") "__get__" = some (some (.builtin "getset_descriptor.__get__"))),
  fun K => decide (PySem.W.takesIn K (.builtin "object.__class__") = some true),
  fun K => decide (PySem.W.mroIn K (He.ga K "Board") (.type "object") = some true),
  fun K => (He.Fa.glo "is_number").ok K,
  fun K => (He.Fa.glo "is_pair").ok K,
  fun K => (He.Fa.glo "is_vertex").ok K,
  fun K => (He.Fa.glo "is_edge").ok K,
  fun K => (He.Fa.glo "is_ascending").ok K,
  fun K => (He.Fa.glo "merged").ok K,
  fun K => (He.Fa.glo "edges_error").ok K,
  fun K => (He.Fa.glo "forest_error").ok K,
  fun K => (He.Fa.glo "is_setting").ok K,
  fun K => (He.Fa.glo "_law_deck").ok K,
  fun K => (He.Fa.glo "_law_draw").ok K,
  fun K => (He.Fa.glo "_law_forest").ok K,
  fun K => (He.Fa.glo "_law_near").ok K]
def exs1 : List (PySem.W.Frag → Bool) := [fun K => (He.Fa.glo "_law_setting").ok K,
  fun K => (He.Fa.glo "_law_path").ok K,
  fun K => (He.Fa.glo "_law_right").ok K,
  fun K => (He.Fa.glo "_law_begun").ok K,
  fun K => (He.Fa.glo "_law_is_below").ok K,
  fun K => (He.Fa.glo "_law_error").ok K,
  fun K => (He.Fa.glo "_law_is_setting").ok K,
  fun K => (He.Fa.glo "_law_odd").ok K,
  fun K => (He.Fa.glo "_law_changed").ok K,
  fun K => (He.Fa.glo "_law_made").ok K,
  fun K => (He.Fa.glo "law").ok K,
  fun K => (He.Fa.meth "Board" "__init__").ok K,
  fun K => (He.Fa.meth "Board" "forest").ok K,
  fun K => (He.Fa.meth "Board" "lamps").ok K,
  fun K => (He.Fa.meth "Board" "edits").ok K,
  fun K => (He.Fa.meth "Board" "__len__").ok K,
  fun K => (He.Fa.meth "Board" "__str__").ok K,
  fun K => (He.Fa.meth "Board" "state_at").ok K,
  fun K => excOb K (He.ga K "BadForest"),
  fun K => (He.Fa.meth "BadForest" "__init__").ok K,
  fun K => (He.Fa.glo "BadForest").ok K,
  fun K => decide (PySem.W.findIn K (.ref (He.ga K "BadForest")) "__setattr__" = some (some (.builtin "object.__setattr__"))),
  fun K => decide (PySem.W.subIn K (.ref (He.ga K "BadForest")) (.type "BaseException") = some true),
  fun K => decide (PySem.W.typeIn K (.ref (He.ga K "BadForest")) = some (.type "type")),
  fun K => PySem.W.keepIn K (.ref (He.ga K "BadForest"))]
def exs2 : List (PySem.W.Frag → Bool) := [fun K => decide (PySem.W.findIn K (.ref (He.ga K "BadForest")) "__getattribute__" = some (some (.builtin "BaseException.__getattribute__"))),
  fun K => decide (PySem.W.findIn K (.ref (He.ga K "BadForest")) "__getattr__" = some none),
  fun K => PySem.W.hasDictIn K (He.ga K "BadForest"),
  fun K => decide (PySem.W.findIn K (.ref (He.ga K "BadForest")) "__class__" = some (some (.builtin "object.__class__"))),
  fun K => decide (PySem.W.specialIn K (.builtin "object.__class__") "__get__" = some (some (.builtin "getset_descriptor.__get__"))),
  fun K => decide (PySem.W.takesIn K (.builtin "object.__class__") = some true),
  fun K => decide (PySem.W.mroIn K (He.ga K "BadForest") (.type "object") = some true),
  fun K => (He.Fa.noat "BadForest" "error").ok K,
  fun K => decide (PySem.W.subIn K (.ref (He.ga K "BadForest")) (.ref (He.ga K "BadForest")) = some true),
  fun K => decide (PySem.W.subIn K (.ref (He.ga K "BadForest")) (.type "ValueError") = some true),
  fun K => (He.Fa.glo "BadSetting").ok K,
  fun K => PySem.W.excIn K (He.ga K "BadSetting") [.type "ValueError", .type "Exception", .type "BaseException", .type "object"] "ValueError.__new__",
  fun K => PySem.W.keepIn K (.ref (He.ga K "BadSetting")),
  fun K => decide (PySem.W.subIn K (.ref (He.ga K "BadSetting")) (.type "BaseException") = some true),
  fun K => decide (PySem.W.typeIn K (.ref (He.ga K "BadSetting")) = some (.type "type")),
  fun K => decide (PySem.W.findIn K (.ref (He.ga K "BadSetting")) "__getattribute__" = some (some (.builtin "BaseException.__getattribute__"))),
  fun K => decide (PySem.W.findIn K (.ref (He.ga K "BadSetting")) "__getattr__" = some none),
  fun K => PySem.W.hasDictIn K (He.ga K "BadSetting"),
  fun K => decide (PySem.W.findIn K (.ref (He.ga K "BadSetting")) "__class__" = some (some (.builtin "object.__class__"))),
  fun K => decide (PySem.W.specialIn K (.builtin "object.__class__") "__get__" = some (some (.builtin "getset_descriptor.__get__"))),
  fun K => decide (PySem.W.takesIn K (.builtin "object.__class__") = some true),
  fun K => decide (PySem.W.mroIn K (He.ga K "BadSetting") (.type "object") = some true),
  fun K => PySem.W.hasDictIn K (He.ga K "BadSetting"),
  fun K => (He.Fa.glo "BadEdits").ok K,
  fun K => PySem.W.hasDictIn K (He.ga K "BadEdits")]
def exs3 : List (PySem.W.Frag → Bool) := [fun K => decide (PySem.W.typeIn K (.ref (He.ga K "BadEdits")) = some (.type "type")),
  fun K => (He.Fa.glo "NoVertex").ok K,
  fun K => PySem.W.hasDictIn K (He.ga K "NoVertex"),
  fun K => decide (PySem.W.typeIn K (.ref (He.ga K "NoVertex")) = some (.type "type")),
  fun K => (He.Fa.glo "LampError").ok K,
  fun K => PySem.W.hasDictIn K (He.ga K "LampError"),
  fun K => decide (PySem.W.typeIn K (.ref (He.ga K "LampError")) = some (.type "type")),
  fun K => decide (PySem.W.subIn K (.ref (He.ga K "LampError")) (.type "BaseException") = some true),
  fun K => decide (PySem.W.subIn K (.ref (He.ga K "BadForest")) (.ref (He.ga K "LampError")) = some true),
  fun K => decide (PySem.W.subIn K (.ref (He.ga K "BadSetting")) (.ref (He.ga K "LampError")) = some true),
  fun K => decide (PySem.W.subIn K (.ref (He.ga K "BadForest")) (.ref (He.ga K "BadForest")) = some true),
  fun K => decide (PySem.W.subIn K (.ref (He.ga K "BadForest")) (.ref (He.ga K "BadSetting")) = some false),
  fun K => decide (PySem.W.subIn K (.ref (He.ga K "BadForest")) (.ref (He.ga K "BadEdits")) = some false),
  fun K => decide (PySem.W.subIn K (.ref (He.ga K "BadForest")) (.ref (He.ga K "NoVertex")) = some false),
  fun K => decide (PySem.W.subIn K (.ref (He.ga K "BadSetting")) (.ref (He.ga K "BadForest")) = some false),
  fun K => decide (PySem.W.subIn K (.ref (He.ga K "BadSetting")) (.ref (He.ga K "BadSetting")) = some true),
  fun K => decide (PySem.W.subIn K (.ref (He.ga K "BadSetting")) (.ref (He.ga K "BadEdits")) = some false),
  fun K => decide (PySem.W.subIn K (.ref (He.ga K "BadSetting")) (.ref (He.ga K "NoVertex")) = some false),
  fun K => decide (PySem.W.subIn K (.ref (He.ga K "BadForest")) (.type "ValueError") = some true),
  fun K => decide (PySem.W.subIn K (.ref (He.ga K "Board")) (.type "list") = some false),
  fun K => (He.Fa.int "MAX_VERTICES" 12).ok K,
  fun K => (He.Fa.free "abs").ok K,
  fun K => (He.Fa.free "len").ok K,
  fun K => (He.Fa.free "list").ok K,
  fun K => (He.Fa.free "range").ok K]
def exs4 : List (PySem.W.Frag → Bool) := [fun K => (He.Fa.free "max").ok K,
  fun K => (He.Fa.free "min").ok K,
  fun K => (He.Fa.free "tuple").ok K,
  fun K => (He.Fa.free "sorted").ok K,
  fun K => (He.Fa.free "set").ok K,
  fun K => (He.Fa.free "any").ok K,
  fun K => (He.Fa.free "isinstance").ok K,
  fun K => (He.Fa.free "int").ok K,
  fun K => (He.Fa.free "bool").ok K,
  fun K => (He.Fa.free "repr").ok K,
  fun K => (He.Fa.free "enumerate").ok K,
  fun K => (He.Fa.free "str").ok K,
  fun K => (He.Fa.free "ValueError").ok K]
def exs : List (PySem.W.Frag → Bool) := exs0 ++ (exs1 ++ (exs2 ++ (exs3 ++ (exs4))))
def fns0 : List (He.DefD) := [⟨("is_number", none), "is_number", "is_number", defArgs sIsNumber, defBody sIsNumber, defScope sIsNumber, [], []⟩,
  ⟨("is_pair", none), "is_pair", "is_pair", defArgs sIsPair, defBody sIsPair, defScope sIsPair, [], []⟩,
  ⟨("is_vertex", none), "is_vertex", "is_vertex", defArgs sIsVertex, defBody sIsVertex, defScope sIsVertex, [], []⟩,
  ⟨("is_edge", none), "is_edge", "is_edge", defArgs sIsEdge, defBody sIsEdge, defScope sIsEdge, [], []⟩,
  ⟨("is_ascending", none), "is_ascending", "is_ascending", defArgs sIsAscending, defBody sIsAscending, defScope sIsAscending, [], []⟩,
  ⟨("merged", none), "merged", "merged", defArgs sMerged, defBody sMerged, defScope sMerged, [], []⟩,
  ⟨("edges_error", none), "edges_error", "edges_error", defArgs sEdgesError, defBody sEdgesError, defScope sEdgesError, [], []⟩,
  ⟨("forest_error", none), "forest_error", "forest_error", defArgs sForestError, defBody sForestError, defScope sForestError, [], []⟩,
  ⟨("is_setting", none), "is_setting", "is_setting", defArgs sIsSetting, defBody sIsSetting, defScope sIsSetting, [], []⟩,
  ⟨("_law_deck", none), "_law_deck", "_law_deck", defArgs sLDeck, defBody sLDeck, defScope sLDeck, [], []⟩,
  ⟨("_law_draw", none), "_law_draw", "_law_draw", defArgs sLDraw, defBody sLDraw, defScope sLDraw, [], []⟩,
  ⟨("_law_forest", none), "_law_forest", "_law_forest", defArgs sLForest, defBody sLForest, defScope sLForest, [], []⟩,
  ⟨("_law_near", none), "_law_near", "_law_near", defArgs sLNear, defBody sLNear, defScope sLNear, [], []⟩,
  ⟨("_law_setting", none), "_law_setting", "_law_setting", defArgs sLSetting, defBody sLSetting, defScope sLSetting, [], []⟩,
  ⟨("_law_path", none), "_law_path", "_law_path", defArgs sLPath, defBody sLPath, defScope sLPath, [], []⟩,
  ⟨("_law_right", none), "_law_right", "_law_right", defArgs sLRight, defBody sLRight, defScope sLRight, [], []⟩,
  ⟨("_law_begun", none), "_law_begun", "_law_begun", defArgs sLBegun, defBody sLBegun, defScope sLBegun, [], []⟩,
  ⟨("_law_is_below", none), "_law_is_below", "_law_is_below", defArgs sLIsBelow, defBody sLIsBelow, defScope sLIsBelow, [], []⟩,
  ⟨("_law_error", none), "_law_error", "_law_error", defArgs sLError, defBody sLError, defScope sLError, [], []⟩,
  ⟨("_law_is_setting", none), "_law_is_setting", "_law_is_setting", defArgs sLIsSetting, defBody sLIsSetting, defScope sLIsSetting, [], []⟩,
  ⟨("_law_odd", none), "_law_odd", "_law_odd", defArgs sLOdd, defBody sLOdd, defScope sLOdd, [], []⟩,
  ⟨("_law_changed", none), "_law_changed", "_law_changed", defArgs sLChanged, defBody sLChanged, defScope sLChanged, [], []⟩,
  ⟨("_law_made", none), "_law_made", "_law_made", defArgs sLMade, defBody sLMade, defScope sLMade, [], []⟩,
  ⟨("law", none), "law", "law", defArgs sLaw, defBody sLaw, defScope sLaw, [], []⟩,
  ⟨("Board", some "__init__"), "__init__", "Board.__init__", defArgs sBoardInit, defBody sBoardInit, defScope sBoardInit, [], []⟩]
def fns1 : List (He.DefD) := [⟨("Board", some "forest"), "forest", "Board.forest", defArgs sBoardForest, defBody sBoardForest, defScope sBoardForest, [], [("version", .non)]⟩,
  ⟨("Board", some "lamps"), "lamps", "Board.lamps", defArgs sBoardLamps, defBody sBoardLamps, defScope sBoardLamps, [], [("version", .non)]⟩,
  ⟨("Board", some "edits"), "edits", "Board.edits", defArgs sBoardEdits, defBody sBoardEdits, defScope sBoardEdits, [], []⟩,
  ⟨("Board", some "__len__"), "__len__", "Board.__len__", defArgs sBoardLen, defBody sBoardLen, defScope sBoardLen, [], []⟩,
  ⟨("Board", some "__str__"), "__str__", "Board.__str__", defArgs sBoardStr, defBody sBoardStr, defScope sBoardStr, [], []⟩,
  ⟨("Board", some "state_at"), "state_at", "Board.state_at", defArgs sBoardStateAt, defBody sBoardStateAt, defScope sBoardStateAt, [], []⟩,
  ⟨("BadForest", some "__init__"), "__init__", "BadForest.__init__", defArgs sBadforestInit, defBody sBadforestInit, defScope sBadforestInit, [], []⟩]
def fns : List (He.DefD) := fns0 ++ (fns1)
def tbs0 : List (He.Tab) := []
def tbs : List (He.Tab) := tbs0
def lz0 : List Str := ["_wall", "MAX_VERTICES", "MAX_EDITS", "BATCH", "__name__", "LampError", "NoLamp", "NotAdjacent", "Blocked", "TooManyVertices", "NoVertex", "Cycle", "BadForest", "BadSetting", "Lit", "LampsMeet", "TooManyEdits", "BadEdits", "BadEdit", "Rejected", "Busy", "NoVersion", "is_number", "is_pair", "is_vertex", "is_edge", "is_ascending", "merged", "edges_error", "forest_error"]
def lz1 : List Str := ["is_setting", "neighbours_of", "path_between", "edge_of", "check_vertices", "attach_vertex", "add_edge", "remove_edge", "blocking_lamps", "check_lamp", "slide_lamp", "chosen_neighbours", "with_lamp", "without_lamp", "with_slide", "with_vertex", "with_edge", "without_edge", "CHANGES", "VALUE_COUNTS", "is_edit", "copied_edits", "Board", "_law_deck", "_law_draw", "_law_forest", "_law_near", "_law_setting", "_law_path", "_law_right"]
def lz2 : List Str := ["_law_begun", "_law_is_below", "_law_error", "_law_is_setting", "_law_odd", "_law_changed", "_law_made"]
def lz : List Str := lz0 ++ (lz1 ++ (lz2))
abbrev RR : PySem.W.OpenRow := PySem.W.OpenLaw.row PySem.Challenge.rw_treelamps_k48_boards_created
def ad0 : List Addr := [3, 31, 30, 127, 126, 165, 164, 177, 176, 232, 231, 667, 666, 124, 123, 162, 161, 311, 310, 318, 317, 325, 324, 332, 331, 339, 338, 344, 343, 349, 348, 356, 355, 361, 360, 498, 497, 563, 562, 556]
def ad1 : List Addr := [571, 570, 564, 601, 600, 608, 607, 615, 614, 629, 628, 676, 675, 683, 682, 690, 689, 695, 694, 700, 699, 705, 704, 712, 711, 719, 718, 726, 725, 733, 732, 738, 737, 745, 744, 752, 751, 759, 758, 766]
def ad2 : List Addr := [765]
def adr : List Addr := ad0 ++ (ad1 ++ (ad2))
abbrev hkZ : PySem.W.Hook := hookL adr exs fns tbs
noncomputable def obZ (s : PySem.W.SharedT) : AlZ := obsL adr exs fns tbs (HandSHeadRun.getT s)
theorem obZ_eq (s : PySem.W.SharedT) : obZ s = hkZ.obs s.abs := obsL_eq (HandSHeadRun.getT_eq s)
abbrev qv : Program := PySem.W.view RR.prog [73]
theorem runF (w : World) : HandSHeadRun.RunEq RR qv hkZ obZ 12000 lz (w.withFollow "special-get-raises" false) := by
  intro os
  kernel_rfl
theorem runT (w : World) : HandSHeadRun.RunEq RR qv hkZ obZ 12000 lz (w.withFollow "special-get-raises" true) := by
  intro os
  kernel_rfl
theorem runZ (w : World) : HandSHeadRun.RunEq RR qv hkZ obZ 12000 lz w := PySem.W.byRow2 "special-get-raises" (P := fun w => HandSHeadRun.RunEq RR qv hkZ obZ 12000 lz w) runF runT w
end TL
namespace TL
open PySem PySem.Spec PyProof.Rows L2
section
variable {P : Program} {w : World} {K : PySem.W.Frag} {mg : Str → Option Value} {base : Heap}
/-! ### forest -/
theorem ord_min (a b : Int) : (if a < b then a else b) = (ordP a b).1 := by
  unfold ordP
  by_cases h : a ≤ b
  · rw [if_pos h]
    show _ = a
    split <;> omega
  · rw [if_neg h, if_neg (by omega)]
theorem ord_max (a b : Int) : (if a > b then a else b) = (ordP a b).2 := by
  unfold ordP
  by_cases h : a ≤ b
  · rw [if_pos h, if_neg (by omega)]
  · rw [if_neg h, if_pos (by omega)]
def spLForest (K : PySem.W.Frag) : Sp := fun vs H Q _ => ∃ (d l : Addr) (n most : Nat), vs = [.ref d, .int (most : Int)] ∧ most ≤ 12 ∧ Deck H d l n ∧ n < 800000 ∧
  ∀ (H' : Hp) (x : V) (m : Nat) (es : List (Int × Int)), Fm d l H H' → Deck H' d l (n + 60) → m ≤ most → IsFor m es → Dp K H' x (forD m es) → Q x H'
theorem ok_LForest {f : Addr} {fd : FuncData} (F : Fun K "_law_forest" "_law_forest" sLForest f fd) (m_list : mg "list" = none) (m_range : mg "range" = none) (m_len : mg "len" = none)
    (m_max : mg "max" = none) (m_min : mg "min" = none) (m_tuple : mg "tuple" = none) (m_sorted : mg "sorted" = none)
    (oLDraw : Own P w K mg base "_law_draw" 1 ["_law_deck_here", "_law_many"] spLDraw) :
    FnOk P w K mg base CX0 2 f fd ["_law_deck_here", "_law_most"] (spLForest K) := by
  refine F.ok scLForest (fun vs H Q E h => ?_) (fun cdv A outer s H vs Q E hr h => ?_)
  · obtain ⟨d, l, n, most, rfl, _⟩ := h
    rfl
  · obtain ⟨d, l, n, most, rfl, hm, hD, hn, q⟩ := h
    refine ⟨_, (pss_cons (ps_set (i := 2) scLForest.nd rfl (.inl rfl) (pe_own oLDraw (hr.mono (by decide)) (by rfl) (pa_cons (pv 0) (pa_cons (pe_op op_add (pv 1) pe_int) pa_nil))))
    (pss_cons (ps_par3 (by rfl) scLForest.nd (i := 3) (j := 4) (l := 5) rfl rfl rfl (by decide) (by decide) (by decide) rfl rfl rfl (pa_cons (pe_listRg rfl (by rfl) m_list (prg_1 (by rfl) m_range (pv 2))) (pa_cons (pe_lst pa_nil) (pa_cons (pe_lst pa_nil) pa_nil))) (by rfl))
    (pss_cons (ps_while PassesOwn.never (pt_cmpR (neDK K hr.units) (pv 3) (pe_lst pa_nil) (nomark _)) (pss_one (ps_expr (bmK K PySem.F.plainAttrs_list PySem.F.slot_list_append PySem.F.type_list_append mt_append (pv 4) (pa_cons (bmK K PySem.F.plainAttrs_list PySem.F.slot_list_pop PySem.F.type_list_pop mt_popAt (pv 3) (pa_cons (pe_own oLDraw (hr.mono (by decide)) (by rfl) (pa_cons (pv 0) (pa_cons (pe_callB (lenK K) (by rfl) m_len (by decide +kernel) (pa_cons (pv 3) pa_nil)) pa_nil))) pa_nil)) pa_nil)))))
    (pss_cons (ps_set (i := 6) scLForest.nd rfl (.inl rfl) (pe_ix (ixLK K) (pe_lst (pa_cons pe_int (pa_cons pe_int (pa_cons pe_int pa_nil)))) (pe_own oLDraw (hr.mono (by decide)) (by rfl) (pa_cons (pv 0) (pa_cons pe_int pa_nil))) (fun _ _ => rfl)))
    (pss_cons (ps_set (i := 7) scLForest.nd rfl (.inl rfl) (pe_own oLDraw (hr.mono (by decide)) (by rfl) (pa_cons (pv 0) (pa_cons pe_int pa_nil))))
    (pss_cons (ps_for PassesOwn.never rfl (pi_range2 (by rfl) m_range (pa_cons pe_int (pa_cons (pv 2) pa_nil))) (pg_name (i := 8) scLForest.nd rfl (Or.inl rfl))
    (pss_cons (ps_set (i := 9) scLForest.nd rfl (.inl rfl) (pe_ix (ixLK K) (pv 4) (pe_ix (ixLK K) (pe_lst (pa_cons (pe_op op_sub (pv 8) pe_int) (pa_cons pe_int (pa_cons (pe_own oLDraw (hr.mono (by decide)) (by rfl) (pa_cons (pv 0) (pa_cons (pv 8) pa_nil))) (pa_cons (pe_callB (call_max2 rfl) (by rfl) m_max (by decide +kernel) (pa_cons pe_int (pa_cons (pe_op op_sub (pv 8) pe_int) pa_nil))) pa_nil))))) (pv 7) (fun _ _ => rfl)) (fun _ _ => rfl)))
    (pss_one (ps_if (PW.pt (pw_or (pt_cmpR op_eq (pv 6) pe_int (nomark _)) (pw_or1 (pt_cmpR op_gt (pe_own oLDraw (hr.mono (by decide)) (by rfl) (pa_cons (pv 0) (pa_cons (pv 6) pa_nil))) pe_int (nomark _))))) (pss_one (ps_expr (bmK K PySem.F.plainAttrs_list PySem.F.slot_list_append PySem.F.type_list_append mt_append (pv 5) (pa_cons (pe_tup (pa_cons (pe_callB (call_min2 rfl) (by rfl) m_min (by decide +kernel) (pa_cons (pv 9) (pa_cons (pe_ix (ixLK K) (pv 4) (pv 8) (fun _ _ => rfl)) pa_nil))) (pa_cons (pe_callB (call_max2 rfl) (by rfl) m_max (by decide +kernel) (pa_cons (pv 9) (pa_cons (pe_ix (ixLK K) (pv 4) (pv 8) (fun _ _ => rfl)) pa_nil))) pa_nil))) pa_nil)))) pss_nil))))
    (pss_one (ps_ret (pe_tup (pa_cons (pv 2) (pa_cons (pe_callTy (tupleK K) (by rfl) m_tuple (by decide +kernel) (pa_cons (pe_callB (sortK K hr.units) (by rfl) m_sorted (by decide +kernel) (pa_cons (pv 5) pa_nil)) pa_nil)) pa_nil))))))))))), ?_⟩
    -- n
    refine ⟨.ref d, rfl, .int (most : Int), rfl, _, _, rfl, rfl, d, l, n, _, rfl, by omega, by omega, hD, by omega, fun H1 x x0 x1 f1 d1 => ?_⟩
    obtain ⟨m, hmx⟩ : ∃ m : Nat, x = (m : Int) := ⟨x.toNat, by omega⟩
    subst hmx
    have hmm : m ≤ most := by omega
    -- left, order, edges
    refine ⟨.int (m : Int), rfl, (m : Int), rfl, RgOk.of_le (by omega) (by omega) (by omega) (by omega), fun L nL => ?_⟩
    rw [rgVrng]
    have sL := same_upd (o := .lst ((rng m).map V.int)) nL
    have eL := same_at (o := .lst ((rng m).map V.int)) nL
    have offL := d1.off nL
    refine ⟨Nat.zero_le _, fun D nD => ?_⟩
    have sD := same_upd (o := .lst []) nD
    have eD := same_at (o := .lst []) nD
    have offD := (d1.same sL).off nD
    have nLD : L ≠ D := ne_of_none eL nD
    refine ⟨Nat.zero_le _, fun E nE => ?_⟩
    have sE := same_upd (o := .lst []) nE
    have eE := same_at (o := .lst []) nE
    have offE := ((d1.same sL).same sD).off nE
    have nLE : L ≠ E := ne_of_none (sD _ _ eL) nE
    have nDE : D ≠ E := ne_of_none eD nE
    refine ⟨.ref L, .ref D, .ref E, rfl, ?_⟩
    have s14 := (sL.trans sD).trans sE
    have f4 : Fm d l H _ := f1.trans (Same.fm s14)
    have d4 := d1.same s14
    have eL4 := (sD.trans sE) _ _ eL
    have eD4 := sE _ _ eD
    have eE4 := eE
    have nHL : H1 L = none := nL
    have nHD : H1 D = none := sL.free nD
    have nHE : H1 E = none := (sL.trans sD).free nE
    generalize upd _ E (.lst []) = H4 at f4 d4 eL4 eD4 eE4 s14 ⊢
    dsimp only [gName]
    refine while_ms (fun tt σ H' => ∃ (ms rs : List Int), σ = [some (.ref d), some (.int (most : Int)), some (.int (m : Int)), some (.ref L), some (.ref D), some (.ref E), none, none, none, none] ∧ (ms ++ rs).Perm (rng m) ∧ tt = rs.length ∧ Fm d l H1 H' ∧ Deck H' d l (n + 1 + ms.length) ∧
      H' L = some (.lst (rs.map V.int)) ∧ H' D = some (.lst (ms.map V.int)) ∧ H' E = some (.lst [])) (rng m).length ⟨[], rng m, rfl, List.Perm.refl _, rfl, Same.fm s14, d4, eL4, eD4, eE4⟩ ?_ ?_
    · rintro tt σ H5 ⟨ms, rs, rfl, pm, rfl, f5, d5, eL5, eD5, eE5⟩
      have er : ms.length + rs.length = m := by
        have := pm.length_eq
        rw [List.length_append, rng_length] at this
        exact this
      refine ⟨.ref L, rfl, Nat.zero_le _, fun e ne => ?_⟩
      have se := same_upd (o := .lst []) ne
      refine ⟨.list (rs.map .int), .list [], .lst (SqL.of (se _ _ eL5)) (DpAll.of_ints rs), .lst (SqL.of upd_same) .nil, shaped_ints rs, shaped_ints [], _, rfl, ?_⟩
      rw [eqv_nil]
      by_cases hr0 : rs = []
      · subst hr0
        rw [decide_eq_true rfl]
        refine iteF ?_
        rw [List.append_nil] at pm
        have nm_pm := pm
        generalize hms : ms = nm at pm d5 eD5
        have lnm : nm.length = m := by rw [pm.length_eq, rng_length]
        have d6 := d5.same se
        have eD6 := se _ _ eD5
        have eE6 := se _ _ eE5
        have f6 := f5.trans (Same.fm se)
        rw [lnm] at d6
        generalize upd H5 e (.lst []) = H6 at d6 eD6 eE6 f6 ⊢
        -- lacks
        refine ⟨by show 3 ≤ sizeLine; decide, fun p np => ?_⟩
        have sp := same_upd (o := .lst [V.int 0, V.int 0, V.int 5]) np
        have ep := same_at (o := .lst [V.int 0, V.int 0, V.int 5]) np
        have offp := d6.off np
        refine ⟨.ref d, rfl, d, l, _, 3, rfl, by decide, by decide, d6.same sp, by omega, fun H7 t' t0 t1 f7 d7 => ?_⟩
        obtain ⟨t, ht, hti⟩ : ∃ t : Int, atI [V.int 0, V.int 0, V.int 5] t' = some (V.int t) ∧ (t = 0 ∨ t = 5) := by
          have h3 : t' = 0 ∨ t' = 1 ∨ t' = 2 := by omega
          rcases h3 with rfl | rfl | rfl
          · exact ⟨0, rfl, .inl rfl⟩
          · exact ⟨0, rfl, .inl rfl⟩
          · exact ⟨5, rfl, .inr rfl⟩
        refine ⟨p, _, _, .int t, rfl, rfl, SqL.of (f7 _ _ offp.1 offp.2 ep), ht, ?_⟩
        -- way
        refine ⟨.ref d, rfl, d, l, _, 4, rfl, by decide, by decide, d7, by omega, fun H8 w3 w0 w1 f8 d8 => ?_⟩
        have f68 : Fm d l H6 H8 := ((Same.fm sp).trans f7).trans f8
        have eD8 := f68 _ _ offD.1 offD.2 eD6
        have eE8 := f68 _ _ offE.1 offE.2 eE6
        refine ⟨.int (m : Int), rfl, 1, (m : Int), rfl, ⟨by omega, by omega, by omega, by omega⟩, for_range (lo := 1) (n := ((m : Int) - 1).toNat) (fun i σ H' => ∃ (y8 y9 : Option V) (ks : List (Nat × Nat)) (xs : List V),
          σ = [some (.ref d), some (.int (most : Int)), some (.int (m : Int)), some (.ref L), some (.ref D), some (.ref E), some (.int t), some (.int w3), y8, y9] ∧ Fm d l H1 H' ∧ Deck H' d l (n + 15 + 3 * i) ∧
          H' D = some (.lst (nm.map V.int)) ∧ H' E = some (.lst xs) ∧ DpAll K H' xs ((ks.map (edgeOf nm)).map prD) ∧ ks.Pairwise (fun a b => a.1 < b.1) ∧ (∀ q ∈ ks, q.2 < q.1 ∧ q.1 < i + 1) ∧ ks.length ≤ i) ?_ ?_ ?_⟩
        · exact ⟨none, none, [], [], rfl, f6.trans f68, d8.le (by omega), eD8, eE8, .nil, .nil, (fun _ z => nomatch z), Nat.le_refl _⟩
        · rintro i σ H5 hi ⟨y8, y9, ks, xs, rfl, f5, d5, eD5, eE5, a5, up, down, cnt⟩
          have hi' : i + 1 < m := by omega
          refine ⟨.ref D, rfl, .int (1 + (i : Int)), rfl, _, _, rfl, rfl, .ref d, rfl, .int (1 + (i : Int)), rfl, d, l, _, _, rfl, by omega, by omega, d5, by omega, fun H6 x x0 x1 f6 d6 => ?_⟩
          refine ⟨.int (1 + (i : Int)), rfl, _, _, rfl, rfl, 0, _, rfl, by show 4 ≤ sizeLine; decide, fun p6 np6 => ?_⟩
          have sp6 := same_upd (o := .lst [.int (1 + (i : Int) - 1), .int 0, .int x, .int (if 1 + (i : Int) - 2 > 0 then 1 + (i : Int) - 2 else 0)]) np6
          obtain ⟨o, ho, lo⟩ : ∃ o : Nat, atI [V.int (1 + (i : Int) - 1), V.int 0, V.int x, V.int (if 1 + (i : Int) - 2 > 0 then 1 + (i : Int) - 2 else 0)] w3 = some (V.int (o : Int)) ∧ o < i + 1 := by
            have h4 : w3 = 0 ∨ w3 = 1 ∨ w3 = 2 ∨ w3 = 3 := by omega
            rcases h4 with rfl | rfl | rfl | rfl
            · exact ⟨i, by show some (V.int (1 + (i : Int) - 1)) = _; congr 2; omega, by omega⟩
            · exact ⟨0, rfl, by omega⟩
            · exact ⟨x.toNat, by show some (V.int x) = _; congr 2; omega, by omega⟩
            · refine ⟨(1 + (i : Int) - 2).toNat, ?_, by omega⟩
              show some (V.int (if 1 + (i : Int) - 2 > 0 then 1 + (i : Int) - 2 else 0)) = _
              congr 2
              split <;> omega
          have go : (nm.map V.int)[o]? = some (.int (nm.getD o 0)) := by
            rw [List.getElem?_map, List.getD_eq_getElem?_getD, List.getElem?_eq_getElem (by omega)]
            rfl
          have gk : (nm.map V.int)[i + 1]? = some (.int (nm.getD (i + 1) 0)) := by
            rw [List.getElem?_map, List.getD_eq_getElem?_getD, List.getElem?_eq_getElem (by omega)]
            rfl
          have eD7 := sp6 _ _ (f6 _ _ offD.1 offD.2 eD5)
          have eE7 := sp6 _ _ (f6 _ _ offE.1 offE.2 eE5)
          refine ⟨.int w3, rfl, p6, _, _, _, rfl, rfl, SqL.of upd_same, ho, D, _, _, _, rfl, rfl, SqL.of eD7, at_of (j := o) rfl go, ?_⟩
          have d6' := d6.same sp6
          have f6' : Fm d l H1 _ := (f5.trans f6).trans (Same.fm sp6)
          have k6 : KT K H5 _ := (f6.kt d5).trans (Same.kt sp6)
          have a6 := DpAll.kt k6 a5 (only_prs _)
          generalize upd H6 p6 (.lst [.int (1 + (i : Int) - 1), .int 0, .int x, .int (if 1 + (i : Int) - 2 > 0 then 1 + (i : Int) - 2 else 0)]) = H8 at eD7 eE7 d6' f6' a6 ⊢
          dsimp only [gName]
          refine ifJ (R := fun b H9 => Fm d l H8 H9 ∧ Deck H9 d l (n + 15 + 3 * (i + 1))) (fun R hR => ?_) (fun H9 hR => ?_) (fun H9 hR => ?_)
          · refine ⟨.int t, rfl, rfl, _, rfl, ?_⟩
            rw [decInt]
            rcases hti with rfl | rfl
            · rw [decide_eq_true rfl]
              exact iteT (hR _ _ ⟨Fm.refl, d6'.le (by omega)⟩)
            · rw [decide_eq_false (by decide)]
              refine iteF ⟨.ref d, rfl, .int 5, rfl, d, l, _, 5, rfl, by decide, by decide, d6', by omega, fun H9 y y0 y1 f9 d9 => ⟨_, _, rfl, rfl, _, rfl, hR _ _ ⟨f9, d9.le (by omega)⟩⟩⟩
          · obtain ⟨f9, d9⟩ := hR
            have eD9 := f9 _ _ offD.1 offD.2 eD7
            have eE9 := f9 _ _ offE.1 offE.2 eE7
            have a9 := DpAll.kt (f9.kt d6') a6 (only_prs _)
            refine ⟨.ref E, rfl, .inl ⟨rfl, _, SqL.of eE9⟩, .int (nm.getD o 0), rfl, .ref D, rfl, .int (1 + (i : Int)), rfl, D, _, _, _, rfl, rfl, SqL.of eD9, at_of (j := i + 1) (by omega) gk, _, _, rfl,
              .int (nm.getD o 0), rfl, .ref D, rfl, .int (1 + (i : Int)), rfl, D, _, _, _, rfl, rfl, SqL.of eD9, at_of (j := i + 1) (by omega) gk, _, _, rfl, by show 2 ≤ sizeLine; decide, fun p3 np3 => ?_⟩
            dsimp only
            rw [ord_min, ord_max]
            have s3 := same_upd (o := .tup [V.int (ordP (nm.getD (i + 1) 0) (nm.getD o 0)).1, V.int (ordP (nm.getD (i + 1) 0) (nm.getD o 0)).2]) np3
            have eE10 := s3 _ _ eE9
            have eD10 := s3 _ _ eD9
            have a10 := DpAll.same s3 a9
            have d10 := d9.same s3
            have f10 := (f6'.trans f9).trans (Same.fm s3)
            have hp : SqT K _ p3 [.int (edgeOf nm (i + 1, o)).1, .int (edgeOf nm (i + 1, o)).2] := SqT.of (K := K) (same_at (o := .tup [V.int (ordP (nm.getD (i + 1) 0) (nm.getD o 0)).1, V.int (ordP (nm.getD (i + 1) 0) (nm.getD o 0)).2]) np3)
            generalize upd _ p3 (.tup [V.int (ordP (nm.getD (i + 1) 0) (nm.getD o 0)).1, V.int (ordP (nm.getD (i + 1) 0) (nm.getD o 0)).2]) = H10 at eE10 eD10 a10 d10 f10 hp ⊢
            have kt : KT K H10 (upd H10 E (.lst (xs ++ [.ref p3]))) := kt_lst eE10
            refine ⟨E, xs, .ref p3, rfl, rfl, eE10, ?_, _, _, ks ++ [(i + 1, o)], xs ++ [.ref p3], rfl, ?_, d10.put offE.1 offE.2, by rw [upd_ne nDE]; exact eD10, upd_same, ?_, ?_, ?_, ?_⟩
            · have := DpAll.length a10
              rw [List.length_map, List.length_map] at this
              exact small1000 (by omega)
            · exact f10.put1 nHE
            · rw [List.map_append, List.map_append]
              exact DpAll.append (DpAll.kt kt a10 (only_prs _)) (.cons (Dp.kt kt (Dp.pr hp) (only_pr _)) .nil)
            · refine List.pairwise_append.mpr ⟨up, List.pairwise_singleton _ _, fun a ha b hb => ?_⟩
              obtain rfl := List.mem_singleton.mp hb
              have := (down a ha).2
              exact this
            · intro z hz
              rcases List.mem_append.mp hz with hz | hz
              · have := down z hz
                omega
              · obtain rfl := List.mem_singleton.mp hz
                exact ⟨lo, Nat.lt_succ_self _⟩
            · rw [List.length_append, List.length_singleton]
              omega
          · obtain ⟨f9, d9⟩ := hR
            exact ⟨_, _, ks, xs, rfl, f6'.trans f9, d9, f9 _ _ offD.1 offD.2 eD7, f9 _ _ offE.1 offE.2 eE7, DpAll.kt (f9.kt d6') a6 (only_prs _), up, fun z hz => by have := down z hz; omega, by omega⟩
        · rintro σ H5 ⟨y8, y9, ks, xs, rfl, f5, d5, eD5, eE5, a5, up, down, cnt⟩
          have g : Grow m nm ks := ⟨pm, up, fun z hz => by have := down z hz; omega⟩
          refine ⟨.int (m : Int), rfl, .ref E, rfl, sortPairs (SqL.of eE5) a5 fun p ys np dy => ?_⟩
          have s1 := same_upd (o := .lst ys) np
          refine ⟨p, ys, rfl, .inl ⟨SqL.of upd_same, fun t nt => ?_⟩⟩
          have s2 := same_upd (o := .tup ys) nt
          refine ⟨by show 2 ≤ sizeLine; decide, fun z nz => ?_⟩
          have s3 := same_upd (o := .tup [.int (m : Int), .ref t]) nz
          have s13 := (s1.trans s2).trans s3
          refine q _ _ m _ ((f1.trans f5).trans (Same.fm s13)) ((d5.same s13).le (by omega)) hmm g.isFor ?_
          exact .tup (SqT.of upd_same) (.cons (.int _) (.cons (Dp.same s3 (.tup (SqT.of upd_same) (DpAll.same (s1.trans s2) dy))) .nil))
      · rw [decide_eq_false hr0]
        have hp : 0 < rs.length := List.length_pos_iff.mpr hr0
        refine iteT ?_
        have eL2 := se _ _ eL5
        have eD2 := se _ _ eD5
        have eE2 := se _ _ eE5
        refine ⟨.ref D, rfl, .inl ⟨rfl, _, SqL.of eD2⟩, .ref L, rfl, .inl ⟨rfl, _, SqL.of eL2⟩, .ref d, rfl, .ref L, rfl, L, _, rfl, .inl (SqL.of eL2), d, l, _, _, rfl, by rw [List.length_map]; omega, by rw [List.length_map]; omega, d5.same se, by omega, fun H3 x x0 x1 f3 d3 => ?_⟩
        rw [List.length_map] at x1
        have eL3 := f3 _ _ offL.1 offL.2 eL2
        have eD3 := f3 _ _ offD.1 offD.2 eD2
        have eE3 := f3 _ _ offE.1 offE.2 eE2
        have hk : x.toNat < rs.length := by omega
        refine ⟨L, _, x, x.toNat, .int rs[x.toNat], rfl, rfl, eL3, by omega, by omega, ?_, ?_, D, ms.map V.int, _, rfl, rfl, ?_, ?_, (rs.eraseIdx x.toNat).length, ?_, ms ++ [rs[x.toNat]], rs.eraseIdx x.toNat, rfl, ?_, rfl, ?_, ?_, ?_, ?_, ?_⟩
        · unfold seqIndex?
          rw [List.length_map]
          simp
          omega
        · rw [List.getElem?_map, List.getElem?_eq_getElem hk]
          rfl
        · rw [upd_ne nLD.symm]
          exact eD3
        · rw [List.length_map]
          exact small1000 (by omega)
        · rw [List.length_eraseIdx_of_lt hk]
          omega
        · rw [List.append_assoc]
          refine List.Perm.trans ?_ pm
          exact List.Perm.append_left ms (erase_prm hk)
        · exact (((f5.trans (Same.fm se)).trans f3).put1 nHL).put1 nHD
        · rw [List.length_append]
          exact (d3.put offL.1 offL.2).put offD.1 offD.2
        · rw [upd_ne nLD, upd_same]
          exact congrArg (fun z => some (HO.lst z)) (erase_mp rs x.toNat)
        · rw [upd_same, List.map_append]
          rfl
        · rw [upd_ne nDE.symm, upd_ne nLE.symm]
          exact eE3
    · rintro σ H' Q1 Q2 hQ ⟨y, e, h0, h1⟩
      exact ⟨y, e, h0, fun Z nZ => by
        obtain ⟨d1, d2, e1, e2, e3, e4, b, eb, k⟩ := h1 Z nZ
        exact ⟨d1, d2, e1, e2, e3, e4, b, eb, hQ _ _ k⟩⟩
end
end TL
namespace TL
open PySem PySem.Spec PyProof.Rows L2
section
variable {P : Program} {w : World} {K : PySem.W.Frag} {mg : Str → Option Value} {base : Heap}
/-! ### near -/
def spLNear (K : PySem.W.Frag) : Sp := fun vs H Q _ => ∃ (x : V) (m : Nat) (es : List (Int × Int)) (v : Int), vs = [x, .int v] ∧ m ≤ 12 ∧ IsFor m es ∧ Dp K H x (forD m es) ∧
  ∀ (H' : Hp) (D : Addr), Same H H' → H D = none → H' D = some (.lst ((nearL m es v).map V.int)) → Q (.ref D) H'
theorem ok_LNear {f : Addr} {fd : FuncData} {k : Nat} (F : Fun K "_law_near" "_law_near" sLNear f fd) (m_sorted : mg "sorted" = none) :
    FnOk P w K mg base CX0 (k + 1) f fd ["_law_forest_here", "_law_vertex"] (spLNear K) := by
  refine F.ok scLNear (fun vs H Q E h => ?_) (fun cdv A outer s H vs Q E hr h => ?_)
  · obtain ⟨x, m, es, v, rfl, _⟩ := h
    rfl
  · obtain ⟨x, m, es, v, rfl, hm, isf, hx, q⟩ := h
    obtain ⟨a, b, xs, rfl, ha, hb, hA⟩ := Dp.forI hx
    have ec := isf.count
    refine ⟨_, (pss_cons (ps_setLc (i := 2) (own := [("_law_one", 3), ("_law_two", 4)]) (g := (gTup K 2 (gCons (gName 3) (gCons (gName 4) gNil)))) (by rfl) scLNear.nd rfl rfl (sw_true rfl rfl rfl (by decide +kernel)) (piTK K (pe_ix (ixTK K) (pv 0) pe_int (fun _ _ => rfl)))
      (blkOk_by (own := [("_law_one", 3), ("_law_two", 4)]) (N := nLNear) (sc := (defScope sLNear)) (by decide +kernel))
      (fun _ _ _ _ _ => (pgTK K (pgs_cons (pg_name (i := 3) scLNear.nd rfl (Or.inl rfl)) (pgs_cons (pg_name (i := 4) scLNear.nd rfl (Or.inl rfl)) pgs_nil)))) (fun _ _ _ _ _ => (pts_one (pt_cmpR op_eq (pv 3) (pv 1) (nomark _))))
      (fun _ _ _ _ _ => (pv 4)))
    (pss_one (ps_ret (pe_callB (sortK K hr.units) (by rfl) m_sorted (by decide +kernel) (pa_cons (pe_op op_cat (pv 2) (pe_lc (own := [("_law_one", 3), ("_law_two", 4)]) (g := (gTup K 2 (gCons (gName 3) (gCons (gName 4) gNil)))) rfl scLNear.nd (piTK K (pe_ix (ixTK K) (pv 0) pe_int (fun _ _ => rfl)))
      (blkOk_by (own := [("_law_one", 3), ("_law_two", 4)]) (N := nLNear) (sc := (defScope sLNear)) (by decide +kernel))
      (fun _ _ _ _ _ => (pgTK K (pgs_cons (pg_name (i := 3) scLNear.nd rfl (Or.inl rfl)) (pgs_cons (pg_name (i := 4) scLNear.nd rfl (Or.inl rfl)) pgs_nil)))) (fun _ _ _ _ _ => (pts_one (pt_cmpR op_eq (pv 4) (pv 1) (nomark _))))
      (fun _ _ _ _ _ => (pv 3)))) pa_nil))))), ?_⟩
    refine ⟨.ref a, rfl, a, _, 1, .ref b, rfl, rfl, ha, atI_nat (j := 1) rfl, b, rfl, ⟨_, hb⟩, fun D nD => ?_⟩
    refine lc_tupP (K := K) (fun p => decide (p.1 = v)) (fun p => .int p.2) nD hb hA (fun _ _ => rfl) (fun o _ H' R s1 hR => ?_) (fun o _ _ H' R s1 hR => ?_) (fun o => only_int _) (by omega) (fun H2 ys s2 eD dy => ?_)
    · refine ⟨.int o.1, rfl, .int v, rfl, rfl, _, rfl, ?_⟩
      rw [decInt]
      exact hR H' (Same.refl _)
    · exact ⟨.int o.2, rfl, hR H' _ (Same.refl _) (.int _)⟩
    refine ⟨.ref D, rfl, .ref a, rfl, a, _, 1, .ref b, rfl, rfl, Same.tup s2 ha, atI_nat (j := 1) rfl, b, rfl, ⟨_, Same.tup s2 hb⟩, fun D2 nD2 => ?_⟩
    refine lc_tupP (K := K) (fun p => decide (p.2 = v)) (fun p => .int p.1) nD2 (Same.tup s2 hb) (DpAll.same s2 hA) (fun _ _ => rfl) (fun o _ H' R s1 hR => ?_) (fun o _ _ H' R s1 hR => ?_) (fun o => only_int _) (by omega) (fun H3 zs s3 eD3 dz => ?_)
    · refine ⟨.int o.2, rfl, .int v, rfl, rfl, _, rfl, ?_⟩
      rw [decInt]
      exact hR H' (Same.refl _)
    · exact ⟨.int o.1, rfl, hR H' _ (Same.refl _) (.int _)⟩
    have e1 : ys = ((es.filter fun p => decide (p.1 = v)).map (·.2)).map V.int := DpAll.ints (by rw [List.map_map]; exact dy)
    have e2 : zs = ((es.filter fun p => decide (p.2 = v)).map (·.1)).map V.int := DpAll.ints (by rw [List.map_map]; exact dz)
    subst e1 e2
    have l1 := List.length_filter_le (fun p => decide (p.2 = v)) es
    have l2 := List.length_filter_le (fun p => decide (p.1 = v)) es
    refine ⟨D, D2, _, _, rfl, rfl, s3 _ _ eD, eD3, Nat.le_of_lt (small1000 (by rw [List.length_map, List.length_map, List.length_map, List.length_map]; omega)), fun p np => ?_⟩
    rw [← List.map_append]
    have t1 := same_upd (o := .lst (((es.filter fun p => decide (p.1 = v)).map (·.2) ++ (es.filter fun p => decide (p.2 = v)).map (·.1)).map V.int)) np
    refine sortInts (ns := (es.filter fun p => decide (p.1 = v)).map (·.2) ++ (es.filter fun p => decide (p.2 = v)).map (·.1)) (SqL.of upd_same) fun p2 np2 => ?_
    have s4 := ((s2.trans s3).trans t1)
    refine q _ p2 (s4.trans (same_upd np2)) (s4.free np2) ?_
    rw [upd_same, srtI_congr (List.perm_append_comm (l₁ := (es.filter fun p => decide (p.1 = v)).map (·.2))), show (es.filter fun p => decide (p.2 = v)).map (·.1) ++ (es.filter fun p => decide (p.1 = v)).map (·.2) = nbL es v from rfl, isf.nb v, srtI_of_asc (nearL_asc m es v)]
/-! ### setting -/
def spLSetting (K : PySem.W.Frag) : Sp := fun vs H Q _ => ∃ (d l : Addr) (n : Nat) (x : V) (m : Nat) (es : List (Int × Int)), vs = [.ref d, x] ∧ Deck H d l n ∧ n < 800000 ∧ m ≤ 12 ∧ IsFor m es ∧ Dp K H x (forD m es) ∧
  ∀ (H' : Hp) (t : Addr) (S : List Int), Fm d l H H' → Deck H' d l (n + 30) → IsSet m es S → H' t = some (.tup (S.map V.int)) → Q (.ref t) H'
def litL (m : Nat) (es : List (Int × Int)) (S : List Int) (v : Int) : List Int := (nearL m es v).filter fun o => decide (o ∈ S)
theorem set_grow {m : Nat} {es : List (Int × Int)} (f : IsFor m es) {S : List Int} {v : Int} (hS : ∀ u ∈ S, ∀ z ∈ S, ordP u z ∉ es) (hr : ∀ u ∈ S, 0 ≤ u ∧ u < m)
    (hv : (nearL m es v).filter (fun o => decide (o ∈ S)) = []) : ∀ u ∈ S ++ [v], ∀ z ∈ S ++ [v], ordP u z ∉ es := by
  have key : ∀ u ∈ S, ordP u v ∉ es := fun u hu h => by
    have : u ∈ (nearL m es v).filter (fun o => decide (o ∈ S)) := List.mem_filter.mpr ⟨mem_nearL.mpr ⟨hr u hu, h⟩, decide_eq_true hu⟩
    rw [hv] at this
    cases this
  intro u hu z hz
  rcases List.mem_append.mp hu with h1 | h1
  · rcases List.mem_append.mp hz with h2 | h2
    · exact hS u h1 z h2
    · rw [List.mem_singleton.mp h2]
      exact key u h1
  · rw [List.mem_singleton.mp h1]
    rcases List.mem_append.mp hz with h2 | h2
    · rw [ordP_comm]
      exact key z h2
    · rw [List.mem_singleton.mp h2]
      intro h
      have := f.rng _ h
      unfold ordP at this
      rw [if_pos (Int.le_refl _)] at this
      simp only at this
      omega
theorem ok_LSetting {f : Addr} {fd : FuncData} (F : Fun K "_law_setting" "_law_setting" sLSetting f fd) (m_list : mg "list" = none) (m_range : mg "range" = none) (m_len : mg "len" = none) (m_tuple : mg "tuple" = none) (m_sorted : mg "sorted" = none)
    (oLDraw : Own P w K mg base "_law_draw" 1 ["_law_deck_here", "_law_many"] spLDraw) (oLNear : Own P w K mg base "_law_near" 1 ["_law_forest_here", "_law_vertex"] (spLNear K)) :
    FnOk P w K mg base CX0 2 f fd ["_law_deck_here", "_law_forest_here"] (spLSetting K) := by
  refine F.ok scLSetting (fun vs H Q E h => ?_) (fun cdv A outer s H vs Q E hr h => ?_)
  · obtain ⟨d, l, n, x, m, es, rfl, _⟩ := h
    rfl
  · obtain ⟨d, l, n, x, m, es, rfl, hD, hn, hm, isf, hx, q⟩ := h
    obtain ⟨a, b, xs, rfl, ha, hb, hA⟩ := Dp.forI hx
    refine ⟨_, (pss_cons (ps_asg (pe_tup (pa_cons (pe_listRg rfl (by rfl) m_list (prg_1 (by rfl) m_range (pe_ix (ixTK K) (pv 1) pe_int (fun _ _ => rfl)))) (pa_cons (pe_lst pa_nil) pa_nil))) (pgTK K (pgs_cons (pg_name (i := 2) scLSetting.nd rfl (Or.inl rfl)) (pgs_cons (pg_name (i := 3) scLSetting.nd rfl (Or.inr rfl)) pgs_nil))))
    (pss_cons (ps_set (i := 4) scLSetting.nd rfl (.inl rfl) (pe_ix (ixLK K) (pe_lst (pa_cons pe_int (pa_cons pe_int (pa_cons pe_int pa_nil)))) (pe_own oLDraw (hr.mono (by decide)) (by rfl) (pa_cons (pv 0) (pa_cons pe_int pa_nil))) (fun _ _ => rfl)))
    (pss_cons (ps_while PassesOwn.never (pt_cmpR (neDK K hr.units) (pv 2) (pe_lst pa_nil) (nomark _)) (pss_cons (ps_set (i := 5) scLSetting.nd rfl (.inl rfl) (bmK K PySem.F.plainAttrs_list PySem.F.slot_list_pop PySem.F.type_list_pop mt_popAt (pv 2) (pa_cons (pe_own oLDraw (hr.mono (by decide)) (by rfl) (pa_cons (pv 0) (pa_cons (pe_callB (lenK K) (by rfl) m_len (by decide +kernel) (pa_cons (pv 2) pa_nil)) pa_nil))) pa_nil)))
    (pss_cons (ps_set (i := 6) scLSetting.nd rfl (.inl rfl) (pe_own oLDraw (hr.mono (by decide)) (by rfl) (pa_cons (pv 0) (pa_cons pe_int pa_nil))))
    (pss_cons (ps_setLc (i := 7) (own := [("_law_one", 8)]) (g := (gName 8)) (by rfl) scLSetting.nd rfl rfl (sw_true rfl rfl rfl (by decide +kernel)) (piLK K (pe_own oLNear (hr.mono (by decide)) (by rfl) (pa_cons (pv 1) (pa_cons (pv 5) pa_nil))))
      (blkOk_by (own := [("_law_one", 8)]) (N := nLSetting) (sc := (defScope sLSetting)) (by decide +kernel))
      (fun _ _ _ _ _ => (pg_name (i := 8) scLSetting.nd rfl (Or.inl rfl))) (fun _ _ _ _ _ => (pts_one (pt_cmpR (inK K) (pv 8) (pv 3) (by rfl))))
      (fun _ _ _ _ _ => (pv 8)))
    (pss_one (ps_if (PW.pt (pw_and (pt_cmpR op_lt (pv 6) (pv 4) (nomark _)) (pw_and1 (pt_cmpR (eqDK K hr.units) (pv 7) (pe_lst pa_nil) (nomark _))))) (pss_one (ps_expr (bmK K PySem.F.plainAttrs_list PySem.F.slot_list_append PySem.F.type_list_append mt_append (pv 3) (pa_cons (pv 5) pa_nil)))) pss_nil))))))
    (pss_one (ps_ret (pe_callTy (tupleK K) (by rfl) m_tuple (by decide +kernel) (pa_cons (pe_callB (sortK K hr.units) (by rfl) m_sorted (by decide +kernel) (pa_cons (pv 3) pa_nil)) pa_nil))))))), ?_⟩
    -- left, lamps
    refine ⟨.ref a, rfl, a, _, 0, .int (m : Int), rfl, rfl, ha, atI_nat (j := 0) rfl, (m : Int), rfl, RgOk.of_le (by omega) (by omega) (by omega) (by omega), fun L nL => ?_⟩
    rw [rgVrng]
    have sL := same_upd (o := .lst ((rng m).map V.int)) nL
    have eL := same_at (o := .lst ((rng m).map V.int)) nL
    have offL := hD.off nL
    refine ⟨Nat.zero_le _, fun D nD => ?_⟩
    have sD := same_upd (o := .lst []) nD
    have eD := same_at (o := .lst []) nD
    have offD := (hD.same sL).off nD
    have nLD : L ≠ D := ne_of_none eL nD
    have nHD : H D = none := sL.free nD
    refine ⟨by show 2 ≤ sizeLine; decide, fun t nt => ⟨t, _, rfl, SqT.of upd_same, rfl, _, _, rfl, _, _, rfl, rfl, ?_⟩⟩
    have st := same_upd (o := .tup [V.ref L, V.ref D]) nt
    have s0 := (sL.trans sD).trans st
    have eL0 := (sD.trans st) _ _ eL
    have eD0 := st _ _ eD
    have d0 := hD.same s0
    generalize upd _ t (.tup [V.ref L, V.ref D]) = H0 at s0 eL0 eD0 d0 ⊢
    -- share
    refine ⟨by show 3 ≤ sizeLine; decide, fun p np => ?_⟩
    have sp := same_upd (o := .lst [V.int 4, V.int 3, V.int 1]) np
    have ep := same_at (o := .lst [V.int 4, V.int 3, V.int 1]) np
    have op := d0.off np
    refine ⟨.ref d, rfl, d, l, _, 3, rfl, by decide, by decide, d0.same sp, by omega, fun H1 r r0 r1 f1 d1 => ?_⟩
    obtain ⟨sh, hsh⟩ : ∃ sh : Int, atI [V.int 4, V.int 3, V.int 1] r = some (V.int sh) := by
      have h3 : r = 0 ∨ r = 1 ∨ r = 2 := by omega
      rcases h3 with rfl | rfl | rfl
      · exact ⟨4, rfl⟩
      · exact ⟨3, rfl⟩
      · exact ⟨1, rfl⟩
    refine ⟨p, _, _, .int sh, rfl, rfl, SqL.of (f1 _ _ op.1 op.2 ep), hsh, ?_⟩
    have f01 : Fm d l H H1 := (Same.fm (s0.trans sp)).trans f1
    have eL1 := f1 _ _ offL.1 offL.2 (sp _ _ eL0)
    have eD1 := f1 _ _ offD.1 offD.2 (sp _ _ eD0)
    refine while_ms (fun tt σ H' => ∃ (y5 y6 y7 : Option V) (S rs : List Int), σ = [some (.ref d), some (.ref a), some (.ref L), some (.ref D), some (.int sh), y5, y6, y7, none] ∧ tt = rs.length ∧ Fm d l H H' ∧ Deck H' d l (n + 1 + 2 * (m - rs.length)) ∧ H' L = some (.lst (rs.map V.int)) ∧ H' D = some (.lst (S.map V.int)) ∧
      (S ++ rs).Nodup ∧ (∀ x ∈ S ++ rs, 0 ≤ x ∧ x < m) ∧ rs.length ≤ m ∧ (∀ u ∈ S, ∀ z ∈ S, ordP u z ∉ es)) _
      ⟨_, _, _, [], rng m, rfl, rfl, f01, d1.le (by omega), eL1, eD1, by rw [List.nil_append]; exact (rng_asc m).nodup, fun x hx => mem_rng.mp hx, by rw [rng_length]; exact Nat.le_refl _, (fun _ h => nomatch h)⟩ ?_ ?_
    · rintro tt σ H2 ⟨y5, y6, y7, S, rs, rfl, rfl, f2, d2, eL2, eD2, nd, rg, lr, free⟩
      have lS : S.length + rs.length ≤ m := by
        have := nd.length_le_of_subset (l₂ := rng m) fun x hx => mem_rng.mpr (rg x hx)
        rw [List.length_append, rng_length] at this
        exact this
      refine ⟨.ref L, rfl, Nat.zero_le _, fun e ne => ?_⟩
      have se := same_upd (o := .lst []) ne
      refine ⟨.list (rs.map .int), .list [], .lst (SqL.of (se _ _ eL2)) (DpAll.of_ints rs), .lst (SqL.of upd_same) .nil, shaped_ints rs, shaped_ints [], _, rfl, ?_⟩
      rw [eqv_nil]
      have f2 := f2.trans (Same.fm se)
      have d2 := d2.same se
      have eL2 := se _ _ eL2
      have eD2 := se _ _ eD2
      generalize upd H2 e (.lst []) = H2 at f2 d2 eL2 eD2 ⊢
      by_cases hr0 : rs = []
      · subst hr0
        rw [decide_eq_true rfl]
        refine iteF ⟨.ref D, rfl, sortInts (SqL.of eD2) fun p np => ?_⟩
        have t1 := same_upd (o := .lst ((srtI S).map V.int)) np
        refine ⟨p, _, rfl, .inl ⟨SqL.of upd_same, fun t nt => ?_⟩⟩
        have t12 := t1.trans (same_upd (o := .tup ((srtI S).map V.int)) nt)
        rw [List.append_nil] at nd rg
        exact q _ _ (srtI S) (f2.trans (Same.fm t12)) ((d2.same t12).le (by rw [List.length_nil]; omega)) ⟨srtI_asc nd, fun v hv => rg v (mem_srtI.mp hv), fun u hu z hz => free u (mem_srtI.mp hu) z (mem_srtI.mp hz)⟩ upd_same
      · rw [decide_eq_false hr0]
        have hp : 0 < rs.length := List.length_pos_iff.mpr hr0
        refine iteT ⟨.ref L, rfl, .inl ⟨rfl, _, SqL.of eL2⟩, .ref d, rfl, .ref L, rfl, L, _, rfl, .inl (SqL.of eL2), d, l, _, _, rfl, by rw [List.length_map]; omega, by rw [List.length_map]; omega, d2, by omega, fun H3 z z0 z1 f3 d3 => ?_⟩
        rw [List.length_map] at z1
        have hk : z.toNat < rs.length := by omega
        have eL3 := f3 _ _ offL.1 offL.2 eL2
        have eD3 := f3 _ _ offD.1 offD.2 eD2
        refine ⟨L, _, z, z.toNat, .int rs[z.toNat], rfl, rfl, eL3, by omega, by omega, ?_, ?_, ?_⟩
        · unfold seqIndex?
          rw [List.length_map]
          simp
          omega
        · rw [List.getElem?_map, List.getElem?_eq_getElem hk]
          rfl
        have er := erase_prm hk
        generalize hv : rs[z.toNat] = v at er
        have f4 : Fm d l H (upd H3 L (.lst ((rs.map V.int).eraseIdx z.toNat))) := (f2.trans f3).put1 nL
        have d4 : Deck (upd H3 L (.lst ((rs.map V.int).eraseIdx z.toNat))) d l _ := d3.put offL.1 offL.2
        have eL4 : upd H3 L (.lst ((rs.map V.int).eraseIdx z.toNat)) L = some (.lst ((rs.eraseIdx z.toNat).map V.int)) := by rw [upd_same, erase_mp]
        have eD4 : upd H3 L (.lst ((rs.map V.int).eraseIdx z.toNat)) D = some (.lst (S.map V.int)) := by rw [upd_ne nLD.symm]; exact eD3
        generalize upd H3 L (.lst ((rs.map V.int).eraseIdx z.toNat)) = H4 at f4 d4 eL4 eD4 ⊢
        have le : (rs.eraseIdx z.toNat).length + 1 = rs.length := by rw [List.length_eraseIdx_of_lt hk]; omega
        generalize rs.eraseIdx z.toNat = qs at er eL4 le
        have pm : (S ++ v :: qs).Perm (S ++ rs) := List.Perm.append_left S er
        have nd' := pm.nodup_iff.mpr nd
        have rg' : ∀ x ∈ S ++ v :: qs, 0 ≤ x ∧ x < m := fun x hx => rg x (pm.mem_iff.mp hx)
        dsimp only [gName]
        -- drawn
        refine ⟨.ref d, rfl, d, l, _, 4, rfl, by decide, by decide, d4, by omega, fun H4' y y0 y1 f4' d4' => ?_⟩
        have f4 := f4.trans f4'
        have d4 := d4'
        have eL4 := f4' _ _ offL.1 offL.2 eL4
        have eD4 := f4' _ _ offD.1 offD.2 eD4
        clear f4' d4'
        generalize H4' = H4 at f4 d4 eL4 eD4 ⊢
        dsimp only [gName]
        -- near here
        have hx4 := Dp.kt (f4.kt hD) hx (only_forD _ _)
        refine ⟨.ref a, rfl, .int v, rfl, .ref a, m, es, v, rfl, hm, isf, hx4, fun H5 N s5 nN eN => ⟨N, rfl, ⟨_, SqL.of eN⟩, fun C nC => ?_⟩⟩
        have nl : (nearL m es v).length ≤ (rng m).length := List.length_filter_le _ _
        rw [rng_length] at nl
        refine lc_listI (K := K) (fun o => decide (o ∈ S)) .int nC (SqL.of eN) (fun _ => rfl) (fun o _ H' R s6 hR => ?_) (fun o _ _ H' R s6 hR => ⟨.int o, rfl, hR H' _ (Same.refl _) (.int o)⟩) only_int (by omega) (fun H6 ys s6 eC dy => ?_)
        · refine ⟨.int o, rfl, .ref D, rfl, D, S.map V.int, rfl, .inl (SqL.of (s6 _ _ (s5 _ _ eD4))), rfl, flat_ints S, _, rfl, ?_⟩
          have h2 := hR H' (Same.refl _)
          rw [← inV_ints] at h2
          exact h2
        rw [lst_ints dy] at eC
        have s46 := s5.trans s6
        have f6 := f4.trans (Same.fm s46)
        have d6 := d4.same s46
        have eL6 := s46 _ _ eL4
        have eD6 := s46 _ _ eD4
        have offC := (d4.same s5).off nC
        have out : ∀ {H7 : Hp} {S' : List Int} {y5 y6 y7 : Option V}, Fm d l H H7 → Deck H7 d l (n + 1 + 2 * (m - rs.length) + 2) → H7 L = some (.lst (qs.map V.int)) → H7 D = some (.lst (S'.map V.int)) → (S' ++ qs).Nodup → (∀ x ∈ S' ++ qs, 0 ≤ x ∧ x < m) → (∀ u ∈ S', ∀ z ∈ S', ordP u z ∉ es) → ∃ n', n' < rs.length ∧ ∃ (w5 w6 w7 : Option V) (S rs : List Int), [some (V.ref d), some (V.ref a), some (V.ref L), some (V.ref D), some (V.int sh), y5, y6, y7, none] = [some (.ref d), some (.ref a), some (.ref L), some (.ref D), some (.int sh), w5, w6, w7, none] ∧ n' = rs.length ∧ Fm d l H H7 ∧ Deck H7 d l (n + 1 + 2 * (m - rs.length)) ∧ H7 L = some (.lst (rs.map V.int)) ∧ H7 D = some (.lst (S.map V.int)) ∧
            (S ++ rs).Nodup ∧ (∀ x ∈ S ++ rs, 0 ≤ x ∧ x < m) ∧ rs.length ≤ m ∧ (∀ u ∈ S, ∀ z ∈ S, ordP u z ∉ es) := fun g1 g2 g3 g4 g5 g6 g7 => ⟨_, by omega, _, _, _, _, qs, rfl, rfl, g1, g2.le (by omega), g3, g4, g5, g6, by omega, g7⟩
        have ndS : (S ++ qs).Nodup := nd'.sublist (List.Sublist.append (List.Sublist.refl _) (List.sublist_cons_self _ _))
        have rgS : ∀ x ∈ S ++ qs, 0 ≤ x ∧ x < m := fun x hx => rg' x ((List.Sublist.append (List.Sublist.refl S) (List.sublist_cons_self v qs)).subset hx)
        refine ⟨.int y, rfl, .int sh, rfl, _, _, rfl, rfl, _, rfl, ?_⟩
        have eC7 := eC
        have eL7 := eL6
        have eD7 := eD6
        have f7' := f6
        have d7 := d6
        generalize H6 = H7 at f7' d7 eC7 eL7 eD7 ⊢
        refine ite2 (fun hc => ?_) (fun hc => ?_)
        rotate_left
        · exact iteF (out f7' (d7.le (by omega)) eL7 eD7 ndS rgS free)
        refine ⟨.ref C, rfl, Nat.zero_le _, fun B nB => ?_⟩
        have s8 := same_upd (o := .lst []) nB
        refine ⟨_, .list [], .lst (SqL.of (s8 _ _ eC7)) (DpAll.of_ints _), .lst (SqL.of upd_same) .nil, shaped_ints _, shaped_ints [], _, rfl, ?_⟩
        rw [eqv_nil]
        have f8 := f7'.trans (Same.fm s8)
        have d8 := d7.same s8
        have eL8 := s8 _ _ eL7
        have eD8 := s8 _ _ eD7
        generalize upd H7 B (.lst []) = H8 at f8 d8 eL8 eD8 ⊢
        refine ite2 (fun hc2 => ?_) (fun hc2 => ?_)
        rotate_left
        · exact out f8 (d8.le (by omega)) eL8 eD8 ndS rgS free
        have hc2 : litL m es S v = [] := of_decide_eq_true hc2
        refine ⟨.ref D, rfl, .inl ⟨rfl, _, SqL.of eD8⟩, .int v, rfl, D, _, _, rfl, rfl, eD8, by rw [List.length_map]; exact small1000 (by omega), ?_⟩
        refine out (S' := S ++ [v]) (f8.put1 nHD) ((d8.put offD.1 offD.2).le (by omega)) (by rw [upd_ne nLD]; exact eL8) (by rw [upd_same, List.map_append]; rfl) ?_ ?_ (set_grow isf free (fun u hu => rg' u (List.mem_append_left _ hu)) hc2)
        · rw [List.append_assoc]
          exact nd'
        · rw [List.append_assoc]
          exact rg'
    · rintro σ H' Q1 Q2 hQ ⟨v, e, h0, h⟩
      refine ⟨v, e, h0, fun p np => ?_⟩
      obtain ⟨d, e', h1, h2, h3, h4, k, hk, h5⟩ := h p np
      exact ⟨d, e', h1, h2, h3, h4, k, hk, hQ _ _ h5⟩
end
end TL
namespace TL
open PySem PySem.Spec PyProof.Rows L2
section
variable {P : Program} {w : World} {K : PySem.W.Frag} {mg : Str → Option Value} {base : Heap}
/-! ### values of any kind: what isinstance says -/
def isN : V → Bool
  | .int _ => true
  | _ => false
/-- what isinstance says of it -/
def Kd (K : PySem.W.Frag) (H : Hp) (v : V) : Prop := ∃ (t : Value) (a b : Bool), TyX K H v t ∧ PySem.W.kitOne K t (.type "int") = some a ∧ PySem.W.kitOne K t (.type "bool") = some b ∧ (a && !b) = isN v
theorem Kd.int {H : Hp} (i : Int) : Kd K H (.int i) := ⟨_, true, false, .base (.int i), kit_ty (by decide +kernel), kit_ty (by decide +kernel), rfl⟩
theorem tyOf_same {H H' : Hp} (s : Same H H') {v : V} {t : Value} (h : TyOf K H v t) : TyOf K H' v t := by
  cases h with
  | non => exact .non
  | bl x => exact .bl x
  | int i => exact .int i
  | str x => exact .str x
  | flt x => exact .flt x
  | lst e => exact .lst (s _ _ e)
  | frz e => exact .frz (s _ _ e)
  | tup e => exact .tup (s _ _ e)
  | dK e => exact .dK (s _ _ e)
  | dT e => exact .dT (s _ _ e)
  | ins e c1 c2 c3 c4 c5 => exact .ins (s _ _ e) c1 c2 c3 c4 c5
theorem tyX_same {H H' : Hp} (s : Same H H') {v : V} {t : Value} (h : TyX K H v t) : TyX K H' v t := by
  cases h with
  | base b => exact .base (tyOf_same s b)
  | byt b => exact .byt b
  | set e => exact .set (s _ _ e)
  | kList e c => exact .kList e c
  | kTuple e c => exact .kTuple e c
  | kDict e c => exact .kDict e c
  | fTuple e => exact .fTuple (s _ _ e)
  | fDict e => exact .fDict (s _ _ e)
theorem Kd.same {H H' : Hp} {v : V} (s : Same H H') (h : Kd K H v) : Kd K H' v := by
  obtain ⟨t, a, b, ty, r⟩ := h
  exact ⟨t, a, b, tyX_same s ty, r⟩
/-- an error with one field that flies -/
def Fl (E : XK) (H : Hp) (C : Addr) (f : Str) (y : V) : Prop := ∀ (H' : Hp) (dd : Addr), Same H H' → H' dd = some (.xd [(f, y)]) → E (.ref C) (some dd) H'
def spIsNumber (K : PySem.W.Frag) : Sp := fun vs H Q _ => ∃ v : V, vs = [v] ∧ Kd K H v ∧ Q (.bl (isN v)) H
theorem ok_IsNumber {f : Addr} {fd : FuncData} {k : Nat} (F : Fun K "is_number" "is_number" sIsNumber f fd) (m_isinstance : mg "isinstance" = none) (m_int : mg "int" = none) (m_bool : mg "bool" = none) :
    FnOk P w K mg base CX0 (k + 1) f fd ["value"] (spIsNumber K) := by
  refine F.ok scIsNumber (fun vs H Q E h => ?_) (fun cdv A outer s H vs Q E hr h => ?_)
  · obtain ⟨v, rfl, _⟩ := h
    rfl
  · obtain ⟨v, rfl, ⟨t, a, b, ty, k1, k2, e⟩, q⟩ := h
    refine ⟨_, (pss_one (ps_ret (pe_and (pe_callB (isiK K) (by rfl) m_isinstance (by decide +kernel) (pa_cons (pv 0) (pa_cons (pe_bltn (v := .ty "int") (by rfl) m_int (by decide +kernel) rfl) pa_nil))) (pe_one (pe_not (pe_callB (isiK K) (by rfl) m_isinstance (by decide +kernel) (pa_cons (pv 0) (pa_cons (pe_bltn (v := .ty "bool") (by rfl) m_bool (by decide +kernel) rfl) pa_nil)))))))), ?_⟩
    refine ⟨v, rfl, _, _, _, _, a, rfl, .ty "int", ty, k1, a, rfl, ?_⟩
    rw [← e] at q
    cases a with
    | false => exact iteF q
    | true => exact iteT ⟨v, rfl, _, _, _, _, b, rfl, .ty "bool", ty, k2, b, rfl, q⟩
/-! ### values of any kind, bent: data with lists and dicts in it; b counts the bends -/
mutual
def ib : PyData → Bool
  | .int i => decide (i.natAbs ≤ 10 ^ 29)
  | .tuple xs => decide (xs.length ≤ 20) && ibAll xs
  | .none => true
  | .bool _ => true
  | .str _ => true
  | .list _ => false
  | .dict _ => false
def ibAll : List PyData → Bool
  | [] => true
  | d :: ds => ib d && ibAll ds
end
/-- dicts of odd values -/
inductive Od : HO → PyData → Prop
  | d0 : Od (.dK []) (.dict [])
  | d1 : Od (.dK [(.inr "a", .int 0)]) (.dict [(.str "a", .int 0)])
  | d2 : Od (.dK [(.inr "a", .int 1)]) (.dict [(.str "a", .int 1)])
/-- lists of odd values -/
inductive Ob : HO → PyData → Prop
  | l (ns : List Int) (h : ns.length ≤ 4) (b : ∀ n ∈ ns, n.natAbs ≤ 100) : Ob (.lst (ns.map V.int)) (.list (ns.map .int))
mutual
inductive Bv (K : PySem.W.Frag) (d l g : Addr) (b : Nat) (H : Hp) : V → PyData → Prop
  | non : Bv K d l g b H .non .none
  | bl (x : Bool) : Bv K d l g b H (.bl x) (.bool x)
  | int (i : Int) (h : i.natAbs ≤ 10 ^ 29 + 12 * b) : Bv K d l g b H (.int i) (.int i)
  | str (x : Str) : Bv K d l g b H (.str x) (.str x)
  | tup {a : Addr} {xs : List V} {ds : List PyData} (h : SqT K H a xs) (al : BvAll K d l g b H xs ds) (len : xs.length ≤ 20 + b) : Bv K d l g b H (.ref a) (.tuple ds)
  | lst {a : Addr} {xs : List V} {ds : List PyData} (np : a ≠ sysModules) (e : H a = some (.lst xs)) (h1 : a ≠ d) (h2 : a ≠ l ∧ a ≠ g) (al : BvAll K d l g b H xs ds) (len : xs.length ≤ 20 + b) : Bv K d l g b H (.ref a) (.list ds)
  | dct {a : Addr} {o : HO} {x : PyData} (e : H a = some o) (h : Od o x) (h1 : a ≠ d) (h2 : a ≠ l ∧ a ≠ g) : Bv K d l g b H (.ref a) x
inductive BvAll (K : PySem.W.Frag) (d l g : Addr) (b : Nat) (H : Hp) : List V → List PyData → Prop
  | nil : BvAll K d l g b H [] []
  | cons {v : V} {vs : List V} {x : PyData} {xs : List PyData} : Bv K d l g b H v x → BvAll K d l g b H vs xs → BvAll K d l g b H (v :: vs) (x :: xs)
end
section
variable {d l g : Addr} {b c : Nat} {H H' : Hp}
mutual
theorem Bv.le (h : b ≤ c) : ∀ {v : V} {x : PyData}, Bv K d l g b H v x → Bv K d l g c H v x
  | _, _, .non => .non
  | _, _, .bl x => .bl x
  | _, _, .int i hi => .int i (by omega)
  | _, _, .str x => .str x
  | _, _, .tup e al n => .tup e (BvAll.le h al) (by omega)
  | _, _, .lst np e h1 h2 al n => .lst np e h1 h2 (BvAll.le h al) (by omega)
  | _, _, .dct e o h1 h2 => .dct e o h1 h2
theorem BvAll.le (h : b ≤ c) : ∀ {vs : List V} {xs : List PyData}, BvAll K d l g b H vs xs → BvAll K d l g c H vs xs
  | _, _, .nil => .nil
  | _, _, .cons p q => .cons (Bv.le h p) (BvAll.le h q)
end
mutual
theorem Bv.same (s : Same H H') : ∀ {v : V} {x : PyData}, Bv K d l g b H v x → Bv K d l g b H' v x
  | _, _, .non => .non
  | _, _, .bl x => .bl x
  | _, _, .int i hi => .int i hi
  | _, _, .str x => .str x
  | _, _, .tup e al n => .tup (Same.tup s e) (BvAll.same s al) n
  | _, _, .lst np e h1 h2 al n => .lst np (s _ _ e) h1 h2 (BvAll.same s al) n
  | _, _, .dct e o h1 h2 => .dct (s _ _ e) o h1 h2
theorem BvAll.same (s : Same H H') : ∀ {vs : List V} {xs : List PyData}, BvAll K d l g b H vs xs → BvAll K d l g b H' vs xs
  | _, _, .nil => .nil
  | _, _, .cons p q => .cons (Bv.same s p) (BvAll.same s q)
end
mutual
theorem Bv.kf (k : KT K H H') (f : ∀ a o, a ≠ d → a ≠ l → H a = some o → H' a = some o) : ∀ {v : V} {x : PyData}, Bv K d l g b H v x → Bv K d l g b H' v x
  | _, _, .non => .non
  | _, _, .bl x => .bl x
  | _, _, .int i hi => .int i hi
  | _, _, .str x => .str x
  | _, _, .tup e al n => .tup (k _ _ e) (BvAll.kf k f al) n
  | _, _, .lst np e h1 h2 al n => .lst np (f _ _ h1 h2.1 e) h1 h2 (BvAll.kf k f al) n
  | _, _, .dct e o h1 h2 => .dct (f _ _ h1 h2.1 e) o h1 h2
theorem BvAll.kf (k : KT K H H') (f : ∀ a o, a ≠ d → a ≠ l → H a = some o → H' a = some o) : ∀ {vs : List V} {xs : List PyData}, BvAll K d l g b H vs xs → BvAll K d l g b H' vs xs
  | _, _, .nil => .nil
  | _, _, .cons p q => .cons (Bv.kf k f p) (BvAll.kf k f q)
end
theorem Bv.fm {n : Nat} (f : Fm d l H H') (D : Deck H d l n) {v : V} {x : PyData} (h : Bv K d l g b H v x) : Bv K d l g b H' v x := h.kf (f.kt D) fun a o h1 h2 => f a o h1 h2
theorem BvAll.fm {n : Nat} (f : Fm d l H H') (D : Deck H d l n) {vs : List V} {xs : List PyData} (h : BvAll K d l g b H vs xs) : BvAll K d l g b H' vs xs := h.kf (f.kt D) fun a o h1 h2 => f a o h1 h2
theorem dqInts {H : Hp} : ∀ ns : List Int, DqAll K H (ns.map V.int) (ns.map PyData.int)
  | [] => .nil
  | n :: ns => .cons (.int n) (dqInts ns)
theorem od_dq {a : Addr} {o : HO} {x : PyData} (e : H a = some o) (h : Od o x) : Dq K H (.ref a) x := by
  cases h with
  | d0 => exact .dct (ps := []) e rfl .nil
  | d1 => exact .dct (ps := [(.str "a", .int 0)]) e rfl (.cons (.int 0) .nil)
  | d2 => exact .dct (ps := [(.str "a", .int 1)]) e rfl (.cons (.int 1) .nil)
mutual
theorem Bv.dq : ∀ {v : V} {x : PyData}, Bv K d l g b H v x → Dq K H v x
  | _, _, .non => .non
  | _, _, .bl x => .bl x
  | _, _, .int i hi => .int i
  | _, _, .str x => .str x
  | _, _, .tup e al n => .tup e (BvAll.dq al)
  | _, _, .lst np e h1 h2 al n => .lst np e (BvAll.dq al)
  | _, _, .dct e o h1 h2 => od_dq e o
theorem BvAll.dq : ∀ {vs : List V} {xs : List PyData}, BvAll K d l g b H vs xs → DqAll K H vs xs
  | _, _, .nil => .nil
  | _, _, .cons p q => .cons (Bv.dq p) (BvAll.dq q)
end
theorem Bv.kd {v : V} {x : PyData} (h : Bv K d l g b H v x) : Kd K H v := by
  cases h with
  | non => exact ⟨_, false, false, .base .non, kit_ty (by decide +kernel), kit_ty (by decide +kernel), rfl⟩
  | bl b => exact ⟨_, true, true, .base (.bl b), kit_ty (by decide +kernel), kit_ty (by decide +kernel), rfl⟩
  | int i => exact Kd.int _
  | str x => exact ⟨_, false, false, .base (.str _), kit_ty (by decide +kernel), kit_ty (by decide +kernel), rfl⟩
  | tup h a => exact ⟨_, false, false, ty_tup h, kit_ty (by decide +kernel), kit_ty (by decide +kernel), rfl⟩
  | lst np e => exact ⟨_, false, false, .base (.lst e), kit_ty (by decide +kernel), kit_ty (by decide +kernel), rfl⟩
  | dct e o =>
    cases o with
    | d0 => exact ⟨_, false, false, .base (.dK e), kit_ty (by decide +kernel), kit_ty (by decide +kernel), rfl⟩
    | d1 => exact ⟨_, false, false, .base (.dK e), kit_ty (by decide +kernel), kit_ty (by decide +kernel), rfl⟩
    | d2 => exact ⟨_, false, false, .base (.dK e), kit_ty (by decide +kernel), kit_ty (by decide +kernel), rfl⟩
theorem BvAll.kd : ∀ {vs : List V} {xs : List PyData}, BvAll K d l g b H vs xs → ∀ v ∈ vs, Kd K H v
  | _, _, .nil, v, hv => nomatch hv
  | _, _, .cons p q, v, hv => by
    rcases List.mem_cons.mp hv with rfl | hv
    · exact p.kd
    · exact BvAll.kd q v hv
/-- a tuple, or what isinstance says no of -/
theorem Bv.tq {v : V} {x : PyData} (h : Bv K d l g b H v x) : (∃ a xs ds, v = .ref a ∧ x = .tuple ds ∧ SqT K H a xs ∧ BvAll K d l g b H xs ds ∧ xs.length ≤ 20 + b) ∨ ∃ t, TyX K H v t ∧ PySem.W.kitOne K t (.type "tuple") = some false ∧ ∀ ds, x ≠ .tuple ds := by
  cases h with
  | non => exact .inr ⟨_, .base .non, kit_ty (by decide +kernel), fun _ z => nomatch z⟩
  | bl b => exact .inr ⟨_, .base (.bl b), kit_ty (by decide +kernel), fun _ z => nomatch z⟩
  | int i => exact .inr ⟨_, .base (.int _), kit_ty (by decide +kernel), fun _ z => nomatch z⟩
  | str x => exact .inr ⟨_, .base (.str _), kit_ty (by decide +kernel), fun _ z => nomatch z⟩
  | tup h a n => exact .inl ⟨_, _, _, rfl, rfl, h, a, n⟩
  | lst np e => exact .inr ⟨_, .base (.lst e), kit_ty (by decide +kernel), fun _ z => nomatch z⟩
  | dct e o =>
    cases o with
    | d0 => exact .inr ⟨_, .base (.dK e), kit_ty (by decide +kernel), fun _ z => nomatch z⟩
    | d1 => exact .inr ⟨_, .base (.dK e), kit_ty (by decide +kernel), fun _ z => nomatch z⟩
    | d2 => exact .inr ⟨_, .base (.dK e), kit_ty (by decide +kernel), fun _ z => nomatch z⟩
theorem BvAll.length : ∀ {vs : List V} {xs : List PyData}, BvAll K d l g b H vs xs → vs.length = xs.length
  | _, _, .nil => rfl
  | _, _, .cons _ q => congrArg (· + 1) q.length
theorem BvAll.get : ∀ {vs : List V} {xs : List PyData} {i : Nat} {v : V}, BvAll K d l g b H vs xs → vs[i]? = some v → ∃ x, xs[i]? = some x ∧ Bv K d l g b H v x
  | _, _, _, _, .nil, h => by simp at h
  | _, _, 0, _, .cons p _, h => by cases h; exact ⟨_, rfl, p⟩
  | _, _, i + 1, _, .cons _ q, h => by
    obtain ⟨x, hx, k⟩ := BvAll.get (i := i) q (by simpa using h)
    exact ⟨x, by simpa using hx, k⟩
theorem BvAll.append : ∀ {vs us : List V} {xs ys : List PyData}, BvAll K d l g b H vs xs → BvAll K d l g b H us ys → BvAll K d l g b H (vs ++ us) (xs ++ ys)
  | _, _, _, _, .nil, h => h
  | _, _, _, _, .cons p q, h => .cons p (BvAll.append q h)
theorem BvAll.take : ∀ (n : Nat) {vs : List V} {xs : List PyData}, BvAll K d l g b H vs xs → BvAll K d l g b H (vs.take n) (xs.take n)
  | 0, _, _, _ => .nil
  | _ + 1, _, _, .nil => .nil
  | n + 1, _, _, .cons p q => .cons p (BvAll.take n q)
theorem BvAll.drop : ∀ (n : Nat) {vs : List V} {xs : List PyData}, BvAll K d l g b H vs xs → BvAll K d l g b H (vs.drop n) (xs.drop n)
  | 0, _, _, h => h
  | _ + 1, _, _, .nil => .nil
  | n + 1, _, _, .cons p q => BvAll.drop n q
theorem BvAll.rev : ∀ {vs : List V} {xs : List PyData}, BvAll K d l g b H vs xs → BvAll K d l g b H vs.reverse xs.reverse
  | _, _, .nil => .nil
  | _, _, .cons p q => by
    rw [List.reverse_cons, List.reverse_cons]
    exact BvAll.append (BvAll.rev q) (.cons p .nil)
mutual
theorem Bv.ofDp : ∀ {v : V} {x : PyData}, Dp K H v x → ib x = true → Bv K d l g 0 H v x
  | _, _, .non, _ => .non
  | _, _, .bl b, _ => .bl b
  | _, _, .int i, h => .int i (by
    simp only [ib] at h
    have := of_decide_eq_true h
    omega)
  | _, _, .str x, _ => .str x
  | _, _, .lst _ _, h => by simp [ib] at h
  | _, _, .tup e al, h => by
    simp only [ib, Bool.and_eq_true] at h
    have n := of_decide_eq_true h.1
    exact .tup e (BvAll.ofDp al h.2) (by rw [DpAll.length al]; omega)
theorem BvAll.ofDp : ∀ {vs : List V} {xs : List PyData}, DpAll K H vs xs → ibAll xs = true → BvAll K d l g 0 H vs xs
  | _, _, .nil, _ => .nil
  | _, _, .cons p q, h => by
    simp only [ibAll, Bool.and_eq_true] at h
    exact .cons (Bv.ofDp p h.1) (BvAll.ofDp q h.2)
end
theorem bvInts : ∀ ns : List Int, (∀ n ∈ ns, n.natAbs ≤ 100) → BvAll K d l g b H (ns.map V.int) (ns.map PyData.int)
  | [], _ => .nil
  | n :: ns, h => .cons (.int n (by have := h n List.mem_cons_self; omega)) (bvInts ns fun m hm => h m (List.mem_cons_of_mem _ hm))
end
/-- odd values -/
inductive Ov (K : PySem.W.Frag) (d l : Addr) (H : Hp) : V → PyData → Prop
  | dat {v : V} {x : PyData} (h : Dp K H v x) (o : only x = true) (sh : Sw x 300 3) (i : ib x = true := by decide +kernel) : Ov K d l H v x
  | obj {a : Addr} {o : HO} {x : PyData} (e : H a = some o) (h : Ob o x) (h1 : a ≠ d) (h2 : a ≠ l) (np : a ≠ sysModules) : Ov K d l H (.ref a) x
  | obd {a : Addr} {o : HO} {x : PyData} (e : H a = some o) (h : Od o x) (h1 : a ≠ d) (h2 : a ≠ l) : Ov K d l H (.ref a) x
theorem Ov.fm {d l : Addr} {n : Nat} {H H' : Hp} (f : Fm d l H H') (D : Deck H d l n) {v : V} {x : PyData} (h : Ov K d l H v x) : Ov K d l H' v x := by
  cases h with
  | dat h o sh i => exact .dat (Dp.kt (f.kt D) h o) o sh i
  | obj e h h1 h2 np => exact .obj (f _ _ h1 h2 e) h h1 h2 np
  | obd e h h1 h2 => exact .obd (f _ _ h1 h2 e) h h1 h2
theorem Ov.same {d l : Addr} {H H' : Hp} (s : Same H H') {v : V} {x : PyData} (h : Ov K d l H v x) : Ov K d l H' v x := by
  cases h with
  | dat h o sh i => exact .dat (Dp.same s h) o sh i
  | obj e h h1 h2 np => exact .obj (s _ _ e) h h1 h2 np
  | obd e h h1 h2 => exact .obd (s _ _ e) h h1 h2
theorem Ov.bv {d l g : Addr} {H : Hp} {v : V} {x : PyData} (h : Ov K d l H v x) (fr : ∀ a, v = .ref a → a ≠ g) : Bv K d l g 0 H v x ∧ Sw x 300 3 := by
  cases h with
  | dat h o sh i => exact ⟨.ofDp h i, sh⟩
  | obj e h h1 h2 np =>
    cases h with
    | l ns hl hb =>
      refine ⟨.lst np e h1 ⟨h2, fr _ rfl⟩ (bvInts ns hb) (by rw [List.length_map]; omega), ?_⟩
      exact (Sw.lst (n := 10) (k := 0) (m := 4) (fun z hz => by
        obtain ⟨i, hi, rfl⟩ := List.mem_map.mp hz
        have := hb i hi
        exact (Sm.int (by unfold sm; omega)).sw) (by rw [List.length_map]; exact hl)).le (by decide) (by decide)
  | obd e h h1 h2 => exact ⟨.dct e h h1 ⟨h2, fr _ rfl⟩, by cases h <;> exact ⟨by decide +kernel, by decide +kernel, by decide +kernel, by decide +kernel⟩⟩
/-! ### how large such data are -/
structure SwB (ds : List PyData) (n k : Nat) : Prop where
  all : ∀ d ∈ ds, d.showable = true ∧ d.depth ≤ k ∧ d.leavesShort 40 = true
  light : PyData.weightAll ds ≤ n
theorem wt_app : ∀ ds es : List PyData, PyData.weightAll (ds ++ es) = PyData.weightAll ds + PyData.weightAll es
  | [], es => by simp [PyData.weightAll]
  | d :: ds, es => by
    have := wt_app ds es
    simp only [List.cons_append, PyData.weightAll]
    omega
theorem wt_rev : ∀ ds : List PyData, PyData.weightAll ds.reverse = PyData.weightAll ds
  | [] => rfl
  | d :: ds => by
    have := wt_rev ds
    rw [List.reverse_cons, wt_app]
    simp only [PyData.weightAll]
    omega
theorem wt_cut (n : Nat) (ds : List PyData) : PyData.weightAll (ds.take n) + PyData.weightAll (ds.drop n) = PyData.weightAll ds := by
  rw [← wt_app, List.take_append_drop]
theorem SwB.of_all {n k : Nat} : ∀ {ds : List PyData}, SwB ds n k → PyData.showableAll ds = true ∧ PyData.depthAll ds ≤ k ∧ PyData.leavesShortAll 40 ds = true
  | [], _ => ⟨rfl, by simp [PyData.depthAll], rfl⟩
  | d :: ds, h => by
    obtain ⟨a, b, c⟩ := h.all d List.mem_cons_self
    obtain ⟨a2, b2, c2⟩ := SwB.of_all (n := PyData.weightAll ds) (k := k) (ds := ds) ⟨fun e he => h.all e (List.mem_cons_of_mem _ he), Nat.le_refl _⟩
    refine ⟨?_, ?_, ?_⟩
    · simp only [PyData.showableAll, a, a2, Bool.and_self]
    · simp only [PyData.depthAll]
      exact Nat.max_le.mpr ⟨b, b2⟩
    · simp only [PyData.leavesShortAll, c, c2, Bool.and_self]
theorem SwB.tup {ds : List PyData} {n k : Nat} (h : SwB ds n k) : Sw (.tuple ds) n (k + 1) := by
  obtain ⟨a, b, c⟩ := h.of_all
  refine ⟨?_, ?_, ?_, ?_⟩
  · simp only [PyData.showable]; exact a
  · simp only [PyData.depth]; omega
  · simp only [PyData.leavesShort]; exact c
  · simp only [PyData.weight]; exact h.light
theorem SwB.lst {ds : List PyData} {n k : Nat} (h : SwB ds n k) : Sw (.list ds) n (k + 1) := by
  obtain ⟨a, b, c⟩ := h.of_all
  refine ⟨?_, ?_, ?_, ?_⟩
  · simp only [PyData.showable]; exact a
  · simp only [PyData.depth]; omega
  · simp only [PyData.leavesShort]; exact c
  · simp only [PyData.weight]; exact h.light
theorem allB {k : Nat} : ∀ {ds : List PyData}, PyData.showableAll ds = true → PyData.depthAll ds ≤ k → PyData.leavesShortAll 40 ds = true → ∀ d ∈ ds, d.showable = true ∧ d.depth ≤ k ∧ d.leavesShort 40 = true
  | [], _, _, _, d, hd => nomatch hd
  | e :: ds, a, b, c, d, hd => by
    simp only [PyData.showableAll, Bool.and_eq_true] at a
    simp only [PyData.depthAll] at b
    simp only [PyData.leavesShortAll, Bool.and_eq_true] at c
    have b := Nat.max_le.mp b
    rcases List.mem_cons.mp hd with rfl | hd
    · exact ⟨a.1, b.1, c.1⟩
    · exact allB a.2 b.2 c.2 d hd
theorem Sw.parts {ds : List PyData} {n k : Nat} (h : Sw (.tuple ds) n k) : SwB ds n k := by
  obtain ⟨a, b, c, w⟩ := h
  simp only [PyData.showable] at a
  simp only [PyData.depth] at b
  simp only [PyData.leavesShort] at c
  simp only [PyData.weight] at w
  exact ⟨allB a (by omega) c, w⟩
theorem SwB.le {ds : List PyData} {n k m j : Nat} (h : SwB ds n k) (hn : n ≤ m) (hk : k ≤ j) : SwB ds m j := ⟨fun d hd => by
  obtain ⟨a, b, c⟩ := h.all d hd
  exact ⟨a, by omega, c⟩, Nat.le_trans h.light hn⟩
theorem SwB.app {ds es : List PyData} {n m k : Nat} (h : SwB ds n k) (g : SwB es m k) : SwB (ds ++ es) (n + m) k := ⟨fun d hd => by
  rcases List.mem_append.mp hd with hd | hd
  · exact h.all d hd
  · exact g.all d hd, by
  have := h.light
  have := g.light
  rw [wt_app]
  omega⟩
theorem SwB.cut {ds : List PyData} {n k : Nat} (i j : Nat) (h : SwB ds n k) : SwB ((ds.drop i).take j) n k := ⟨fun d hd => h.all d (List.mem_of_mem_drop (List.mem_of_mem_take hd)), by
  have := h.light
  have := wt_cut i ds
  have := wt_cut j (ds.drop i)
  omega⟩
theorem SwB.rev {ds : List PyData} {n k : Nat} (h : SwB ds n k) : SwB ds.reverse n k := ⟨fun d hd => h.all d (List.mem_reverse.mp hd), by rw [wt_rev]; exact h.light⟩
theorem SwB.one {d : PyData} {n k : Nat} (h : Sw d n k) : SwB [d] (n + 1) k := ⟨fun e he => by
  rw [List.mem_singleton.mp he]
  exact ⟨h.can, h.deep, h.short⟩, by
  have := h.light
  simp only [PyData.weightAll]
  omega⟩
theorem SwB.get {ds : List PyData} {n k i : Nat} {d : PyData} (h : SwB ds n k) (e : ds[i]? = some d) : Sw d n k := by
  obtain ⟨a, b, c⟩ := h.all d (List.mem_of_getElem? e)
  refine ⟨a, b, c, ?_⟩
  have := h.light
  have w := wt_cut i ds
  obtain ⟨hi, ez⟩ := List.getElem?_eq_some_iff.mp e
  rw [List.drop_eq_getElem_cons hi, ez] at w
  simp only [PyData.weightAll] at w
  omega
theorem sw_intB {i : Int} (h : i.natAbs ≤ 10 ^ 29 + 1000) : Sw (.int i) 200 0 := by
  have h2 : i.natAbs < 10 ^ 30 := Nat.lt_of_le_of_lt h (by decide)
  have e := PySem.int_text_length_le10 (k := 30) (by decide) h2
  have lg : i.natAbs.log2 < 110 := PySem.Flt.log2_lt_of (by decide) (Nat.lt_of_lt_of_le h2 (by decide))
  refine ⟨?_, by simp [PyData.depth], ?_, ?_⟩
  · simp only [PyData.showable]
    exact decide_eq_true (by omega)
  · simp only [PyData.leavesShort]
    refine decide_eq_true ?_
    show (Str.ofString (toString i)).length ≤ 40
    rw [PySem.ofString_length]
    exact Nat.le_trans e (by decide)
  · simp only [PyData.weight]
    split <;> omega
theorem Same.put {H H' : Hp} {a : Addr} {o : HO} (s : Same H H') (n : H a = none) : Same H (upd H' a o) := fun b u e => by
  rw [upd_ne (ne_of_none e n)]
  exact s b u e
theorem Same.none {H H' : Hp} {a : Addr} (s : Same H H') (n : H' a = none) : H a = none := by
  cases e : H a with
  | none => rfl
  | some o => rw [s _ _ e] at n; cases n
def spLOdd (K : PySem.W.Frag) : Sp := fun vs H Q _ => ∃ (d l : Addr) (n : Nat), vs = [.ref d] ∧ Deck H d l n ∧ n < 900000 ∧
  ∀ H' v x, Fm d l H H' → Deck H' d l (n + 1) → Ov K d l H' v x → (∀ a, v = .ref a → H a = none) → Q v H'
theorem ok_LOdd {f : Addr} {fd : FuncData} (F : Fun K "_law_odd" "_law_odd" sLOdd f fd) (oLDraw : Own P w K mg base "_law_draw" 1 ["_law_deck_here", "_law_many"] spLDraw) :
    FnOk P w K mg base CX0 2 f fd ["_law_deck_here"] (spLOdd K) := by
  refine F.ok scLOdd (fun vs H Q E h => ?_) (fun cdv A outer s H vs Q E hr h => ?_)
  · obtain ⟨d, l, n, rfl, _⟩ := h
    rfl
  · obtain ⟨d, l, n, rfl, hD, hn, q⟩ := h
    refine ⟨_, (pss_cons (ps_set (i := 1) scLOdd.nd rfl (.inl rfl) (pe_lst (pa_cons pe_non (pa_cons pe_bl (pa_cons pe_bl (pa_cons (pe_un un_neg pe_int) (pa_cons pe_int (pa_cons pe_int (pa_cons (pe_op op_pow pe_int pe_int) (pa_cons pe_str (pa_cons pe_str (pa_cons (pe_tup pa_nil) (pa_cons (pe_lstS pa_nil) (pa_cons pe_dnewK (pa_cons (pe_tup (pa_cons pe_int pa_nil)) (pa_cons (pe_tup (pa_cons pe_int (pa_cons pe_int pa_nil))) (pa_cons (pe_tup (pa_cons pe_int (pa_cons pe_int (pa_cons pe_int pa_nil)))) (pa_cons (pe_tup (pa_cons (pe_tup (pa_cons pe_int (pa_cons pe_int pa_nil))) pa_nil)) pa_nil))))))))))))))))))
    (pss_one (ps_ret (pe_ix (ixLK K) (pe_op op_cat (pv 1) (pe_lst (pa_cons (pe_tup (pa_cons pe_int (pa_cons pe_bl pa_nil))) pa_nil))) (pe_own oLDraw (hr.mono (by decide)) (by rfl) (pa_cons (pv 0) (pa_cons pe_int pa_nil))) (fun _ _ => rfl))))), ?_⟩
    refine ⟨_, rfl, ?_⟩
    refine ⟨10, 20, rfl, rfl, ⟨by decide, by decide, by decide⟩, ?_⟩
    refine ⟨Nat.zero_le _, fun a1 n1 => ?_⟩
    have s1 := same_upd (o := .tup []) n1
    have e1 := same_at (o := .tup []) n1
    have o1 := hD.off n1
    have D1 := hD.same s1
    generalize upd H a1 (.tup []) = J1 at s1 e1 D1 ⊢
    refine ⟨Nat.zero_le _, fun a2 n2 p2 => ?_⟩
    have s2 := same_upd (o := .lst []) n2
    have e2 := same_at (o := .lst []) n2
    have o2 := D1.off n2
    have D2 := D1.same s2
    generalize upd J1 a2 (.lst []) = J2 at s2 e2 D2 ⊢
    intro a3 n3
    have s3 := same_upd (o := .dK []) n3
    have e3 := same_at (o := .dK []) n3
    have o3 := D2.off n3
    have D3 := D2.same s3
    generalize upd J2 a3 (.dK []) = J3 at s3 e3 D3 ⊢
    refine ⟨by show 1 ≤ sizeLine; decide, fun a4 n4 => ?_⟩
    have s4 := same_upd (o := .tup [V.int 0]) n4
    have e4 := same_at (o := .tup [V.int 0]) n4
    have o4 := D3.off n4
    have D4 := D3.same s4
    generalize upd J3 a4 (.tup [V.int 0]) = J4 at s4 e4 D4 ⊢
    refine ⟨by show 2 ≤ sizeLine; decide, fun a5 n5 => ?_⟩
    have s5 := same_upd (o := .tup [V.int 1, V.int 0]) n5
    have e5 := same_at (o := .tup [V.int 1, V.int 0]) n5
    have o5 := D4.off n5
    have D5 := D4.same s5
    generalize upd J4 a5 (.tup [V.int 1, V.int 0]) = J5 at s5 e5 D5 ⊢
    refine ⟨by show 3 ≤ sizeLine; decide, fun a6 n6 => ?_⟩
    have s6 := same_upd (o := .tup [V.int 0, V.int 1, V.int 2]) n6
    have e6 := same_at (o := .tup [V.int 0, V.int 1, V.int 2]) n6
    have o6 := D5.off n6
    have D6 := D5.same s6
    generalize upd J5 a6 (.tup [V.int 0, V.int 1, V.int 2]) = J6 at s6 e6 D6 ⊢
    refine ⟨by show 2 ≤ sizeLine; decide, fun a7 n7 => ?_⟩
    have s7 := same_upd (o := .tup [V.int 0, V.int 1]) n7
    have e7 := same_at (o := .tup [V.int 0, V.int 1]) n7
    have o7 := D6.off n7
    have D7 := D6.same s7
    generalize upd J6 a7 (.tup [V.int 0, V.int 1]) = J7 at s7 e7 D7 ⊢
    refine ⟨by show 1 ≤ sizeLine; decide, fun a8 n8 => ?_⟩
    have s8 := same_upd (o := .tup [V.ref a7]) n8
    have e8 := same_at (o := .tup [V.ref a7]) n8
    have o8 := D7.off n8
    have D8 := D7.same s8
    generalize upd J7 a8 (.tup [V.ref a7]) = J8 at s8 e8 D8 ⊢
    refine ⟨by show 16 ≤ sizeLine; decide, fun a9 n9 => ?_⟩
    have s9 := same_upd (o := .lst [V.non, V.bl true, V.bl false, V.int (-1), V.int 12, V.int 13, V.int ((10 : Int) ^ (20 : Int).toNat), V.str "", V.str "0-1", V.ref a1, V.ref a2, V.ref a3, V.ref a4, V.ref a5, V.ref a6, V.ref a8]) n9
    have e9 := same_at (o := .lst [V.non, V.bl true, V.bl false, V.int (-1), V.int 12, V.int 13, V.int ((10 : Int) ^ (20 : Int).toNat), V.str "", V.str "0-1", V.ref a1, V.ref a2, V.ref a3, V.ref a4, V.ref a5, V.ref a6, V.ref a8]) n9
    have o9 := D8.off n9
    have D9 := D8.same s9
    generalize upd J8 a9 (.lst [V.non, V.bl true, V.bl false, V.int (-1), V.int 12, V.int 13, V.int ((10 : Int) ^ (20 : Int).toNat), V.str "", V.str "0-1", V.ref a1, V.ref a2, V.ref a3, V.ref a4, V.ref a5, V.ref a6, V.ref a8]) = J9 at s9 e9 D9 ⊢
    refine ⟨.ref a9, rfl, ?_⟩
    refine ⟨by show 2 ≤ sizeLine; decide, fun a10 n10 => ?_⟩
    have s10 := same_upd (o := .tup [V.int 0, V.bl true]) n10
    have e10 := same_at (o := .tup [V.int 0, V.bl true]) n10
    have o10 := D9.off n10
    have D10 := D9.same s10
    generalize upd J9 a10 (.tup [V.int 0, V.bl true]) = J10 at s10 e10 D10 ⊢
    refine ⟨by show 1 ≤ sizeLine; decide, fun a11 n11 => ?_⟩
    have s11 := same_upd (o := .lst [V.ref a10]) n11
    have e11 := same_at (o := .lst [V.ref a10]) n11
    have o11 := D10.off n11
    have D11 := D10.same s11
    generalize upd J10 a11 (.lst [V.ref a10]) = J11 at s11 e11 D11 ⊢
    refine ⟨a9, a11, _, _, rfl, rfl, ((s10.trans s11) _ _ e9), e11, by show 16 + 1 ≤ sizeLine; decide, fun L nL => ?_⟩
    have sL := same_upd (o := .lst ([V.non, V.bl true, V.bl false, V.int (-1), V.int 12, V.int 13, V.int ((10 : Int) ^ (20 : Int).toNat), V.str "", V.str "0-1", V.ref a1, V.ref a2, V.ref a3, V.ref a4, V.ref a5, V.ref a6, V.ref a8] ++ [V.ref a10])) nL
    have eL := same_at (o := .lst ([V.non, V.bl true, V.bl false, V.int (-1), V.int 12, V.int 13, V.int ((10 : Int) ^ (20 : Int).toNat), V.str "", V.str "0-1", V.ref a1, V.ref a2, V.ref a3, V.ref a4, V.ref a5, V.ref a6, V.ref a8] ++ [V.ref a10])) nL
    have oL := D11.off nL
    have all : ∀ v ∈ ([V.non, V.bl true, V.bl false, V.int (-1), V.int 12, V.int 13, V.int ((10 : Int) ^ (20 : Int).toNat), V.str "", V.str "0-1", V.ref a1, V.ref a2, V.ref a3, V.ref a4, V.ref a5, V.ref a6, V.ref a8] ++ [V.ref a10]), ∃ x, Ov K d l J11 v x ∧ ∀ a, v = .ref a → H a = none := by
      intro v hv
      rcases List.mem_append.mp hv with hv | hv
      · rcases List.mem_cons.mp hv with rfl | hv
        · exact ⟨_, .dat .non (by decide) (Sm.none.sw.le (by decide) (by decide)), (fun a z => nomatch z)⟩
        rcases List.mem_cons.mp hv with rfl | hv
        · exact ⟨_, .dat (.bl _) (by decide) ((Sm.bool _).sw.le (by decide) (by decide)), (fun a z => nomatch z)⟩
        rcases List.mem_cons.mp hv with rfl | hv
        · exact ⟨_, .dat (.bl _) (by decide) ((Sm.bool _).sw.le (by decide) (by decide)), (fun a z => nomatch z)⟩
        rcases List.mem_cons.mp hv with rfl | hv
        · exact ⟨_, .dat (.int _) (by decide) ((sw_big (by decide)).le (by decide) (by decide)), (fun a z => nomatch z)⟩
        rcases List.mem_cons.mp hv with rfl | hv
        · exact ⟨_, .dat (.int _) (by decide) ((sw_big (by decide)).le (by decide) (by decide)), (fun a z => nomatch z)⟩
        rcases List.mem_cons.mp hv with rfl | hv
        · exact ⟨_, .dat (.int _) (by decide) ((sw_big (by decide)).le (by decide) (by decide)), (fun a z => nomatch z)⟩
        rcases List.mem_cons.mp hv with rfl | hv
        · exact ⟨_, .dat (.int _) (by simp [only]) ((sw_big (by decide +kernel)).le (by decide) (by decide)), (fun a z => nomatch z)⟩
        rcases List.mem_cons.mp hv with rfl | hv
        · exact ⟨_, .dat (.str _) (by decide) ⟨by decide +kernel, by decide +kernel, by decide +kernel, by decide +kernel⟩, (fun a z => nomatch z)⟩
        rcases List.mem_cons.mp hv with rfl | hv
        · exact ⟨_, .dat (.str _) (by decide) ⟨by decide +kernel, by decide +kernel, by decide +kernel, by decide +kernel⟩, (fun a z => nomatch z)⟩
        rcases List.mem_cons.mp hv with rfl | hv
        · exact ⟨_, .dat (.tup (SqT.of ((((((((((s2.trans s3).trans s4).trans s5).trans s6).trans s7).trans s8).trans s9).trans s10).trans s11) _ _ e1)) .nil) (by decide) ⟨by decide +kernel, by decide +kernel, by decide +kernel, by decide +kernel⟩, fun a z => by cases z; exact n1⟩
        rcases List.mem_cons.mp hv with rfl | hv
        · exact ⟨_, .obj (((((((((s3.trans s4).trans s5).trans s6).trans s7).trans s8).trans s9).trans s10).trans s11) _ _ e2) (.l [] (by decide) (by decide)) o2.1 o2.2 p2, fun a z => by cases z; exact Same.none s1 n2⟩
        rcases List.mem_cons.mp hv with rfl | hv
        · exact ⟨_, .obd ((((((((s4.trans s5).trans s6).trans s7).trans s8).trans s9).trans s10).trans s11) _ _ e3) .d0 o3.1 o3.2, fun a z => by cases z; exact Same.none (s1.trans s2) n3⟩
        rcases List.mem_cons.mp hv with rfl | hv
        · exact ⟨_, .dat (.tup (SqT.of (((((((s5.trans s6).trans s7).trans s8).trans s9).trans s10).trans s11) _ _ e4)) (.cons (.int _) .nil)) (by decide) ⟨by decide +kernel, by decide +kernel, by decide +kernel, by decide +kernel⟩, fun a z => by cases z; exact Same.none ((s1.trans s2).trans s3) n4⟩
        rcases List.mem_cons.mp hv with rfl | hv
        · exact ⟨_, .dat (.tup (SqT.of ((((((s6.trans s7).trans s8).trans s9).trans s10).trans s11) _ _ e5)) (.cons (.int _) (.cons (.int _) .nil))) (by decide) ⟨by decide +kernel, by decide +kernel, by decide +kernel, by decide +kernel⟩, fun a z => by cases z; exact Same.none (((s1.trans s2).trans s3).trans s4) n5⟩
        rcases List.mem_cons.mp hv with rfl | hv
        · exact ⟨_, .dat (.tup (SqT.of (((((s7.trans s8).trans s9).trans s10).trans s11) _ _ e6)) (.cons (.int _) (.cons (.int _) (.cons (.int _) .nil)))) (by decide) ⟨by decide +kernel, by decide +kernel, by decide +kernel, by decide +kernel⟩, fun a z => by cases z; exact Same.none ((((s1.trans s2).trans s3).trans s4).trans s5) n6⟩
        · rw [List.mem_singleton.mp hv]
          exact ⟨_, .dat (.tup (SqT.of (((s9.trans s10).trans s11) _ _ e8)) (.cons (.tup (SqT.of ((((s8.trans s9).trans s10).trans s11) _ _ e7)) (.cons (.int _) (.cons (.int _) .nil))) .nil)) (by decide) ⟨by decide +kernel, by decide +kernel, by decide +kernel, by decide +kernel⟩, fun a z => by cases z; exact Same.none ((((((s1.trans s2).trans s3).trans s4).trans s5).trans s6).trans s7) n8⟩
      · · rw [List.mem_singleton.mp hv]
          exact ⟨_, .dat (.tup (SqT.of (s11 _ _ e10)) (.cons (.int _) (.cons (.bl _) .nil))) (by decide) ⟨by decide +kernel, by decide +kernel, by decide +kernel, by decide +kernel⟩, fun a z => by cases z; exact Same.none ((((((((s1.trans s2).trans s3).trans s4).trans s5).trans s6).trans s7).trans s8).trans s9) n10⟩
    have sH : Same H J11 := ((((((((((s1.trans s2).trans s3).trans s4).trans s5).trans s6).trans s7).trans s8).trans s9).trans s10).trans s11)
    have lL : ([V.non, V.bl true, V.bl false, V.int (-1), V.int 12, V.int 13, V.int ((10 : Int) ^ (20 : Int).toNat), V.str "", V.str "0-1", V.ref a1, V.ref a2, V.ref a3, V.ref a4, V.ref a5, V.ref a6, V.ref a8] ++ [V.ref a10]).length = 17 := rfl
    have D12 := D11.same sL
    generalize [V.non, V.bl true, V.bl false, V.int (-1), V.int 12, V.int 13, V.int ((10 : Int) ^ (20 : Int).toNat), V.str "", V.str "0-1", V.ref a1, V.ref a2, V.ref a3, V.ref a4, V.ref a5, V.ref a6, V.ref a8] ++ [V.ref a10] = xs at sL eL all lL D12 ⊢
    generalize upd J11 L (.lst xs) = J12 at sL eL D12 ⊢
    refine ⟨.ref d, rfl, d, l, n, 17, rfl, by decide, by decide, D12, by omega, fun H8 x x0 x1 f8 D8 => ?_⟩
    have hx : x.toNat < xs.length := by omega
    obtain ⟨y, oy, fr⟩ := all _ (List.getElem_mem hx)
    exact ⟨L, xs, x, xs[x.toNat], rfl, rfl, SqL.of (f8 _ _ oL.1 oL.2 eL), at_of (j := x.toNat) (by omega) (List.getElem?_eq_getElem hx), q _ _ y ((Same.fm (sH.trans sL)).trans f8) D8 ((oy.same sL).fm f8 D12) fr⟩
/-! ### changed forests -/
theorem catV {H : Hp} {a b : Addr} {xs ys : List V} {Q : VK} (hx : SqT K H a xs) (hy : SqT K H b ys) (hl : xs.length + ys.length ≤ 900) (q : ∀ H' z, Same H H' → SqT K H' z (xs ++ ys) → Q (.ref z) H') : rCatA K (.ref a) (.ref b) H Q := by
  refine ⟨a, b, xs, ys, rfl, rfl, hx, hy, Nat.le_of_lt (small1000 (by omega)), fun e => ?_, fun _ e => ?_, fun _ _ p np => ?_⟩
  · subst e
    exact q H b (Same.refl H) hy
  · subst e
    rw [List.append_nil] at q
    exact q H a (Same.refl H) hx
  · exact q _ p (same_upd np) (SqT.of upd_same)
/-- a value of a known size -/
def Gx (K : PySem.W.Frag) (d l g : Addr) (N k : Nat) (H : Hp) (v : V) : Prop := ∃ x, Bv K d l g 20 H v x ∧ Sw x N k
section
variable {d l g : Addr} {N k M j : Nat} {H H' : Hp} {v : V}
theorem Gx.same (s : Same H H') (h : Gx K d l g N k H v) : Gx K d l g N k H' v := h.imp fun _ z => ⟨z.1.same s, z.2⟩
theorem Gx.fm {n : Nat} (f : Fm d l H H') (D : Deck H d l n) (h : Gx K d l g N k H v) : Gx K d l g N k H' v := h.imp fun _ z => ⟨z.1.fm f D, z.2⟩
theorem Gx.le (h : Gx K d l g N k H v) (hN : N ≤ M) (hk : k ≤ j) : Gx K d l g M j H v := h.imp fun _ z => ⟨z.1, z.2.le hN hk⟩
theorem Ov.gx {x : PyData} (h : Ov K d l H v x) (fr : ∀ a, v = .ref a → a ≠ g) : Gx K d l g 300 3 H v := ⟨x, (h.bv fr).1.le (by decide), (h.bv fr).2⟩
theorem Gx.int {i : Int} (h : i.natAbs ≤ 1000) : Gx K d l g 300 3 H (.int i) := ⟨_, .int i (by omega), (sw_intB (by omega)).le (by decide) (by decide)⟩
theorem Gx.tup1 {a : Addr} {u : V} (e : SqT K H a [u]) (h : Gx K d l g N k H u) : Gx K d l g (N + 1) (k + 1) H (.ref a) := by
  obtain ⟨x, b, s⟩ := h
  exact ⟨_, .tup e (.cons b .nil) (by show 1 ≤ 40; decide), (SwB.one s).tup⟩
theorem Gx.tup2 {a : Addr} {u w : V} (e : SqT K H a [u, w]) (h : Gx K d l g N k H u) (g2 : Gx K d l g M k H w) : Gx K d l g (N + 1 + (M + 1)) (k + 1) H (.ref a) := by
  obtain ⟨x, b, s⟩ := h
  obtain ⟨y, c, t⟩ := g2
  exact ⟨_, .tup e (.cons b (.cons c .nil)) (by show 2 ≤ 40; decide), ((SwB.one s).app (SwB.one t)).tup⟩
theorem Gx.lst2 {a : Addr} {u w : V} (np : a ≠ sysModules) (e : H a = some (.lst [u, w])) (h1 : a ≠ d) (h2 : a ≠ l ∧ a ≠ g) (h : Gx K d l g N k H u) (g2 : Gx K d l g M k H w) : Gx K d l g (N + 1 + (M + 1)) (k + 1) H (.ref a) := by
  obtain ⟨x, b, s⟩ := h
  obtain ⟨y, c, t⟩ := g2
  exact ⟨_, .lst np e h1 h2 (.cons b (.cons c .nil)) (by show 2 ≤ 40; decide), ((SwB.one s).app (SwB.one t)).lst⟩
/-- items of a known size -/
def Ga (K : PySem.W.Frag) (d l g : Addr) (N k : Nat) (H : Hp) (vs : List V) : Prop := ∃ xs, BvAll K d l g 20 H vs xs ∧ SwB xs N k
theorem Ga.same {vs : List V} (s : Same H H') (h : Ga K d l g N k H vs) : Ga K d l g N k H' vs := h.imp fun _ z => ⟨z.1.same s, z.2⟩
theorem Ga.fm {n : Nat} {vs : List V} (f : Fm d l H H') (D : Deck H d l n) (h : Ga K d l g N k H vs) : Ga K d l g N k H' vs := h.imp fun _ z => ⟨z.1.fm f D, z.2⟩
theorem Ga.le {vs : List V} (h : Ga K d l g N k H vs) (hN : N ≤ M) (hk : k ≤ j) : Ga K d l g M j H vs := h.imp fun _ z => ⟨z.1, z.2.le hN hk⟩
theorem Ga.app {vs us : List V} (h : Ga K d l g N k H vs) (g2 : Ga K d l g M k H us) : Ga K d l g (N + M) k H (vs ++ us) := by
  obtain ⟨x, b, s⟩ := h
  obtain ⟨y, c, t⟩ := g2
  exact ⟨_, b.append c, s.app t⟩
theorem Ga.one {u : V} (h : Gx K d l g N k H u) : Ga K d l g (N + 1) k H [u] := by
  obtain ⟨x, b, s⟩ := h
  exact ⟨_, .cons b .nil, SwB.one s⟩
theorem Ga.cut {vs : List V} (i j : Nat) (h : Ga K d l g N k H vs) : Ga K d l g N k H ((vs.drop i).take j) := by
  obtain ⟨x, b, s⟩ := h
  exact ⟨_, (b.drop i).take j, s.cut i j⟩
theorem Ga.rev {vs : List V} (h : Ga K d l g N k H vs) : Ga K d l g N k H vs.reverse := by
  obtain ⟨x, b, s⟩ := h
  exact ⟨_, b.rev, s.rev⟩
theorem Ga.tup {a : Addr} {vs : List V} (e : SqT K H a vs) (h : Ga K d l g N k H vs) (len : vs.length ≤ 40) : Gx K d l g N (k + 1) H (.ref a) := by
  obtain ⟨x, b, s⟩ := h
  exact ⟨_, .tup e b len, s.tup⟩
theorem Ga.lst {a : Addr} {vs : List V} (np : a ≠ sysModules) (e : H a = some (.lst vs)) (h1 : a ≠ d) (h2 : a ≠ l ∧ a ≠ g) (h : Ga K d l g N k H vs) (len : vs.length ≤ 40) : Gx K d l g N (k + 1) H (.ref a) := by
  obtain ⟨x, b, s⟩ := h
  exact ⟨_, .lst np e h1 h2 b len, s.lst⟩
theorem Ga.get {vs : List V} {i : Nat} (h : Ga K d l g N k H vs) (e : vs[i]? = some v) : Gx K d l g N k H v := by
  obtain ⟨x, b, s⟩ := h
  obtain ⟨y, hy, by_⟩ := b.get e
  exact ⟨_, by_, s.get hy⟩
end
def okP (p : Int × Int) : Prop := (0 ≤ p.1 ∧ p.1 ≤ 20) ∧ 0 ≤ p.2 ∧ p.2 ≤ 20
theorem bvPr {d l g : Addr} {b : Nat} {H : Hp} {t : Addr} {p : Int × Int} (h : SqT K H t [.int p.1, .int p.2]) (o : okP p) : Bv K d l g b H (.ref t) (prD p) := by
  unfold okP at o
  exact .tup h (.cons (.int _ (by omega)) (.cons (.int _ (by omega)) .nil)) (by show 2 ≤ 20 + b; omega)
theorem swPr {p : Int × Int} (o : okP p) : Sw (prD p) 22 1 := by
  unfold okP at o
  exact Sw.tup (n := 10) (k := 0) (m := 2) (fun z hz => by
    rcases List.mem_cons.mp hz with rfl | hz
    · exact (Sm.int (by unfold sm; omega)).sw
    · rw [List.mem_singleton.mp hz]
      exact (Sm.int (by unfold sm; omega)).sw) (Nat.le_refl _)
theorem gaPrs {d l g : Addr} {H : Hp} : ∀ {ps : List (Int × Int)} {vs : List V}, DpAll K H vs (ps.map prD) → (∀ p ∈ ps, okP p) → Ga K d l g (23 * ps.length) 1 H vs
  | [], _, h, _ => by
    cases h
    exact ⟨[], .nil, ⟨fun _ z => (nomatch z), by simp [PyData.weightAll]⟩⟩
  | p :: ps, _, h, o => by
    cases h with
    | @cons v vs _ _ h1 h2 =>
      obtain ⟨t, rfl, ht⟩ := Dp.prI h1
      have g2 := gaPrs (d := d) (l := l) (g := g) h2 fun q hq => o q (List.mem_cons_of_mem _ hq)
      have g1 : Ga K d l g (22 + 1) 1 H [.ref t] := Ga.one ⟨_, bvPr ht (o p List.mem_cons_self), swPr (o p List.mem_cons_self)⟩
      exact (g1.app g2).le (by rw [List.length_cons]; omega) (Nat.le_refl _)
theorem rows_of {H : Hp} : ∀ {ys : List V} {bs : List (List Int)}, DpAll K H ys (bs.map intsD) → ∃ ks : List (Addr × List Int), ys = ks.map (fun p => V.ref p.1) ∧ ks.map (·.2) = bs ∧ ∀ p ∈ ks, SqT K H p.1 (p.2.map V.int)
  | [], [], _ => ⟨[], rfl, rfl, fun _ z => nomatch z⟩
  | _ :: _, b :: bs, .cons h a => by
    obtain ⟨c, rfl, hc⟩ := Dp.intsI h
    obtain ⟨ks, e1, e2, h3⟩ := rows_of a
    refine ⟨(c, b) :: ks, by rw [List.map_cons, e1], by rw [List.map_cons, e2], fun p hp => ?_⟩
    rcases List.mem_cons.mp hp with z | z
    · rw [z]; exact hc
    · exact h3 p z
theorem nd_len {α : Type} [DecidableEq α] : ∀ {l D : List α}, l.Nodup → (∀ x ∈ l, x ∈ D) → l.length ≤ D.length
  | [], _, _, _ => Nat.zero_le _
  | a :: l, D, nd, s => by
    obtain ⟨na, nd⟩ := List.nodup_cons.mp nd
    have ha := s a List.mem_cons_self
    have ih := nd_len (D := D.erase a) nd fun x hx => (List.mem_erase_of_ne (fun z : x = a => na (by rw [← z]; exact hx))).mpr (s x (List.mem_cons_of_mem _ hx))
    rw [List.length_erase_of_mem ha] at ih
    have : 0 < D.length := List.length_pos_of_mem ha
    rw [List.length_cons]
    omega
def rw2 (p : Int × Int) : List Int := [p.1, p.2]
theorem of_rows : ∀ {R : List (List Int)} {E : List (Int × Int)}, (∀ r ∈ R, r ∈ E.map rw2) → ∃ ps : List (Int × Int), R = ps.map rw2 ∧ ∀ p ∈ ps, p ∈ E
  | [], _, _ => ⟨[], rfl, fun _ h => nomatch h⟩
  | r :: R, E, h => by
    obtain ⟨p, hp, rfl⟩ := List.mem_map.mp (h r List.mem_cons_self)
    obtain ⟨ps, rfl, hps⟩ := of_rows fun r hr => h r (List.mem_cons_of_mem _ hr)
    refine ⟨p :: ps, rfl, fun q hq => ?_⟩
    rcases List.mem_cons.mp hq with rfl | hq
    · exact hp
    · exact hps q hq
theorem Gx.pr {d l g : Addr} {H : Hp} {t : Addr} {a b : Int} (h : SqT K H t [.int a, .int b]) (ha : 0 ≤ a ∧ a ≤ 20) (hb : 0 ≤ b ∧ b ≤ 20) : Gx K d l g 300 3 H (.ref t) :=
  ⟨_, bvPr (p := (a, b)) h ⟨ha, hb⟩, (swPr (p := (a, b)) ⟨ha, hb⟩).le (by decide) (by decide)⟩
end
end TL
namespace TL
open PySem PySem.Spec PyProof.Rows L2
section
variable {P : Program} {w : World} {K : PySem.W.Frag} {mg : Str → Option Value} {base : Heap}
/-! ### the program: errors of forests, values of any kind -/
/-- how an item looks -/
inductive Iw (K : PySem.W.Frag) (H : Hp) : V → Option (V × V) → Prop
  | no {v : V} {t : Value} (h : TyX K H v t) (k : PySem.W.kitOne K t (.type "tuple") = some false) : Iw K H v none
  | len {a : Addr} {xs : List V} (h : SqT K H a xs) (l : xs.length ≠ 2) : Iw K H (.ref a) none
  | two {a : Addr} {u v : V} (h : SqT K H a [u, v]) (ku : Kd K H u) (kv : Kd K H v) : Iw K H (.ref a) (some (u, v))
theorem Iw.same {H H' : Hp} (s : Same H H') {v : V} {o : Option (V × V)} (h : Iw K H v o) : Iw K H' v o := by
  cases h with
  | no h k => exact .no (tyX_same s h) k
  | len h l => exact .len (Same.tup s h) l
  | two h ku kv => exact .two (Same.tup s h) (ku.same s) (kv.same s)
def prV : Option (V × V) → Option (Int × Int)
  | some (.int a, .int b) => some (a, b)
  | _ => none
theorem prV_some {o : Option (V × V)} {p : Int × Int} (h : prV o = some p) : o = some (.int p.1, .int p.2) := by
  unfold prV at h
  split at h
  · cases h; rfl
  · cases h
def spIsPair (K : PySem.W.Frag) : Sp := fun vs H Q _ => ∃ (z : V) (o : Option (V × V)), vs = [z] ∧ Iw K H z o ∧ Q (.bl o.isSome) H
theorem ok_IsPair {f : Addr} {fd : FuncData} {k : Nat} (F : Fun K "is_pair" "is_pair" sIsPair f fd) (m_isinstance : mg "isinstance" = none) (m_tuple : mg "tuple" = none) (m_len : mg "len" = none) :
    FnOk P w K mg base CX0 (k + 1) f fd ["value"] (spIsPair K) := by
  refine F.ok scIsPair (fun vs H Q E h => ?_) (fun cdv A outer s H vs Q E hr h => ?_)
  · obtain ⟨z, o, rfl, _⟩ := h
    rfl
  · obtain ⟨z, o, rfl, hz, q⟩ := h
    refine ⟨_, (pss_one (ps_ret (pe_and (pe_callB (isiK K) (by rfl) m_isinstance (by decide +kernel) (pa_cons (pv 0) (pa_cons (pe_bltn (v := .ty "tuple") (by rfl) m_tuple (by decide +kernel) rfl) pa_nil))) (pe_one (pe_cmpR op_eq (pe_callB (lenK K) (by rfl) m_len (by decide +kernel) (pa_cons (pv 0) pa_nil)) pe_int (nomark _)))))), ?_⟩
    cases hz with
    | no h k => exact ⟨z, rfl, _, _, _, _, false, rfl, .ty "tuple", h, k, false, rfl, iteF q⟩
    | @len a xs h l =>
      refine ⟨.ref a, rfl, _, _, _, _, true, rfl, .ty "tuple", ty_tup h, kit_ty (by decide +kernel), true, rfl, iteT ?_⟩
      refine ⟨.ref a, rfl, a, _, rfl, .inr h, rfl, ?_⟩
      rw [decide_eq_false (by intro z; exact l (by injection z with z; omega))]
      exact q
    | @two a u v h ku kv =>
      refine ⟨.ref a, rfl, _, _, _, _, true, rfl, .ty "tuple", ty_tup h, kit_ty (by decide +kernel), true, rfl, iteT ?_⟩
      exact ⟨.ref a, rfl, a, _, rfl, .inr h, rfl, q⟩
/-- a list of items -/
inductive Iws (K : PySem.W.Frag) (H : Hp) : List V → List (Option (V × V)) → Prop
  | nil : Iws K H [] []
  | cons {v : V} {vs : List V} {o : Option (V × V)} {os : List (Option (V × V))} (h : Iw K H v o) (t : Iws K H vs os) : Iws K H (v :: vs) (o :: os)
theorem Iws.same {H H' : Hp} (s : Same H H') : ∀ {vs : List V} {os : List (Option (V × V))}, Iws K H vs os → Iws K H' vs os
  | _, _, .nil => .nil
  | _, _, .cons h t => .cons (h.same s) (t.same s)
theorem Iws.drop {H : Hp} : ∀ {vs : List V} {os : List (Option (V × V))} (i : Nat) {v : V}, Iws K H vs os → vs[i]? = some v → ∃ o, os.drop i = o :: os.drop (i + 1) ∧ Iw K H v o
  | _, _, i, _, .nil, h => by cases i <;> cases h
  | _, _, 0, _, .cons h t, e => by cases e; exact ⟨_, rfl, h⟩
  | _, _, i + 1, _, .cons h t, e => by
    obtain ⟨o, h1, h2⟩ := Iws.drop i t e
    exact ⟨o, h1, h2⟩
theorem Iws.len {H : Hp} : ∀ {vs : List V} {os : List (Option (V × V))}, Iws K H vs os → vs.length = os.length
  | _, _, .nil => rfl
  | _, _, .cons _ t => congrArg (· + 1) t.len
/-- how the slides look -/
inductive Sv (K : PySem.W.Frag) (H : Hp) : V → Option (List (Option (V × V))) → Prop
  | no {v : V} {t : Value} (h : TyX K H v t) (k : PySem.W.kitOne K t (.type "tuple") = some false) : Sv K H v none
  | yes {a : Addr} {xs : List V} {os : List (Option (V × V))} (h : SqT K H a xs) (i : Iws K H xs os) (l : xs.length ≤ 400) : Sv K H (.ref a) (some os)
theorem Sv.same {H H' : Hp} (s : Same H H') {v : V} {o : Option (List (Option (V × V)))} (h : Sv K H v o) : Sv K H' v o := by
  cases h with
  | no h k => exact .no (tyX_same s h) k
  | yes h i l => exact .yes (Same.tup s h) (i.same s) l
def vx (m : Nat) : V → Bool
  | .int i => decide (0 ≤ i ∧ i < (m : Int))
  | _ => false
def spIsVertex (K : PySem.W.Frag) : Sp := fun vs H Q _ => ∃ (n : Nat) (v : V), vs = [.int (n : Int), v] ∧ Kd K H v ∧ Q (.bl (vx n v)) H
theorem ok_IsVertex {f : Addr} {fd : FuncData} (F : Fun K "is_vertex" "is_vertex" sIsVertex f fd) (oIsNumber : Own P w K mg base "is_number" 1 ["value"] (spIsNumber K)) :
    FnOk P w K mg base CX0 2 f fd ["n", "value"] (spIsVertex K) := by
  refine F.ok scIsVertex (fun vs H Q E h => ?_) (fun cdv A outer s H vs Q E hr h => ?_)
  · obtain ⟨n, v, rfl, _⟩ := h
    rfl
  · obtain ⟨n, v, rfl, kd, q⟩ := h
    refine ⟨_, (pss_one (ps_ret (pe_and (pe_own oIsNumber (hr.mono (by decide)) (by rfl) (pa_cons (pv 1) pa_nil)) (pe_one (pe_chain op_le op_lt pe_int (pv 1) (pv 0)))))), ?_⟩
    refine ⟨v, rfl, v, rfl, kd, isN v, rfl, ?_⟩
    cases v with
    | int v =>
      refine iteT ?_
      refine ⟨.int v, rfl, _, _, rfl, rfl, _, rfl, ite2 (fun h => ?_) (fun h => ?_)⟩
      · have h := of_decide_eq_true h
        refine ⟨.int n, rfl, _, _, rfl, rfl, ?_⟩
        have e : vx n (.int v) = decide (v < (n : Int)) := by
          show decide (0 ≤ v ∧ v < (n : Int)) = _
          by_cases h2 : v < (n : Int)
          · rw [decide_eq_true h2, decide_eq_true (show 0 ≤ v ∧ v < (n : Int) from ⟨h, h2⟩)]
          · rw [decide_eq_false h2, decide_eq_false (show ¬ (0 ≤ v ∧ v < (n : Int)) from fun z => h2 z.2)]
        rw [e] at q
        exact q
      · have h : ¬ 0 ≤ v := fun z => h (decide_eq_true z)
        have e : vx n (.int v) = false := decide_eq_false (show ¬ (0 ≤ v ∧ v < (n : Int)) from fun z => h z.1)
        rw [e] at q
        exact q
    | _ => exact iteF q
def spMerged : Sp := fun vs H Q _ => ∃ (L : Addr) (f : Int → Int) (ws : List Int) (a b : Int), vs = [.ref L, .int a, .int b] ∧ H L = some (.dK (tab f ws)) ∧ ws.Nodup ∧ ws.length ≤ 100 ∧ a ∈ ws ∧ b ∈ ws ∧
  ∀ (H' : Hp) (D : Addr), Same H H' → H D = none → H' D = some (.dK (tab (mrg f a b) ws)) → Q (.ref D) H'
theorem ok_Merged {f : Addr} {fd : FuncData} {k : Nat} (F : Fun K "merged" "merged" sMerged f fd) : FnOk P w K mg base CX0 (k + 1) f fd ["labels", "a", "b"] spMerged := by
  refine F.ok scMerged (fun vs H Q E h => ?_) (fun cdv A outer s H vs Q E hr h => ?_)
  · obtain ⟨L, f, ws, a, b, rfl, _⟩ := h
    rfl
  · obtain ⟨L, f, ws, a, b, rfl, hL, nd, lw, ha, hb, q⟩ := h
    refine ⟨_, (pss_cons (ps_set (i := 3) scMerged.nd rfl (.inr rfl) (pe_dget (hu_of hr) (pv 0) (pv 1) (fun _ _ => rfl)))
    (pss_cons (ps_set (i := 4) scMerged.nd rfl (.inr rfl) (pe_dget (hu_of hr) (pv 0) (pv 2) (fun _ _ => rfl)))
    (pss_one (ps_ret (pe_lock (pe_dc (own := [("vertex", 5)]) (g := (gName 5)) (tt := tYes) rfl scMerged.nd (pi_keys (pv 0))
      (blkOk_by (own := [("vertex", 5)]) (N := nMerged) (sc := (defScope sMerged)) (by decide +kernel))
      (fun _ _ _ _ _ => (pg_name (i := 5) scMerged.nd rfl (Or.inl rfl))) (fun _ _ _ _ _ => pts_nil)
      (fun _ _ _ _ _ => (pv 5))
      (fun _ _ _ _ _ => (pe_ifExp (pt_cmpR op_eq (pe_dget (hu_of hr) (pv 0) (pv 5) (fun _ _ => rfl)) (pv 3) (nomark _)) (pv 4) (pe_dget (hu_of hr) (pv 0) (pv 5) (fun _ _ => rfl)))))))))), ?_⟩
    have va : valV (tab f ws) (Sum.inl a) = some (.int (f a)) := by rw [tab_val, if_pos ha]
    have vb : valV (tab f ws) (Sum.inl b) = some (.int (f b)) := by rw [tab_val, if_pos hb]
    refine ⟨.ref L, rfl, .int a, rfl, L, .int (f a), rfl, va ▸ DGet.k (k := Sum.inl a) hL, ?_⟩
    refine ⟨.ref L, rfl, .int b, rfl, L, .int (f b), rfl, vb ▸ DGet.k (k := Sum.inl b) hL, ?_⟩
    refine ⟨L, _, hL, trivial, fun od => ?_⟩
    have eL : upd H L (.frz od (.dK (tab f ws))) L = some (.frz od (.dK (tab f ws))) := upd_same
    refine ⟨.ref L, rfl, L, od, rfl, .inl ⟨_, eL, fun D nD => ?_⟩⟩
    have nLD : L ≠ D := ne_of_none eL nD
    have nHD : H D = none := by rw [upd_ne nLD.symm] at nD; exact nD
    refine dc_tab (mrg f a b) ws (fun v => [some (.ref L), some (.int a), some (.int b), some (.int (f a)), some (.int (f b)), some (.int v)]) nd nD (by omega) (fun j H' hj s1 => ⟨s1 _ _ eL, by rw [tab_len]; exact hj⟩) (fun H' s1 => ⟨s1 _ _ eL, by rw [tab_len]; exact Nat.le_refl _⟩) (fun j v x H' H'' hv s1 y => ?_) (fun v => rfl) (fun v _ H' R s1 hR => ?_) (fun v hv H' R s1 hR => ?_) (fun H' s1 eD => ?_)
    · obtain ⟨e, k, z, hk, hx⟩ := y
      unfold tab at hk
      rw [List.getElem?_map, hv] at hk
      cases hk
      subst hx
      exact ⟨e, fun Q q => q⟩
    · exact ⟨.int v, rfl, hR⟩
    · have vv : valV (tab f ws) (Sum.inl v) = some (.int (f v)) := by rw [tab_val, if_pos hv]
      have dg : DGet H' L (.int v) (some (.int (f v))) := by
        rw [← vv]
        exact .inl ⟨tab f ws, Sum.inl v, .inr ⟨od, s1 _ _ eL⟩, rfl, rfl⟩
      refine ⟨.ref L, rfl, .int v, rfl, L, .int (f v), rfl, dg, .int (f a), rfl, rfl, _, rfl, ?_⟩
      rw [decInt]
      have h2 := hR H' (Same.refl _)
      unfold mrg at h2
      refine ite2 (fun h => ?_) (fun h => ?_)
      · rw [if_pos (of_decide_eq_true h)] at h2
        exact ⟨.int (f b), rfl, h2⟩
      · rw [if_neg fun z => h (decide_eq_true z)] at h2
        exact ⟨.ref L, rfl, .int v, rfl, L, .int (f v), rfl, dg, h2⟩
    · refine ⟨s1 _ _ eL, q _ D (fun c o e => ?_) nHD ?_⟩
      · by_cases hc : c = L
        · rw [hc, upd_same]
          rw [hc, hL] at e
          exact e
        · rw [upd_ne hc]
          exact s1 _ _ (by rw [upd_ne hc]; exact e)
      · rw [upd_ne nLD.symm]
        exact eD
/-- an edge over m vertices -/
def edgeO (m : Nat) (o : Option (V × V)) : Option (Int × Int) := match prV o with
  | some p => if 0 ≤ p.1 ∧ p.1 < p.2 ∧ p.2 < (m : Int) then some p else none
  | none => none
theorem edgeO_some {m : Nat} {o : Option (V × V)} {p : Int × Int} (h : edgeO m o = some p) : o = some (.int p.1, .int p.2) ∧ 0 ≤ p.1 ∧ p.1 < p.2 ∧ p.2 < (m : Int) := by
  unfold edgeO at h
  cases e : prV o with
  | none => rw [e] at h; cases h
  | some q =>
    rw [e] at h
    have h : (if 0 ≤ q.1 ∧ q.1 < q.2 ∧ q.2 < (m : Int) then some q else none) = some p := h
    by_cases c : 0 ≤ q.1 ∧ q.1 < q.2 ∧ q.2 < (m : Int)
    · rw [if_pos c] at h
      cases h
      exact ⟨prV_some e, c⟩
    · rw [if_neg c] at h
      cases h
def spIsEdge (K : PySem.W.Frag) : Sp := fun vs H Q _ => ∃ (m : Nat) (z : V) (o : Option (V × V)), vs = [.int (m : Int), z] ∧ Iw K H z o ∧ Q (.bl (edgeO m o).isSome) H
theorem ok_IsEdge {f : Addr} {fd : FuncData} (F : Fun K "is_edge" "is_edge" sIsEdge f fd) (oIsPair : Own P w K mg base "is_pair" 1 ["value"] (spIsPair K)) (oIsVertex : Own P w K mg base "is_vertex" 2 ["n", "value"] (spIsVertex K)) :
    FnOk P w K mg base CX0 3 f fd ["n", "value"] (spIsEdge K) := by
  refine F.ok scIsEdge (fun vs H Q E h => ?_) (fun cdv A outer s H vs Q E hr h => ?_)
  · obtain ⟨m, z, o, rfl, _⟩ := h
    rfl
  · obtain ⟨m, z, o, rfl, hz, q⟩ := h
    refine ⟨_, (pss_cons (ps_if (pt_not (pt_val (pe_own oIsPair (hr.mono (by decide)) (by rfl) (pa_cons (pv 1) pa_nil)))) (pss_one (ps_ret pe_bl)) pss_nil)
    (pss_cons (ps_asg (pv 1) (pgTK K (pgs_cons (pg_name (i := 2) scIsEdge.nd rfl (Or.inl rfl)) (pgs_cons (pg_name (i := 3) scIsEdge.nd rfl (Or.inl rfl)) pgs_nil))))
    (pss_one (ps_ret (pe_and (pe_own oIsVertex (hr.mono (by decide)) (by rfl) (pa_cons (pv 0) (pa_cons (pv 2) pa_nil))) (pe_and (pe_own oIsVertex (hr.mono (by decide)) (by rfl) (pa_cons (pv 0) (pa_cons (pv 3) pa_nil))) (pe_one (pe_cmpR op_lt (pv 2) (pv 3) (nomark _))))))))), ?_⟩
    refine ⟨z, rfl, z, o, rfl, hz, o.isSome, rfl, ?_⟩
    cases hz with
    | no h k => exact iteT q
    | len h l => exact iteT q
    | @two a u v h ku kv =>
      refine iteF ?_
      refine ⟨.ref a, rfl, a, _, rfl, h, rfl, _, _, rfl, _, _, rfl, rfl, ?_⟩
      refine ⟨.int (m : Int), rfl, u, rfl, m, u, rfl, ku, vx m u, rfl, ?_⟩
      have no : edgeO m (some (u, v)) = none → Q (.bl false) H := fun e => by
        rw [e] at q
        exact q
      cases u with
      | int a1 =>
        show if decide (0 ≤ a1 ∧ a1 < (m : Int)) = true then _ else _
        by_cases c1 : 0 ≤ a1 ∧ a1 < (m : Int)
        · rw [decide_eq_true c1]
          refine iteT ⟨.int (m : Int), rfl, v, rfl, m, v, rfl, kv, vx m v, rfl, ?_⟩
          cases v with
          | int b1 =>
            show if decide (0 ≤ b1 ∧ b1 < (m : Int)) = true then _ else _
            by_cases c2 : 0 ≤ b1 ∧ b1 < (m : Int)
            · rw [decide_eq_true c2]
              refine iteT ⟨.int a1, rfl, .int b1, rfl, _, _, rfl, rfl, ?_⟩
              dsimp only
              have e : edgeO m (some (V.int a1, V.int b1)) = if 0 ≤ a1 ∧ a1 < b1 ∧ b1 < (m : Int) then some (a1, b1) else none := rfl
              rw [e] at q
              by_cases c3 : a1 < b1
              · rw [if_pos ⟨c1.1, c3, c2.2⟩] at q
                rw [decide_eq_true c3]
                exact q
              · rw [if_neg (by omega)] at q
                rw [decide_eq_false c3]
                exact q
            · rw [decide_eq_false c2]
              exact iteF (no (if_neg (show ¬ (0 ≤ a1 ∧ a1 < b1 ∧ b1 < (m : Int)) by omega)))
          | _ => exact iteF (no rfl)
        · rw [decide_eq_false c1]
          refine iteF (no ?_)
          cases v with
          | int b1 => exact if_neg (show ¬ (0 ≤ a1 ∧ a1 < b1 ∧ b1 < (m : Int)) by omega)
          | _ => rfl
      | _ => exact iteF (no rfl)
/-- q is before p -/
def Bef (q p : Int × Int) : Prop := q.1 < p.1 ∨ (q.1 = p.1 ∧ q.2 < p.2)
instance (q p : Int × Int) : Decidable (Bef q p) := inferInstanceAs (Decidable (_ ∨ _))
open Classical in
/-- the first error of edges, after good ones -/
noncomputable def errL (m : Nat) : List (Int × Int) → List (Option (V × V)) → Option (Nat × Str)
  | _, [] => none
  | es, o :: os => match edgeO m o with
    | none => some (es.length, Str.ofString "edge")
    | some p => if (∃ q, es.getLast? = some q ∧ ¬ Bef q p) then some (es.length, Str.ofString "order") else if Conn es p.1 p.2 then some (es.length, Str.ofString "cycle") else errL m (es ++ [p]) os
section
variable {m : Nat} {es : List (Int × Int)} {o : Option (V × V)} {os : List (Option (V × V))} {p : Int × Int}
theorem errL_edge (h : edgeO m o = none) : errL m es (o :: os) = some (es.length, Str.ofString "edge") := by
  unfold errL
  rw [h]
theorem errL_order (h : edgeO m o = some p) {q : Int × Int} (hq : es.getLast? = some q) (hn : ¬ Bef q p) : errL m es (o :: os) = some (es.length, Str.ofString "order") := by
  unfold errL
  rw [h]
  exact if_pos ⟨q, hq, hn⟩
theorem errL_cycle (h : edgeO m o = some p) (hb : ∀ q, es.getLast? = some q → Bef q p) (hc : Conn es p.1 p.2) : errL m es (o :: os) = some (es.length, Str.ofString "cycle") := by
  unfold errL
  rw [h]
  show (if _ then _ else _) = _
  rw [if_neg (fun ⟨q, h1, h2⟩ => h2 (hb q h1)), if_pos hc]
theorem errL_go (h : edgeO m o = some p) (hb : ∀ q, es.getLast? = some q → Bef q p) (hc : ¬ Conn es p.1 p.2) : errL m es (o :: os) = errL m (es ++ [p]) os := by
  rw [errL, h]
  show (if _ then _ else _) = _
  rw [if_neg (fun ⟨q, h1, h2⟩ => h2 (hb q h1)), if_neg hc]
end
def errD : Option (Nat × Str) → PyData
  | none => .none
  | some (k, s) => .tuple [.int (k : Int), .str s]
noncomputable def edE (m : Nat) : Option (List (Option (V × V))) → PyData
  | none => .tuple [.none, .str (Str.ofString "edges")]
  | some os => errD (errL m [] os)
/-- the error of a value -/
noncomputable def forE (so : Option (List (Option (V × V)))) : Option (V × V) → PyData
  | none => .tuple [.none, .str (Str.ofString "tuple")]
  | some (.int i, _) => if 0 ≤ i ∧ i ≤ 12 then edE i.toNat so else .tuple [.none, .str (Str.ofString "vertices")]
  | some _ => .tuple [.none, .str (Str.ofString "vertices")]
theorem lab_conn {m : Nat} {es : List (Int × Int)} {f : Int → Int} (lb : Lab es (rng m) f) (rg : ∀ p ∈ es, p.1 ∈ rng m ∧ p.2 ∈ rng m) {a b : Int} (h : Conn es a b) : f a = f b := by
  induction h with
  | refl => rfl
  | step h1 h2 ih =>
    rw [ih]
    rcases h2 with h2 | h2
    · exact lb.join _ h2 (rg _ h2).1 (rg _ h2).2
    · exact (lb.join _ h2 (rg _ h2).1 (rg _ h2).2).symm
theorem le_lex {p q : Int × Int} : Ob.lexAt (fun j => decide ([p.1, p.2].getD j 0 = [q.1, q.2].getD j 0)) (fun j => decide ([p.1, p.2].getD j 0 ≤ [q.1, q.2].getD j 0)) (decide ([p.1, p.2].length ≤ [q.1, q.2].length)) 0 (min [p.1, p.2].length [q.1, q.2].length) = !decide (Bef q p) := by
  show (if decide (p.1 = q.1) = true then (if decide (p.2 = q.2) = true then true else decide (p.2 ≤ q.2)) else decide (p.1 ≤ q.1)) = _
  by_cases c1 : p.1 = q.1
  · rw [decide_eq_true c1, if_pos rfl]
    by_cases c2 : p.2 = q.2
    · rw [decide_eq_true c2, if_pos rfl, decide_eq_false (show ¬ Bef q p by unfold Bef; omega)]
      rfl
    · rw [decide_eq_false c2, if_neg Bool.false_ne_true]
      by_cases c3 : p.2 ≤ q.2
      · rw [decide_eq_true c3, decide_eq_false (show ¬ Bef q p by unfold Bef; omega)]
        rfl
      · rw [decide_eq_false c3, decide_eq_true (show Bef q p by unfold Bef; omega)]
        rfl
  · rw [decide_eq_false c1, if_neg Bool.false_ne_true]
    by_cases c3 : p.1 ≤ q.1
    · rw [decide_eq_true c3, decide_eq_false (show ¬ Bef q p by unfold Bef; omega)]
      rfl
    · rw [decide_eq_false c3, decide_eq_true (show Bef q p by unfold Bef; omega)]
      rfl
theorem dinT {H : Hp} {L : Addr} {f : Int → Int} {ws : List Int} (hL : H L = some (.dK (tab f ws))) {a : Int} (h : a ∈ ws) : DGet H L (.int a) (some (.int (f a))) := by
  have e : valV (tab f ws) (Sum.inl a) = some (.int (f a)) := by rw [tab_val, if_pos h]
  rw [← e]
  exact DGet.k (k := Sum.inl a) hL
/-- what is known after good edges -/
structure Gd (K : PySem.W.Frag) (H : Hp) (m : Nat) (xs : List V) (es : List (Int × Int)) (i : Nat) : Prop where
  len : es.length = i
  at' : ∀ (j : Nat) (q : Int × Int), es[j]? = some q → ∃ t : Addr, xs[j]? = some (V.ref t) ∧ SqT K H t [.int q.1, .int q.2]
  rg : ∀ p ∈ es, p.1 ∈ rng m ∧ p.2 ∈ rng m
theorem Gd.same {H H' : Hp} {m : Nat} {xs : List V} {es : List (Int × Int)} {i : Nat} (s : Same H H') (h : Gd K H m xs es i) : Gd K H' m xs es i := ⟨h.len, fun j q e => by
  obtain ⟨t, a, b⟩ := h.at' j q e
  exact ⟨t, a, Same.tup s b⟩, h.rg⟩
theorem Gd.add {H : Hp} {m : Nat} {xs : List V} {es : List (Int × Int)} {i : Nat} {p : Int × Int} {t : Addr} (h : Gd K H m xs es i) (hx : xs[i]? = some (.ref t)) (ht : SqT K H t [.int p.1, .int p.2]) (r1 : p.1 ∈ rng m) (r2 : p.2 ∈ rng m) : Gd K H m xs (es ++ [p]) (i + 1) := by
  have hl := h.len
  refine ⟨by rw [List.length_append, List.length_singleton, hl], fun j q e => ?_, fun r hr => ?_⟩
  · by_cases c : j < es.length
    · rw [List.getElem?_append_left c] at e
      exact h.at' j q e
    · rw [List.getElem?_append_right (by omega)] at e
      have c2 : j = i := by
        have := (List.getElem?_eq_some_iff.mp e).1
        rw [List.length_singleton] at this
        omega
      subst c2
      rw [hl, Nat.sub_self] at e
      cases e
      exact ⟨t, hx, ht⟩
  · rcases List.mem_append.mp hr with hr | hr
    · exact h.rg r hr
    · rw [List.mem_singleton.mp hr]
      exact ⟨r1, r2⟩
def spEdgesError (K : PySem.W.Frag) : Sp := fun vs H Q _ => ∃ (m : Nat) (b : Addr) (xs : List V) (os : List (Option (V × V))), vs = [.int (m : Int), .ref b] ∧ m ≤ 12 ∧ SqT K H b xs ∧ Iws K H xs os ∧ xs.length ≤ 400 ∧ ∀ H' r, Same H H' → Dp K H' r (errD (errL m [] os)) → Q r H'
theorem ok_EdgesError {f : Addr} {fd : FuncData} (F : Fun K "edges_error" "edges_error" sEdgesError f fd) (m_range : mg "range" = none) (m_enumerate : mg "enumerate" = none)
    (oIsEdge : Own P w K mg base "is_edge" 3 ["n", "value"] (spIsEdge K)) (oMerged : Own P w K mg base "merged" 1 ["labels", "a", "b"] spMerged) :
    FnOk P w K mg base CX0 4 f fd ["n", "edges"] (spEdgesError K) := by
  refine F.ok scEdgesError (fun vs H Q E h => ?_) (fun cdv A outer s H vs Q E hr h => ?_)
  · obtain ⟨m, b, xs, os, rfl, _⟩ := h
    rfl
  · obtain ⟨m, b, xs, os, rfl, hm, hb, hi, lx, q⟩ := h
    refine ⟨_, (pss_cons (ps_setDc (i := 2) (own := [("vertex", 7)]) (g := (gName 7)) (tt := tYes) (by rfl) scEdgesError.nd rfl rfl (sw_trueD rfl rfl rfl (by decide +kernel)) (pi_range1 (by rfl) m_range (pa_cons (pv 0) pa_nil))
      (blkOk_by (own := [("vertex", 7)]) (N := nEdgesError) (sc := (defScope sEdgesError)) (by decide +kernel))
      (fun _ _ _ _ _ => (pg_name (i := 7) scEdgesError.nd rfl (Or.inl rfl))) (fun _ _ _ _ _ => pts_nil)
      (fun _ _ _ _ _ => (pv 7))
      (fun _ _ _ _ _ => (pv 7)))
    (pss_cons (ps_for PassesOwn.never rfl (pi_enumT K (by rfl) m_enumerate (pa_cons (pv 1) pa_nil)) (pgTK K (pgs_cons (pg_name (i := 3) scEdgesError.nd rfl (Or.inl rfl)) (pgs_cons (pg_name (i := 4) scEdgesError.nd rfl (Or.inl rfl)) pgs_nil)))
    (pss_cons (ps_if (pt_not (pt_val (pe_own oIsEdge (hr.mono (by decide)) (by rfl) (pa_cons (pv 0) (pa_cons (pv 4) pa_nil))))) (pss_one (ps_ret (pe_tup (pa_cons (pv 3) (pa_cons pe_str pa_nil))))) pss_nil)
    (pss_cons (ps_if (PW.pt (pw_and (pt_cmpR op_gt (pv 3) pe_int (nomark _)) (pw_and1 (pt_cmpR (le2TK K hr.units) (pv 4) (pe_ix (ixTK K) (pv 1) (pe_op op_sub (pv 3) pe_int) (fun _ _ => rfl)) (nomark _))))) (pss_one (ps_ret (pe_tup (pa_cons (pv 3) (pa_cons pe_str pa_nil))))) pss_nil)
    (pss_cons (ps_asg (pv 4) (pgTK K (pgs_cons (pg_name (i := 5) scEdgesError.nd rfl (Or.inl rfl)) (pgs_cons (pg_name (i := 6) scEdgesError.nd rfl (Or.inl rfl)) pgs_nil))))
    (pss_cons (ps_if (pt_cmpR op_eq (pe_dget (hu_of hr) (pv 2) (pv 5) (fun _ _ => rfl)) (pe_dget (hu_of hr) (pv 2) (pv 6) (fun _ _ => rfl)) (nomark _)) (pss_one (ps_ret (pe_tup (pa_cons (pv 3) (pa_cons pe_str pa_nil))))) pss_nil)
    (pss_one (ps_set (i := 2) scEdgesError.nd rfl (.inl rfl) (pe_own oMerged (hr.mono (by decide)) (by rfl) (pa_cons (pv 2) (pa_cons (pv 5) (pa_cons (pv 6) pa_nil)))))))))))
    (pss_one (ps_ret pe_non)))), ?_⟩
    refine ⟨.int (m : Int), rfl, (m : Int), rfl, by omega, by omega, fun L0 nL0 => ?_⟩
    rw [Int.toNat_natCast]
    refine dc_tab id (rng m) (fun v => [some (.int (m : Int)), some (.ref b), none, none, none, none, none, some (.int v)]) (rng_asc m).nodup nL0 (by rw [rng_length]; omega) (fun j H' hj s1 => by rw [rng_length] at hj; exact hj)
      (fun H' s1 => by rw [rng_length]; exact Nat.le_refl _) (fun j v x H' H'' hv s1 y => ?_) (fun v => rfl) (fun v _ H' R s1 hR => ⟨.int v, rfl, hR⟩) (fun v _ H' R s1 hR => ⟨.int v, rfl, hR H' (Same.refl _)⟩) (fun H1 s1 e1 => ?_)
    · obtain ⟨e, hy⟩ := y
      unfold rng at hv
      rw [List.getElem?_map] at hv
      obtain ⟨z, hz, rfl⟩ := Option.map_eq_some_iff.mp hv
      obtain ⟨h1, rfl⟩ := List.getElem?_eq_some_iff.mp hz
      rw [List.getElem_range] at *
      subst hy
      refine ⟨e, fun Q q => ?_⟩
      show Q ([some (.int (m : Int)), some (.ref b), none, none, none, none, none, some (.int (0 + (j : Int)))]) H'
      rw [Int.zero_add]
      exact q
    refine ⟨.ref b, rfl, b, xs, rfl, Same.tup s1 hb, for_enumT (K := K) (a := b) (xs := xs) (fun i σ H' => ∃ (y3 y4 y5 y6 : Option V) (L : Addr) (f : Int → Int) (es : List (Int × Int)), σ = [some (.int (m : Int)), some (.ref b), some (.ref L), y3, y4, y5, y6, none] ∧
      Same H H' ∧ H' L = some (.dK (tab f (rng m))) ∧ Lab es (rng m) f ∧ Gd K H' m xs es i ∧ errL m [] os = errL m es (os.drop i)) ?_ ?_ ?_ ?_⟩
    · exact ⟨none, none, none, none, L0, id, [], rfl, s1, e1, Lab.start _, ⟨rfl, fun _ _ e => by simp at e, fun _ h => nomatch h⟩, rfl⟩
    · rintro i σ H' ⟨y3, y4, y5, y6, L, f, es, rfl, s2, _⟩
      exact Same.tup s2 hb
    · rintro i v T σ H2 hv nT ⟨y3, y4, y5, y6, L, f, es, rfl, s2, eL, lb, gd, he⟩
      have sT := same_upd (o := .tup [.int (i : Nat), v]) nT
      have et := same_at (o := .tup [.int (i : Nat), v]) nT
      have s3 := s2.trans sT
      have eL3 := sT _ _ eL
      have gd := gd.same sT
      have gl := gd.len
      have hix := (List.getElem?_eq_some_iff.mp hv).1
      obtain ⟨o, ho, hio⟩ := hi.drop i hv
      have hio := hio.same s3
      rw [ho] at he
      have ret : ∀ {H' : Hp} {t : Addr} {c : String}, errL m es (o :: os.drop (i + 1)) = some (es.length, Str.ofString c) → Same H H' → H' t = none → Q (.ref t) (upd H' t (.tup [.int (i : Nat), .str (Str.ofString c)])) := fun {H' t c} e s nt => by
        refine q _ _ (s.trans (same_upd nt)) ?_
        rw [he, e, gl]
        exact .tup (SqT.of upd_same) (.cons (.int _) (.cons (.str _) .nil))
      generalize upd H2 T (.tup [.int (i : Nat), v]) = H3 at sT s3 eL3 et gd hio ⊢
      refine ⟨T, _, rfl, SqT.of et, rfl, _, _, rfl, _, _, rfl, rfl, ?_⟩
      refine ⟨.int (m : Int), rfl, v, rfl, m, v, o, rfl, hio, (edgeO m o).isSome, rfl, ?_⟩
      cases heo : edgeO m o with
      | none =>
        refine iteT ⟨.int (i : Int), rfl, by show 2 ≤ sizeLine; decide, fun t nt => ?_⟩
        exact ret (errL_edge heo) s3 nt
      | some p =>
      refine iteF ?_
      obtain ⟨rfl, r0, r1, r2⟩ := edgeO_some heo
      obtain ⟨t, rfl, ht⟩ : ∃ t, v = .ref t ∧ SqT K H3 t [.int p.1, .int p.2] := by
        cases hio with
        | two h _ _ => exact ⟨_, rfl, h⟩
      have m1 : p.1 ∈ rng m := mem_rng.mpr (by omega)
      have m2 : p.2 ∈ rng m := mem_rng.mpr (by omega)
      dsimp only [tNext]
      have ords : ∀ q, es.getLast? = some q → ∃ j t2, i = j + 1 ∧ xs[j]? = some (.ref t2) ∧ SqT K H3 t2 [.int q.1, .int q.2] := fun q hq => by
        rw [List.getLast?_eq_getElem?] at hq
        have hl := (List.getElem?_eq_some_iff.mp hq).1
        obtain ⟨t2, h1, h2⟩ := gd.at' _ q hq
        exact ⟨es.length - 1, t2, by omega, h1, h2⟩
      refine ifJ (R := fun c H4 => H4 = H3 ∧ ((c = false ∧ ∀ q, es.getLast? = some q → Bef q p) ∨ (c = true ∧ ∃ q, es.getLast? = some q ∧ ¬ Bef q p))) (fun R hR => ?_) (fun H4 h => ?_) (fun H4 h => ?_)
      · refine ⟨.int (i : Int), rfl, _, _, rfl, rfl, _, rfl, ?_⟩
        by_cases h0 : i = 0
        · subst h0
          rw [decide_eq_false (by decide)]
          refine iteF (hR _ _ ⟨rfl, .inl ⟨rfl, fun q hq => ?_⟩⟩)
          obtain ⟨j, _, hj, _⟩ := ords q hq
          omega
        · rw [decide_eq_true (show (0 : Int) < (i : Int) by omega)]
          obtain ⟨q, hq⟩ : ∃ q, es.getLast? = some q := by
            cases e : es.getLast? with
            | some q => exact ⟨q, rfl⟩
            | none =>
              have := List.getLast?_eq_none_iff.mp e
              rw [this] at gl
              exact absurd gl (by show ¬ 0 = i; omega)
          obtain ⟨j, t2, ej, hj, ht2⟩ := ords q hq
          refine iteT ⟨.ref t, rfl, .ref b, rfl, .int (i : Int), rfl, _, _, rfl, rfl, b, _, _, _, rfl, rfl, Same.tup s3 hb, at_of (j := j) (by omega) hj, t, t2, [p.1, p.2], [q.1, q.2], rfl, rfl, ht, ht2, _, rfl, ?_⟩
          rw [le_lex]
          by_cases cb : Bef q p
          · rw [decide_eq_true cb]
            refine hR _ _ ⟨rfl, .inl ⟨rfl, fun q' hq' => ?_⟩⟩
            rw [hq] at hq'
            cases hq'
            exact cb
          · rw [decide_eq_false cb]
            exact hR _ _ ⟨rfl, .inr ⟨rfl, q, hq, cb⟩⟩
      · obtain ⟨rfl, ⟨z, _⟩ | ⟨_, q', hq', hn⟩⟩ := h
        · cases z
        · exact ⟨.int (i : Int), rfl, by show 2 ≤ sizeLine; decide, fun t nt => ret (errL_order heo hq' hn) s3 nt⟩
      obtain ⟨rfl, ⟨_, hbf⟩ | ⟨z, _⟩⟩ := h
      rotate_left
      · cases z
      refine ⟨.ref t, rfl, t, _, rfl, ht, rfl, _, _, rfl, _, _, rfl, rfl, ?_⟩
      refine ⟨.ref L, rfl, .int p.1, rfl, L, .int (f p.1), rfl, dinT eL3 m1, .ref L, rfl, .int p.2, rfl, L, .int (f p.2), rfl, dinT eL3 m2, rfl, _, rfl, ?_⟩
      rw [decInt]
      by_cases cf : f p.1 = f p.2
      · rw [decide_eq_true cf]
        refine iteT ⟨.int (i : Int), rfl, by show 2 ≤ sizeLine; decide, fun t nt => ret (errL_cycle heo hbf ?_) s3 nt⟩
        exact (lb.conn p.1 m1 p.2 m2 cf).mono fun r hr => (List.mem_filter.mp hr).1
      · rw [decide_eq_false cf]
        refine iteF ?_
        refine ⟨.ref L, rfl, .int p.1, rfl, .int p.2, rfl, L, f, rng m, p.1, p.2, rfl, eL3, (rng_asc m).nodup, by rw [rng_length]; omega, m1, m2, fun H4 L4 s4 n4 e4 => ?_⟩
        exact ⟨_, _, _, _, L4, mrg f p.1 p.2, es ++ [p], rfl, s3.trans s4, e4, lb.merge m1 m2, (gd.same s4).add hv (Same.tup s4 ht) m1 m2, he.trans (errL_go heo hbf fun z => cf (lab_conn lb gd.rg z))⟩
    · rintro σ H2 ⟨y3, y4, y5, y6, L, f, es, rfl, s2, eL, lb, gd, he⟩
      rw [hi.len, List.drop_length] at he
      refine q _ _ s2 ?_
      rw [he]
      exact .non
def spForestError (K : PySem.W.Frag) : Sp := fun vs H Q _ => ∃ (z : V) (oi : Option (V × V)) (so : Option (List (Option (V × V)))), vs = [z] ∧ Iw K H z oi ∧ (∀ n e, oi = some (n, e) → Sv K H e so) ∧ ∀ H' r, Same H H' → Dp K H' r (forE so oi) → Q r H'
theorem ok_ForestError {t0 : Tok} {f : Addr} {fd : FuncData} (F : Fun K "forest_error" "forest_error" sForestError f fd) (m_isinstance : mg "isinstance" = none) (m_tuple : mg "tuple" = none) (m_MAX_VERTICES : mg "MAX_VERTICES" = some (.int 12 t0))
    (oIsPair : Own P w K mg base "is_pair" 1 ["value"] (spIsPair K)) (oIsNumber : Own P w K mg base "is_number" 1 ["value"] (spIsNumber K)) (oEdgesError : Own P w K mg base "edges_error" 4 ["n", "edges"] (spEdgesError K)) :
    FnOk P w K mg base CX0 5 f fd ["value"] (spForestError K) := by
  refine F.ok scForestError (fun vs H Q E h => ?_) (fun cdv A outer s H vs Q E hr h => ?_)
  · obtain ⟨z, oi, so, rfl, _⟩ := h
    rfl
  · obtain ⟨z, oi, so, rfl, hz, hs, q⟩ := h
    have ret : ∀ {t : Addr} {c : String}, forE so oi = .tuple [.none, .str (Str.ofString c)] → H t = none → Q (.ref t) (upd H t (.tup [.non, .str (Str.ofString c)])) := fun {t c} e nt => by
      refine q _ _ (same_upd nt) ?_
      rw [e]
      exact .tup (SqT.of upd_same) (.cons .non (.cons (.str _) .nil))
    refine ⟨_, (pss_cons (ps_if (pt_not (pt_val (pe_own oIsPair (hr.mono (by decide)) (by rfl) (pa_cons (pv 0) pa_nil)))) (pss_one (ps_ret (pe_tup (pa_cons pe_non (pa_cons pe_str pa_nil))))) pss_nil)
    (pss_cons (ps_asg (pv 0) (pgTK K (pgs_cons (pg_name (i := 1) scForestError.nd rfl (Or.inl rfl)) (pgs_cons (pg_name (i := 2) scForestError.nd rfl (Or.inl rfl)) pgs_nil))))
    (pss_cons (ps_if (PW.pt (pw_or (pt_not (pt_val (pe_own oIsNumber (hr.mono (by decide)) (by rfl) (pa_cons (pv 1) pa_nil)))) (pw_or1 (pt_not (pt_chain op_le op_le pe_int (pv 1) (pe_glob (v := V.int 12) (by rfl) m_MAX_VERTICES ⟨_, rfl⟩)))))) (pss_one (ps_ret (pe_tup (pa_cons pe_non (pa_cons pe_str pa_nil))))) pss_nil)
    (pss_cons (ps_if (pt_not (pt_val (pe_callB (isiK K) (by rfl) m_isinstance (by decide +kernel) (pa_cons (pv 2) (pa_cons (pe_bltn (v := .ty "tuple") (by rfl) m_tuple (by decide +kernel) rfl) pa_nil))))) (pss_one (ps_ret (pe_tup (pa_cons pe_non (pa_cons pe_str pa_nil))))) pss_nil)
    (pss_one (ps_ret (pe_own oEdgesError (hr.mono (by decide)) (by rfl) (pa_cons (pv 1) (pa_cons (pv 2) pa_nil))))))))), ?_⟩
    refine ⟨z, rfl, z, oi, rfl, hz, oi.isSome, rfl, ?_⟩
    cases hz with
    | no h k => exact iteT ⟨by show 2 ≤ sizeLine; decide, fun t nt => ret rfl nt⟩
    | len h l => exact iteT ⟨by show 2 ≤ sizeLine; decide, fun t nt => ret rfl nt⟩
    | @two a n e h kn ke =>
      have se := hs n e rfl
      refine iteF ?_
      refine ⟨.ref a, rfl, a, _, rfl, h, rfl, _, _, rfl, _, _, rfl, rfl, ?_⟩
      refine ⟨n, rfl, n, rfl, kn, isN n, rfl, ?_⟩
      cases n with
      | int i =>
        have ef : forE so (some (.int i, e)) = if 0 ≤ i ∧ i ≤ 12 then edE i.toNat so else .tuple [.none, .str (Str.ofString "vertices")] := rfl
        refine iteF ⟨.int i, rfl, _, _, rfl, rfl, _, rfl, ?_⟩
        by_cases c1 : 0 ≤ i
        · rw [decide_eq_true c1]
          refine iteT ⟨_, _, rfl, rfl, _, rfl, ?_⟩
          by_cases c2 : i ≤ 12
          · rw [decide_eq_true c2]
            refine iteF ?_
            rw [if_pos ⟨c1, c2⟩] at ef
            cases se with
            | no h2 k2 => exact ⟨e, rfl, _, _, _, _, false, rfl, .ty "tuple", h2, k2, false, rfl, iteT ⟨by show 2 ≤ sizeLine; decide, fun t nt => ret ef nt⟩⟩
            | @yes b xs os hb hi lx =>
              refine ⟨.ref b, rfl, _, _, _, _, true, rfl, .ty "tuple", ty_tup hb, kit_ty (by decide +kernel), true, rfl, iteF ?_⟩
              obtain ⟨m, rfl⟩ : ∃ m : Nat, i = (m : Int) := ⟨i.toNat, by omega⟩
              refine ⟨.int (m : Int), rfl, .ref b, rfl, m, b, xs, os, rfl, by omega, hb, hi, lx, fun H' r s d => q H' r s ?_⟩
              rw [ef]
              exact d
          · rw [decide_eq_false c2]
            rw [if_neg (by omega)] at ef
            exact iteT ⟨by show 2 ≤ sizeLine; decide, fun t nt => ret ef nt⟩
        · rw [decide_eq_false c1]
          rw [if_neg (by omega)] at ef
          exact iteF ⟨_, rfl, iteT ⟨by show 2 ≤ sizeLine; decide, fun t nt => ret ef nt⟩⟩
      | _ => exact iteT ⟨by show 2 ≤ sizeLine; decide, fun t nt => ret rfl nt⟩
theorem DpAll.boolsT {H : Hp} : ∀ {xs : List V} {bs : List Bool}, DpAll K H xs (bs.map .bool) → xs = bs.map V.bl
  | [], [], _ => rfl
  | _ :: _, b :: bs, .cons h a => by
    cases h
    rw [DpAll.boolsT a]
    rfl
/-- an ascending tuple of vertices, from a least one on -/
def ascV (m : Nat) : Int → List V → Bool
  | _, [] => true
  | t, v :: r => match v with
    | .int i => decide (0 ≤ i ∧ i < (m : Int)) && (decide (t ≤ i) && ascV m (i + 1) r)
    | _ => false
theorem ascV_iff (m : Nat) : ∀ (xs : List V) (t : Int), ascV m t xs = true ↔ ∃ ns : List Int, xs = ns.map V.int ∧ Asc ns ∧ ∀ v ∈ ns, t ≤ v ∧ 0 ≤ v ∧ v < (m : Int)
  | [], t => ⟨fun _ => ⟨[], rfl, .nil, fun _ h => nomatch h⟩, fun _ => rfl⟩
  | v :: r, t => by
    constructor
    · intro h
      cases v with
      | int i =>
        have h : (decide (0 ≤ i ∧ i < (m : Int)) && (decide (t ≤ i) && ascV m (i + 1) r)) = true := h
        rw [Bool.and_eq_true, Bool.and_eq_true, decide_eq_true_iff, decide_eq_true_iff] at h
        obtain ⟨h1, h2, h3⟩ := h
        obtain ⟨ns, rfl, asc, hn⟩ := (ascV_iff m r (i + 1)).mp h3
        refine ⟨i :: ns, rfl, List.pairwise_cons.mpr ⟨fun b hb => by have := hn b hb; omega, asc⟩, fun v hv => ?_⟩
        rcases List.mem_cons.mp hv with rfl | hv
        · exact ⟨h2, h1⟩
        · have := hn v hv
          omega
      | _ => exact nomatch h
    · rintro ⟨ns, e, asc, hn⟩
      cases ns with
      | nil => cases e
      | cons i ns =>
        rw [List.map_cons] at e
        injection e with e1 e2
        subst e1 e2
        obtain ⟨p1, p2⟩ := List.pairwise_cons.mp asc
        have hi := hn i List.mem_cons_self
        show (decide (0 ≤ i ∧ i < (m : Int)) && (decide (t ≤ i) && ascV m (i + 1) (ns.map V.int))) = true
        rw [decide_eq_true hi.2, decide_eq_true hi.1, Bool.true_and, Bool.true_and]
        exact (ascV_iff m _ _).mpr ⟨ns, rfl, p2, fun v hv => ⟨by have := p1 v hv; omega, (hn v (List.mem_cons_of_mem _ hv)).2⟩⟩
/-- how a value looks: no tuple, or a tuple of such items -/
inductive Vw (K : PySem.W.Frag) (H : Hp) : V → Option (List V) → Prop
  | no {v : V} {t : Value} : TyX K H v t → PySem.W.kitOne K t (.type "tuple") = some false → Vw K H v none
  | yes {a : Addr} {xs : List V} : SqT K H a xs → (∀ y ∈ xs, Kd K H y) → xs.length ≤ 400 → Vw K H (.ref a) (some xs)
theorem Vw.same {H H' : Hp} (s : Same H H') {v : V} {o : Option (List V)} (h : Vw K H v o) : Vw K H' v o := by
  cases h with
  | no t k => exact .no (tyX_same s t) k
  | yes h k l => exact .yes (Same.tup s h) (fun y hy => (k y hy).same s) l
theorem Vw.ty {H : Hp} {v : V} {o : Option (List V)} (h : Vw K H v o) : ∃ t, TyX K H v t ∧ PySem.W.kitOne K t (.type "tuple") = some o.isSome := by
  cases h with
  | no t k => exact ⟨_, t, k⟩
  | yes h k l =>
    have h2 : PySem.W.kitOne K (.type "tuple") (.type "tuple") = some true := kit_ty (by decide +kernel)
    exact ⟨_, ty_tup h, h2⟩
def ascO (m : Nat) : Option (List V) → Bool
  | none => false
  | some xs => ascV m 0 xs
def setO (m : Nat) (es : List (Int × Int)) : Option (List V) → Bool
  | none => false
  | some xs => ascV m 0 xs && !(es.any fun p => inV (.int p.1) xs && inV (.int p.2) xs)
def spIsAscending (K : PySem.W.Frag) : Sp := fun vs H Q _ => ∃ (v : V) (m : Nat) (o : Option (List V)), vs = [.int (m : Int), v] ∧ Vw K H v o ∧ Q (.bl (ascO m o)) H
theorem ok_IsAscending {f : Addr} {fd : FuncData} (F : Fun K "is_ascending" "is_ascending" sIsAscending f fd) (m_isinstance : mg "isinstance" = none) (m_tuple : mg "tuple" = none) (oIsVertex : Own P w K mg base "is_vertex" 2 ["n", "value"] (spIsVertex K)) :
    FnOk P w K mg base CX0 3 f fd ["n", "value"] (spIsAscending K) := by
  refine F.ok scIsAscending (fun vs H Q E h => ?_) (fun cdv A outer s H vs Q E hr h => ?_)
  · obtain ⟨v, m, o, rfl, _⟩ := h
    rfl
  · obtain ⟨v, m, o, rfl, hv, q⟩ := h
    obtain ⟨t, ty, kt⟩ := hv.ty
    refine ⟨_, (pss_cons (ps_if (pt_not (pt_val (pe_callB (isiK K) (by rfl) m_isinstance (by decide +kernel) (pa_cons (pv 1) (pa_cons (pe_bltn (v := .ty "tuple") (by rfl) m_tuple (by decide +kernel) rfl) pa_nil))))) (pss_one (ps_ret pe_bl)) pss_nil)
    (pss_cons (ps_set (i := 2) scIsAscending.nd rfl (.inl rfl) pe_int)
    (pss_cons (ps_for PassesOwn.never rfl (piTK K (pv 1)) (pg_name (i := 3) scIsAscending.nd rfl (Or.inl rfl))
    (pss_cons (ps_if (PW.pt (pw_or (pt_not (pt_val (pe_own oIsVertex (hr.mono (by decide)) (by rfl) (pa_cons (pv 0) (pa_cons (pv 3) pa_nil))))) (pw_or1 (pt_cmpR op_lt (pv 3) (pv 2) (nomark _))))) (pss_one (ps_ret pe_bl)) pss_nil)
    (pss_one (ps_set (i := 2) scIsAscending.nd rfl (.inl rfl) (pe_op op_add (pv 3) pe_int)))))
    (pss_one (ps_ret pe_bl))))), ?_⟩
    refine ⟨v, rfl, _, _, _, _, o.isSome, rfl, .ty "tuple", ty, kt, o.isSome, rfl, ?_⟩
    cases hv with
    | no _ _ => exact iteT q
    | @yes a xs ha kd lx =>
    refine iteF ?_
    refine ⟨.ref a, rfl, a, rfl, ⟨_, ha⟩, for_tup (K := K) (a := a) (xs := xs) (fun i σ H' => ∃ (y3 : Option V) (t : Int), σ = [some (.int (m : Int)), some (.ref a), some (.int t), y3] ∧ H' = H ∧ ascV m 0 xs = ascV m t (xs.drop i)) ?_ ?_ ?_ ?_⟩
    · exact ⟨_, 0, rfl, rfl, rfl⟩
    · rintro i σ H' _ ⟨y3, t, rfl, rfl, _⟩
      exact ha
    · rintro i v σ H2 hv ⟨y3, t, rfl, rfl, ht⟩
      obtain ⟨hi, ez⟩ := List.getElem?_eq_some_iff.mp hv
      have ed : xs.drop i = v :: xs.drop (i + 1) := by rw [List.drop_eq_getElem_cons hi, ez]
      rw [ed] at ht
      have q' : ascV m 0 xs = false → Q (.bl false) H2 := fun e => by
        have := q
        show Q (.bl false) H2
        rw [← e]
        exact this
      refine ⟨.int (m : Int), rfl, v, rfl, m, v, rfl, kd v (List.mem_of_getElem? hv), vx m v, rfl, ?_⟩
      cases v with
      | int z =>
        have ht : ascV m 0 xs = (decide (0 ≤ z ∧ z < (m : Int)) && (decide (t ≤ z) && ascV m (z + 1) (xs.drop (i + 1)))) := ht
        show if (!decide (0 ≤ z ∧ z < (m : Int))) = true then _ else _
        by_cases hz : 0 ≤ z ∧ z < (m : Int)
        · rw [decide_eq_true hz] at ht ⊢
          refine iteF ⟨.int z, rfl, .int t, rfl, _, _, rfl, rfl, _, rfl, ?_⟩
          by_cases c : z < t
          · rw [decide_eq_true c]
            rw [decide_eq_false (show ¬ t ≤ z by omega)] at ht
            exact iteT (q' ht)
          · rw [decide_eq_false c]
            rw [decide_eq_true (show t ≤ z by omega)] at ht
            exact iteF ⟨.int z, rfl, _, _, rfl, rfl, _, z + 1, rfl, rfl, ht⟩
        · rw [decide_eq_false hz] at ht ⊢
          exact iteT (q' ht)
      | _ => exact iteT (q' ht)
    · rintro σ H2 ⟨y3, t, rfl, rfl, ht⟩
      rw [List.drop_length] at ht
      have : ascV m 0 xs = true := ht
      have q2 : Q (.bl (ascV m 0 xs)) H2 := q
      rw [this] at q2
      exact q2
def spIsSetting (K : PySem.W.Frag) : Sp := fun vs H Q _ => ∃ (x v : V) (m : Nat) (es : List (Int × Int)) (o : Option (List V)), vs = [x, v] ∧ m ≤ 12 ∧ IsFor m es ∧ Dp K H x (forD m es) ∧ Vw K H v o ∧ ∀ H', Same H H' → Q (.bl (setO m es o)) H'
theorem ok_IsSetting {f : Addr} {fd : FuncData} (F : Fun K "is_setting" "is_setting" sIsSetting f fd) (m_any : mg "any" = none) (oIsAscending : Own P w K mg base "is_ascending" 3 ["n", "value"] (spIsAscending K)) :
    FnOk P w K mg base CX0 4 f fd ["forest", "value"] (spIsSetting K) := by
  refine F.ok scIsSetting (fun vs H Q E h => ?_) (fun cdv A outer s H vs Q E hr h => ?_)
  · obtain ⟨x, v, m, es, o, rfl, _⟩ := h
    rfl
  · obtain ⟨x, v, m, es, o, rfl, hm, isf, hx, hv, q⟩ := h
    obtain ⟨a, b, xs, rfl, ha, hb, hA⟩ := Dp.forI hx
    have ec := isf.count
    refine ⟨_, (pss_cons (ps_asg (pv 0) (pgTK K (pgs_cons (pg_name (i := 2) scIsSetting.nd rfl (Or.inl rfl)) (pgs_cons (pg_name (i := 3) scIsSetting.nd rfl (Or.inl rfl)) pgs_nil))))
    (pss_cons (ps_if (pt_not (pt_val (pe_own oIsAscending (hr.mono (by decide)) (by rfl) (pa_cons (pv 2) (pa_cons (pv 1) pa_nil))))) (pss_one (ps_ret pe_bl)) pss_nil)
    (pss_one (ps_ret (pe_not (pe_callB (anyK K rfl) (by rfl) m_any (by decide +kernel) (pa_cons (pe_lc (own := [("a", 4), ("b", 5)]) (g := (gTup K 2 (gCons (gName 4) (gCons (gName 5) gNil)))) (tt := tYes) rfl scIsSetting.nd (piTK K (pv 3))
      (blkOk_by (own := [("a", 4), ("b", 5)]) (N := nIsSetting) (sc := (defScope sIsSetting)) (by decide +kernel))
      (fun _ _ _ _ _ => (pgTK K (pgs_cons (pg_name (i := 4) scIsSetting.nd rfl (Or.inl rfl)) (pgs_cons (pg_name (i := 5) scIsSetting.nd rfl (Or.inl rfl)) pgs_nil)))) (fun _ _ _ _ _ => pts_nil)
      (fun _ _ _ _ _ => (pe_and (pe_cmpR (inK K) (pv 4) (pv 1) (by rfl)) (pe_one (pe_cmpR (inK K) (pv 5) (pv 1) (by rfl)))))) pa_nil))))))), ?_⟩
    refine ⟨.ref a, rfl, a, _, rfl, ha, rfl, _, _, rfl, _, _, rfl, rfl, ?_⟩
    refine ⟨.int (m : Int), rfl, v, rfl, v, m, o, rfl, hv, ascO m o, rfl, ?_⟩
    cases hv with
    | no _ _ => exact iteT (q H (Same.refl H))
    | @yes c ys hc kd ly =>
    cases hs : ascV m 0 ys with
    | false =>
      have e : setO m es (some ys) = false := by
        show (ascV m 0 ys && _) = false
        rw [hs]
        rfl
      have q' := q H (Same.refl H)
      rw [e] at q'
      show if (!ascV m 0 ys) = true then _ else _
      rw [hs]
      exact iteT q'
    | true =>
      show if (!ascV m 0 ys) = true then _ else _
      rw [hs]
      refine iteF ?_
      obtain ⟨S, rfl, asc, rg⟩ := (ascV_iff m ys 0).mp hs
      refine ⟨.ref b, rfl, b, rfl, ⟨_, hb⟩, fun D nD => ?_⟩
      refine lc_tupP (K := K) (fun _ => true) (fun p => .bool (decide (p.1 ∈ S) && decide (p.2 ∈ S))) nD hb hA (fun _ _ => rfl) (fun o _ H' R s1 hR => hR H' (Same.refl _)) (fun o _ _ H' R s1 hR => ?_) (fun o => by simp [only]) (by omega) (fun H2 ys s2 eD dy => ?_)
      · have hR' := hR H' _ (Same.refl _) (.bl _)
        refine ⟨.int o.1, rfl, .ref c, rfl, c, S.map V.int, rfl, .inr (Same.tup s1 hc), rfl, flat_ints S, decide (o.1 ∈ S), ?_, ite2 (fun h => ?_) (fun h => ?_)⟩
        · show V.bl (if false = true then _ else inV (V.int o.1) (S.map V.int)) = _
          rw [if_neg Bool.false_ne_true, inV_ints]
        · refine ⟨.int o.2, rfl, .ref c, rfl, c, S.map V.int, rfl, .inr (Same.tup s1 hc), rfl, flat_ints S, ?_⟩
          show R (.bl (if false = true then _ else inV (V.int o.2) (S.map V.int))) _
          rw [if_neg Bool.false_ne_true, inV_ints]
          rw [h, Bool.true_and] at hR'
          exact hR'
        · rw [Bool.eq_false_iff.mpr h, Bool.false_and] at hR'
          exact hR'
      rw [filt_true] at dy
      have e1 : ys = (es.map fun p => decide (p.1 ∈ S) && decide (p.2 ∈ S)).map V.bl := DpAll.boolsT (by rw [List.map_map]; exact dy)
      subst e1
      refine ⟨D, _, rfl, SqL.of eD, _, rfl, ?_⟩
      have e : setO m es (some (S.map V.int)) = !((es.map fun p => decide (p.1 ∈ S) && decide (p.2 ∈ S)).any id) := by
        show (ascV m 0 (S.map V.int) && !_) = _
        rw [hs, Bool.true_and, List.any_map]
        congr 1
        refine congrArg (fun g => es.any g) (funext fun p => ?_)
        rw [inV_ints, inV_ints]
        rfl
      have q' := q _ s2
      rw [e] at q'
      exact q'
end
end TL
namespace TL
open PySem PySem.Spec PyProof.Rows L2
section
variable {P : Program} {w : World} {K : PySem.W.Frag} {mg : Str → Option Value} {base : Heap}
/-! ### the program: boards -/
/-- what the text says of the class -/
structure BrdC (K : PySem.W.Frag) (C : Addr) : Prop where
  cl : Cls K C
  ns : NoAttr K C "states"
  nm : NoAttr K C "made"
  nb : NoAttr K C "busy"
theorem DpAll.at {H : Hp} {xs : List V} {ds : List PyData} {i : Nat} {d : PyData} (h : DpAll K H xs ds) (e : ds[i]? = some d) : ∃ v, xs[i]? = some v ∧ Dp K H v d := by
  have hl := DpAll.length h
  have hi : i < xs.length := by rw [hl]; exact (List.getElem?_eq_some_iff.mp e).1
  obtain ⟨z, e2, hz⟩ := DpAll.get h (List.getElem?_eq_getElem hi)
  rw [e] at e2
  cases e2
  exact ⟨_, List.getElem?_eq_getElem hi, hz⟩
theorem atI_end {α : Type} {xs : List α} {v : α} {n : Nat} (h : xs[n]? = some v) (hl : xs.length = n + 1) : atI xs (-1) = some v := by
  have hn : n < xs.length := by omega
  have e : xs = xs.take n ++ [v] := by
    rw [List.getElem?_eq_getElem hn] at h
    have := List.take_append_drop n xs
    rw [List.drop_eq_getElem_cons hn, Option.some.inj h, List.drop_eq_nil_of_le (by omega)] at this
    exact this.symm
  rw [e]
  exact atI_last _ _
/-- which version is asked for -/
def Ver (x : V) (n i : Nat) : Prop := (x = .non ∧ i = n) ∨ x = .int (i : Int)
def spStateAt (K : PySem.W.Frag) (C : Addr) : Sp := fun vs H Q _ => ∃ (b : Addr) (x : V) (sts : List BS) (eds : List Ed) (i : Nat) (s : BS), vs = [.ref b, x] ∧ Bd K C H b sts eds ∧ Ver x eds.length i ∧ sts[i]? = some s ∧ ∀ z, Dp K H z s.d → Q z H
theorem ok_BoardStateAt {f C : Addr} {fd : FuncData} (F : Fun K "state_at" "Board.state_at" sBoardStateAt f fd) (TB : BrdC K C) (m_len : mg "len" = none) (oIsNumber : Own P w K mg base "is_number" 1 ["value"] (spIsNumber K)) :
    FnOk P w K mg base CX0 2 f fd ["self", "version"] (spStateAt K C) := by
  refine F.ok scBoardStateAt (fun vs H Q E h => ?_) (fun cdv A outer s H vs Q E hr h => ?_)
  · obtain ⟨b, x, sts, eds, i, st, rfl, _⟩ := h
    rfl
  · obtain ⟨b, x, sts, eds, i, st, rfl, hB, hv, hs, q⟩ := h
    obtain ⟨dx, sa, ma, hb, hsa, hma⟩ := hB.at_
    obtain ⟨sa', xs, e, hx, hA⟩ := Dp.tupI hsa
    cases e
    have lx : xs.length = sts.length := by rw [DpAll.length hA, List.length_map]
    obtain ⟨z, hz, dz⟩ := DpAll.at hA (i := i) (d := st.d) (by rw [List.getElem?_map, hs]; rfl)
    have hl := hB.len
    refine ⟨_, (pss_cons (ps_if (pt_cmpR op_isN (pv 1) pe_non (nomark _)) (pss_one (ps_ret (pe_ix (ixTK K) (fldK K (pv 0) rfl) (pe_un un_neg pe_int) (fun _ _ => rfl)))) pss_nil)
    (pss_cons (ps_if (PW.pt (pw_or (pt_not (pt_val (pe_own oIsNumber (hr.mono (by decide)) (by rfl) (pa_cons (pv 1) pa_nil)))) (pw_or1 (pt_not (pt_chain op_le op_lt pe_int (pv 1) (pe_callB (lenK K) (by rfl) m_len (by decide +kernel) (pa_cons (fldK K (pv 0) rfl) pa_nil))))))) (pss_one ps_never) pss_nil)
    (pss_one (ps_ret (pe_ix (ixTK K) (fldK K (pv 0) rfl) (pv 1) (fun _ _ => rfl)))))), ?_⟩
    refine ⟨x, rfl, rfl, _, rfl, ?_⟩
    rcases hv with ⟨rfl, rfl⟩ | rfl
    · rw [decide_eq_true rfl]
      refine iteT ⟨.ref b, rfl, b, C, dx, _, .ref sa, rfl, hb, TB.cl, TB.ns, flds_states, 1, rfl, sa, xs, -1, z, rfl, rfl, hx, atI_end hz (by omega), q z dz⟩
    · rw [decide_eq_false (show ¬ V.int (i : Int) = V.non from fun z => nomatch z)]
      have hi : i < sts.length := (List.getElem?_eq_some_iff.mp hs).1
      refine iteF ⟨.int (i : Int), rfl, .int (i : Int), rfl, Kd.int _, true, rfl, iteF ⟨.int (i : Int), rfl, _, _, rfl, rfl, _, rfl, ?_⟩⟩
      rw [decide_eq_true (show (0 : Int) ≤ (i : Int) by omega)]
      refine iteT ⟨.ref b, rfl, b, C, dx, _, .ref sa, rfl, hb, TB.cl, TB.ns, flds_states, sa, _, rfl, .inr hx, _, _, rfl, rfl, _, rfl, ?_⟩
      rw [decide_eq_true (show (i : Int) < (xs.length : Int) by omega)]
      refine iteF ?_
      exact ⟨.ref b, rfl, b, C, dx, _, .ref sa, rfl, hb, TB.cl, TB.ns, flds_states, .int (i : Int), rfl, sa, xs, _, z, rfl, rfl, hx, atI_nat hz, q z dz⟩
theorem no_state_at : ¬ ("state_at" : Str) = "states" ∧ ¬ ("state_at" : Str) = "made" ∧ ¬ ("state_at" : Str) = "busy" := by decide +kernel
def spBForest (K : PySem.W.Frag) (C : Addr) : Sp := fun vs H Q _ => ∃ (b : Addr) (x : V) (sts : List BS) (eds : List Ed) (i : Nat) (s : BS), vs = [.ref b, x] ∧ Bd K C H b sts eds ∧ Ver x eds.length i ∧ sts[i]? = some s ∧ ∀ z, Dp K H z (forD s.m s.es) → Q z H
theorem ok_BoardForest {f C : Addr} {fd : FuncData} (F : Fun K "forest" "Board.forest" sBoardForest f fd) (oBoardStateAt : Mt P w K mg base C "state_at" 2 ["self", "version"] [] (spStateAt K C)) :
    FnOk P w K mg base CX0 3 f fd ["self", "version"] (spBForest K C) := by
  refine F.ok scBoardForest (fun vs H Q E h => ?_) (fun cdv A outer s H vs Q E hr h => ?_)
  · obtain ⟨b, x, sts, eds, i, st, rfl, _⟩ := h
    rfl
  · obtain ⟨b, x, sts, eds, i, st, rfl, hB, hv, hs, q⟩ := h
    obtain ⟨dx, sa, ma, hb, hsa, hma⟩ := hB.at_
    refine ⟨_, (pss_one (ps_ret (pe_ix (ixTK K) (pe_mt oBoardStateAt (hr.mono (by decide)) (pv 0) (pa_cons (pv 1) pa_nil)) pe_int (fun _ _ => rfl)))), ?_⟩
    refine ⟨.ref b, rfl, b, dx, _, rfl, hb, flds_no no_state_at.1 no_state_at.2.1 no_state_at.2.2, x, rfl, b, x, sts, eds, i, st, rfl, hB, hv, hs, fun z hz => ?_⟩
    obtain ⟨a, xs, rfl, ha, hA⟩ := Dp.tupI hz
    obtain ⟨y, hy, dy⟩ := DpAll.at hA (i := 0) (d := forD st.m st.es) rfl
    exact ⟨a, xs, 0, y, rfl, rfl, ha, atI_nat (j := 0) hy, q y dy⟩
def spBLamps (K : PySem.W.Frag) (C : Addr) : Sp := fun vs H Q _ => ∃ (b : Addr) (x : V) (sts : List BS) (eds : List Ed) (i : Nat) (s : BS), vs = [.ref b, x] ∧ Bd K C H b sts eds ∧ Ver x eds.length i ∧ sts[i]? = some s ∧ ∀ z, Dp K H z (intsD s.S) → Q z H
theorem ok_BoardLamps {f C : Addr} {fd : FuncData} (F : Fun K "lamps" "Board.lamps" sBoardLamps f fd) (oBoardStateAt : Mt P w K mg base C "state_at" 2 ["self", "version"] [] (spStateAt K C)) :
    FnOk P w K mg base CX0 3 f fd ["self", "version"] (spBLamps K C) := by
  refine F.ok scBoardLamps (fun vs H Q E h => ?_) (fun cdv A outer s H vs Q E hr h => ?_)
  · obtain ⟨b, x, sts, eds, i, st, rfl, _⟩ := h
    rfl
  · obtain ⟨b, x, sts, eds, i, st, rfl, hB, hv, hs, q⟩ := h
    obtain ⟨dx, sa, ma, hb, hsa, hma⟩ := hB.at_
    refine ⟨_, (pss_one (ps_ret (pe_ix (ixTK K) (pe_mt oBoardStateAt (hr.mono (by decide)) (pv 0) (pa_cons (pv 1) pa_nil)) pe_int (fun _ _ => rfl)))), ?_⟩
    refine ⟨.ref b, rfl, b, dx, _, rfl, hb, flds_no no_state_at.1 no_state_at.2.1 no_state_at.2.2, x, rfl, b, x, sts, eds, i, st, rfl, hB, hv, hs, fun z hz => ?_⟩
    obtain ⟨a, xs, rfl, ha, hA⟩ := Dp.tupI hz
    obtain ⟨y, hy, dy⟩ := DpAll.at hA (i := 1) (d := intsD st.S) rfl
    exact ⟨a, xs, 1, y, rfl, rfl, ha, atI_nat (j := 1) hy, q y dy⟩
def spBEdits (K : PySem.W.Frag) (C : Addr) : Sp := fun vs H Q _ => ∃ (b : Addr) (sts : List BS) (eds : List Ed), vs = [.ref b] ∧ Bd K C H b sts eds ∧ ∀ z, Dp K H z (.tuple (eds.map Ed.d)) → Q z H
theorem ok_BoardEdits {f C : Addr} {fd : FuncData} (F : Fun K "edits" "Board.edits" sBoardEdits f fd) (TB : BrdC K C) :
    FnOk P w K mg base CX0 1 f fd ["self"] (spBEdits K C) := by
  refine F.ok scBoardEdits (fun vs H Q E h => ?_) (fun cdv A outer s H vs Q E hr h => ?_)
  · obtain ⟨b, sts, eds, rfl, _⟩ := h
    rfl
  · obtain ⟨b, sts, eds, rfl, hB, q⟩ := h
    obtain ⟨dx, sa, ma, hb, hsa, hma⟩ := hB.at_
    refine ⟨_, (pss_one (ps_ret (fldK K (pv 0) rfl))), ?_⟩
    exact ⟨.ref b, rfl, b, C, dx, _, .ref ma, rfl, hb, TB.cl, TB.nm, flds_made, q _ hma⟩
def spBLen (K : PySem.W.Frag) (C : Addr) : Sp := fun vs H Q _ => ∃ (b : Addr) (sts : List BS) (eds : List Ed), vs = [.ref b] ∧ Bd K C H b sts eds ∧ Q (.int (eds.length : Int)) H
theorem ok_BoardLen {f C : Addr} {fd : FuncData} (F : Fun K "__len__" "Board.__len__" sBoardLen f fd) (TB : BrdC K C) (m_len : mg "len" = none) :
    FnOk P w K mg base CX0 1 f fd ["self"] (spBLen K C) := by
  refine F.ok scBoardLen (fun vs H Q E h => ?_) (fun cdv A outer s H vs Q E hr h => ?_)
  · obtain ⟨b, sts, eds, rfl, _⟩ := h
    rfl
  · obtain ⟨b, sts, eds, rfl, hB, q⟩ := h
    obtain ⟨dx, sa, ma, hb, hsa, hma⟩ := hB.at_
    obtain ⟨ma', xs, e, hx, hA⟩ := Dp.tupI hma
    cases e
    have lx : xs.length = eds.length := by rw [DpAll.length hA, List.length_map]
    refine ⟨_, (pss_one (ps_ret (pe_callB (lenK K) (by rfl) m_len (by decide +kernel) (pa_cons (fldK K (pv 0) rfl) pa_nil)))), ?_⟩
    refine ⟨.ref b, rfl, b, C, dx, _, .ref ma, rfl, hb, TB.cl, TB.nm, flds_made, ma, _, rfl, .inr hx, ?_⟩
    rw [lx]
    exact q
/-! ### the text of a board -/
theorem dig60 : ∀ i : Fin 61, (dig ((i : Nat) : Int)).length ≤ 2 := by decide +kernel
theorem dig_len {n : Nat} (h : n ≤ 60) : (dig (n : Int)).length ≤ 2 := dig60 ⟨n, by omega⟩
theorem dig_log {n : Nat} (h : n ≤ 60) : (n : Int).natAbs.log2 < 1920 := Nat.lt_trans (sm_log (i := (n : Int)) (by unfold sm; omega)) (by decide)
def bWords (s : BS) (k : Nat) : List Str := [Str.empty ++ dig (s.m : Int) ++ " vertices", Str.empty ++ dig (s.es.length : Int) ++ " edges", Str.empty ++ dig (s.S.length : Int) ++ " lamps", Str.empty ++ dig (k : Int) ++ " edits"]
def bText (s : BS) (k : Nat) : Str := Txt.join ", " (bWords s k)
theorem lit_lens : (" vertices" : Str).length = 9 ∧ (" edges" : Str).length = 6 ∧ (" lamps" : Str).length = 6 ∧ (" edits" : Str).length = 6 ∧ (", " : Str).length = 2 := by decide +kernel
def spBStr (K : PySem.W.Frag) (C : Addr) : Sp := fun vs H Q _ => ∃ (b : Addr) (sts : List BS) (eds : List Ed) (s : BS), vs = [.ref b] ∧ Bd K C H b sts eds ∧ sts[eds.length]? = some s ∧ ∀ H', Same H H' → Q (.str (bText s eds.length)) H'
theorem no_forest : ¬ ("forest" : Str) = "states" ∧ ¬ ("forest" : Str) = "made" ∧ ¬ ("forest" : Str) = "busy" := by decide +kernel
theorem no_lamps : ¬ ("lamps" : Str) = "states" ∧ ¬ ("lamps" : Str) = "made" ∧ ¬ ("lamps" : Str) = "busy" := by decide +kernel
theorem ok_BoardStr {f C : Addr} {fd : FuncData} (F : Fun K "__str__" "Board.__str__" sBoardStr f fd) (TB : BrdC K C) (m_len : mg "len" = none)
    (oBoardForest : Mt P w K mg base C "forest" 3 ["self", "version"] [.non] (spBForest K C)) (oBoardLamps : Mt P w K mg base C "lamps" 3 ["self", "version"] [.non] (spBLamps K C)) :
    FnOk P w K mg base CX0 4 f fd ["self"] (spBStr K C) := by
  refine F.ok scBoardStr (fun vs H Q E h => ?_) (fun cdv A outer s H vs Q E hr h => ?_)
  · obtain ⟨b, sts, eds, st, rfl, _⟩ := h
    rfl
  · obtain ⟨b, sts, eds, st, rfl, hB, hs, q⟩ := h
    obtain ⟨dx, sa, ma, hb, hsa, hma⟩ := hB.at_
    obtain ⟨ma', ms, em, hm, hM⟩ := Dp.tupI hma
    cases em
    have lm : ms.length = eds.length := by rw [DpAll.length hM, List.length_map]
    have ok := hB.ok st (List.mem_of_getElem? hs)
    have l1 : st.m ≤ 60 := by have := ok.m12; omega
    have l2 : st.es.length ≤ 60 := by have := ok.isf.count; omega
    have l3 : st.S.length ≤ 60 := by have := ok.iss.len; omega
    have l4 := hB.le
    obtain ⟨w1, w2, w3, w4, w5⟩ := lit_lens
    have d1 : (Str.ofString (toString (st.m : Int))).length ≤ 2 := dig_len l1
    have d2 : (Str.ofString (toString (st.es.length : Int))).length ≤ 2 := dig_len l2
    have d3 : (Str.ofString (toString (st.S.length : Int))).length ≤ 2 := dig_len l3
    have d4 : (Str.ofString (toString (eds.length : Int))).length ≤ 2 := dig_len l4
    have big : ∀ {n : Nat}, n ≤ 1000 → n ≤ sizeLine := fun h => Nat.le_of_lt (small1000 h)
    refine ⟨_, (pss_one (ps_ret (joinK K pe_str (pe_lst (pa_cons (pe_jd (.cons (pe_fmt (pe_ix (ixTK K) (pe_mt0 oBoardForest (hr.mono (by decide)) (pv 0)) pe_int (fun _ _ => rfl))) (.cons pe_str .nil))) (pa_cons (pe_jd (.cons (pe_fmt (pe_callB (lenK K) (by rfl) m_len (by decide +kernel) (pa_cons (pe_ix (ixTK K) (pe_mt0 oBoardForest (hr.mono (by decide)) (pv 0)) pe_int (fun _ _ => rfl)) pa_nil))) (.cons pe_str .nil))) (pa_cons (pe_jd (.cons (pe_fmt (pe_callB (lenK K) (by rfl) m_len (by decide +kernel) (pa_cons (pe_mt0 oBoardLamps (hr.mono (by decide)) (pv 0)) pa_nil))) (.cons pe_str .nil))) (pa_cons (pe_jd (.cons (pe_fmt (pe_callB (lenK K) (by rfl) m_len (by decide +kernel) (pa_cons (fldK K (pv 0) rfl) pa_nil))) (.cons pe_str .nil))) pa_nil)))))))), ?_⟩
    refine ⟨⟨_, rfl⟩, ?_⟩
    -- vertices
    refine ⟨.ref b, rfl, b, dx, _, rfl, hb, flds_no no_forest.1 no_forest.2.1 no_forest.2.2, b, .non, sts, eds, _, st, rfl, hB, .inl ⟨rfl, rfl⟩, hs, fun z hz => ?_⟩
    obtain ⟨a1, a2, xs, rfl, ha1, ha2, hA⟩ := Dp.forI hz
    refine ⟨a1, _, 0, .int (st.m : Int), rfl, rfl, ha1, atI_nat (j := 0) rfl, .inr ⟨_, rfl, dig_log l1, _, rfl, big (by rw [Str.empty_append]; omega), _, rfl, big (by rw [Str.length_append, Str.empty_append]; omega), ?_⟩⟩
    -- edges
    refine ⟨.ref b, rfl, b, dx, _, rfl, hb, flds_no no_forest.1 no_forest.2.1 no_forest.2.2, b, .non, sts, eds, _, st, rfl, hB, .inl ⟨rfl, rfl⟩, hs, fun z hz => ?_⟩
    obtain ⟨c1, c2, ys, rfl, hc1, hc2, hC⟩ := Dp.forI hz
    have ly : ys.length = st.es.length := by rw [DpAll.length hC, List.length_map]
    refine ⟨c1, _, 1, .ref c2, rfl, rfl, hc1, atI_nat (j := 1) rfl, c2, _, rfl, .inr hc2, .inr ⟨_, rfl, by rw [ly]; exact dig_log l2, _, rfl, big (by rw [Str.empty_append, ly]; omega), _, rfl, big (by rw [Str.length_append, Str.empty_append, ly]; omega), ?_⟩⟩
    -- lamps
    refine ⟨.ref b, rfl, b, dx, _, rfl, hb, flds_no no_lamps.1 no_lamps.2.1 no_lamps.2.2, b, .non, sts, eds, _, st, rfl, hB, .inl ⟨rfl, rfl⟩, hs, fun z hz => ?_⟩
    obtain ⟨e1, rfl, he1⟩ := Dp.intsI hz
    refine ⟨e1, _, rfl, .inr he1, .inr ⟨_, rfl, by rw [List.length_map]; exact dig_log l3, _, rfl, big (by rw [Str.empty_append, List.length_map]; omega), _, rfl, big (by rw [Str.length_append, Str.empty_append, List.length_map]; omega), ?_⟩⟩
    -- edits
    refine ⟨.ref b, rfl, b, C, dx, _, .ref ma, rfl, hb, TB.cl, TB.nm, flds_made, ma, _, rfl, .inr hm, .inr ⟨_, rfl, by rw [lm]; exact dig_log l4, _, rfl, big (by rw [Str.empty_append, lm]; omega), _, rfl, big (by rw [Str.length_append, Str.empty_append, lm]; omega), ?_⟩⟩
    rw [ly, lm, List.length_map]
    refine ⟨by show 4 ≤ sizeLine; decide, fun l nl => ?_⟩
    refine ⟨_, l, bWords st eds.length, rfl, rfl, .inl (SqL.of upd_same), ?_, q _ (same_upd nl)⟩
    show (bWords st eds.length |>.map (·.length)).sum + (bWords st eds.length).length * (", " : Str).length ≤ 16777216
    unfold bWords
    simp only [List.map_cons, List.map_nil, List.sum_cons, List.sum_nil, List.length_cons, List.length_nil, Str.length_append, Str.empty_append]
    have g1 := dig_len l1
    have g2 := dig_len l2
    have g3 := dig_len l3
    have g4 := dig_len l4
    omega
end
end TL
namespace TL
open PySem PySem.Spec PyProof.Rows L2
section
variable {P : Program} {w : World} {K : PySem.W.Frag} {mg : Str → Option Value} {base : Heap}
/-! ### a new board, or an error -/
theorem pairD {H : Hp} {x y : V} {s : BS} {z : Addr} (hz : H z = some (.tup [x, y])) (hx : Dp K H x (forD s.m s.es)) (hy : Dp K H y (intsD s.S)) : Dp K H (.ref z) s.d :=
  .tup (SqT.of hz) (.cons hx (.cons hy .nil))
def isNo : PyData → Bool
  | .none => true
  | _ => false
theorem isNo_dp {H : Hp} {r : V} {x : PyData} (h : Dp K H r x) : decide (r = V.non) = isNo x := by
  cases h <;> first | rfl | exact decide_eq_false (fun z => nomatch z)
theorem isNo_eq {x : PyData} (h : isNo x = true) : x = .none := by
  cases x <;> first | rfl | exact nomatch h
/-- what comes of a forest and lamps -/
def Out (K : PySem.W.Frag) (H : Hp) (x y : V) (fd : PyData) (ol : Option (List V)) (qF qS : Prop) (qB : BS → Prop) : Prop :=
  (isNo fd = false → qF) ∧ (isNo fd = true → ∃ (m : Nat) (es : List (Int × Int)), m ≤ 12 ∧ IsFor m es ∧ Dp K H x (forD m es) ∧ (setO m es ol = false → qS) ∧ (setO m es ol = true → ∃ S, IsSet m es S ∧ Dp K H y (intsD S) ∧ qB ⟨m, es, S⟩))
def spBInit (K : PySem.W.Frag) (C CF CS : Addr) : Sp := fun vs H Q E => ∃ (b dx : Addr) (x y : V) (oi : Option (V × V)) (so : Option (List (Option (V × V)))) (ol : Option (List V)), vs = [.ref b, x, y] ∧ H b = some (.ins C dx []) ∧ Iw K H x oi ∧ (∀ n e, oi = some (n, e) → Sv K H e so) ∧ Vw K H y ol ∧
  Out K H x y (forE so oi) ol (∀ (H' : Hp) (dd : Addr) (r : V), Same H H' → H' dd = some (.xd [("error", r)]) → Dp K H' r (forE so oi) → E (.ref CF) (some dd) H') (∀ H', Same H H' → E (.ref CS) none H') (fun s => ∀ H', Fo b H H' → Bd K C H' b [s] [] → Q .non H')
theorem flds_made0 {sa ma : Addr} : putF ("busy" : Str) (.bl false) (putF ("made" : Str) (.ref ma) (putF ("states" : Str) (.ref sa) [])) = flds sa ma false := by
  rw [show putF ("states" : Str) (V.ref sa) [] = [(("states" : Str), V.ref sa)] from rfl, putF_next ne_sm, putF_next ne_sb, show putF ("made" : Str) (V.ref ma) [] = [(("made" : Str), V.ref ma)] from rfl, putF_next ne_mb]
  rfl
theorem ok_BoardInit {f C cBadForest cBadSetting : Addr} {fd : FuncData} (F : Fun K "__init__" "Board.__init__" sBoardInit f fd) (TB : BrdC K C) (eBadForest : ErrC P w K mg base "BadForest" "error" cBadForest) (eBadSetting : Err0 K mg "BadSetting" cBadSetting)
    (oForestError : Own P w K mg base "forest_error" 5 ["value"] (spForestError K)) (oIsSetting : Own P w K mg base "is_setting" 4 ["forest", "value"] (spIsSetting K)) :
    FnOk P w K mg base (L2.CX P w) 6 f fd ["self", "forest", "lamps"] (spBInit K C cBadForest cBadSetting) := by
  refine F.okX scBoardInit (fun vs H Q E h => ?_) (fun cdv A outer s H vs Q E hr h => ?_)
  · obtain ⟨b, dx, x, y, oi, so, ol, rfl, _⟩ := h
    rfl
  · obtain ⟨b, dx, x, y, oi, so, ol, rfl, hb, hoi, hso, hy, q1, q2⟩ := h
    refine ⟨_, (pss_cons (ps_set (i := 3) scBoardInit.nd rfl (.inl rfl) (pe_own oForestError (hr.mono (by decide)) (by rfl) (pa_cons (pv 1) pa_nil)))
    (pss_cons (ps_if (pt_cmpR op_notN (pv 3) pe_non (nomark _)) (pss_one (ps_err eBadForest (hr.mono (by decide)) (takes_of rfl rfl rfl rfl) (by rfl) (pa_cons (pv 3) pa_nil))) pss_nil)
    (pss_cons (ps_if (pt_not (pt_val (pe_own oIsSetting (hr.mono (by decide)) (by rfl) (pa_cons (pv 1) (pa_cons (pv 2) pa_nil))))) (pss_one (ps_err0 eBadSetting (takes_of rfl rfl rfl rfl) (by rfl))) pss_nil)
    (pss_cons (fldSK K (pv 0) (pe_tup (pa_cons (pe_tup (pa_cons (pv 1) (pa_cons (pv 2) pa_nil))) pa_nil)) rfl)
    (pss_cons (fldSK K (pv 0) (pe_tup pa_nil) rfl)
    (pss_one (fldSK K (pv 0) pe_bl rfl))))))), ?_⟩
    refine ⟨x, rfl, x, oi, so, rfl, hoi, hso, fun H1 r s1 dr => ?_⟩
    dsimp only [gName]
    refine ⟨r, rfl, rfl, _, rfl, ?_⟩
    rw [isNo_dp dr]
    cases en : isNo (forE so oi) with
    | false => exact iteT ⟨r, rfl, errI fun H' dd s e => q1 en H' dd r (s1.trans s) e (Dp.same s dr)⟩
    | true =>
    obtain ⟨m, es, hm, isf, hx, q3, q4⟩ := q2 en
    refine iteF ?_
    refine ⟨x, rfl, y, rfl, x, y, m, es, ol, rfl, hm, isf, Dp.same s1 hx, hy.same s1, fun H2 s2 => ⟨_, rfl, ?_⟩⟩
    cases eo : setO m es ol with
    | false => exact iteT (q3 eo H2 (s1.trans s2))
    | true =>
    obtain ⟨S, iss, hy, q⟩ := q4 eo
    refine iteF ?_
    have ok : BS.ok ⟨m, es, S⟩ := ⟨hm, isf, iss⟩
    generalize hst : (⟨m, es, S⟩ : BS) = st at ok q
    have hx : Dp K H x (forD st.m st.es) := by rw [← hst]; exact hx
    have hy : Dp K H y (intsD st.S) := by rw [← hst]; exact hy
    have s12 := s1.trans s2
    have hb2 := s12 _ _ hb
    have hx2 := Dp.same s12 hx
    have hy2 := Dp.same s12 hy
    refine ⟨x, rfl, y, rfl, by show 2 ≤ sizeLine; decide, fun t nt => ⟨by show 1 ≤ sizeLine; decide, fun t2 nt2 => ?_⟩⟩
    have s3 := same_upd (o := .tup [x, y]) nt
    have e3 := same_at (o := .tup [x, y]) nt
    generalize upd H2 t (.tup [x, y]) = H3 at s3 e3 nt2 ⊢
    have s4 := same_upd (o := .tup [V.ref t]) nt2
    have e4 := same_at (o := .tup [V.ref t]) nt2
    generalize upd H3 t2 (.tup [V.ref t]) = H4 at s4 e4 ⊢
    have s34 := s3.trans s4
    have hb4 := s34 _ _ hb2
    refine ⟨.ref b, rfl, b, C, dx, _, rfl, hb4, TB.cl, TB.ns, by show 0 < 1000; decide, ?_⟩
    have d4 : Dp K H4 (.ref t2) (.tuple ([st].map BS.d)) := .tup (SqT.of e4) (.cons (pairD (s := st) (s4 _ _ e3) (Dp.same s34 hx2) (Dp.same s34 hy2)) .nil)
    have f5 : Fo b H4 (upd H4 b (.ins C dx (putF ("states" : Str) (.ref t2) []))) := Fo.upd
    have e5 : upd H4 b (.ins C dx (putF ("states" : Str) (.ref t2) [])) b = some (.ins C dx (putF ("states" : Str) (.ref t2) [])) := upd_same
    have d5 := Dp.kt (Fo.kt (K := K) f5 hb4) d4 (only_tup (only_BSs _))
    generalize upd H4 b (.ins C dx (putF ("states" : Str) (.ref t2) [])) = H5 at f5 e5 d5 ⊢
    refine ⟨Nat.zero_le _, fun t6 nt6 => ?_⟩
    have s6 := same_upd (o := .tup []) nt6
    have e6 := same_at (o := .tup []) nt6
    generalize upd H5 t6 (.tup []) = H6 at s6 e6 ⊢
    have hb6 := s6 _ _ e5
    refine ⟨.ref b, rfl, b, C, dx, _, rfl, hb6, TB.cl, TB.nm, by show 1 < 1000; decide, ?_⟩
    have d6 := Dp.same s6 d5
    have m6 : Dp K H6 (.ref t6) (.tuple ([].map Ed.d)) := .tup (SqT.of e6) .nil
    have f7 : Fo b H6 (upd H6 b (.ins C dx (putF ("made" : Str) (.ref t6) (putF ("states" : Str) (.ref t2) [])))) := Fo.upd
    have e7 : upd H6 b (.ins C dx (putF ("made" : Str) (.ref t6) (putF ("states" : Str) (.ref t2) []))) b = some (.ins C dx (putF ("made" : Str) (.ref t6) (putF ("states" : Str) (.ref t2) []))) := upd_same
    have d7 := Dp.kt (Fo.kt (K := K) f7 hb6) d6 (only_tup (only_BSs _))
    have m7 := Dp.kt (Fo.kt (K := K) f7 hb6) m6 (only_tup (only_Eds _))
    generalize upd H6 b (.ins C dx (putF ("made" : Str) (.ref t6) (putF ("states" : Str) (.ref t2) []))) = H7 at f7 e7 d7 m7 ⊢
    refine ⟨.ref b, rfl, b, C, dx, _, rfl, e7, TB.cl, TB.nb, by
      rw [show putF ("states" : Str) (V.ref t2) [] = [(("states" : Str), V.ref t2)] from rfl, putF_next ne_sm]
      show 2 < 1000
      decide, ?_⟩
    rw [flds_made0]
    have f8 : Fo b H7 (upd H7 b (.ins C dx (flds t2 t6 false))) := Fo.upd
    refine q _ ((((Same.fo (s12.trans s34)).trans f5).trans (Same.fo s6)).trans f7 |>.trans f8) ⟨⟨dx, t2, t6, upd_same, Dp.kt (Fo.kt (K := K) f8 e7) d7 (only_tup (only_BSs _)), Dp.kt (Fo.kt (K := K) f8 e7) m7 (only_tup (only_Eds _))⟩, rfl, Nat.zero_le _, fun s1 h1 => ?_⟩
    rw [List.mem_singleton.mp h1]
    exact ok
end
end TL
namespace TL
open PySem PySem.Spec PyProof.Rows L2
section
variable {P : Program} {w : World} {K : PySem.W.Frag} {mg : Str → Option Value} {base : Heap}
/-! ### what is due -/
def numB (lo hi : Int) : V → Bool
  | .int i => decide (lo ≤ i ∧ i ≤ hi)
  | _ => false
def spLIsBelow (K : PySem.W.Frag) : Sp := fun vs H Q _ => ∃ (v : V) (hi : Int), vs = [v, .int hi] ∧ Kd K H v ∧ Q (.bl (numB 0 (hi - 1) v)) H
theorem ok_LIsBelow {f : Addr} {fd : FuncData} {k : Nat} (F : Fun K "_law_is_below" "_law_is_below" sLIsBelow f fd) (m_isinstance : mg "isinstance" = none) (m_int : mg "int" = none) (m_bool : mg "bool" = none) :
    FnOk P w K mg base CX0 (k + 1) f fd ["_law_value", "_law_limit"] (spLIsBelow K) := by
  refine F.ok scLIsBelow (fun vs H Q E h => ?_) (fun cdv A outer s H vs Q E hr h => ?_)
  · obtain ⟨v, hi, rfl, _⟩ := h
    rfl
  · obtain ⟨v, hi, rfl, ⟨t, a, b, ty, k1, k2, e⟩, q⟩ := h
    refine ⟨_, (pss_one (ps_ret (pe_and (pe_callB (isiK K) (by rfl) m_isinstance (by decide +kernel) (pa_cons (pv 0) (pa_cons (pe_bltn (v := .ty "int") (by rfl) m_int (by decide +kernel) rfl) pa_nil))) (pe_and (pe_not (pe_callB (isiK K) (by rfl) m_isinstance (by decide +kernel) (pa_cons (pv 0) (pa_cons (pe_bltn (v := .ty "bool") (by rfl) m_bool (by decide +kernel) rfl) pa_nil)))) (pe_one (pe_chain op_le op_lt pe_int (pv 0) (pv 1))))))), ?_⟩
    refine ⟨v, rfl, _, _, _, _, a, rfl, .ty "int", ty, k1, a, rfl, ?_⟩
    cases v with
    | int i =>
      have e : (a && !b) = true := e
      obtain ⟨ha, hb⟩ := Bool.and_eq_true_iff.mp e
      subst ha
      have hb : b = false := by cases b; rfl; cases hb
      subst hb
      refine iteT ⟨.int i, rfl, _, _, _, _, false, rfl, .ty "bool", ty, k2, false, rfl, ?_⟩
      refine ⟨true, rfl, iteT ?_⟩
      refine ⟨.int i, rfl, _, _, rfl, rfl, _, rfl, ite2 (fun h => ?_) (fun h => ?_)⟩
      · have h := of_decide_eq_true h
        refine ⟨.int hi, rfl, _, _, rfl, rfl, ?_⟩
        have e : numB 0 (hi - 1) (.int i) = decide (i < hi) := by
          show decide (0 ≤ i ∧ i ≤ hi - 1) = _
          exact decide_eq_decide.mpr ⟨fun z => by omega, fun z => ⟨h, by omega⟩⟩
        rw [e] at q
        exact q
      · have h : ¬ 0 ≤ i := fun z => h (decide_eq_true z)
        have e : numB 0 (hi - 1) (.int i) = false := decide_eq_false fun z => h z.1
        rw [e] at q
        exact q
    | _ =>
      have e : (a && !b) = false := e
      cases a with
      | false => exact iteF q
      | true =>
        have hb : b = true := by cases b; cases e; rfl
        subst hb
        refine iteT ⟨_, rfl, _, _, _, _, true, rfl, .ty "bool", ty, k2, true, rfl, ?_⟩
        exact ⟨false, rfl, iteF q⟩
theorem adj_asc : ∀ {ns : List Int}, (∀ j, j + 1 < ns.length → ns.getD j 0 < ns.getD (j + 1) 0) → Asc ns
  | [], _ => .nil
  | [a], _ => List.pairwise_singleton _ _
  | a :: b :: ns, h => by
    have ih : Asc (b :: ns) := adj_asc fun j hj => by
      have := h (j + 1) (by rw [List.length_cons]; omega)
      exact this
    have hab : a < b := h 0 (by simp)
    refine List.pairwise_cons.mpr ⟨fun c hc => ?_, ih⟩
    rcases List.mem_cons.mp hc with rfl | hc
    · exact hab
    · have := (List.pairwise_cons.mp ih).1 c hc
      omega
theorem asc_adj {ns : List Int} (h : Asc ns) (j : Nat) (hj : j + 1 < ns.length) : ns.getD j 0 < ns.getD (j + 1) 0 := by
  rw [List.getD_eq_getElem?_getD, List.getD_eq_getElem?_getD, List.getElem?_eq_getElem (by omega), List.getElem?_eq_getElem hj]
  exact List.pairwise_iff_getElem.mp h j (j + 1) (by omega) hj (by omega)
theorem all_numB {m : Nat} : ∀ {xs : List V}, (∀ v ∈ xs, numB 0 ((m : Int) - 1) v = true) → ∃ ns : List Int, xs = ns.map V.int ∧ ∀ v ∈ ns, 0 ≤ v ∧ v < (m : Int)
  | [], _ => ⟨[], rfl, fun _ h => nomatch h⟩
  | v :: xs, h => by
    obtain ⟨ns, rfl, hn⟩ := all_numB (m := m) (xs := xs) fun v hv => h v (List.mem_cons_of_mem _ hv)
    have h0 := h v List.mem_cons_self
    cases v with
    | int i =>
      have := of_decide_eq_true (show decide ((0 : Int) ≤ i ∧ i ≤ (m : Int) - 1) = true from h0)
      refine ⟨i :: ns, rfl, fun v hv => ?_⟩
      rcases List.mem_cons.mp hv with rfl | hv
      · omega
      · exact hn v hv
    | _ => exact nomatch h0
theorem eqv_edges (es : List (Int × Int)) : PyData.eqv (.list (es.map prD)) (.list []) = decide (es = []) := by
  cases es with
  | nil => rfl
  | cons _ _ => rfl
theorem shaped_edges (es : List (Int × Int)) : SeqAt.shaped (.list (es.map prD)) = true := by
  have h1 : PyData.depthAll (es.map prD) ≤ 1 := by
    induction es with
    | nil => simp [PyData.depthAll]
    | cons p l ih =>
      simp only [List.map_cons, PyData.depthAll]
      exact Nat.max_le.mpr ⟨by simp [prD, PyData.depth, PyData.depthAll], ih⟩
  unfold SeqAt.shaped
  rw [show (PyData.list (es.map prD)).canLay0 = true from lay_prs es, Bool.true_and]
  refine decide_eq_true ?_
  simp only [PyData.depth]
  omega
def spLIsSetting (K : PySem.W.Frag) : Sp := fun vs H Q _ => ∃ (x v : V) (m : Nat) (es : List (Int × Int)) (o : Option (List V)), vs = [x, v] ∧ m ≤ 12 ∧ IsFor m es ∧ Dp K H x (forD m es) ∧ Vw K H v o ∧ ∀ H', Same H H' → Q (.bl (setO m es o)) H'
theorem ok_LIsSetting {f : Addr} {fd : FuncData} (F : Fun K "_law_is_setting" "_law_is_setting" sLIsSetting f fd) (m_isinstance : mg "isinstance" = none) (m_tuple : mg "tuple" = none) (m_range : mg "range" = none) (m_len : mg "len" = none)
    (oLIsBelow : Own P w K mg base "_law_is_below" 1 ["_law_value", "_law_limit"] (spLIsBelow K)) :
    FnOk P w K mg base CX0 2 f fd ["_law_forest_here", "_law_value"] (spLIsSetting K) := by
  refine F.ok scLIsSetting (fun vs H Q E h => ?_) (fun cdv A outer s H vs Q E hr h => ?_)
  · obtain ⟨x, v, m, es, o, rfl, _⟩ := h
    rfl
  · obtain ⟨x, v, m, es, o, rfl, hm, f, hx, hv, q⟩ := h
    obtain ⟨fa, fb, fxs, rfl, hfa, hfb, hfA⟩ := Dp.forI hx
    have ec := f.count
    obtain ⟨t, ty, kt⟩ := hv.ty
    refine ⟨_, (pss_cons (ps_if (PW.pt (pw_or (pt_not (pt_val (pe_callB (isiK K) (by rfl) m_isinstance (by decide +kernel) (pa_cons (pv 1) (pa_cons (pe_bltn (v := .ty "tuple") (by rfl) m_tuple (by decide +kernel) rfl) pa_nil))))) (pw_or1 (pt_cmpR (neEK K hr.units) (pe_lc (own := [("_law_one", 2)]) (g := (gName 2)) rfl scLIsSetting.nd (piTK K (pv 1))
      (blkOk_by (own := [("_law_one", 2)]) (N := nLIsSetting) (sc := (defScope sLIsSetting)) (by decide +kernel))
      (fun _ _ _ _ _ => (pg_name (i := 2) scLIsSetting.nd rfl (Or.inl rfl))) (fun _ _ _ _ _ => (pts_one (pt_not (pt_val (pe_own oLIsBelow (hr.mono (by decide)) (by rfl) (pa_cons (pv 2) (pa_cons (pe_ix (ixTK K) (pv 0) pe_int (fun _ _ => rfl)) pa_nil)))))))
      (fun _ _ _ _ _ => (pv 2))) (pe_lst pa_nil) (nomark _))))) (pss_one (ps_ret pe_bl)) pss_nil)
    (pss_cons (ps_if (pt_cmpR (neEK K hr.units) (pe_lc (own := [("_law_k", 3)]) (g := (gName 3)) rfl scLIsSetting.nd (pi_range2 (by rfl) m_range (pa_cons pe_int (pa_cons (pe_callB (lenK K) (by rfl) m_len (by decide +kernel) (pa_cons (pv 1) pa_nil)) pa_nil)))
      (blkOk_by (own := [("_law_k", 3)]) (N := nLIsSetting) (sc := (defScope sLIsSetting)) (by decide +kernel))
      (fun _ _ _ _ _ => (pg_name (i := 3) scLIsSetting.nd rfl (Or.inl rfl))) (fun _ _ _ _ _ => (pts_one (pt_cmpR op_ge (pe_ix (ixTK K) (pv 1) (pe_op op_sub (pv 3) pe_int) (fun _ _ => rfl)) (pe_ix (ixTK K) (pv 1) (pv 3) (fun _ _ => rfl)) (nomark _))))
      (fun _ _ _ _ _ => (pv 3))) (pe_lst pa_nil) (nomark _)) (pss_one (ps_ret pe_bl)) pss_nil)
    (pss_one (ps_ret (pe_cmpR (eqDK K hr.units) (pe_lc (own := [("_law_edge", 4)]) (g := (gName 4)) rfl scLIsSetting.nd (piTK K (pe_ix (ixTK K) (pv 0) pe_int (fun _ _ => rfl)))
      (blkOk_by (own := [("_law_edge", 4)]) (N := nLIsSetting) (sc := (defScope sLIsSetting)) (by decide +kernel))
      (fun _ _ _ _ _ => (pg_name (i := 4) scLIsSetting.nd rfl (Or.inl rfl))) (fun _ _ _ _ _ => (pts_one (PW.pt (pw_and (pt_cmpR (inK K) (pe_ix (ixTK K) (pv 4) pe_int (fun _ _ => rfl)) (pv 1) (by rfl)) (pw_and1 (pt_cmpR (inK K) (pe_ix (ixTK K) (pv 4) pe_int (fun _ _ => rfl)) (pv 1) (by rfl)))))))
      (fun _ _ _ _ _ => (pv 4))) (pe_lst pa_nil) (nomark _)))))), ?_⟩
    refine ⟨v, rfl, _, _, _, _, o.isSome, rfl, .ty "tuple", ty, kt, o.isSome, rfl, ?_⟩
    cases hv with
    | no _ _ => exact iteT (q H (Same.refl H))
    | @yes a xs ha kd lx =>
    refine iteF ?_
    refine ⟨.ref a, rfl, a, rfl, ⟨_, ha⟩, fun D nD => ?_⟩
    have sD := same_upd (o := .lst []) nD
    refine lc_tup (K := K) (a := a) (xs := xs) (fun i H' => Same H H' ∧ H' D = some (.lst ((xs.take i).filter fun v => !numB 0 ((m : Int) - 1) v))) ?_ ?_ ?_ ?_
    · exact ⟨sD, upd_same⟩
    · exact fun i H' _ p => Same.tup p.1 ha
    · rintro i v H' hv ⟨s', eD⟩
      refine ⟨rfl, ?_⟩
      refine ⟨v, rfl, .ref fa, rfl, fa, _, 0, .int (m : Int), rfl, rfl, Same.tup s' hfa, atI_nat (j := 0) rfl, v, (m : Int), rfl, (kd v (List.mem_of_getElem? hv)).same s', numB 0 ((m : Int) - 1) v, rfl, ?_⟩
      have tk : xs.take (i + 1) = xs.take i ++ [v] := by rw [List.take_add_one, hv]; rfl
      have ll : ((xs.take i).filter fun v => !numB 0 ((m : Int) - 1) v).length ≤ 400 := Nat.le_trans (List.length_filter_le _ _) (by rw [List.length_take]; omega)
      cases hb : numB 0 ((m : Int) - 1) v with
      | true =>
        refine iteF ⟨s', ?_⟩
        rw [tk, List.filter_append, List.filter_cons_of_neg (by rw [hb]; decide), List.filter_nil, List.append_nil]
        exact eD
      | false =>
        refine iteT ⟨v, rfl, _, eD, small1000 (by omega), fun h u eh => ?_, ?_⟩
        · rw [upd_ne (ne_of_none eh nD)]
          exact s' _ _ eh
        · rw [tk, List.filter_append, List.filter_cons_of_pos (by rw [hb]; decide), List.filter_nil]
          exact upd_same
    · rintro H1 ⟨s1, eD⟩
      rw [List.take_length] at eD
      refine ⟨Nat.zero_le _, fun Z nZ => ?_⟩
      have sZ := same_upd (o := .lst []) nZ
      refine ⟨D, Z, _, rfl, rfl, SqL.of (sZ _ _ eD), SqL.of upd_same, _, rfl, ?_⟩
      have s2 := s1.trans sZ
      generalize upd H1 Z _ = H2 at s2 ⊢
      clear sZ nZ eD s1
      by_cases hall : ∀ v ∈ xs, numB 0 ((m : Int) - 1) v = true
      rotate_left
      · have e1 : (xs.filter fun v => !numB 0 ((m : Int) - 1) v).isEmpty = false := by
          rw [List.isEmpty_eq_false_iff_exists_mem]
          obtain ⟨v, hv⟩ := Classical.not_forall.mp hall
          obtain ⟨h1, h2⟩ := Classical.not_imp.mp hv
          exact ⟨v, List.mem_filter.mpr ⟨h1, by rw [Bool.not_eq_true] at h2; rw [h2]; rfl⟩⟩
        rw [e1]
        have e2 : setO m es (some xs) = false := by
          show (ascV m 0 xs && _) = false
          have : ascV m 0 xs = false := by
            cases h : ascV m 0 xs with
            | false => rfl
            | true =>
              obtain ⟨ns, rfl, _, hn⟩ := (ascV_iff m xs 0).mp h
              refine absurd (fun v hv => ?_) hall
              obtain ⟨z, hz, rfl⟩ := List.mem_map.mp hv
              have := hn z hz
              exact decide_eq_true (by omega)
          rw [this]
          rfl
        have q' := q _ s2
        rw [e2] at q'
        exact iteT q'
      obtain ⟨ns, rfl, rg⟩ := all_numB hall
      rw [show ((ns.map V.int).filter fun v => !numB 0 ((m : Int) - 1) v).isEmpty = true by
        rw [List.isEmpty_iff, List.filter_eq_nil_iff]
        intro v hv h
        rw [hall v hv] at h
        cases h]
      refine iteF ?_
      rw [List.length_map] at lx
      have ha2 := Same.tup s2 ha
      refine ⟨.ref a, rfl, a, _, rfl, .inr ha2, ?_⟩
      rw [List.length_map]
      refine ⟨1, (ns.length : Int), rfl, ⟨by decide, by decide, by omega, by omega⟩, fun B nB => ?_⟩
      have sB := same_upd (o := .lst []) nB
      refine lc_range (lo := 1) (n := ((ns.length : Int) - 1).toNat) (fun j H' => Same H2 H' ∧ H' B = some (.lst (((List.range j).filter fun k => decide (ns.getD k 0 ≥ ns.getD (k + 1) 0)).map fun k : Nat => V.int (1 + (k : Int))))) ⟨sB, upd_same⟩ ?_ ?_
      · rintro j H7 hj ⟨s7, e7⟩
        have hc7 := Same.tup s7 ha2
        have g1 : ns[j + 1]? = some (ns.getD (j + 1) 0) := by
          rw [List.getD_eq_getElem?_getD, List.getElem?_eq_getElem (show j + 1 < ns.length by omega)]
          rfl
        have g0 : ns[j]? = some (ns.getD j 0) := by
          rw [List.getD_eq_getElem?_getD, List.getElem?_eq_getElem (show j < ns.length by omega)]
          rfl
        have h1 : (ns.map V.int)[j + 1]? = some (.int (ns.getD (j + 1) 0)) := by rw [List.getElem?_map, g1]; rfl
        have h0 : (ns.map V.int)[j]? = some (.int (ns.getD j 0)) := by rw [List.getElem?_map, g0]; rfl
        have ll : ((((List.range j).filter fun k => decide (ns.getD k 0 ≥ ns.getD (k + 1) 0)).map fun k : Nat => V.int (1 + (k : Int)))).length ≤ 400 := by
          rw [List.length_map]
          refine Nat.le_trans (List.length_filter_le _ _) ?_
          rw [List.length_range]
          omega
        refine ⟨rfl, ?_⟩
        refine ⟨.ref a, rfl, .int (1 + (j : Int)), rfl, _, _, rfl, rfl, a, _, _, _, rfl, rfl, hc7, at_of (j := j) (by omega) h0, ?_⟩
        refine ⟨.ref a, rfl, .int (1 + (j : Int)), rfl, a, _, _, _, rfl, rfl, hc7, at_of (j := j + 1) (by omega) h1, _, _, rfl, rfl, ?_⟩
        refine ⟨_, rfl, ?_⟩
        rw [List.range_succ, List.filter_append, List.map_append]
        by_cases c : ns.getD j 0 ≥ ns.getD (j + 1) 0
        · rw [List.filter_cons_of_pos (by exact decide_eq_true c), List.filter_nil]
          refine ite2 (fun _ => ⟨.int (1 + (j : Int)), rfl, _, e7, small1000 (by omega), fun h u eh => ?_, upd_same⟩) (fun h => absurd (decide_eq_true c) h)
          rw [upd_ne (ne_of_none eh nB)]
          exact s7 _ _ eh
        · rw [List.filter_cons_of_neg (by rw [decide_eq_false c]; decide), List.filter_nil, List.map_nil, List.append_nil]
          exact ite2 (fun h => absurd (of_decide_eq_true h) c) (fun _ => ⟨s7, e7⟩)
      · rintro H7 ⟨s7, e7⟩
        refine ⟨Nat.zero_le _, fun Z nZ => ?_⟩
        have sZ := same_upd (o := .lst []) nZ
        refine ⟨B, Z, _, rfl, rfl, SqL.of (sZ _ _ e7), SqL.of upd_same, _, rfl, ?_⟩
        have s8 := s7.trans sZ
        generalize upd H7 Z _ = H8 at s8 ⊢
        clear sZ nZ e7 s7
        by_cases ha : Asc ns
        rotate_left
        · have e1 : (((List.range ((ns.length : Int) - 1).toNat).filter fun k => decide (ns.getD k 0 ≥ ns.getD (k + 1) 0)).map fun k : Nat => V.int (1 + (k : Int))).isEmpty = false := by
            rw [List.isEmpty_eq_false_iff_exists_mem]
            refine Classical.byContradiction fun h => ha (adj_asc fun j hj => ?_)
            refine Classical.byContradiction fun c => h ⟨_, List.mem_map.mpr ⟨j, List.mem_filter.mpr ⟨List.mem_range.mpr (by omega), decide_eq_true (by omega)⟩, rfl⟩⟩
          rw [e1]
          have e2 : setO m es (some (ns.map V.int)) = false := by
            show (ascV m 0 (ns.map V.int) && _) = false
            have : ascV m 0 (ns.map V.int) = false := by
              cases h : ascV m 0 (ns.map V.int) with
              | false => rfl
              | true =>
                obtain ⟨ns', e, h1, hn⟩ := (ascV_iff m _ 0).mp h
                have : ns = ns' := (List.map_inj_right (fun a b z => V.int.inj z)).mp e
                exact absurd (this ▸ h1) ha
            rw [this]
            rfl
          have q' := q _ (s2.trans s8)
          rw [e2] at q'
          exact iteT q'
        rw [show (((List.range ((ns.length : Int) - 1).toNat).filter fun k => decide (ns.getD k 0 ≥ ns.getD (k + 1) 0)).map fun k : Nat => V.int (1 + (k : Int))).isEmpty = true by
          rw [List.isEmpty_iff, List.map_eq_nil_iff, List.filter_eq_nil_iff]
          intro j hj h
          have hj := List.mem_range.mp hj
          have := asc_adj ha j (by omega)
          have := of_decide_eq_true h
          omega]
        refine iteF ?_
        have s9 := s2.trans s8
        have ha9 := Same.tup s8 ha2
        have hf9 := Same.tup s9 hfb
        have hA9 := DpAll.same s9 hfA
        refine ⟨.ref fa, rfl, fa, _, 1, .ref fb, rfl, rfl, Same.tup s9 hfa, atI_nat (j := 1) rfl, ?_⟩
        refine ⟨fb, rfl, ⟨_, hf9⟩, fun G nG => ?_⟩
        refine lc_tupD (K := K) (bs := es) (e := prD) (fun p => decide (p.1 ∈ ns) && decide (p.2 ∈ ns)) prD nG hf9 hA9 (fun _ => rfl) (fun x p _ dx H' R s1 hR => ?_) (fun x p _ _ dx H' R s1 hR => ⟨x, rfl, hR H' x (Same.refl _) (Dp.same s1 dx)⟩) only_pr (by omega) (fun H1 gs s1 eG dG => ?_)
        · obtain ⟨t, rfl, ht⟩ := Dp.prI (Dp.same s1 dx)
          have ha' := Same.tup s1 ha9
          have hR' := hR H' (Same.refl _)
          refine ⟨.ref t, rfl, t, _, 0, .int p.1, rfl, rfl, ht, atI_nat (j := 0) rfl, .ref a, rfl, a, ns.map V.int, rfl, .inr ha', rfl, flat_ints ns, _, rfl, ?_⟩
          simp only [Bool.false_eq_true, if_false, inV_ints]
          refine ite2 (fun h => ?_) (fun h => ?_)
          · rw [h, Bool.true_and] at hR'
            refine ⟨.ref t, rfl, t, _, 1, .int p.2, rfl, rfl, ht, atI_nat (j := 1) rfl, .ref a, rfl, a, ns.map V.int, rfl, .inr ha', rfl, flat_ints ns, _, rfl, ?_⟩
            simp only [Bool.false_eq_true, if_false, inV_ints]
            exact hR'
          · rw [Bool.not_eq_true] at h
            rw [h, Bool.false_and] at hR'
            exact hR'
        · refine ⟨Nat.zero_le _, fun Y nY => ?_⟩
          have sY := same_upd (o := .lst []) nY
          refine ⟨.list ((es.filter fun p => decide (p.1 ∈ ns) && decide (p.2 ∈ ns)).map prD), .list [], .lst (SqL.of (sY _ _ eG)) (DpAll.same sY dG), .lst (SqL.of upd_same) .nil, shaped_edges _, shaped_ints [], ?_⟩
          rw [eqv_edges]
          have e3 : setO m es (some (ns.map V.int)) = decide ((es.filter fun p => decide (p.1 ∈ ns) && decide (p.2 ∈ ns)) = []) := by
            show (ascV m 0 (ns.map V.int) && !_) = _
            rw [(ascV_iff m _ 0).mpr ⟨ns, rfl, ha, fun v hv => ⟨(rg v hv).1, rg v hv⟩⟩, Bool.true_and]
            rw [Bool.eq_iff_iff, decide_eq_true_iff, List.filter_eq_nil_iff, Bool.not_eq_true', List.any_eq_false]
            simp only [inV_ints]
          rw [← e3]
          exact q _ ((s9.trans s1).trans sY)
end
end TL
namespace TL
open PySem PySem.Spec PyProof.Rows L2
section
variable {P : Program} {w : World} {K : PySem.W.Frag} {mg : Str → Option Value} {base : Heap}
theorem catD {H : Hp} {x y : V} {ds es : List PyData} {Q : VK} (hx : Dp K H x (.tuple ds)) (hy : Dp K H y (.tuple es)) (hl : ds.length + es.length ≤ 1000)
    (q : ∀ H' z, Same H H' → Dp K H' z (.tuple (ds ++ es)) → Q z H') : rCatA K x y H Q := by
  obtain ⟨a, xs, rfl, h1, a1⟩ := Dp.tupI hx
  obtain ⟨b, ys, rfl, h2, a2⟩ := Dp.tupI hy
  have l1 := DpAll.length a1
  have l2 := DpAll.length a2
  refine ⟨a, b, xs, ys, rfl, rfl, h1, h2, Nat.le_of_lt (small1000 (by omega)), fun e => ?_, fun _ e => ?_, fun _ _ p np => ?_⟩
  · subst e
    cases a1
    exact q H _ (Same.refl H) hy
  · subst e
    cases a2
    rw [List.append_nil] at q
    exact q H _ (Same.refl H) hx
  · have st := same_upd (o := .tup (xs ++ ys)) np
    exact q _ _ st (.tup (SqT.of upd_same) (DpAll.same st (DpAll.append a1 a2)))
/-! ### the law: is there a path -/
theorem atI_lst {xs : List V} {v : V} {n : Nat} (hn : xs.length = n + 1) (h : xs[n]? = some v) : atI xs (-1) = some v := by
  unfold atI ixN
  rw [if_neg (by decide), if_pos (by omega)]
  have e : ((-1 : Int) + (xs.length : Int)).toNat = n := by omega
  rw [e]
  exact h
theorem ends_at {p : List Int} {n : Nat} (h : p.length = n + 1) : (p.map V.int)[n]? = some (.int (ends p)) := by
  unfold ends
  rw [List.getElem?_map, List.getLastD_eq_getLast?, List.getLast?_eq_getElem?, h]
  have : n < p.length := by omega
  rw [show n + 1 - 1 = n by omega, List.getElem?_eq_getElem this]
  rfl
theorem only_rowsL (L : List (List Int)) : onlyAll (L.map intsD) = true := by
  induction L with
  | nil => simp [onlyAll]
  | cons b l ih => simp [onlyAll, only_intsD, ih]
def spLPath (K : PySem.W.Frag) : Sp := fun vs H Q _ => ∃ (x : V) (m : Nat) (es : List (Int × Int)) (u v : Int), vs = [x, .int u, .int v] ∧ m ≤ 12 ∧ IsFor m es ∧ Dp K H x (forD m es) ∧ (0 ≤ u ∧ u < m) ∧
  ∀ (H' : Hp) (r : V), Same H H' → (r = .non ∧ ¬ Conn es u v ∨ r ≠ .non ∧ Conn es u v) → Q r H'
theorem ok_LPath {f : Addr} {fd : FuncData} (F : Fun K "_law_path" "_law_path" sLPath f fd) (m_len : mg "len" = none) (oLNear : Own P w K mg base "_law_near" 1 ["_law_forest_here", "_law_vertex"] (spLNear K)) :
    FnOk P w K mg base CX0 2 f fd ["_law_forest_here", "_law_first", "_law_second"] (spLPath K) := by
  refine F.ok scLPath (fun vs H Q E h => ?_) (fun cdv A outer s H vs Q E hr h => ?_)
  · obtain ⟨x, m, es, u, v, rfl, _⟩ := h
    rfl
  · obtain ⟨x, m, es, u, v, rfl, hm, isf, hx, hu, q⟩ := h
    have fr := isf.fr
    have l4 : es.length ≤ 400 := by have := isf.count; omega
    refine ⟨_, (pss_cons (ps_par (by rfl) scLPath.nd (i := 3) (j := 4) rfl rfl (by decide) rfl rfl (pa_cons (pe_lst (pa_cons (pe_tup (pa_cons (pv 1) pa_nil)) pa_nil)) (pa_cons pe_int pa_nil)) (by rfl))
    (pss_cons (ps_while PassesOwn.never (pt_cmpR op_lt (pv 4) (pe_callB (lenK K) (by rfl) m_len (by decide +kernel) (pa_cons (pv 3) pa_nil)) (nomark _)) (pss_cons (ps_set (i := 5) scLPath.nd rfl (.inr rfl) (pe_ix (ixLK K) (pv 3) (pv 4) (fun _ _ => rfl)))
    (pss_cons (ps_if (pt_cmpR op_eq (pe_ix (ixTK K) (pv 5) (pe_un un_neg pe_int) (fun _ _ => rfl)) (pv 2) (nomark _)) (pss_one (ps_ret (pv 5))) pss_nil)
    (pss_cons (ps_expr (bmK K PySem.F.plainAttrs_list PySem.F.slot_list_extend PySem.F.type_list_extend mt_extend (pv 3) (pa_cons (pe_lc (own := [("_law_one", 6)]) (g := (gName 6)) rfl scLPath.nd (piLK K (pe_own oLNear (hr.mono (by decide)) (by rfl) (pa_cons (pv 0) (pa_cons (pe_ix (ixTK K) (pv 5) (pe_un un_neg pe_int) (fun _ _ => rfl)) pa_nil))))
      (blkOk_by (own := [("_law_one", 6)]) (N := nLPath) (sc := (defScope sLPath)) (by decide +kernel))
      (fun _ _ _ _ _ => (pg_name (i := 6) scLPath.nd rfl (Or.inl rfl))) (fun _ _ _ _ _ => (pts_one (pt_cmpR (notInK K) (pv 6) (pv 5) (by rfl))))
      (fun _ _ _ _ _ => (pe_op (catAK K) (pv 5) (pe_tup (pa_cons (pv 6) pa_nil))))) pa_nil)))
    (pss_one (ps_set (i := 4) scLPath.nd rfl (.inl rfl) (pe_op op_add (pv 4) pe_int)))))))
    (pss_one (ps_ret pe_non)))), ?_⟩
    refine ⟨.int u, rfl, by show 1 ≤ sizeLine; decide, fun t nt => ⟨by show 1 ≤ sizeLine; decide, fun L nL => ?_⟩⟩
    have st := same_upd (o := .tup [V.int u]) nt
    have et := same_at (o := .tup [V.int u]) nt
    have sL := same_upd (o := .lst [V.ref t]) nL
    have eL := same_at (o := .lst [V.ref t]) nL
    have nHL : H L = none := st.free nL
    have s0 := st.trans sL
    have d0 : DpAll K (upd (upd H t (.tup [V.int u])) L (.lst [V.ref t])) [V.ref t] ([[u]].map intsD) := .cons (.tup (SqT.of (sL _ _ et)) (.cons (.int u) .nil)) .nil
    generalize upd (upd H t (.tup [V.int u])) L (.lst [V.ref t]) = H0 at eL s0 d0 ⊢
    refine ⟨.ref L, .int 0, rfl, ?_⟩
    refine while_ms (fun n σ H' => ∃ (y5 : Option V) (xs : List V) (Ps : List (List Int)) (i : Nat), n = 13 - i ∧ σ = [some x, some (.int u), some (.int v), some (.ref L), some (.int (i : Nat)), y5, none] ∧ Same H H' ∧ H' L = some (.lst xs) ∧ DpAll K H' xs (Ps.map intsD) ∧ Qu m es u Ps i ∧
      (∀ p ∈ Ps.take i, ends p ≠ v) ∧ i ≤ Ps.length) 13 ⟨none, _, [[u]], 0, rfl, rfl, s0, eL, d0, .init, (fun p hp => nomatch hp), Nat.zero_le _⟩ ?_ ?_
    · rintro n σ H1 ⟨y5, xs, Ps, i, rfl, rfl, s1, eL1, dL1, qu, no, hi⟩
      have xl : xs.length = Ps.length := by rw [DpAll.length dL1, List.length_map]
      have lPs := qu.len fr hu
      refine ⟨.int (i : Nat), rfl, .ref L, rfl, L, xs, rfl, .inl (SqL.of eL1), _, _, rfl, rfl, _, rfl, ite2 (fun h => ?_) (fun h => ?_)⟩
      · have h : (i : Int) < (xs.length : Nat) := of_decide_eq_true h
        have hi2 : i < Ps.length := by omega
        have hp : Ps[i]? = some Ps[i] := List.getElem?_eq_getElem hi2
        generalize Ps[i] = p at hp
        have mp := List.mem_of_getElem? hp
        have pp := qu.pth p mp
        obtain ⟨y, hy⟩ : ∃ y, xs[i]? = some y := ⟨_, List.getElem?_eq_getElem (by omega)⟩
        obtain ⟨d, hd, dy⟩ := DpAll.get dL1 hy
        rw [List.getElem?_map, hp] at hd
        cases hd
        obtain ⟨pa, rfl, hpa⟩ := Dp.intsI dy
        have re := fr.on_rng pp hu _ pp.last
        have lp : p.length ≤ 12 := Nat.le_trans (nd_len2 (m := m) pp.nodup fun x hx => fr.on_rng pp hu x hx) hm
        obtain ⟨k, hk⟩ : ∃ k, p.length = k + 1 := by
          cases p with
          | nil => cases pp
          | cons a p => exact ⟨p.length, rfl⟩
        have tk : Ps.take (i + 1) = Ps.take i ++ [p] := by rw [List.take_add_one, hp]; rfl
        refine ⟨.ref L, rfl, .int (i : Nat), rfl, L, xs, _, .ref pa, rfl, rfl, SqL.of eL1, atI_nat hy, ?_⟩
        refine ⟨.ref pa, rfl, 1, rfl, pa, _, _, .int (ends p), rfl, rfl, hpa, atI_lst (n := k) (by rw [List.length_map]; exact hk) (ends_at hk), .int v, rfl, rfl, _, rfl, ?_⟩
        rw [decInt]
        by_cases ev : ends p = v
        · rw [decide_eq_true ev]
          exact iteT ⟨.ref pa, rfl, q _ _ s1 (.inr ⟨(fun z => nomatch z), ev ▸ pp.conn⟩)⟩
        · rw [decide_eq_false ev]
          refine iteF ⟨.ref L, rfl, .inl ⟨rfl, _, SqL.of eL1⟩, x, rfl, .ref pa, rfl, 1, rfl, pa, _, _, .int (ends p), rfl, rfl, hpa, atI_lst (n := k) (by rw [List.length_map]; exact hk) (ends_at hk), x, m, es, ends p, rfl, by omega, isf, Dp.same s1 hx, fun H2 N s2 nN eN => ?_⟩
          refine ⟨N, rfl, ⟨_, SqL.of eN⟩, fun B nB => ?_⟩
          have nl := List.length_filter_le (fun o => decide (ordP o (ends p) ∈ es)) (rng m)
          rw [rng_length] at nl
          refine lc_listI (K := K) (ns := nearL m es (ends p)) (fun o => !decide (o ∈ p)) (fun o => intsD (p ++ [o])) nB (SqL.of eN) (fun _ => rfl) (fun o _ H' R s3 hR => ?_) (fun o _ _ H' R s3 hR => ?_) (fun _ => only_intsD _) (by unfold nearL; omega) (fun H3 ws s3 eB dw => ?_)
          · refine ⟨.int o, rfl, .ref pa, rfl, pa, p.map V.int, rfl, .inr (Same.tup (s2.trans s3) hpa), rfl, flat_ints p, _, rfl, ?_⟩
            show R (if true = true then !inV (V.int o) (p.map V.int) else _) _
            rw [if_pos rfl, inV_ints]
            exact hR _ (Same.refl _)
          · refine ⟨.ref pa, rfl, .int o, rfl, by show 1 ≤ sizeLine; decide, fun t2 nt2 => ?_⟩
            have st2 := same_upd (o := .tup [V.int o]) nt2
            have hv1 : Dp K (upd H' t2 (.tup [V.int o])) (.ref t2) (.tuple [.int o]) := .tup (SqT.of upd_same) (.cons (.int o) .nil)
            refine catD (ds := p.map .int) (es := [.int o]) (Dp.same ((s2.trans s3).trans st2) dy) hv1 (by rw [List.length_map]; show p.length + 1 ≤ 1000; omega) fun H8 r s8 dr => hR _ _ (st2.trans s8) ?_
            unfold intsD
            rw [List.map_append]
            exact dr
          have dw' : DpAll K H3 ws ((grwF m es p).map intsD) := by
            unfold grwF
            rw [List.map_map]
            exact dw
          have s13 := s2.trans s3
          have eL3 := s13 _ _ eL1
          have gl := grwF_len m es p
          have wl : ws.length = (grwF m es p).length := by rw [DpAll.length dw', List.length_map]
          have kt : KT K H3 (upd H3 L (.lst (xs ++ ws))) := kt_lst eL3
          refine ⟨L, B, xs, ws, rfl, rfl, eL3, eB, Nat.le_of_lt (small1000 (by omega)), ?_⟩
          refine ⟨.int (i : Nat), rfl, _, 1, rfl, rfl, 13 - (i + 1), by omega, some (.ref pa), xs ++ ws, Ps ++ grwF m es p, i + 1, rfl, rfl, fun h o eh => ?_, upd_same, ?_, qu.next fr hp, fun z hz => ?_, by rw [List.length_append]; omega⟩
          · rw [upd_ne (ne_of_none eh nHL)]
            exact s13 _ _ (s1 _ _ eh)
          · rw [List.map_append]
            exact DpAll.append (DpAll.kt kt (DpAll.same s13 dL1) (only_rowsL _)) (DpAll.kt kt dw' (only_rowsL _))
          · rw [List.take_append_of_le_length (by omega), tk] at hz
            rcases List.mem_append.mp hz with hz | hz
            · exact no z hz
            · rw [List.mem_singleton.mp hz]
              exact ev
      · have h : ¬ (i : Int) < (xs.length : Nat) := fun z => h (decide_eq_true z)
        have il : Ps.length ≤ i := by omega
        refine q _ _ s1 (.inl ⟨rfl, qu.none fr il fun p hp => no p ?_⟩)
        rw [List.take_of_length_le il]
        exact hp
    · rintro σ H' Q1 Q2 hQ ⟨y, e, z, e2, L', xs', e3, sq, a, b, e4, e5, c, e6, k⟩
      exact ⟨y, e, z, e2, L', xs', e3, sq, a, b, e4, e5, c, e6, hQ _ _ k⟩
/-! ### the law's error of a value -/
theorem ascP_add {es : List (Int × Int)} {p : Int × Int} (h : AscP es) (hb : ∀ q, es.getLast? = some q → Bef q p) : AscP (es ++ [p]) := by
  refine List.pairwise_append.mpr ⟨h, List.pairwise_singleton _ _, fun q hq r hr => ?_⟩
  rw [List.mem_singleton.mp hr]
  obtain ⟨z, hz⟩ : ∃ z, es.getLast? = some z := by
    cases e : es.getLast? with
    | some z => exact ⟨z, rfl⟩
    | none =>
      rw [List.getLast?_eq_none_iff.mp e] at hq
      cases hq
  have b : Bef z p := hb z hz
  have le : q = z ∨ LtP q z := by
    obtain ⟨ys, rfl⟩ := List.getLast?_eq_some_iff.mp hz
    rcases List.mem_append.mp hq with hq | hq
    · exact .inr ((List.pairwise_append.mp h).2.2 q hq z (by simp))
    · exact .inl (List.mem_singleton.mp hq)
  rcases le with rfl | le
  · exact b
  · unfold Bef at b
    show LtP q p
    unfold LtP at *
    omega
theorem for_add {m : Nat} {es : List (Int × Int)} {a b : Int} (f : IsFor m es) (h0 : 0 ≤ a) (h1 : a < b) (h2 : b < (m : Int)) (hb : ∀ q, es.getLast? = some q → Bef q (a, b)) (nc : ¬ Conn es a b) : IsFor m (es ++ [(a, b)]) := by
  have j := f.join (u := a) (v := b) ⟨h0, by omega⟩ ⟨by omega, h2⟩ (fun p hp => nc hp.conn)
  rw [show ordP a b = (a, b) from ordP_self (p := (a, b)) h1, srtP_of_asc (ascP_add f.asc hb)] at j
  exact j
theorem for_nil (m : Nat) : IsFor m [] := IsFor.of_br .nil (fun _ h => nomatch h) (fun _ h => nomatch h)
theorem errL_for {m : Nat} : ∀ {os : List (Option (V × V))} {es : List (Int × Int)}, IsFor m es → errL m es os = none → ∃ ps : List (Int × Int), os = ps.map (fun p => some (V.int p.1, V.int p.2)) ∧ IsFor m (es ++ ps)
  | [], es, f, _ => ⟨[], rfl, by rw [List.append_nil]; exact f⟩
  | o :: os, es, f, h => by
    cases e : edgeO m o with
    | none => rw [errL_edge e] at h; cases h
    | some p =>
      obtain ⟨e1, e2, e3, e4⟩ := edgeO_some e
      by_cases c1 : ∃ q, es.getLast? = some q ∧ ¬ Bef q p
      · obtain ⟨q, hq, hn⟩ := c1
        rw [errL_order e hq hn] at h; cases h
      have hb : ∀ q, es.getLast? = some q → Bef q p := fun q hq => Classical.byContradiction fun z => c1 ⟨q, hq, z⟩
      by_cases c2 : Conn es p.1 p.2
      · rw [errL_cycle e hb c2] at h; cases h
      rw [errL_go e hb c2] at h
      obtain ⟨ps, rfl, g⟩ := errL_for (os := os) (for_add f e2 e3 e4 hb c2) h
      exact ⟨p :: ps, by rw [e1]; rfl, by rw [List.append_assoc] at g; exact g⟩
/-- a value without an error is a forest -/
theorem for_of {H : Hp} {x : V} {oi : Option (V × V)} {so : Option (List (Option (V × V)))} (hi : Iw K H x oi) (hs : ∀ n e, oi = some (n, e) → Sv K H e so) (h : isNo (forE so oi) = true) : ∃ (m : Nat) (es : List (Int × Int)), m ≤ 12 ∧ IsFor m es ∧ Dp K H x (forD m es) := by
  cases hi with
  | no _ _ => exact nomatch h
  | len _ _ => exact nomatch h
  | @two a n e ha kn ke =>
    have se := hs n e rfl
    cases n with
    | int i =>
      by_cases c : 0 ≤ i ∧ i ≤ 12
      · have h2 : isNo (edE i.toNat so) = true := by
          rw [show forE so (some (.int i, e)) = edE i.toNat so from if_pos c] at h
          exact h
        clear h hs
        cases se with
        | no _ _ => exact nomatch h2
        | @yes b xs os hb hx lx =>
          have h : isNo (errD (errL i.toNat [] os)) = true := h2
          cases e : errL i.toNat [] os with
          | some z => rw [e] at h; exact nomatch h
          | none =>
            obtain ⟨ps, rfl, f⟩ := errL_for (for_nil _) e
            rw [List.nil_append] at f
            refine ⟨i.toNat, ps, by omega, f, ?_⟩
            have hp : ∀ {vs : List V} {ps : List (Int × Int)}, Iws K H vs (ps.map fun p => some (V.int p.1, V.int p.2)) → DpAll K H vs (ps.map prD) := by
              intro vs ps
              induction ps generalizing vs with
              | nil => intro h; cases h; exact .nil
              | cons p ps ih =>
                intro h
                cases h with
                | cons h1 h2 =>
                  cases h1 with
                  | two hq _ _ => exact .cons (Dp.pr hq) (ih h2)
            rw [show (V.int i : V) = V.int ((i.toNat : Nat) : Int) by rw [Int.toNat_of_nonneg c.1]] at ha
            exact .tup ha (.cons (.int _) (.cons (.tup hb (hp hx)) .nil))
      · rw [show forE so (some (.int i, e)) = .tuple [.none, .str (Str.ofString "vertices")] from if_neg c] at h
        exact nomatch h
    | _ => exact nomatch h
theorem setO_iff {m : Nat} {es : List (Int × Int)} (f : IsFor m es) {xs : List V} : setO m es (some xs) = true ↔ ∃ T : List Int, xs = T.map V.int ∧ IsSet m es T := by
  show (ascV m 0 xs && !(es.any fun p => inV (.int p.1) xs && inV (.int p.2) xs)) = true ↔ _
  rw [Bool.and_eq_true, ascV_iff]
  constructor
  · rintro ⟨⟨T, rfl, asc, rg⟩, h⟩
    refine ⟨T, rfl, asc, fun v hv => (rg v hv).2, fun u hu v hv z => ?_⟩
    have rz := f.rng _ z
    rw [Bool.not_eq_true', List.any_eq_false] at h
    refine h _ z ?_
    have m1 : (ordP u v).1 ∈ T := by unfold ordP; split <;> assumption
    have m2 : (ordP u v).2 ∈ T := by unfold ordP; split <;> assumption
    rw [inV_ints, inV_ints, decide_eq_true m1, decide_eq_true m2]
    rfl
  · rintro ⟨T, rfl, iss⟩
    refine ⟨⟨T, rfl, iss.asc, fun v hv => ⟨(iss.rng v hv).1, iss.rng v hv⟩⟩, ?_⟩
    rw [Bool.not_eq_true', List.any_eq_false]
    intro p hp h
    rw [inV_ints, inV_ints] at h
    obtain ⟨h1, h2⟩ := Bool.and_eq_true_iff.mp h
    have rp := f.rng p hp
    have := iss.free p.1 (of_decide_eq_true h1) p.2 (of_decide_eq_true h2)
    rw [ordP_eq (by omega)] at this
    exact this hp
theorem set_of {H : Hp} {y : V} {m : Nat} {es : List (Int × Int)} {ol : Option (List V)} (f : IsFor m es) (hy : Vw K H y ol) (h : setO m es ol = true) : ∃ S, IsSet m es S ∧ Dp K H y (intsD S) := by
  cases hy with
  | no _ _ => exact nomatch h
  | @yes a xs ha kd lx =>
    obtain ⟨S, rfl, iss⟩ := (setO_iff f).mp h
    exact ⟨S, iss, Dp.ints ha⟩
theorem slV {H : Hp} {a : Addr} {xs : List V} {lo hi : Option Int} {Q : VK} (hx : SqT K H a xs) (q : ∀ H' z i j, i = HT.sIx xs.length 0 lo → j = HT.sIx xs.length xs.length hi - HT.sIx xs.length 0 lo → Same H H' → SqT K H' z ((xs.drop i).take j) → Q (.ref z) H') : rSlA K (.ref a) lo hi H Q := by
  refine ⟨a, _, rfl, hx, fun e => q _ a _ _ rfl rfl (Same.refl _) ?_, fun _ p np => ?_⟩
  · rw [e.1, e.2, List.drop_zero, Nat.sub_zero, List.take_length]
    exact hx
  · exact q _ p _ _ rfl rfl (same_upd np) (SqT.of upd_same)
theorem six_nn (n d : Nat) {i : Int} (h : 0 ≤ i) : HT.sIx n d (some i) = min i.toNat n := by
  show (if i < 0 then _ else min i.toNat n) = _
  rw [if_neg (by omega)]
theorem gd_all {H : Hp} : ∀ {es : List (Int × Int)} {xs : List V}, (∀ (j : Nat) (q : Int × Int), es[j]? = some q → ∃ t : Addr, xs[j]? = some (V.ref t) ∧ SqT K H t [.int q.1, .int q.2]) → DpAll K H (xs.take es.length) (es.map prD)
  | [], xs, _ => by
    rw [List.length_nil, List.take_zero]
    exact .nil
  | p :: es, xs, h => by
    obtain ⟨t, h1, h2⟩ := h 0 p rfl
    cases xs with
    | nil => simp at h1
    | cons x xs =>
      cases h1
      exact .cons (Dp.pr h2) (gd_all fun j q e => by simpa using h (j + 1) q (by simpa using e))
def spLError (K : PySem.W.Frag) : Sp := fun vs H Q _ => ∃ (z : V) (oi : Option (V × V)) (so : Option (List (Option (V × V)))), vs = [z] ∧ Iw K H z oi ∧ (∀ n e, oi = some (n, e) → Sv K H e so) ∧ ∀ H' r, Same H H' → Dp K H' r (forE so oi) → Q r H'
theorem ok_LError {f : Addr} {fd : FuncData} (F : Fun K "_law_error" "_law_error" sLError f fd) (m_isinstance : mg "isinstance" = none) (m_tuple : mg "tuple" = none) (m_len : mg "len" = none) (m_enumerate : mg "enumerate" = none)
    (oLIsBelow : Own P w K mg base "_law_is_below" 1 ["_law_value", "_law_limit"] (spLIsBelow K)) (oLPath : Own P w K mg base "_law_path" 2 ["_law_forest_here", "_law_first", "_law_second"] (spLPath K)) :
    FnOk P w K mg base CX0 3 f fd ["_law_value"] (spLError K) := by
  refine F.ok scLError (fun vs H Q E h => ?_) (fun cdv A outer s H vs Q E hr h => ?_)
  · obtain ⟨z, oi, so, rfl, _⟩ := h
    rfl
  · obtain ⟨z, oi, so, rfl, hz, hs, q⟩ := h
    have ret : ∀ {t : Addr} {c : String}, forE so oi = .tuple [.none, .str (Str.ofString c)] → H t = none → Q (.ref t) (upd H t (.tup [.non, .str (Str.ofString c)])) := fun {t c} e nt => by
      refine q _ _ (same_upd nt) ?_
      rw [e]
      exact .tup (SqT.of upd_same) (.cons .non (.cons (.str _) .nil))
    refine ⟨_, (pss_cons (ps_if (PW.pt (pw_or (pt_not (pt_val (pe_callB (isiK K) (by rfl) m_isinstance (by decide +kernel) (pa_cons (pv 0) (pa_cons (pe_bltn (v := .ty "tuple") (by rfl) m_tuple (by decide +kernel) rfl) pa_nil))))) (pw_or1 (pt_cmpR op_ne (pe_callB (lenK K) (by rfl) m_len (by decide +kernel) (pa_cons (pv 0) pa_nil)) pe_int (nomark _))))) (pss_one (ps_ret (pe_tup (pa_cons pe_non (pa_cons pe_str pa_nil))))) pss_nil)
    (pss_cons (ps_if (pt_not (pt_val (pe_own oLIsBelow (hr.mono (by decide)) (by rfl) (pa_cons (pe_ix (ixTK K) (pv 0) pe_int (fun _ _ => rfl)) (pa_cons pe_int pa_nil))))) (pss_one (ps_ret (pe_tup (pa_cons pe_non (pa_cons pe_str pa_nil))))) pss_nil)
    (pss_cons (ps_if (pt_not (pt_val (pe_callB (isiK K) (by rfl) m_isinstance (by decide +kernel) (pa_cons (pe_ix (ixTK K) (pv 0) pe_int (fun _ _ => rfl)) (pa_cons (pe_bltn (v := .ty "tuple") (by rfl) m_tuple (by decide +kernel) rfl) pa_nil))))) (pss_one (ps_ret (pe_tup (pa_cons pe_non (pa_cons pe_str pa_nil))))) pss_nil)
    (pss_cons (ps_asg (pv 0) (pgTK K (pgs_cons (pg_name (i := 1) scLError.nd rfl (Or.inl rfl)) (pgs_cons (pg_name (i := 2) scLError.nd rfl (Or.inl rfl)) pgs_nil))))
    (pss_cons (ps_for PassesOwn.never rfl (pi_enumT K (by rfl) m_enumerate (pa_cons (pv 2) pa_nil)) (pgTK K (pgs_cons (pg_name (i := 3) scLError.nd rfl (Or.inl rfl)) (pgs_cons (pg_name (i := 4) scLError.nd rfl (Or.inl rfl)) pgs_nil)))
    (pss_cons (ps_if (PW.pt (pw_or (pt_not (pt_val (pe_callB (isiK K) (by rfl) m_isinstance (by decide +kernel) (pa_cons (pv 4) (pa_cons (pe_bltn (v := .ty "tuple") (by rfl) m_tuple (by decide +kernel) rfl) pa_nil))))) (pw_or (pt_cmpR op_ne (pe_callB (lenK K) (by rfl) m_len (by decide +kernel) (pa_cons (pv 4) pa_nil)) pe_int (nomark _)) (pw_or1 (pt_not (pt_val (pe_own oLIsBelow (hr.mono (by decide)) (by rfl) (pa_cons (pe_ix (ixTK K) (pv 4) pe_int (fun _ _ => rfl)) (pa_cons (pv 1) pa_nil))))))))) (pss_one (ps_ret (pe_tup (pa_cons (pv 3) (pa_cons pe_str pa_nil))))) pss_nil)
    (pss_cons (ps_if (PW.pt (pw_or (pt_not (pt_val (pe_own oLIsBelow (hr.mono (by decide)) (by rfl) (pa_cons (pe_ix (ixTK K) (pv 4) pe_int (fun _ _ => rfl)) (pa_cons (pv 1) pa_nil))))) (pw_or1 (pt_cmpR op_ge (pe_ix (ixTK K) (pv 4) pe_int (fun _ _ => rfl)) (pe_ix (ixTK K) (pv 4) pe_int (fun _ _ => rfl)) (nomark _))))) (pss_one (ps_ret (pe_tup (pa_cons (pv 3) (pa_cons pe_str pa_nil))))) pss_nil)
    (pss_cons (ps_if (PW.pt (pw_and (pt_cmpR op_gt (pv 3) pe_int (nomark _)) (pw_and1 (pt_cmpR (gePK K hr.units) (pe_ix (ixTK K) (pv 2) (pe_op op_sub (pv 3) pe_int) (fun _ _ => rfl)) (pv 4) (nomark _))))) (pss_one (ps_ret (pe_tup (pa_cons (pv 3) (pa_cons pe_str pa_nil))))) pss_nil)
    (pss_one (ps_if (pt_cmpR op_notN (pe_own oLPath (hr.mono (by decide)) (by rfl) (pa_cons (pe_tup (pa_cons (pv 1) (pa_cons (pe_slice (slTK K) (pv 2) po_none (po_some (pv 3))) pa_nil))) (pa_cons (pe_ix (ixTK K) (pv 4) pe_int (fun _ _ => rfl)) (pa_cons (pe_ix (ixTK K) (pv 4) pe_int (fun _ _ => rfl)) pa_nil)))) pe_non (nomark _)) (pss_one (ps_ret (pe_tup (pa_cons (pv 3) (pa_cons pe_str pa_nil))))) pss_nil))))))
    (pss_one (ps_ret pe_non))))))), ?_⟩
    cases hz with
    | no h k => exact ⟨z, rfl, _, _, _, _, false, rfl, .ty "tuple", h, k, false, rfl, iteT ⟨by show 2 ≤ sizeLine; decide, fun t nt => ret rfl nt⟩⟩
    | @len a xs h l =>
      refine ⟨.ref a, rfl, _, _, _, _, true, rfl, .ty "tuple", ty_tup h, kit_ty (by decide +kernel), true, rfl, iteF ?_⟩
      refine ⟨.ref a, rfl, a, _, rfl, .inr h, rfl, true, ?_, iteT ⟨by show 2 ≤ sizeLine; decide, fun t nt => ret rfl nt⟩⟩
      rw [decide_eq_false (by intro z; exact l (by injection z with z; omega))]
      rfl
    | @two a n e h kn ke =>
      have se := hs n e rfl
      refine ⟨.ref a, rfl, _, _, _, _, true, rfl, .ty "tuple", ty_tup h, kit_ty (by decide +kernel), true, rfl, iteF ?_⟩
      refine ⟨.ref a, rfl, a, _, rfl, .inr h, rfl, false, rfl, iteF ?_⟩
      refine ⟨.ref a, rfl, a, _, 0, n, rfl, rfl, h, atI_nat (j := 0) rfl, n, 13, rfl, kn, numB 0 (13 - 1) n, rfl, ?_⟩
      cases n with
      | int i =>
        have ef : forE so (some (.int i, e)) = if 0 ≤ i ∧ i ≤ 12 then edE i.toNat so else .tuple [.none, .str (Str.ofString "vertices")] := rfl
        show if (!decide (0 ≤ i ∧ i ≤ 12)) = true then _ else _
        by_cases c1 : 0 ≤ i ∧ i ≤ 12
        case neg =>
          rw [decide_eq_false c1]
          rw [if_neg c1] at ef
          exact iteT ⟨by show 2 ≤ sizeLine; decide, fun t nt => ret ef nt⟩
        rw [decide_eq_true c1]
        rw [if_pos c1] at ef
        refine iteF ?_
        cases se with
        | no h2 k2 => exact ⟨.ref a, rfl, a, _, 1, e, rfl, rfl, h, atI_nat (j := 1) rfl, _, _, _, _, false, rfl, .ty "tuple", h2, k2, false, rfl, iteT ⟨by show 2 ≤ sizeLine; decide, fun t nt => ret ef nt⟩⟩
        | @yes b xs os hb hi lx =>
        refine ⟨.ref a, rfl, a, _, 1, .ref b, rfl, rfl, h, atI_nat (j := 1) rfl, _, _, _, _, true, rfl, .ty "tuple", ty_tup hb, kit_ty (by decide +kernel), true, rfl, iteF ?_⟩
        refine ⟨.ref a, rfl, a, _, rfl, h, rfl, _, _, rfl, _, _, rfl, rfl, ?_⟩
        obtain ⟨m, rfl⟩ : ∃ m : Nat, i = (m : Int) := ⟨i.toNat, by omega⟩
        have ef : forE (some os) (some (.int (m : Int), .ref b)) = errD (errL m [] os) := ef
        rw [ef] at q
        clear ret ef hs
        have hm : m ≤ 12 := by omega
        refine ⟨.ref b, rfl, b, xs, rfl, hb, for_enumT (K := K) (a := b) (xs := xs) (fun i σ H' => ∃ (y3 y4 : Option V) (es : List (Int × Int)), σ = [some (.ref a), some (.int (m : Int)), some (.ref b), y3, y4] ∧
          Same H H' ∧ Gd K H' m xs es i ∧ IsFor m es ∧ errL m [] os = errL m es (os.drop i)) ?_ ?_ ?_ ?_⟩
        · exact ⟨none, none, [], rfl, Same.refl _, ⟨rfl, fun _ _ e => by simp at e, fun _ h => nomatch h⟩, for_nil m, rfl⟩
        · rintro i σ H' ⟨y3, y4, es, rfl, s2, _⟩
          exact Same.tup s2 hb
        · rintro i v T σ H2 hv nT ⟨y3, y4, es, rfl, s2, gd, isf, he⟩
          have sT := same_upd (o := .tup [.int (i : Nat), v]) nT
          have et := same_at (o := .tup [.int (i : Nat), v]) nT
          have s3 := s2.trans sT
          have gd := gd.same sT
          have gl := gd.len
          have hix := (List.getElem?_eq_some_iff.mp hv).1
          obtain ⟨o, ho, hio⟩ := hi.drop i hv
          have hio := hio.same s3
          rw [ho] at he
          have ret : ∀ {H' : Hp} {t : Addr} {c : String}, errL m es (o :: os.drop (i + 1)) = some (es.length, Str.ofString c) → Same H H' → H' t = none → Q (.ref t) (upd H' t (.tup [.int (i : Nat), .str (Str.ofString c)])) := fun {H' t c} e s nt => by
            refine q _ _ (s.trans (same_upd nt)) ?_
            rw [he, e, gl]
            exact .tup (SqT.of upd_same) (.cons (.int _) (.cons (.str _) .nil))
          generalize upd H2 T (.tup [.int (i : Nat), v]) = H3 at sT s3 et gd hio ⊢
          refine ⟨T, _, rfl, SqT.of et, rfl, _, _, rfl, _, _, rfl, rfl, ?_⟩
          cases hio with
          | no h k => exact ⟨v, rfl, _, _, _, _, false, rfl, .ty "tuple", h, k, false, rfl, iteT ⟨.int (i : Int), rfl, by show 2 ≤ sizeLine; decide, fun t nt => ret (errL_edge rfl) s3 nt⟩⟩
          | @len c ys h l =>
            refine ⟨.ref c, rfl, _, _, _, _, true, rfl, .ty "tuple", ty_tup h, kit_ty (by decide +kernel), true, rfl, iteF ?_⟩
            refine ⟨.ref c, rfl, c, _, rfl, .inr h, rfl, true, ?_, iteT ⟨.int (i : Int), rfl, by show 2 ≤ sizeLine; decide, fun t nt => ret (errL_edge rfl) s3 nt⟩⟩
            rw [decide_eq_false (by intro z; injection z with z; exact l (by omega))]
            rfl
          | @two c u v h5 ku kv =>
          refine ⟨.ref c, rfl, _, _, _, _, true, rfl, .ty "tuple", ty_tup h5, kit_ty (by decide +kernel), true, rfl, iteF ?_⟩
          refine ⟨.ref c, rfl, c, _, rfl, .inr h5, rfl, false, rfl, iteF ?_⟩
          refine ⟨.ref c, rfl, c, _, 0, u, rfl, rfl, h5, atI_nat (j := 0) rfl, .int (m : Int), rfl, u, (m : Int), rfl, ku, numB 0 ((m : Int) - 1) u, rfl, ?_⟩
          by_cases hu : numB 0 ((m : Int) - 1) u = true
          case neg =>
            have e0 : edgeO m (some (u, v)) = none := by
              cases u with
              | int a1 => cases v with
                | int b1 =>
                  refine if_neg fun z => hu (decide_eq_true ?_)
                  exact ⟨z.1, by have := z.2.1; have := z.2.2; show a1 ≤ _; omega⟩
                | _ => rfl
              | _ => rfl
            rw [Bool.eq_false_iff.mpr hu]
            exact iteT ⟨.int (i : Int), rfl, by show 2 ≤ sizeLine; decide, fun t nt => ret (errL_edge e0) s3 nt⟩
          obtain ⟨a1, rfl⟩ : ∃ a1 : Int, u = .int a1 := by cases u <;> first | exact ⟨_, rfl⟩ | exact absurd hu (show ¬ false = true by decide)
          have r1 : 0 ≤ a1 ∧ a1 ≤ (m : Int) - 1 := of_decide_eq_true hu
          rw [hu]
          refine iteF ?_
          refine ⟨.ref c, rfl, c, _, 1, v, rfl, rfl, h5, atI_nat (j := 1) rfl, .int (m : Int), rfl, v, (m : Int), rfl, kv, numB 0 ((m : Int) - 1) v, rfl, ?_⟩
          by_cases hw : numB 0 ((m : Int) - 1) v = true
          case neg =>
            have e0 : edgeO m (some (.int a1, v)) = none := by
              cases v with
              | int b1 =>
                refine if_neg fun z => hw (decide_eq_true ?_)
                exact ⟨by have := z.1; have := z.2.1; show (0 : Int) ≤ b1; omega, by have := z.2.2; show b1 ≤ _; omega⟩
              | _ => rfl
            rw [Bool.eq_false_iff.mpr hw]
            exact iteT ⟨.int (i : Int), rfl, by show 2 ≤ sizeLine; decide, fun t nt => ret (errL_edge e0) s3 nt⟩
          obtain ⟨b1, rfl⟩ : ∃ b1 : Int, v = .int b1 := by cases v <;> first | exact ⟨_, rfl⟩ | exact absurd hw (show ¬ false = true by decide)
          have r2 : 0 ≤ b1 ∧ b1 ≤ (m : Int) - 1 := of_decide_eq_true hw
          rw [hw]
          refine iteF ⟨.ref c, rfl, c, _, 0, .int a1, rfl, rfl, h5, atI_nat (j := 0) rfl, .ref c, rfl, c, _, 1, .int b1, rfl, rfl, h5, atI_nat (j := 1) rfl, _, _, rfl, rfl, _, rfl, ?_⟩
          by_cases cab : b1 ≤ a1
          · rw [decide_eq_true cab]
            have e0 : edgeO m (some (V.int a1, V.int b1)) = none := if_neg fun z => by have := z.2.1; exact absurd this (by show ¬ a1 < b1; omega)
            exact iteT ⟨.int (i : Int), rfl, by show 2 ≤ sizeLine; decide, fun t nt => ret (errL_edge e0) s3 nt⟩
          rw [decide_eq_false cab]
          refine iteF ?_
          have heo : edgeO m (some (V.int a1, V.int b1)) = some (a1, b1) := if_pos ⟨r1.1, by show a1 < b1; omega, by show b1 < _; omega⟩
          dsimp only [tNext]
          have ords : ∀ q, es.getLast? = some q → ∃ j t2, i = j + 1 ∧ xs[j]? = some (.ref t2) ∧ SqT K H3 t2 [.int q.1, .int q.2] := fun q hq => by
            rw [List.getLast?_eq_getElem?] at hq
            have hl := (List.getElem?_eq_some_iff.mp hq).1
            obtain ⟨t2, h1, h2⟩ := gd.at' _ q hq
            exact ⟨es.length - 1, t2, by omega, h1, h2⟩
          refine ifJ (R := fun c0 H4 => H4 = H3 ∧ ((c0 = false ∧ ∀ q, es.getLast? = some q → Bef q (a1, b1)) ∨ (c0 = true ∧ ∃ q, es.getLast? = some q ∧ ¬ Bef q (a1, b1)))) (fun R hR => ?_) (fun H4 h => ?_) (fun H4 h => ?_)
          · refine ⟨.int (i : Int), rfl, _, _, rfl, rfl, _, rfl, ?_⟩
            by_cases h0 : i = 0
            · subst h0
              rw [decide_eq_false (by decide)]
              refine iteF (hR _ _ ⟨rfl, .inl ⟨rfl, fun q hq => ?_⟩⟩)
              obtain ⟨j, _, hj, _⟩ := ords q hq
              omega
            · rw [decide_eq_true (show (0 : Int) < (i : Int) by omega)]
              obtain ⟨q, hq⟩ : ∃ q, es.getLast? = some q := by
                cases e : es.getLast? with
                | some q => exact ⟨q, rfl⟩
                | none =>
                  have := List.getLast?_eq_none_iff.mp e
                  rw [this] at gl
                  exact absurd gl (by show ¬ 0 = i; omega)
              obtain ⟨j, t2, ej, hj, ht2⟩ := ords q hq
              refine iteT ⟨.ref b, rfl, .int (i : Int), rfl, _, _, rfl, rfl, b, _, _, _, rfl, rfl, Same.tup s3 hb, at_of (j := j) (by omega) hj, .ref c, rfl, t2, c, q, (a1, b1), rfl, rfl, ht2, h5, _, rfl, ?_⟩
              by_cases cb : Bef q (a1, b1)
              · rw [decide_eq_false (show ¬ (a1 < q.1 ∨ (a1 = q.1 ∧ b1 ≤ q.2)) from fun z => by unfold Bef at cb; have cb : q.1 < a1 ∨ (q.1 = a1 ∧ q.2 < b1) := cb; omega)]
                refine hR _ _ ⟨rfl, .inl ⟨rfl, fun q' hq' => ?_⟩⟩
                rw [hq] at hq'
                cases hq'
                exact cb
              · rw [decide_eq_true (show a1 < q.1 ∨ (a1 = q.1 ∧ b1 ≤ q.2) by
                  unfold Bef at cb
                  have cb : ¬ (q.1 < a1 ∨ (q.1 = a1 ∧ q.2 < b1)) := cb
                  omega)]
                exact hR _ _ ⟨rfl, .inr ⟨rfl, q, hq, cb⟩⟩
          · obtain ⟨rfl, ⟨z, _⟩ | ⟨_, q', hq', hn⟩⟩ := h
            · cases z
            · exact ⟨.int (i : Int), rfl, by show 2 ≤ sizeLine; decide, fun t nt => ret (errL_order heo hq' hn) s3 nt⟩
          obtain ⟨rfl, ⟨_, hbf⟩ | ⟨z, _⟩⟩ := h
          rotate_left
          · cases z
          refine ⟨.int (m : Int), rfl, .ref b, rfl, ?_⟩
          dsimp only [tNoPart]
          refine ⟨.int (i : Int), rfl, (i : Int), rfl, slV (Same.tup s3 hb) fun H6 z6 i6 j6 ei6 ej6 s6 e6 => ?_⟩
          have e0 : HT.sIx xs.length 0 (none : Option Int) = 0 := rfl
          rw [e0] at ei6 ej6
          rw [six_nn _ _ (by omega)] at ej6
          have ez : (xs.drop i6).take j6 = xs.take es.length := by
            rw [ei6, List.drop_zero, ej6, gl]
            congr 1
            omega
          rw [ez] at e6
          have gd6 := gd.same s6
          have h6 := Same.tup s6 h5
          refine ⟨by show 2 ≤ sizeLine; decide, fun t nt => ?_⟩
          have s7 := same_upd (o := .tup [V.int (m : Int), .ref z6]) nt
          have e7 := same_at (o := .tup [V.int (m : Int), .ref z6]) nt
          have h7 := Same.tup s7 h6
          refine ⟨.ref c, rfl, c, _, 0, .int a1, rfl, rfl, h7, atI_nat (j := 0) rfl, .ref c, rfl, c, _, 1, .int b1, rfl, rfl, h7, atI_nat (j := 1) rfl, .ref t, m, es, a1, b1, rfl, hm, isf, ?_, ⟨r1.1, by omega⟩, fun H8 r s8 hr8 => ?_⟩
          · exact .tup (SqT.of e7) (.cons (.int _) (.cons (.tup (Same.tup s7 e6) (DpAll.same s7 (gd_all gd6.at'))) .nil))
          have s38 := ((s3.trans s6).trans s7).trans s8
          refine ⟨rfl, _, rfl, ?_⟩
          rcases hr8 with ⟨rfl, cn⟩ | ⟨hne, cn⟩
          · rw [decide_eq_true rfl]
            exact iteF ⟨_, _, es ++ [(a1, b1)], rfl, s38, ((gd6.same s7).same s8).add hv (Same.tup s8 h7) (mem_rng.mpr (by omega)) (mem_rng.mpr (by omega)), for_add isf r1.1 (by omega) (by omega) hbf cn, he.trans (errL_go heo hbf cn)⟩
          · rw [decide_eq_false hne]
            exact iteT ⟨.int (i : Int), rfl, by show 2 ≤ sizeLine; decide, fun t nt => ret (errL_cycle heo hbf cn) s38 nt⟩
        · rintro σ H2 ⟨y3, y4, es, rfl, s2, gd, isf, he⟩
          rw [hi.len, List.drop_length] at he
          refine q _ _ s2 ?_
          rw [he]
          exact .non
      | _ => exact iteT ⟨by show 2 ≤ sizeLine; decide, fun t nt => ret rfl nt⟩
end
end TL
namespace TL
open PySem PySem.Spec PyProof.Rows L2
section
variable {P : Program} {w : World} {K : PySem.W.Frag} {mg : Str → Option Value} {base : Heap}
/-! ### lists of bools compared -/
theorem lay_bools : ∀ ns : List Bool, PyData.canLayAll0 (ns.map PyData.bool) = true
  | [] => by simp [PyData.canLayAll0]
  | n :: ns => by simp [PyData.canLayAll0, PyData.canLay0, lay_bools ns]
theorem dep_bools : ∀ ns : List Bool, PyData.depthAll (ns.map PyData.bool) = 0
  | [] => by simp [PyData.depthAll]
  | n :: ns => by simp [PyData.depthAll, PyData.depth, dep_bools ns]
theorem shaped_bl (ns : List Bool) : SeqAt.shaped (.list (ns.map PyData.bool)) = true := by
  unfold SeqAt.shaped
  simp only [PyData.canLay0, PyData.depth, lay_bools, dep_bools]
  decide
theorem eqv_blAll : ∀ bs cs : List Bool, PyData.eqvAll (bs.map PyData.bool) (cs.map PyData.bool) = decide (bs = cs)
  | [], [] => by simp [PyData.eqvAll]
  | [], _ :: _ => by simp [PyData.eqvAll]
  | _ :: _, [] => by simp [PyData.eqvAll]
  | b :: bs, c :: cs => by
    have ih := eqv_blAll bs cs
    rw [List.map_cons, List.map_cons]
    simp only [PyData.eqvAll, ih]
    cases b <;> cases c <;> simp [PyData.eqv]
theorem DpAll.bls {H : Hp} : ∀ bs : List Bool, DpAll K H (bs.map V.bl) (bs.map PyData.bool)
  | [] => .nil
  | b :: bs => .cons (.bl b) (DpAll.bls bs)
theorem eqB {H : Hp} {L M : Addr} {bs cs : List Bool} {Q : VK} (e1 : H L = some (.lst (bs.map V.bl))) (e2 : H M = some (.lst (cs.map V.bl))) (q : Q (.bl (decide (bs = cs))) H) : rEqD K (.ref L) (.ref M) H Q := by
  refine ⟨.list (bs.map .bool), .list (cs.map .bool), .lst (SqL.of e1) (DpAll.bls bs), .lst (SqL.of e2) (DpAll.bls cs), shaped_bl _, shaped_bl _, ?_⟩
  have e : PyData.eqv (.list (bs.map PyData.bool)) (.list (cs.map PyData.bool)) = decide (bs = cs) := by
    simp only [PyData.eqv, eqv_blAll]
  rw [e]
  exact q
/-! ### a board made, or the error -/
structure Ck48 (K : PySem.W.Frag) (cF cS cB cN cL : Addr) : Prop where
  exmF : PySem.W.exmOne K (.ref cF) (.ref cL) = some true
  excF : ExcC K cF
  clsF : (PySem.W.clsIn K cF).isSome = true
  xfF : XfC K cF
  nof : PySem.W.findIn K (.ref cF) "error" = some none
  kFF : PySem.W.kitOne K (.ref cF) (.ref cF) = some true
  kFS : PySem.W.kitOne K (.ref cF) (.ref cS) = some false
  kFt : PySem.W.kitAny K (.ref cF) ([cB, cN].map Value.ref) = some false
  kFV : PySem.W.kitOne K (.ref cF) (.type "ValueError") = some true
  exmS : PySem.W.exmOne K (.ref cS) (.ref cL) = some true
  excS : ExcC K cS
  clsS : (PySem.W.clsIn K cS).isSome = true
  kSF : PySem.W.kitOne K (.ref cS) (.ref cF) = some false
  kSS : PySem.W.kitOne K (.ref cS) (.ref cS) = some true
  kSt : PySem.W.kitAny K (.ref cS) [.ref cB, .ref cN] = some false
theorem Iw.svs {H H' : Hp} {oi : Option (V × V)} {so : Option (List (Option (V × V)))} (s : Same H H') (h : ∀ n e, oi = some (n, e) → Sv K H e so) : ∀ n e, oi = some (n, e) → Sv K H' e so := fun n e z => (h n e z).same s
def spLMade (K : PySem.W.Frag) (C : Addr) : Sp := fun vs H Q _ => ∃ (x y : V) (oi : Option (V × V)) (so : Option (List (Option (V × V)))) (ol : Option (List V)), vs = [x, y] ∧ Iw K H x oi ∧ (∀ n e, oi = some (n, e) → Sv K H e so) ∧ Vw K H y ol ∧
  Out K H x y (forE so oi) ol (∀ (H' : Hp) (D : Addr) (r : V), Same H H' → H' D = some (.lst [.str "forest", r]) → Dp K H' r (forE so oi) → Q (.ref D) H') (∀ (H' : Hp) (D : Addr), Same H H' → H' D = some (.lst [.str "setting"]) → Q (.ref D) H')
    (fun s => ∀ (H' : Hp) (b : Addr), Same H H' → Bd K C H' b [s] [] → Q (.ref b) H')
theorem ok_LMade {f C cBadForest cBadSetting cBadEdits cNoVertex cLampError : Addr} {fd : FuncData} (F : Fun K "_law_made" "_law_made" sLMade f fd) (m_isinstance : mg "isinstance" = none) (m_int : mg "int" = none) (m_ValueError : mg "ValueError" = none)
    (m_BadSetting : mg "BadSetting" = some (.ref cBadSetting)) (m_BadForest : mg "BadForest" = some (.ref cBadForest)) (m_BadEdits : mg "BadEdits" = some (.ref cBadEdits)) (m_NoVertex : mg "NoVertex" = some (.ref cNoVertex)) (m_LampError : mg "LampError" = some (.ref cLampError))
    (kB : Ck48 K cBadForest cBadSetting cBadEdits cNoVertex cLampError)
    (xBoardInit : NwX P w K mg base "Board" C 6 ["self", "forest", "lamps"] (spBInit K C cBadForest cBadSetting)) :
    FnOk P w K mg base CX0 8 f fd ["_law_forest_here", "_law_lamps"] (spLMade K C) := by
  refine F.ok scLMade (fun vs H Q E h => ?_) (fun cdv A outer s H vs Q E hr h => ?_)
  · obtain ⟨x, y, oi, so, ol, rfl, _⟩ := h
    rfl
  · obtain ⟨x, y, oi, so, ol, rfl, hoi, hso, hy, q1, q2⟩ := h
    refine ⟨_, (pss_one (ps_try_as (i := 2) (Wout := fun _ _ _ _ => False) rfl rfl scLMade.nd rfl rfl ⟨by rfl, by decide, .inl m_LampError⟩ takes0
    (fun W pn xe tk pw => (pss_one (ps_ret (pe_newX xBoardInit (hr.mono (by decide)) tk (by rfl) (pa_cons (pv 0) (pa_cons (pv 1) pa_nil))))))
    (fun a0 oe cls d0 pn hz hf => (pss_cons (ps_set (i := 3) scLMade.nd rfl (.inl rfl) (pe_lst (pa_cons (pe_callB (isMK K hz hf) (by rfl) m_isinstance (by decide +kernel) (pa_cons (pv 2) (pa_cons (pe_glob (v := V.ref cBadForest) (by rfl) m_BadForest rfl) pa_nil))) (pa_cons (pe_callB (isMK K hz hf) (by rfl) m_isinstance (by decide +kernel) (pa_cons (pv 2) (pa_cons (pe_glob (v := V.ref cBadSetting) (by rfl) m_BadSetting rfl) pa_nil))) (pa_cons (pe_callB (isMK K hz hf) (by rfl) m_isinstance (by decide +kernel) (pa_cons (pv 2) (pa_cons (pe_tup (pa_cons (pe_glob (v := V.ref cBadEdits) (by rfl) m_BadEdits rfl) (pa_cons (pe_glob (v := V.ref cNoVertex) (by rfl) m_NoVertex rfl) pa_nil))) pa_nil))) pa_nil)))))
    (pss_cons (ps_if (PW.pt (pw_and (pt_cmpR (eqDK K hr.units) (pv 3) (pe_lst (pa_cons pe_bl (pa_cons pe_bl (pa_cons pe_bl pa_nil)))) (nomark _)) (pw_and1 (pt_val (pe_callB (isMK K hz hf) (by rfl) m_isinstance (by decide +kernel) (pa_cons (pv 2) (pa_cons (pe_bltn (v := .ty "ValueError") (by rfl) m_ValueError (by decide +kernel) rfl) pa_nil))))))) (pss_one (ps_ret (pe_lst (pa_cons pe_str (pa_cons (xfA K hz hf (pv 2)) pa_nil))))) pss_nil)
    (pss_one (ps_ret (pe_op op_rep (pe_lst (pa_cons pe_str pa_nil)) (pe_callTy call_int1 (by rfl) m_int (by decide +kernel) (pa_cons (pe_cmpR (eqDK K hr.units) (pv 3) (pe_lst (pa_cons pe_bl (pa_cons pe_bl (pa_cons pe_bl pa_nil)))) (nomark _)) pa_nil)))))))))), ?_⟩
    refine ⟨x, rfl, y, rfl, fun b dx nb ndx ne => ?_⟩
    have s0 : Same H (upd (upd H dx (.own b)) b (.ins C dx [])) := fun a o e => by
      rw [upd_ne (ne_of_none e nb), upd_ne (ne_of_none e ndx)]
      exact e
    have hb : upd (upd H dx (.own b)) b (.ins C dx []) b = some (.ins C dx []) := upd_same
    generalize upd (upd H dx (.own b)) b (.ins C dx []) = H0 at s0 hb ⊢
    refine ⟨b, dx, x, y, oi, so, ol, rfl, hb, hoi.same s0, Iw.svs s0 hso, hy.same s0, fun en H1 dd r s1 ed dr => ?_, fun en => ?_⟩
    · refine ⟨true, kB.exmF, fun _ a0 na => ?_, fun z => nomatch z⟩
      dsimp only [gName]
      refine ⟨.ref a0, rfl, .inl ⟨cBadForest, kB.excF, kB.clsF, .ref cBadForest, true, rfl, rfl, ⟨dd, _, rfl, ed⟩, .inl ⟨.ref cBadForest, fun u h => (by cases h; rfl), kB.kFF⟩, ?_⟩⟩
      refine ⟨.ref a0, rfl, .inl ⟨cBadForest, kB.excF, kB.clsF, .ref cBadSetting, false, rfl, rfl, ⟨dd, _, rfl, ed⟩, .inl ⟨.ref cBadSetting, fun u h => (by cases h; rfl), kB.kFS⟩, ?_⟩⟩
      refine ⟨.ref a0, rfl, by show 2 ≤ sizeLine; decide, fun tp ntp => ?_⟩
      have st := same_upd (o := .tup [V.ref cBadEdits, V.ref cNoVertex]) ntp
      have et := same_at (o := .tup [V.ref cBadEdits, V.ref cNoVertex]) ntp
      have edt := st _ _ ed
      have drt := Dp.same st dr
      generalize upd H1 tp (.tup [V.ref cBadEdits, V.ref cNoVertex]) = H2 at st et edt drt ⊢
      refine .inl ⟨cBadForest, kB.excF, kB.clsF, .ref tp, false, rfl, rfl, ⟨dd, _, rfl, edt⟩, .inr ⟨tp, [cBadEdits, cNoVertex], rfl, et, kB.kFt⟩, ?_⟩
      refine ⟨by show 3 ≤ sizeLine; decide, fun L nL => ?_⟩
      have sL := same_upd (o := .lst [V.bl true, V.bl false, V.bl false]) nL
      have eL : upd H2 L (.lst [V.bl true, V.bl false, V.bl false]) L = some (.lst ([true, false, false].map V.bl)) := upd_same
      have edL := sL _ _ edt
      have drL := Dp.same sL drt
      generalize upd H2 L (.lst [V.bl true, V.bl false, V.bl false]) = H3 at sL eL edL drL ⊢
      dsimp only [gName]
      refine ⟨.ref L, rfl, by show 3 ≤ sizeLine; decide, fun M nM => ?_⟩
      have sM := same_upd (o := .lst [V.bl true, V.bl false, V.bl false]) nM
      have eM : upd H3 M (.lst [V.bl true, V.bl false, V.bl false]) M = some (.lst ([true, false, false].map V.bl)) := upd_same
      have eLM := sM _ _ eL
      have edM := sM _ _ edL
      have drM := Dp.same sM drL
      generalize upd H3 M (.lst [V.bl true, V.bl false, V.bl false]) = H4 at sM eM eLM edM drM ⊢
      refine eqB eLM eM ⟨_, rfl, ?_⟩
      rw [decide_eq_true (by decide)]
      refine iteT ⟨.ref a0, rfl, .inl ⟨cBadForest, kB.excF, kB.clsF, .ty "ValueError", true, rfl, rfl, ⟨dd, _, rfl, edM⟩, .inl ⟨.type "ValueError", fun u h => (by cases h; rfl), kB.kFV⟩, ?_⟩⟩
      refine ⟨_, rfl, iteT ?_⟩
      refine ⟨cBadForest, kB.xfF, kB.nof, .ref a0, rfl, rfl, rfl, dd, _, _, rfl, edM, rfl, by show 2 ≤ sizeLine; decide, fun D nD => ?_⟩
      have sD := same_upd (o := .lst [V.str "forest", r]) nD
      exact q1 en _ D r (((((s0.trans s1).trans st).trans sL).trans sM).trans sD) upd_same (Dp.same sD drM)
    · obtain ⟨m, es, hm, isf, hx, q3, q4⟩ := q2 en
      refine ⟨m, es, hm, isf, Dp.same s0 hx, fun eo H1 s1 => ?_, fun eo => ?_⟩
      · refine ⟨true, kB.exmS, fun _ a0 na => ?_, fun z => nomatch z⟩
        dsimp only [gName]
        refine ⟨.ref a0, rfl, .inr ⟨cBadSetting, .ref cBadForest, false, kB.excS, kB.clsS, rfl, rfl, rfl, .inl ⟨.ref cBadForest, fun u h => (by cases h; rfl), kB.kSF⟩, ?_⟩⟩
        refine ⟨.ref a0, rfl, .inr ⟨cBadSetting, .ref cBadSetting, true, kB.excS, kB.clsS, rfl, rfl, rfl, .inl ⟨.ref cBadSetting, fun u h => (by cases h; rfl), kB.kSS⟩, ?_⟩⟩
        refine ⟨.ref a0, rfl, by show 2 ≤ sizeLine; decide, fun tp ntp => ?_⟩
        have st := same_upd (o := .tup [V.ref cBadEdits, V.ref cNoVertex]) ntp
        have et := same_at (o := .tup [V.ref cBadEdits, V.ref cNoVertex]) ntp
        generalize upd H1 tp (.tup [V.ref cBadEdits, V.ref cNoVertex]) = H2 at st et ⊢
        refine .inr ⟨cBadSetting, .ref tp, false, kB.excS, kB.clsS, rfl, rfl, rfl, .inr ⟨tp, _, [.ref cBadEdits, .ref cNoVertex], rfl, et, fun its h => (by cases h with | cons a b => cases b with | cons c d => cases a; cases c; cases d; rfl), kB.kSt⟩, ?_⟩
        refine ⟨by show 3 ≤ sizeLine; decide, fun L nL => ?_⟩
        have sL := same_upd (o := .lst [V.bl false, V.bl true, V.bl false]) nL
        have eL : upd H2 L (.lst [V.bl false, V.bl true, V.bl false]) L = some (.lst ([false, true, false].map V.bl)) := upd_same
        generalize upd H2 L (.lst [V.bl false, V.bl true, V.bl false]) = H3 at sL eL ⊢
        dsimp only [gName]
        refine ⟨.ref L, rfl, by show 3 ≤ sizeLine; decide, fun M nM => ?_⟩
        have sM := same_upd (o := .lst [V.bl true, V.bl false, V.bl false]) nM
        have eM : upd H3 M (.lst [V.bl true, V.bl false, V.bl false]) M = some (.lst ([true, false, false].map V.bl)) := upd_same
        have eLM := sM _ _ eL
        generalize upd H3 M (.lst [V.bl true, V.bl false, V.bl false]) = H4 at sM eM eLM ⊢
        refine eqB eLM eM ⟨_, rfl, ?_⟩
        rw [decide_eq_false (by decide)]
        refine iteF ?_
        refine ⟨by show 1 ≤ sizeLine; decide, fun D nD => ?_⟩
        have sD := same_upd (o := .lst [V.str "setting"]) nD
        have eD := same_at (o := .lst [V.str "setting"]) nD
        have eLD := sD _ _ eLM
        generalize upd H4 D (.lst [V.str "setting"]) = H5 at sD eD eLD ⊢
        refine ⟨.ref L, rfl, by show 3 ≤ sizeLine; decide, fun N nN => ?_⟩
        have sN := same_upd (o := .lst [V.bl false, V.bl true, V.bl false]) nN
        have eN : upd H5 N (.lst [V.bl false, V.bl true, V.bl false]) N = some (.lst ([false, true, false].map V.bl)) := upd_same
        have eLN := sN _ _ eLD
        have eDN := sN _ _ eD
        generalize upd H5 N (.lst [V.bl false, V.bl true, V.bl false]) = H6 at sN eN eLN eDN ⊢
        refine eqB eLN eN ?_
        rw [decide_eq_true (by decide)]
        refine .inr ⟨_, rfl, ?_⟩
        refine ⟨D, 1, _, rfl, rfl, eDN, by decide, by decide, by decide, fun D2 nD2 => ?_⟩
        exact q3 eo _ D2 (((((((s0.trans s1).trans st).trans sL).trans sM).trans sD).trans sN).trans (same_upd nD2)) upd_same
      · obtain ⟨S, iss, hy', q⟩ := q4 eo
        refine ⟨S, iss, Dp.same s0 hy', fun H1 fo hB => ⟨rfl, ?_⟩⟩
        exact q H1 b (fun a o e => fo a o (ne_of_none e nb) (s0 _ _ e)) hB
end
end TL
namespace TL
open PySem PySem.Spec PyProof.Rows L2
section
variable {P : Program} {w : World} {K : PySem.W.Frag} {mg : Str → Option Value} {base : Heap}
/-! ### a tuple with something replaced -/
/-- what stays while the values are made -/
structure Es (K : PySem.W.Frag) (d l g : Addr) (n : Nat) (eb : Addr) (exs : List V) (it : V) (H0 H : Hp) (vs : List V) : Prop where
  st : SqT K H eb exs
  ga : Ga K d l g 300 2 H exs
  gi : Gx K d l g 300 3 H it
  dk : Deck H d l n
  f0 : Fm d l H0 H
  al : ∀ v ∈ vs, Gx K d l g 1500 6 H v
  he : ∃ o, H g = some o
section
variable {d l g : Addr} {n : Nat} {eb : Addr} {exs : List V} {it : V} {H0 H H' : Hp} {vs : List V}
theorem Es.same (s : Same H H') (h : Es K d l g n eb exs it H0 H vs) : Es K d l g n eb exs it H0 H' vs := ⟨Same.tup s h.st, h.ga.same s, h.gi.same s, h.dk.same s, h.f0.trans (Same.fm s), fun v hv => (h.al v hv).same s, h.he.imp fun _ z => s _ _ z⟩
theorem Es.add {v : V} (h : Es K d l g n eb exs it H0 H vs) (gg : Gx K d l g 1500 6 H v) : Es K d l g n eb exs it H0 H (vs ++ [v]) := ⟨h.st, h.ga, h.gi, h.dk, h.f0, fun u hu => by
  rcases List.mem_append.mp hu with hu | hu
  · exact h.al u hu
  · rw [List.mem_singleton.mp hu]; exact gg, h.he⟩
end
def spLChanged (K : PySem.W.Frag) : Sp := fun vs H Q _ => ∃ (d l g : Addr) (n : Nat) (t : Addr) (xs : List V) (og : HO), vs = [.ref d, .ref t] ∧ Deck H d l n ∧ n < 800000 ∧ xs.length ≤ 12 ∧ SqT K H t xs ∧ Ga K d l g 300 2 H xs ∧ H g = some og ∧ g ≠ d ∧ g ≠ l ∧
  ∀ H' v, Fm d l H H' → Deck H' d l (n + 3) → Gx K d l g 1500 6 H' v → Q v H'
theorem ok_LChanged {f : Addr} {fd : FuncData} (F : Fun K "_law_changed" "_law_changed" sLChanged f fd) (m_len : mg "len" = none) (m_list : mg "list" = none)
    (oLDraw : Own P w K mg base "_law_draw" 1 ["_law_deck_here", "_law_many"] spLDraw) (oLOdd : Own P w K mg base "_law_odd" 2 ["_law_deck_here"] (spLOdd K)) :
    FnOk P w K mg base CX0 3 f fd ["_law_deck_here", "_law_row"] (spLChanged K) := by
  refine F.ok scLChanged (fun vs H Q E h => ?_) (fun cdv A outer s H vs Q E hr h => ?_)
  · obtain ⟨d, l, g, n, t, xs, og, rfl, _⟩ := h
    rfl
  · obtain ⟨d, l, g, n, eb, exs, og, rfl, hD, hn, lx, heb, g0, hgo, hgd, hgl, q⟩ := h
    refine ⟨_, (pss_cons (ps_par (by rfl) scLChanged.nd (i := 2) (j := 3) rfl rfl (by decide) rfl rfl (pa_cons (pe_own oLDraw (hr.mono (by decide)) (by rfl) (pa_cons (pv 0) (pa_cons (pe_op op_add (pe_callB (lenK K) (by rfl) m_len (by decide +kernel) (pa_cons (pv 1) pa_nil)) pe_int) pa_nil))) (pa_cons (pe_own oLOdd (hr.mono (by decide)) (by rfl) (pa_cons (pv 0) pa_nil)) pa_nil)) (by rfl))
    (pss_cons (ps_set (i := 4) scLChanged.nd rfl (.inl rfl) (pe_lst (pa_cons (pe_op (catAK K) (pe_op (catAK K) (pe_slice (slTK K) (pv 1) po_none (po_some (pv 2))) (pe_tup (pa_cons (pv 3) pa_nil))) (pe_slice (slTK K) (pv 1) (po_some (pv 2)) po_none)) (pa_cons (revTK K (pv 1)) (pa_cons (pe_op (catAK K) (pv 1) (pe_slice (slTK K) (pv 1) (po_some (pe_un un_neg pe_int)) po_none)) (pa_cons (pe_callTy (listSK K) (by rfl) m_list (by decide +kernel) (pa_cons (pv 1) pa_nil)) (pa_cons (pv 3) pa_nil)))))))
    (pss_one (ps_ret (pe_ix (ixLK K) (pe_op op_cat (pv 4) (pe_lst (pa_cons (pe_op (catAK K) (pe_slice (slTK K) (pv 1) po_none (po_some (pv 2))) (pe_slice (slTK K) (pv 1) (po_some (pe_op op_add (pv 2) pe_int)) po_none)) pa_nil))) (pe_own oLDraw (hr.mono (by decide)) (by rfl) (pa_cons (pv 0) (pa_cons pe_int pa_nil))) (fun _ _ => rfl)))))), ?_⟩
    refine ⟨.ref d, rfl, .ref eb, rfl, eb, _, rfl, .inr heb, _, _, rfl, rfl, d, l, n, _, rfl, by omega, by omega, hD, by omega, fun H1 at' a0 a1 f1 d1 => ?_⟩
    refine ⟨.ref d, rfl, d, l, _, rfl, d1, by omega, fun H5 od xo f5 d5 ov fr0 => ⟨.int at', od, rfl, ?_⟩⟩
    have f05 := f1.trans f5
    have k05 : KT K H H5 := f05.kt hD
    have fr : ∀ a, od = .ref a → a ≠ g := fun a z e => by
      subst e
      have z2 := fr0 _ z
      rw [f1 _ _ hgd hgl hgo] at z2
      cases z2
    have en : Es K d l g (n + 2) eb exs od H H5 [] := ⟨k05 _ _ heb, g0.fm f05 hD, ov.gx fr, d5.le (by omega), f05, (fun _ h => nomatch h), ⟨_, f05 _ _ hgd hgl hgo⟩⟩
    clear ov fr fr0 f1 d1 f5 d5 f05 k05
    -- one inserted
    refine ⟨.ref eb, rfl, ?_⟩
    dsimp only [tNoPart]
    refine ⟨.int at', rfl, at', rfl, slV en.st fun Haa p1 i1 j1 _ _ sa ea => ?_⟩
    have la : ((exs.drop i1).take j1).length ≤ exs.length := by rw [List.length_take, List.length_drop]; omega
    have en := en.same sa
    refine ⟨od, rfl, by show 1 ≤ sizeLine; decide, fun o1 no1 => ?_⟩
    have so1 := same_upd (o := .tup [od]) no1
    refine catV (Same.tup so1 ea) (SqT.of (same_at (o := .tup [od]) no1)) (by show _ + 1 ≤ 900; omega) fun Hab q1 sb eq1 => ?_
    have en := en.same (so1.trans sb)
    clear so1 no1 sb sa ea
    refine ⟨.ref eb, rfl, ?_⟩
    dsimp only [tNoPart]
    refine ⟨.int at', rfl, at', rfl, slV en.st fun Hac p2 i2 j2 _ _ sc ec2 => ?_⟩
    have lb : ((exs.drop i2).take j2).length ≤ exs.length := by rw [List.length_take, List.length_drop]; omega
    have en := en.same sc
    refine catV (Same.tup sc eq1) ec2 (by rw [List.length_append]; show _ + 1 + _ ≤ 900; omega) fun Had v1 sd ed => ?_
    have en := en.same sd
    have gv : Gx K d l g 1500 6 Had (.ref v1) := (Ga.tup ed ((((en.ga.cut i1 j1).le (Nat.le_refl 300) (show 2 ≤ 3 by decide)).app (.one en.gi)).app ((en.ga.cut i2 j2).le (Nat.le_refl 300) (show 2 ≤ 3 by decide))) (by rw [List.length_append, List.length_append, List.length_singleton]; omega)).le (by decide) (by decide)
    have en := en.add gv
    clear gv eq1 sc ec2 sd ed lb la
    -- backward
    refine ⟨.ref eb, rfl, eb, _, rfl, en.st, fun v2 n2 => ?_⟩
    have s2 := same_upd (o := .tup exs.reverse) n2
    have e2 := same_at (o := .tup exs.reverse) n2
    have en := en.same s2
    have en := en.add (v := .ref v2) ((Ga.tup (SqT.of e2) en.ga.rev (by rw [List.length_reverse]; omega)).le (by decide) (by decide))
    generalize upd _ v2 _ = H10 at en ⊢
    clear s2 e2 n2
    -- the last one twice
    refine ⟨.ref eb, rfl, .ref eb, rfl, ?_⟩
    dsimp only [tNoPart]
    refine ⟨1, rfl, -1, rfl, slV en.st fun H12 p1 i1 j1 _ _ sa ea => ?_⟩
    have la : ((exs.drop i1).take j1).length ≤ exs.length := by rw [List.length_take, List.length_drop]; omega
    have en := en.same sa
    refine catV en.st ea (by omega) fun H13 v5 sb eb5 => ?_
    have en := en.same sb
    have en := en.add (v := .ref v5) ((Ga.tup eb5 (en.ga.app (en.ga.cut i1 j1)) (by rw [List.length_append]; omega)).le (by decide) (by decide))
    clear sa ea la sb eb5
    -- as a list
    refine ⟨.ref eb, rfl, eb, _, rfl, .inr en.st, fun v7 n7 np7 => ?_⟩
    have s7 := same_upd (o := .lst exs) n7
    have e7 := same_at (o := .lst exs) n7
    have o7 := en.dk.off n7
    have g7 : v7 ≠ g := by
      obtain ⟨o, ho⟩ := en.he
      exact fun z => by rw [z, ho] at n7; cases n7
    have en := en.same s7
    have en := en.add (v := .ref v7) ((Ga.lst np7 e7 o7.1 ⟨o7.2, g7⟩ en.ga (by omega)).le (by decide) (by decide))
    generalize upd H13 v7 _ = H17 at en ⊢
    clear s7 e7 n7
    have en := en.add (v := od) (en.gi.le (by decide) (by decide))
    refine ⟨od, rfl, by show 5 ≤ sizeLine; decide, fun L1 nL1 => ?_⟩
    have sL1 := same_upd (o := .lst [V.ref v1, V.ref v2, V.ref v5, V.ref v7, od]) nL1
    have eL1 := same_at (o := .lst [V.ref v1, V.ref v2, V.ref v5, V.ref v7, od]) nL1
    have en := en.same sL1
    generalize upd H17 L1 _ = H18 at en eL1 ⊢
    clear sL1 nL1
    -- one less
    refine ⟨.ref L1, rfl, .ref eb, rfl, ?_⟩
    dsimp only [tNoPart]
    refine ⟨.int at', rfl, at', rfl, slV en.st fun H19 p1 i1 j1 _ _ sa ea => ?_⟩
    have la : ((exs.drop i1).take j1).length ≤ exs.length := by rw [List.length_take, List.length_drop]; omega
    have en := en.same sa
    refine ⟨.ref eb, rfl, ?_⟩
    dsimp only [tNoPart]
    refine ⟨.int at', rfl, _, _, rfl, rfl, at' + 1, rfl, slV en.st fun H20 p2 i2 j2 _ _ sb eb6 => ?_⟩
    have lb : ((exs.drop i2).take j2).length ≤ exs.length := by rw [List.length_take, List.length_drop]; omega
    have en := en.same sb
    refine catV (Same.tup sb ea) eb6 (by omega) fun H21 v6 sc ec6 => ?_
    have en := en.same sc
    have en := en.add (v := .ref v6) ((Ga.tup ec6 ((en.ga.cut i1 j1).app (en.ga.cut i2 j2)) (by rw [List.length_append]; omega)).le (by decide) (by decide))
    have eL1 := ((sa.trans sb).trans sc) _ _ eL1
    clear sa ea la sb eb6 lb sc ec6
    refine ⟨by show 1 ≤ sizeLine; decide, fun L2 nL2 => ?_⟩
    have sL2 := same_upd (o := .lst [V.ref v6]) nL2
    have eL2 := same_at (o := .lst [V.ref v6]) nL2
    have en := en.same sL2
    have eL1 := sL2 _ _ eL1
    generalize upd H21 L2 _ = H22 at en eL1 eL2 ⊢
    clear sL2 nL2
    refine ⟨L1, L2, _, _, rfl, rfl, eL1, eL2, by show 5 + 1 ≤ sizeLine; decide, fun P nP => ?_⟩
    have sP := same_upd (o := .lst ([V.ref v1, V.ref v2, V.ref v5, V.ref v7, od] ++ [V.ref v6])) nP
    have eP := same_at (o := .lst ([V.ref v1, V.ref v2, V.ref v5, V.ref v7, od] ++ [V.ref v6])) nP
    have oP := en.dk.off nP
    have en := en.same sP
    have all : ∀ u ∈ [V.ref v1, V.ref v2, V.ref v5, V.ref v7, od] ++ [V.ref v6], Gx K d l g 1500 6 (upd H22 P (.lst ([V.ref v1, V.ref v2, V.ref v5, V.ref v7, od] ++ [V.ref v6]))) u := fun u hu => en.al u (by
      simp only [List.mem_append, List.mem_cons, List.not_mem_nil, or_false, false_or, List.nil_append] at hu ⊢
      rcases hu with (h | h | h | h | h) | h <;> simp [h])
    have lv : ([V.ref v1, V.ref v2, V.ref v5, V.ref v7, od] ++ [V.ref v6]).length = 6 := rfl
    have en : Es K d l g (n + 2) eb exs od H _ [] := ⟨en.st, en.ga, en.gi, en.dk, en.f0, (fun _ h => nomatch h), en.he⟩
    generalize [V.ref v1, V.ref v2, V.ref v5, V.ref v7, od] ++ [V.ref v6] = us at eP all lv en ⊢
    generalize upd H22 P _ = H23 at eP all en ⊢
    refine ⟨.ref d, rfl, d, l, _, 6, rfl, by decide, by decide, en.dk, by omega, fun H24 i i0 i1 f24 d24 => ?_⟩
    have hi6 : i.toNat < us.length := by omega
    refine ⟨P, us, i, us[i.toNat], rfl, rfl, SqL.of (f24 _ _ oP.1 oP.2 eP), at_of (j := i.toNat) (by omega) (List.getElem?_eq_getElem hi6), ?_⟩
    exact q _ _ (en.f0.trans f24) (d24.le (by omega)) ((all _ (List.getElem_mem hi6)).fm f24 en.dk)
end
end TL
namespace TL
open PySem PySem.Spec PyProof.Rows L2
section
variable {P : Program} {w : World} {K : PySem.W.Frag} {mg : Str → Option Value} {base : Heap}
theorem eq_str {a : Str} : decide (V.str a = V.str a) = true := decide_eq_true rfl
theorem ne_str {a b : Str} (h : ¬ a = b) : decide (V.str a = V.str b) = false := decide_eq_false fun z => h (V.str.inj z)
def Ed.sml (e : Ed) : Prop := ∀ d ∈ e.vals, Sm d 10 0
theorem smV {s : BS} (h : s.ok) {v : Int} (hv : 0 ≤ v ∧ v < s.m) : Sm (.int v) 10 0 := Sm.int (by have := h.m12; unfold sm; omega)
theorem small_ed {s : BS} (h : s.ok) {e : Ed} (c : e.can s) : e.sml := by
  have one : ∀ {v : Int}, 0 ≤ v ∧ v < s.m → ∀ d ∈ [PyData.int v], Sm d 10 0 := fun hv d hd => by
    rw [List.mem_singleton.mp hd]
    exact smV h hv
  have two : ∀ {u v : Int}, 0 ≤ u ∧ u < s.m → 0 ≤ v ∧ v < s.m → ∀ d ∈ [PyData.int u, PyData.int v], Sm d 10 0 := fun hu hv d hd => by
    rcases List.mem_cons.mp hd with rfl | hd
    · exact smV h hu
    · exact one hv d hd
  cases e with
  | light v => exact one c.1
  | dim v => exact one (h.iss.rng v c)
  | slide u v =>
    obtain ⟨c1, c2, c3⟩ := mem_slidesP.mp c
    exact two (h.iss.rng u c1) (mem_nearL.mp c2).1
  | grow o =>
    cases o with
    | none =>
      intro d hd
      rw [List.mem_singleton.mp hd]
      exact Sm.none.le (by decide) (by decide)
    | some v => exact one (c.2 v rfl)
  | join u v => exact two c.1 c.2.1
  | cut u v => exact two c.1 c.2.1
theorem sm_nm (e : Ed) : Sm (.str e.nm) 10 0 := by
  cases e with
  | light v => exact (show Sm (.str ("light" : Str)) 10 0 from ⟨by decide +kernel, by decide +kernel, by decide +kernel, by decide +kernel, by decide +kernel⟩)
  | dim v => exact (show Sm (.str ("dim" : Str)) 10 0 from ⟨by decide +kernel, by decide +kernel, by decide +kernel, by decide +kernel, by decide +kernel⟩)
  | slide u v => exact (show Sm (.str ("slide" : Str)) 10 0 from ⟨by decide +kernel, by decide +kernel, by decide +kernel, by decide +kernel, by decide +kernel⟩)
  | grow o => exact (show Sm (.str ("grow" : Str)) 10 0 from ⟨by decide +kernel, by decide +kernel, by decide +kernel, by decide +kernel, by decide +kernel⟩)
  | join u v => exact (show Sm (.str ("join" : Str)) 10 0 from ⟨by decide +kernel, by decide +kernel, by decide +kernel, by decide +kernel, by decide +kernel⟩)
  | cut u v => exact (show Sm (.str ("cut" : Str)) 10 0 from ⟨by decide +kernel, by decide +kernel, by decide +kernel, by decide +kernel, by decide +kernel⟩)
theorem sm_ed {e : Ed} (h : e.sml) : Sm e.d 33 1 := Sm.tup (n := 10) (k := 0) (m := 3) (fun d hd => by
  rcases List.mem_cons.mp hd with rfl | hd
  · exact sm_nm e
  · exact h d hd) (by cases e <;> simp [Ed.vals])
theorem sm_eds {eds : List Ed} (h : ∀ e ∈ eds, e.sml) (hl : eds.length ≤ 60) : Sm (.tuple (eds.map Ed.d)) 2040 2 := Sm.tup (n := 33) (k := 1) (m := 60) (fun d hd => by
  obtain ⟨e, he, rfl⟩ := List.mem_map.mp hd
  exact sm_ed (h e he)) (by rw [List.length_map]; exact hl)
def faceD (s : BS) (eds : List Ed) : PyData := .list [forD s.m s.es, intsD s.S, .tuple (eds.map Ed.d), .int (eds.length : Int)]
theorem show_face {s : BS} {eds : List Ed} (ok : s.ok) (h : ∀ e ∈ eds, e.sml) (hl : eds.length ≤ 60) : Shows (faceD s eds) := by
  refine Sm.shows (n := 4 * 2101) (k := 4) (Sm.lst (n := 2100) (k := 3) (m := 4) (fun d hd => ?_) (Nat.le_refl _)) (by decide) (by decide)
  rcases List.mem_cons.mp hd with rfl | hd
  · exact (ok.isf.shows ok.m12).le (by decide) (by decide)
  rcases List.mem_cons.mp hd with rfl | hd
  · exact (ok.iss.shows ok.m12).le (by decide) (by decide)
  rcases List.mem_cons.mp hd with rfl | hd
  · exact (sm_eds h hl).le (by decide) (by decide)
  · rw [List.mem_singleton.mp hd]
    exact (Sm.int (by unfold sm; omega)).le (by decide) (by decide)
def lWords (s : BS) (k : Nat) : List Str := [dig (s.m : Int), "vertices,", dig (s.es.length : Int), "edges,", dig (s.S.length : Int), "lamps,", dig (k : Int), "edits"]
theorem glue {a b c d e : Str} (h : tl a ++ tl b = tl c ++ tl d ++ tl e) (R : List Nat) : tl a ++ (tl b ++ R) = tl c ++ (tl d ++ (tl e ++ R)) := by
  rw [← List.append_assoc, h, List.append_assoc, List.append_assoc]
theorem two_texts (s : BS) (k : Nat) : bText s k = Txt.join " " (lWords s k) := by
  unfold bText bWords lWords
  rw [join_eq, join_eq]
  refine ext_tl ?_
  show tl (Str.empty ++ dig (s.m : Int) ++ " vertices" ++ ", " ++ (Str.empty ++ dig (s.es.length : Int) ++ " edges" ++ ", " ++ (Str.empty ++ dig (s.S.length : Int) ++ " lamps" ++ ", " ++ (Str.empty ++ dig (k : Int) ++ " edits")))) =
    tl (dig (s.m : Int) ++ " " ++ ("vertices," ++ " " ++ (dig (s.es.length : Int) ++ " " ++ ("edges," ++ " " ++ (dig (s.S.length : Int) ++ " " ++ ("lamps," ++ " " ++ (dig (k : Int) ++ " " ++ ("edits" : Str))))))))
  simp only [Str.empty_append, tl_append, List.append_assoc]
  have h1 : tl (" vertices" : Str) ++ tl (", " : Str) = tl (" " : Str) ++ tl ("vertices," : Str) ++ tl (" " : Str) := by decide +kernel
  have h2 : tl (" edges" : Str) ++ tl (", " : Str) = tl (" " : Str) ++ tl ("edges," : Str) ++ tl (" " : Str) := by decide +kernel
  have h3 : tl (" lamps" : Str) ++ tl (", " : Str) = tl (" " : Str) ++ tl ("lamps," : Str) ++ tl (" " : Str) := by decide +kernel
  have h4 : tl (" edits" : Str) = tl (" " : Str) ++ tl ("edits" : Str) := by decide +kernel
  rw [glue h1, glue h2, glue h3, h4]
theorem no_edits : ¬ ("edits" : Str) = "states" ∧ ¬ ("edits" : Str) = "made" ∧ ¬ ("edits" : Str) = "busy" := by decide +kernel

def spLRight (K : PySem.W.Frag) (C : Addr) : Sp := fun vs H Q _ => ∃ (b p g : Addr) (x y : V) (zs : List V) (sts : List BS) (eds : List Ed) (s : BS), vs = [.ref b, .ref p, .ref g] ∧ Bd K C H b sts eds ∧ sts[eds.length]? = some s ∧
  H p = some (.lst [x, y]) ∧ Dp K H x (forD s.m s.es) ∧ Dp K H y (intsD s.S) ∧ H g = some (.lst zs) ∧ DpAll K H zs (eds.map Ed.d) ∧ (∀ e ∈ eds, e.sml) ∧ ∀ H', Same H H' → Q (.bl true) H'
theorem ok_LRight {f C : Addr} {fd : FuncData} (F : Fun K "_law_right" "_law_right" sLRight f fd) (m_len : mg "len" = none) (m_repr : mg "repr" = none) (m_tuple : mg "tuple" = none) (m_str : mg "str" = none)
    (oBoardForest : Mt P w K mg base C "forest" 3 ["self", "version"] [.non] (spBForest K C)) (oBoardLamps : Mt P w K mg base C "lamps" 3 ["self", "version"] [.non] (spBLamps K C)) (oBoardEdits : Mt P w K mg base C "edits" 1 ["self"] [] (spBEdits K C))
    (oBoardLen : Mt P w K mg base C "__len__" 1 ["self"] [] (spBLen K C)) (oBoardStr : Mt P w K mg base C "__str__" 4 ["self"] [] (spBStr K C)) :
    FnG P w K mg base 10 f fd ["_law_table", "_law_state", "_law_edits"] (spLRight K C) := by
  refine okG F scLRight (fun vs H Q E h => ?_) (fun cdv A outer s H vs Q E hr gd h => ?_)
  · obtain ⟨b, p, g, x, y, zs, sts, eds, st, rfl, _⟩ := h
    rfl
  · obtain ⟨b, p, g, x, y, zs, sts, eds, st, rfl, hB, hs, hp, hx, hy, hg, hz, sml, q⟩ := h
    obtain ⟨dx, sa, ma, hb, hsa, hma⟩ := hB.at_
    have ok := hB.ok st (List.mem_of_getElem? hs)
    have lz : zs.length = eds.length := by rw [DpAll.length hz, List.length_map]
    have l60 := hB.le
    refine ⟨_, (pss_cons (ps_set (i := 3) scLRight.nd rfl (.inl rfl) (pe_lst (pa_cons (pe_mt0 oBoardForest (hr.mono (by decide)) (pv 0)) (pa_cons (pe_mt0 oBoardLamps (hr.mono (by decide)) (pv 0)) (pa_cons (pe_mt0 oBoardEdits (hr.mono (by decide)) (pv 0)) (pa_cons (pe_callB (lenO oBoardLen (hr.mono (by decide))) (by rfl) m_len (by decide +kernel) (pa_cons (pv 0) pa_nil)) pa_nil))))))
    (pss_cons (ps_if (pt_cmpR op_ne (pe_callB (reprK K gd hr.units) (by rfl) m_repr (by decide +kernel) (pa_cons (pv 3) pa_nil)) (pe_callB (reprK K gd hr.units) (by rfl) m_repr (by decide +kernel) (pa_cons (pe_op op_cat (pv 1) (pe_lst (pa_cons (pe_callTy (tupleK K) (by rfl) m_tuple (by decide +kernel) (pa_cons (pv 2) pa_nil)) (pa_cons (pe_callB (lenK K) (by rfl) m_len (by decide +kernel) (pa_cons (pv 2) pa_nil)) pa_nil)))) pa_nil)) (nomark _)) (pss_one (ps_ret pe_bl)) pss_nil)
    (pss_cons (ps_set (i := 4) scLRight.nd rfl (.inl rfl) (pe_lst (pa_cons (pe_callTy call_str_int (by rfl) m_str (by decide +kernel) (pa_cons (pe_ix (ixTK K) (pe_ix (ixLK K) (pv 1) pe_int (fun _ _ => rfl)) pe_int (fun _ _ => rfl)) pa_nil)) (pa_cons pe_str (pa_cons (pe_callTy call_str_int (by rfl) m_str (by decide +kernel) (pa_cons (pe_callB (lenK K) (by rfl) m_len (by decide +kernel) (pa_cons (pe_ix (ixTK K) (pe_ix (ixLK K) (pv 1) pe_int (fun _ _ => rfl)) pe_int (fun _ _ => rfl)) pa_nil)) pa_nil)) (pa_cons pe_str (pa_cons (pe_callTy call_str_int (by rfl) m_str (by decide +kernel) (pa_cons (pe_callB (lenK K) (by rfl) m_len (by decide +kernel) (pa_cons (pe_ix (ixLK K) (pv 1) pe_int (fun _ _ => rfl)) pa_nil)) pa_nil)) (pa_cons pe_str pa_nil))))))))
    (pss_one (ps_ret (pe_cmpR op_eq (pe_callTy (strO oBoardStr (hr.mono (by decide))) (by rfl) m_str (by decide +kernel) (pa_cons (pv 0) pa_nil)) (joinK K pe_str (pe_op op_cat (pv 4) (pe_lst (pa_cons (pe_callTy call_str_int (by rfl) m_str (by decide +kernel) (pa_cons (pe_callB (lenK K) (by rfl) m_len (by decide +kernel) (pa_cons (pv 2) pa_nil)) pa_nil)) (pa_cons pe_str pa_nil))))) (nomark _))))))), ?_⟩
    -- found
    refine ⟨.ref b, rfl, b, dx, _, rfl, hb, flds_no no_forest.1 no_forest.2.1 no_forest.2.2, b, .non, sts, eds, _, st, rfl, hB, .inl ⟨rfl, rfl⟩, hs, fun x1 hx1 => ?_⟩
    refine ⟨.ref b, rfl, b, dx, _, rfl, hb, flds_no no_lamps.1 no_lamps.2.1 no_lamps.2.2, b, .non, sts, eds, _, st, rfl, hB, .inl ⟨rfl, rfl⟩, hs, fun y1 hy1 => ?_⟩
    refine ⟨.ref b, rfl, b, dx, _, rfl, hb, flds_no no_edits.1 no_edits.2.1 no_edits.2.2, b, sts, eds, rfl, hB, fun z1 hz1 => ?_⟩
    refine ⟨.ref b, rfl, b, dx, _, rfl, hb, b, sts, eds, rfl, hB, eds.length, rfl, by omega, ?_⟩
    refine ⟨by show 4 ≤ sizeLine; decide, fun D nD => ?_⟩
    have s1 := same_upd (o := .lst [x1, y1, z1, V.int (eds.length : Int)]) nD
    have e1 := same_at (o := .lst [x1, y1, z1, V.int (eds.length : Int)]) nD
    generalize upd H D (.lst [x1, y1, z1, V.int (eds.length : Int)]) = H1 at s1 e1 ⊢
    have df : Dp K H1 (.ref D) (faceD st eds) := .lst (SqL.of e1) (.cons (Dp.same s1 hx1) (.cons (Dp.same s1 hy1) (.cons (Dp.same s1 hz1) (.cons (.int _) .nil))))
    have sh := show_face ok sml l60
    dsimp only [gName]
    -- repr(found) != repr(state + [..])
    refine ⟨.ref D, rfl, .ref D, faceD st eds, rfl, df, sh, ?_⟩
    refine ⟨.ref p, rfl, .ref g, rfl, g, zs, rfl, .inl ⟨SqL.of (s1 _ _ hg), fun t nt => ?_⟩⟩
    have s2 := same_upd (o := .tup zs) nt
    have e2 := same_at (o := .tup zs) nt
    generalize upd H1 t (.tup zs) = H2 at s2 e2 ⊢
    have s12 := s1.trans s2
    refine ⟨.ref g, rfl, g, _, rfl, .inl (SqL.of (s12 _ _ hg)), by show 2 ≤ sizeLine; decide, fun l nl => ?_⟩
    have s3 := same_upd (o := .lst [V.ref t, V.int (zs.length : Int)]) nl
    have e3 := same_at (o := .lst [V.ref t, V.int (zs.length : Int)]) nl
    generalize upd H2 l (.lst [V.ref t, V.int (zs.length : Int)]) = H3 at s3 e3 ⊢
    have s13 := s12.trans s3
    refine ⟨p, l, _, _, rfl, rfl, s13 _ _ hp, e3, by show 4 ≤ sizeLine; decide, fun c nc => ?_⟩
    have s4 := same_upd (o := .lst ([x, y] ++ [V.ref t, V.int (zs.length : Int)])) nc
    have e4 := same_at (o := .lst ([x, y] ++ [V.ref t, V.int (zs.length : Int)])) nc
    generalize upd H3 c (.lst ([x, y] ++ [V.ref t, V.int (zs.length : Int)])) = H4 at s4 e4 ⊢
    have s14 := s13.trans s4
    have s24 := s3.trans s4
    rw [lz] at e4
    have dg : Dp K H4 (.ref c) (faceD st eds) := .lst (SqL.of e4) (.cons (Dp.same s14 hx) (.cons (Dp.same s14 hy) (.cons (.tup (SqT.of (s24 _ _ e2)) (DpAll.same (s12.trans s24) hz)) (.cons (.int _) .nil))))
    refine ⟨.ref c, faceD st eds, rfl, dg, sh, rfl, _, rfl, ?_⟩
    rw [eq_str]
    refine iteF ?_
    -- words
    have l1 : st.m ≤ 60 := by have := ok.m12; omega
    have l2 : st.es.length ≤ 60 := by have := ok.isf.count; have := ok.m12; omega
    have l3 : st.S.length ≤ 60 := by have := ok.iss.len; have := ok.m12; omega
    have hp4 := s14 _ _ hp
    have hB4 := hB.same s14
    have hg4 := s14 _ _ hg
    have hb4 := s14 _ _ hb
    obtain ⟨a1, a2, xs, rfl, ha1, ha2, hA⟩ := Dp.forI (Dp.same s14 hx)
    obtain ⟨c1, rfl, hc1⟩ := Dp.intsI (Dp.same s14 hy)
    have lx : xs.length = st.es.length := by rw [DpAll.length hA, List.length_map]
    refine ⟨.ref p, rfl, p, _, 0, .ref a1, rfl, rfl, SqL.of hp4, atI_nat (j := 0) rfl, a1, _, 0, .int (st.m : Int), rfl, rfl, ha1, atI_nat (j := 0) rfl, _, rfl, dig_log l1, ?_⟩
    refine ⟨.ref p, rfl, p, _, 0, .ref a1, rfl, rfl, SqL.of hp4, atI_nat (j := 0) rfl, a1, _, 1, .ref a2, rfl, rfl, ha1, atI_nat (j := 1) rfl, a2, _, rfl, .inr ha2, _, rfl, by rw [lx]; exact dig_log l2, ?_⟩
    refine ⟨.ref p, rfl, p, _, 1, .ref c1, rfl, rfl, SqL.of hp4, atI_nat (j := 1) rfl, c1, _, rfl, .inr hc1, _, rfl, by rw [List.length_map]; exact dig_log l3, ?_⟩
    rw [lx, List.length_map]
    refine ⟨by show 6 ≤ sizeLine; decide, fun W nW => ?_⟩
    have s5 := same_upd (o := .lst [V.str (dig (st.m : Int)), V.str "vertices,", V.str (dig (st.es.length : Int)), V.str "edges,", V.str (dig (st.S.length : Int)), V.str "lamps,"]) nW
    have e5 := same_at (o := .lst [V.str (dig (st.m : Int)), V.str "vertices,", V.str (dig (st.es.length : Int)), V.str "edges,", V.str (dig (st.S.length : Int)), V.str "lamps,"]) nW
    generalize upd H4 W (.lst [V.str (dig (st.m : Int)), V.str "vertices,", V.str (dig (st.es.length : Int)), V.str "edges,", V.str (dig (st.S.length : Int)), V.str "lamps,"]) = H5 at s5 e5 ⊢
    dsimp only [gName]
    -- the texts
    refine ⟨.ref b, rfl, b, dx, _, rfl, s5 _ _ hb4, b, sts, eds, st, rfl, hB4.same s5, hs, fun H6 s6 => ⟨_, rfl, ?_⟩⟩
    have s56 := s5.trans s6
    refine ⟨⟨_, rfl⟩, .ref W, rfl, .ref g, rfl, g, _, rfl, .inl (SqL.of (s56 _ _ hg4)), _, rfl, by rw [lz]; exact dig_log l60, by show 2 ≤ sizeLine; decide, fun l7 nl7 => ?_⟩
    have s7 := same_upd (o := .lst [V.str (Str.ofString (toString (zs.length : Int))), V.str "edits"]) nl7
    have e7 := same_at (o := .lst [V.str (Str.ofString (toString (zs.length : Int))), V.str "edits"]) nl7
    generalize upd H6 l7 (.lst [V.str (Str.ofString (toString (zs.length : Int))), V.str "edits"]) = H7 at s7 e7 ⊢
    refine ⟨W, l7, _, _, rfl, rfl, (s6.trans s7) _ _ e5, e7, by show 8 ≤ sizeLine; decide, fun W8 nW8 => ?_⟩
    have s8 := same_upd (o := .lst ([V.str (dig (st.m : Int)), V.str "vertices,", V.str (dig (st.es.length : Int)), V.str "edges,", V.str (dig (st.S.length : Int)), V.str "lamps,"] ++ [V.str (Str.ofString (toString (zs.length : Int))), V.str "edits"])) nW8
    refine ⟨_, W8, lWords st eds.length, rfl, rfl, .inl (SqL.of ?_), ?_, rfl, ?_⟩
    · rw [upd_same, lz]
      rfl
    · have w1 : ("vertices," : Str).length = 9 ∧ ("edges," : Str).length = 6 ∧ ("lamps," : Str).length = 6 ∧ ("edits" : Str).length = 5 ∧ (" " : Str).length = 1 := by decide +kernel
      have g1 := dig_len l1
      have g2 := dig_len l2
      have g3 := dig_len l3
      have g4 := dig_len l60
      obtain ⟨w1, w2, w3, w4, w5⟩ := w1
      unfold lWords
      simp only [List.map_cons, List.map_nil, List.sum_cons, List.sum_nil, List.length_cons, List.length_nil]
      omega
    · rw [← two_texts, eq_str]
      exact q _ (((s14.trans s56).trans s7).trans s8)
/-! ### the law: a forest and a setting -/
def spLBegun (K : PySem.W.Frag) : Sp := fun vs H Q _ => ∃ (d l : Addr) (n most : Nat), vs = [.ref d, .int (most : Int)] ∧ most ≤ 12 ∧ Deck H d l n ∧ n < 700000 ∧
  ∀ (H' : Hp) (p : Addr) (s : BS), Fm d l H H' → Deck H' d l (n + 90) → s.ok → s.m ≤ most → StL K H' p s → H p = none → Q (.ref p) H'
theorem ok_LBegun {f : Addr} {fd : FuncData} (F : Fun K "_law_begun" "_law_begun" sLBegun f fd)
    (oLForest : Own P w K mg base "_law_forest" 2 ["_law_deck_here", "_law_most"] (spLForest K)) (oLSetting : Own P w K mg base "_law_setting" 2 ["_law_deck_here", "_law_forest_here"] (spLSetting K)) :
    FnOk P w K mg base CX0 3 f fd ["_law_deck_here", "_law_most"] (spLBegun K) := by
  refine F.ok scLBegun (fun vs H Q E h => ?_) (fun cdv A outer s H vs Q E hr h => ?_)
  · obtain ⟨d, l, n, most, rfl, _⟩ := h
    rfl
  · obtain ⟨d, l, n, most, rfl, hm, hD, hn, q⟩ := h
    refine ⟨_, (pss_cons (ps_set (i := 2) scLBegun.nd rfl (.inl rfl) (pe_own oLForest (hr.mono (by decide)) (by rfl) (pa_cons (pv 0) (pa_cons (pv 1) pa_nil))))
    (pss_one (ps_ret (pe_lst (pa_cons (pv 2) (pa_cons (pe_own oLSetting (hr.mono (by decide)) (by rfl) (pa_cons (pv 0) (pa_cons (pv 2) pa_nil))) pa_nil)))))), ?_⟩
    refine ⟨.ref d, rfl, .int (most : Int), rfl, d, l, n, most, rfl, hm, hD, by omega, fun H1 x m es f1 d1 hmm isf hx => ?_⟩
    dsimp only [gName]
    refine ⟨x, rfl, .ref d, rfl, x, rfl, d, l, _, x, m, es, rfl, d1, by omega, by omega, isf, hx, fun H2 t S f2 d2 iss et => ?_⟩
    refine ⟨by show 2 ≤ sizeLine; decide, fun p np => ?_⟩
    have s3 := same_upd (o := .lst [x, .ref t]) np
    have off := d2.off np
    have f12 := f1.trans f2
    refine q _ p ⟨m, es, S⟩ (f12.trans (Same.fm s3)) ((d2.same s3).le (by omega)) ⟨by show m ≤ 12; omega, isf, iss⟩ hmm ⟨x, .ref t, upd_same, Dp.same s3 (Dp.kt (f2.kt d1) hx (only_forD _ _)), Dp.same s3 (Dp.ints (SqT.of et))⟩ ?_
    cases e : H p with
    | none => rfl
    | some o =>
      have := f12 p o off.1 off.2 e
      rw [this] at np
      cases np
end
end TL
namespace TL
open PySem PySem.Spec PyProof.Rows L2
section
variable {P : Program} {w : World} {K : PySem.W.Frag} {mg : Str → Option Value} {base : Heap}
/-! ### how a value looks -/
section
variable {d l g : Addr} {b : Nat} {H H' : Hp}
theorem Bv.iw {v : V} {x : PyData} (h : Bv K d l g b H v x) : ∃ oi, Iw K H v oi := by
  rcases h.tq with ⟨a, xs, ds, rfl, _, ha, al, len⟩ | ⟨t, ty, kt, _⟩
  · by_cases l2 : xs.length = 2
    · match xs, l2, ha, al with
      | [k, p], _, ha, al => exact ⟨_, .two ha (al.kd k (by simp)) (al.kd p (by simp))⟩
    · exact ⟨_, .len ha l2⟩
  · exact ⟨_, .no ty kt⟩
theorem BvAll.iws : ∀ {vs : List V} {xs : List PyData}, BvAll K d l g b H vs xs → ∃ os, Iws K H vs os
  | _, _, .nil => ⟨[], .nil⟩
  | _, _, .cons p q => by
    obtain ⟨o, ho⟩ := p.iw
    obtain ⟨os, hos⟩ := BvAll.iws q
    exact ⟨_, .cons ho hos⟩
theorem Bv.sv {v : V} {x : PyData} (h : Bv K d l g b H v x) (hb : b ≤ 100) : ∃ so, Sv K H v so := by
  rcases h.tq with ⟨a, xs, ds, rfl, _, ha, al, len⟩ | ⟨t, ty, kt, _⟩
  · obtain ⟨os, hos⟩ := al.iws
    exact ⟨_, .yes ha hos (by omega)⟩
  · exact ⟨_, .no ty kt⟩
theorem Bv.lk {v : V} {x : PyData} (h : Bv K d l g b H v x) (hb : b ≤ 100) : ∃ oi so, Iw K H v oi ∧ ∀ n e, oi = some (n, e) → Sv K H e so := by
  rcases h.tq with ⟨a, xs, ds, rfl, _, ha, al, len⟩ | ⟨t, ty, kt, _⟩
  · by_cases l2 : xs.length = 2
    · match xs, l2, ha, al with
      | [k, p], _, ha, al =>
        obtain ⟨xp, _, bp⟩ := al.get (i := 1) (v := p) rfl
        obtain ⟨so, hso⟩ := bp.sv hb
        refine ⟨_, so, .two ha (al.kd k (by simp)) (al.kd p (by simp)), fun k' p' e => ?_⟩
        injection e with e
        injection e with e1 e2
        subst e1 e2
        exact hso
    · exact ⟨_, none, .len ha l2, fun _ _ e => nomatch e⟩
  · exact ⟨_, none, .no ty kt, fun _ _ e => nomatch e⟩
theorem Ov.new {v : V} {x : PyData} (h : Ov K d l H v x) (n : H g = none) : Gx K d l g 300 3 H v := by
  cases h with
  | dat h o sh i => exact ⟨_, (Bv.ofDp h i).le (by decide), sh⟩
  | obj e h h1 h2 np =>
    have := Ov.bv (g := g) (.obj e h h1 h2 np : Ov K d l H _ _) fun a z => by cases z; exact ne_of_none e n
    exact ⟨_, this.1.le (by decide), this.2⟩
  | obd e h h1 h2 =>
    have := Ov.bv (g := g) (.obd e h h1 h2 : Ov K d l H _ _) fun a z => by cases z; exact ne_of_none e n
    exact ⟨_, this.1.le (by decide), this.2⟩
theorem Iw.sv_same {oi : Option (V × V)} {so : Option (List (Option (V × V)))} (s : Same H H') (h : ∀ n e, oi = some (n, e) → Sv K H e so) : ∀ n e, oi = some (n, e) → Sv K H' e so := fun n e z => (h n e z).same s
end
/-! ### items at a new list -/
section
variable {d l g g' : Addr} {b : Nat} {H H' : Hp}
mutual
theorem Bv.newg (n : H g' = none) : ∀ {v : V} {x : PyData}, Bv K d l g b H v x → Bv K d l g' b H v x
  | _, _, .non => .non
  | _, _, .bl x => .bl x
  | _, _, .int i hi => .int i hi
  | _, _, .str x => .str x
  | _, _, .tup e al len => .tup e (BvAll.newg n al) len
  | _, _, .lst np e h1 h2 al len => .lst np e h1 ⟨h2.1, ne_of_none e n⟩ (BvAll.newg n al) len
  | _, _, .dct e o h1 h2 => .dct e o h1 ⟨h2.1, ne_of_none e n⟩
theorem BvAll.newg (n : H g' = none) : ∀ {vs : List V} {xs : List PyData}, BvAll K d l g b H vs xs → BvAll K d l g' b H vs xs
  | _, _, .nil => .nil
  | _, _, .cons p q => .cons (Bv.newg n p) (BvAll.newg n q)
end
theorem Gx.newg {N k : Nat} {v : V} (n : H g' = none) (h : Gx K d l g N k H v) : Gx K d l g' N k H v := h.imp fun _ z => ⟨z.1.newg n, z.2⟩
end
/-! ### the error shows -/
theorem errL_shape {m : Nat} : ∀ {os : List (Option (V × V))} {es : List (Int × Int)} {k : Nat} {s : Str}, errL m es os = some (k, s) → k ≤ es.length + os.length ∧ (s = Str.ofString "edge" ∨ s = Str.ofString "order" ∨ s = Str.ofString "cycle")
  | [], es, k, s, h => by unfold errL at h; cases h
  | o :: os, es, k, s, h => by
    unfold errL at h
    split at h
    · cases h
      exact ⟨by omega, .inl rfl⟩
    · split at h
      · cases h
        exact ⟨by omega, .inr (.inl rfl)⟩
      · split at h
        · cases h
          exact ⟨by omega, .inr (.inr rfl)⟩
        · have := errL_shape h
          rw [List.length_append, List.length_singleton] at this
          rw [List.length_cons]
          exact ⟨by omega, this.2⟩
section
variable {d l g : Addr} {b : Nat} {H H' : Hp}
mutual
theorem Bv.put {ys zs : List V} (hg : H g = some (.lst ys)) : ∀ {v : V} {x : PyData}, Bv K d l g b H v x → Bv K d l g b (upd H g (.lst zs)) v x
  | _, _, .non => .non
  | _, _, .bl x => .bl x
  | _, _, .int i hi => .int i hi
  | _, _, .str x => .str x
  | _, _, .tup e al n => .tup (kt_lst hg _ _ e) (BvAll.put hg al) n
  | _, _, .lst np e h1 h2 al n => .lst np (by rw [upd_ne h2.2]; exact e) h1 h2 (BvAll.put hg al) n
  | _, _, .dct e o h1 h2 => .dct (by rw [upd_ne h2.2]; exact e) o h1 h2
theorem BvAll.put {ys zs : List V} (hg : H g = some (.lst ys)) : ∀ {vs : List V} {xs : List PyData}, BvAll K d l g b H vs xs → BvAll K d l g b (upd H g (.lst zs)) vs xs
  | _, _, .nil => .nil
  | _, _, .cons p q => .cons (Bv.put hg p) (BvAll.put hg q)
end
end
theorem Bv.vw {d l g : Addr} {b : Nat} {H : Hp} {v : V} {x : PyData} (h : Bv K d l g b H v x) (hb : b ≤ 100) : ∃ o, Vw K H v o := by
  rcases h.tq with ⟨a, xs, ds, rfl, _, ha, al, len⟩ | ⟨t, ty, kt, _⟩
  · exact ⟨_, .yes ha al.kd (by omega)⟩
  · exact ⟨_, .no ty kt⟩
theorem Gx.put {d l g : Addr} {N k : Nat} {H : Hp} {ys zs : List V} {v : V} (hg : H g = some (.lst ys)) (h : Gx K d l g N k H v) : Gx K d l g N k (upd H g (.lst zs)) v := h.imp fun _ z => ⟨z.1.put hg, z.2⟩
theorem smW {s : String} (h : s ∈ ["edge", "order", "cycle", "edges", "tuple", "vertices", "forest", "setting"]) : Sm (.str (Str.ofString s)) 30 0 := by
  simp only [List.mem_cons, List.not_mem_nil, or_false] at h
  rcases h with rfl | rfl | rfl | rfl | rfl | rfl | rfl | rfl <;> exact ⟨by decide +kernel, by decide +kernel, by decide +kernel, by decide +kernel, by decide +kernel⟩
theorem smErr {x : PyData} {s : Str} (hx : Sm x 30 0) (hs : Sm (.str s) 30 0) : Sm (.tuple [x, .str s]) 62 1 := Sm.tup (n := 30) (k := 0) (m := 2) (fun d hd => by
  rcases List.mem_cons.mp hd with rfl | hd
  · exact hx
  · rw [List.mem_singleton.mp hd]; exact hs) (Nat.le_refl _)
theorem errSm {H : Hp} {oi : Option (V × V)} {so : Option (List (Option (V × V)))} (hs : ∀ n e, oi = some (n, e) → Sv K H e so) : Sm (forE so oi) 62 1 := by
  have non : ∀ {s : String}, s ∈ ["edge", "order", "cycle", "edges", "tuple", "vertices", "forest", "setting"] → Sm (.tuple [.none, .str (Str.ofString s)]) 62 1 := fun h => smErr (Sm.none.le (by decide) (by decide)) (smW h)
  cases oi with
  | none => exact non (by decide)
  | some p =>
    obtain ⟨n, e⟩ := p
    have hs2 := hs n e rfl
    clear hs
    cases n with
    | int i =>
      by_cases c : 0 ≤ i ∧ i ≤ 12
      · rw [show forE so (some (.int i, e)) = edE i.toNat so from if_pos c]
        cases hs2 with
        | no _ _ => exact non (by decide)
        | @yes b xs os hb hx lx =>
          show Sm (errD (errL i.toNat [] os)) 62 1
          cases h : errL i.toNat [] os with
          | none => exact Sm.none.le (by decide) (by decide)
          | some z =>
            obtain ⟨k, s⟩ := z
            obtain ⟨hk, h3⟩ := errL_shape h
            have := hx.len
            have hk : k ≤ 400 := by
              rw [List.length_nil] at hk
              omega
            have si : Sm (.int (k : Int)) 30 0 := (Sm.int (by unfold sm; omega)).le (by decide) (by decide)
            rcases h3 with rfl | rfl | rfl
            · exact smErr si (smW (by decide))
            · exact smErr si (smW (by decide))
            · exact smErr si (smW (by decide))
      · rw [show forE so (some (.int i, e)) = .tuple [.none, .str (Str.ofString "vertices")] from if_neg c]
        exact non (by decide)
    | _ => exact non (by decide)
theorem gaInts {d l g : Addr} {H : Hp} : ∀ {ns : List Int}, (∀ v ∈ ns, 0 ≤ v ∧ v ≤ 20) → Ga K d l g (11 * ns.length) 1 H (ns.map V.int)
  | [], _ => ⟨[], .nil, ⟨(fun _ h => nomatch h), by simp [PyData.weightAll]⟩⟩
  | n :: ns, h => by
    have h0 := h n List.mem_cons_self
    have g1 : Ga K d l g (10 + 1) 1 H [V.int n] := Ga.one ⟨_, .int n (by omega), (Sm.int (by unfold sm; omega)).sw.le (Nat.le_refl _) (by decide)⟩
    exact (g1.app (gaInts fun v hv => h v (List.mem_cons_of_mem _ hv))).le (by rw [List.length_cons]; omega) (Nat.le_refl _)
theorem gx_for {H : Hp} {x : V} {st : BS} (ok : st.ok) (hx : Dp K H x (forD st.m st.es)) : ∃ fa eb exs, x = .ref fa ∧ SqT K H fa [.int (st.m : Int), .ref eb] ∧ SqT K H eb exs ∧ DpAll K H exs (st.es.map prD) ∧ exs.length ≤ 12 ∧ ∀ d l g, Ga K d l g 300 2 H exs := by
  obtain ⟨fa, eb, exs, rfl, hfa, heb, hA⟩ := Dp.forI hx
  have ec := ok.isf.count
  have hm := ok.m12
  have lxs : exs.length = st.es.length := by rw [DpAll.length hA, List.length_map]
  have oks : ∀ p ∈ st.es, okP p := fun p hp => by
    have := ok.isf.rng p hp
    exact ⟨by omega, by omega⟩
  exact ⟨fa, eb, exs, rfl, hfa, heb, hA, by omega, fun d l g => (gaPrs hA oks).le (by omega) (by decide)⟩
theorem gx_set {H : Hp} {y : V} {st : BS} (ok : st.ok) (hy : Dp K H y (intsD st.S)) : ∃ ya, y = .ref ya ∧ SqT K H ya (st.S.map V.int) ∧ st.S.length ≤ 12 ∧ ∀ d l g, Ga K d l g 300 2 H (st.S.map V.int) := by
  obtain ⟨ya, rfl, hya⟩ := Dp.intsI hy
  have lS := ok.iss.len
  have hm := ok.m12
  exact ⟨ya, rfl, hya, by omega, fun d l g => (gaInts fun v hv => by have := ok.iss.rng v hv; omega).le (by omega) (by decide)⟩
end
end TL
namespace TL
open PySem PySem.Spec PyProof.Rows L2
section
variable {P : Program} {w : World} {K : PySem.W.Frag} {mg : Str → Option Value} {base : Heap}
/-! ### the law -/
theorem ok_BadforestInit {f : Addr} {fd : FuncData} {C : Addr} (F : Fun K "__init__" "BadForest.__init__" sBadforestInit f fd) (T : IniC K C "error") :
    FnOk P w K mg base CX0 1 f fd ["self", "error"] (spInit C "error") := by
  refine F.ok scBadforestInit (fun vs H Q E h => ?_) (fun cdv A outer s H vs Q E hr h => ?_)
  · obtain ⟨a, y, rfl, _⟩ := h
    rfl
  · obtain ⟨a, y, rfl, ea, q⟩ := h
    refine ⟨_, pss_one (ps_ost (pv 0) (pv 1)), ?_⟩
    exact ⟨y, rfl, .ref a, rfl, a, C, rfl, T.oex, T.nof, .inl ⟨ea, fun dx nd ne => q dx nd ne⟩⟩
theorem sortTup {H : Hp} {a : Addr} {xs : List V} {ps : List (Int × Int)} {Q : VK} (h1 : SqT K H a xs) (a1 : DpAll K H xs (ps.map prD)) (hl : ps.length ≤ 1000)
    (q : ∀ p ys, H p = none → DpAll K H ys ((srtP ps).map prD) → Q (.ref p) (upd H p (.lst ys))) : rSortTP K [.ref a] H Q := by
  unfold rSortTP
  exact ⟨ps, a, xs, rfl, h1, a1, hl, q⟩
theorem seqTail {A B : TS} {D : Ends} {σ : L2.St} {H : Hp} (P : L2.St → Hp → Prop) (hA : ∀ nx', (∀ σ' H', P σ' H' → nx' σ' H') → A { D with nx := nx' } σ H) (hB : ∀ σ' H', P σ' H' → B D σ' H') : tSeq A B D σ H := hA _ hB
/-- what the class is asked besides -/
structure BrdL (K : PySem.W.Frag) (C : Addr) : Prop where
  cl : PySem.W.findIn K (.ref C) "__class__" = some (some (.builtin "object.__class__"))
  gt : PySem.W.specialIn K (.builtin "object.__class__") "__get__" = some (some (.builtin "getset_descriptor.__get__"))
  tk : PySem.W.takesIn K (.builtin "object.__class__") = some true
  mr : PySem.W.mroIn K C (.type "object") = some true
  nol : PySem.W.kitOne K (.ref C) (.type "list") = some false
theorem kit_no {T : String} {C : Addr} (hm : PySem.W.kitMeta T = true) (hs : PySem.W.subIn K (.ref C) (.type T) = some false) : PySem.W.kitOne K (.ref C) (.type T) = some false := by
  unfold PySem.W.kitOne
  rw [if_neg (by intro z; cases beq_iff_eq.mp z)]
  unfold PySem.W.kitCls
  show (if PySem.W.kitMeta T = true then _ else _) = _
  rw [if_pos hm]
  exact hs
/-- what stays while the values are made -/
structure En (K : PySem.W.Frag) (d l g : Addr) (n : Nat) (x y : V) (st : BS) (H0 H : Hp) (vs : List V) : Prop where
  hx : Dp K H x (forD st.m st.es)
  hy : Dp K H y (intsD st.S)
  dk : Deck H d l n
  f0 : Fm d l H0 H
  he : ∃ o, H g = some o
  al : ∀ v ∈ vs, Gx K d l g 3000 9 H v
section
variable {d l g : Addr} {n n' : Nat} {x y : V} {st : BS} {H0 H H' : Hp} {vs : List V}
theorem En.same (s : Same H H') (h : En K d l g n x y st H0 H vs) : En K d l g n x y st H0 H' vs := ⟨Dp.same s h.hx, Dp.same s h.hy, h.dk.same s, h.f0.trans (Same.fm s), h.he.imp fun _ z => s _ _ z, fun v hv => (h.al v hv).same s⟩
theorem En.fm (f : Fm d l H H') (dk : Deck H' d l n') (gd : g ≠ d) (gl : g ≠ l) (h : En K d l g n x y st H0 H vs) : En K d l g n' x y st H0 H' vs := ⟨Dp.kt (f.kt h.dk) h.hx (only_forD _ _), Dp.kt (f.kt h.dk) h.hy (only_intsD _), dk, h.f0.trans f, h.he.imp fun _ z => f _ _ gd gl z, fun v hv => (h.al v hv).fm f h.dk⟩
theorem En.add {v : V} (h : En K d l g n x y st H0 H vs) (gg : Gx K d l g 3000 9 H v) : En K d l g n x y st H0 H (vs ++ [v]) := ⟨h.hx, h.hy, h.dk, h.f0, h.he, fun u hu => by
  rcases List.mem_append.mp hu with hu | hu
  · exact h.al u hu
  · rw [List.mem_singleton.mp hu]; exact gg⟩
end
def spLaw (K : PySem.W.Frag) : Sp := fun vs H Q _ => ∃ (a : Addr) (ns : List Int), vs = [.ref a] ∧ SqL K H a (ns.map V.int) ∧ ns.length ≤ 63 ∧ ∀ H', Q (.bl true) H'
theorem ok_Law {f C : Addr} {fd : FuncData} (F : Fun K "law" "law" sLaw f fd) (TB : BrdC K C) (TL : BrdL K C) (m_range : mg "range" = none) (m_repr : mg "repr" = none) (m_isinstance : mg "isinstance" = none) (m_list : mg "list" = none) (m_tuple : mg "tuple" = none) (m_sorted : mg "sorted" = none) (m_set : mg "set" = none) (m_min : mg "min" = none) (m_max : mg "max" = none)
    (oLDeck : Own P w K mg base "_law_deck" 1 ["_law_script"] (spLDeck K)) (oLDraw : Own P w K mg base "_law_draw" 1 ["_law_deck_here", "_law_many"] spLDraw) (oLBegun : Own P w K mg base "_law_begun" 3 ["_law_deck_here", "_law_most"] (spLBegun K))
    (oLOdd : Own P w K mg base "_law_odd" 2 ["_law_deck_here"] (spLOdd K)) (oLChanged : Own P w K mg base "_law_changed" 3 ["_law_deck_here", "_law_row"] (spLChanged K))
    (oLMade : Own P w K mg base "_law_made" 8 ["_law_forest_here", "_law_lamps"] (spLMade K C)) (oLError : Own P w K mg base "_law_error" 3 ["_law_value"] (spLError K)) (oLIsSetting : Own P w K mg base "_law_is_setting" 2 ["_law_forest_here", "_law_value"] (spLIsSetting K))
    (oLRight : OwnG P w K mg base "_law_right" 10 ["_law_table", "_law_state", "_law_edits"] (spLRight K C)) :
    FnG P w K mg base 11 f fd ["_law_script"] (spLaw K) := by
  refine okG F scLaw (fun vs H Q E h => ?_) (fun cdv A outer s H vs Q E hr gd h => ?_)
  · obtain ⟨a, ns, rfl, _⟩ := h
    rfl
  · obtain ⟨a, ns, rfl, hS, hlen, q⟩ := h
    refine ⟨_, (pss_cons (ps_set (i := 1) scLaw.nd rfl (.inl rfl) (pe_own oLDeck (hr.mono (by decide)) (by rfl) (pa_cons (pv 0) pa_nil)))
    (pss_cons (ps_for PassesOwn.never rfl (pi_range1 (by rfl) m_range (pa_cons pe_int pa_nil)) (pg_name (i := 2) scLaw.nd rfl (Or.inl rfl))
    (pss_cons (ps_asg (pe_own oLBegun (hr.mono (by decide)) (by rfl) (pa_cons (pv 1) (pa_cons pe_int pa_nil))) (pgLK K (pgs_cons (pg_name (i := 3) scLaw.nd rfl (Or.inl rfl)) (pgs_cons (pg_name (i := 4) scLaw.nd rfl (Or.inl rfl)) pgs_nil))))
    (pss_cons (ps_set (i := 5) scLaw.nd rfl (.inl rfl) (pe_own oLDraw (hr.mono (by decide)) (by rfl) (pa_cons (pv 1) (pa_cons pe_int pa_nil))))
    (pss_cons (ps_set (i := 6) scLaw.nd rfl (.inl rfl) (pe_tup (pa_cons (pe_own oLDraw (hr.mono (by decide)) (by rfl) (pa_cons (pv 1) (pa_cons pe_int pa_nil))) (pa_cons (pe_own oLDraw (hr.mono (by decide)) (by rfl) (pa_cons (pv 1) (pa_cons pe_int pa_nil))) pa_nil))))
    (pss_cons (ps_set (i := 7) scLaw.nd rfl (.inl rfl) (pe_lst (pa_cons (pe_tup (pa_cons (pe_ix (ixTK K) (pv 3) pe_int (fun _ _ => rfl)) (pa_cons (pe_own oLChanged (hr.mono (by decide)) (by rfl) (pa_cons (pv 1) (pa_cons (pe_ix (ixTK K) (pv 3) pe_int (fun _ _ => rfl)) pa_nil))) pa_nil))) (pa_cons (pe_own oLOdd (hr.mono (by decide)) (by rfl) (pa_cons (pv 1) pa_nil)) (pa_cons (pe_tup (pa_cons (pe_own oLOdd (hr.mono (by decide)) (by rfl) (pa_cons (pv 1) pa_nil)) (pa_cons (pe_ix (ixTK K) (pv 3) pe_int (fun _ _ => rfl)) pa_nil))) pa_nil)))))
    (pss_cons (ps_set (i := 7) scLaw.nd rfl (.inl rfl) (pe_op op_cat (pv 7) (pe_lst (pa_cons (pe_callTy (listSK K) (by rfl) m_list (by decide +kernel) (pa_cons (pv 3) pa_nil)) (pa_cons (pe_tup (pa_cons (pe_ix (ixTK K) (pv 3) pe_int (fun _ _ => rfl)) (pa_cons (pe_callTy (tupleK K) (by rfl) m_tuple (by decide +kernel) (pa_cons (pe_callB (sortTPK K hr.units) (by rfl) m_sorted (by decide +kernel) (pa_cons (pe_op (catAK K) (pe_ix (ixTK K) (pv 3) pe_int (fun _ _ => rfl)) (pe_tup (pa_cons (pe_tup (pa_cons (pe_callB (minTK K hr.units) (by rfl) m_min (by decide +kernel) (pa_cons (pv 6) pa_nil)) (pa_cons (pe_callB (maxTK K hr.units) (by rfl) m_max (by decide +kernel) (pa_cons (pv 6) pa_nil)) pa_nil))) pa_nil))) pa_nil)) pa_nil)) pa_nil))) (pa_cons (pv 3) pa_nil))))))
    (pss_cons (ps_set (i := 8) scLaw.nd rfl (.inl rfl) (pe_lstS (pa_cons (pe_ix (ixLK K) (pv 7) (pv 5) (fun _ _ => rfl)) (pa_cons (pv 4) pa_nil))))
    (pss_cons (ps_if (pt_cmpR op_eq (pe_own oLDraw (hr.mono (by decide)) (by rfl) (pa_cons (pv 1) (pa_cons pe_int pa_nil))) pe_int (nomark _)) (pss_one (ps_asg (pe_ix (ixLK K) (pe_lst (pa_cons (pe_own oLChanged (hr.mono (by decide)) (by rfl) (pa_cons (pv 1) (pa_cons (pv 4) pa_nil))) (pa_cons (pe_callTy (tupleK K) (by rfl) m_tuple (by decide +kernel) (pa_cons (sortSIK K rfl (by rfl) m_sorted (by rfl) m_set (pe_op (catAK K) (pv 4) (pv 6))) pa_nil)) pa_nil))) (pe_own oLDraw (hr.mono (by decide)) (by rfl) (pa_cons (pv 1) (pa_cons pe_int pa_nil))) (fun _ _ => rfl)) (pg_sub (pv 8) pe_int set_list))) pss_nil)
    (pss_cons (ps_set (i := 9) scLaw.nd rfl (.inl rfl) (pe_callB (reprO K gd hr.units) (by rfl) m_repr (by decide +kernel) (pa_cons (pv 8) pa_nil)))
    (pss_cons (ps_par (by rfl) scLaw.nd (i := 10) (j := 11) rfl rfl (by decide) rfl rfl (pa_cons (pe_own oLMade (hr.mono (by decide)) (by rfl) (pa_cons (pe_ix (ixLK K) (pv 8) pe_int (fun _ _ => rfl)) (pa_cons (pe_ix (ixLK K) (pv 8) pe_int (fun _ _ => rfl)) pa_nil))) (pa_cons (pe_own oLError (hr.mono (by decide)) (by rfl) (pa_cons (pe_ix (ixLK K) (pv 8) pe_int (fun _ _ => rfl)) pa_nil)) pa_nil)) (by rfl))
    (pss_cons (ps_if (pt_cmpR op_notN (pv 11) pe_non (nomark _)) (pss_one (ps_if (PW.pt (pw_or (pt_not (pt_val (pe_callB (isiK K) (by rfl) m_isinstance (by decide +kernel) (pa_cons (pv 10) (pa_cons (pe_bltn (v := .ty "list") (by rfl) m_list (by decide +kernel) rfl) pa_nil))))) (pw_or1 (pt_cmpR op_ne (pe_callB (reprK K gd hr.units) (by rfl) m_repr (by decide +kernel) (pa_cons (pv 10) pa_nil)) (pe_callB (reprK K gd hr.units) (by rfl) m_repr (by decide +kernel) (pa_cons (pe_lst (pa_cons pe_str (pa_cons (pv 11) pa_nil))) pa_nil)) (nomark _))))) (pss_one (ps_ret pe_bl)) pss_nil)) (pss_one (ps_if (pt_not (pt_val (pe_own oLIsSetting (hr.mono (by decide)) (by rfl) (pa_cons (pe_ix (ixLK K) (pv 8) pe_int (fun _ _ => rfl)) (pa_cons (pe_ix (ixLK K) (pv 8) pe_int (fun _ _ => rfl)) pa_nil))))) (pss_one (ps_if (pt_cmpR (neDK K hr.units) (pv 10) (pe_lst (pa_cons pe_str pa_nil)) (nomark _)) (pss_one (ps_ret pe_bl)) pss_nil)) (pss_one (ps_if (PW.pt (pw_or (pt_val (pe_callB (isiK K) (by rfl) m_isinstance (by decide +kernel) (pa_cons (pv 10) (pa_cons (pe_bltn (v := .ty "list") (by rfl) m_list (by decide +kernel) rfl) pa_nil)))) (pw_or1 (pt_not (pt_val (pe_ownG oLRight (hr.mono (by decide)) gd (by rfl) (pa_cons (pv 10) (pa_cons (pv 8) (pa_cons (pe_lst pa_nil) pa_nil))))))))) (pss_one (ps_ret pe_bl)) pss_nil)))))
    (pss_one (ps_if (pt_cmpR op_ne (pe_callB (reprO K gd hr.units) (by rfl) m_repr (by decide +kernel) (pa_cons (pv 8) pa_nil)) (pv 9) (nomark _)) (pss_one (ps_ret pe_bl)) pss_nil)))))))))))))
    (pss_one (ps_ret pe_bl)))), ?_⟩
    refine ⟨.ref a, rfl, a, ns, rfl, hS, hlen, fun H1 d l s1 d1 => ?_⟩
    refine ⟨10, rfl, by decide, by decide, for_range (lo := 0) (n := 10) (fun i σ H' => ∃ y2 y3 y4 y5 y6 y7 y8 y9 y10 y11, σ = [some (.ref a), some (.ref d), y2, y3, y4, y5, y6, y7, y8, y9, y10, y11] ∧ Deck H' d l (200 * i)) ?_ ?_ ?_⟩
    · exact ⟨_, _, _, _, _, _, _, _, _, _, rfl, d1⟩
    rotate_left
    · rintro σ H2 ⟨y2, y3, y4, y5, y6, y7, y8, y9, y10, y11, rfl, d2⟩
      exact q _
    rintro i σ H2 hi ⟨y2, y3, y4, y5, y6, y7, y8, y9, y10, y11, rfl, d2⟩
    have hi : i < 10 := hi
    dsimp only [gName]
    refine ⟨.ref d, rfl, d, l, _, 12, rfl, Nat.le_refl _, d2, by omega, fun H3 p st f3 d3 ok hms stl hp0 => ?_⟩
    obtain ⟨x, y, ep, hx, hy⟩ := stl
    have offp := d2.off hp0
    refine ⟨p, _, rfl, SqL.of ep, rfl, _, _, rfl, _, _, rfl, rfl, ?_⟩
    refine ⟨.ref d, rfl, d, l, _, 6, rfl, by decide, by decide, d3, by omega, fun H4 wy w0 w1 f4 d4 => ?_⟩
    dsimp only [gName]
    refine ⟨.ref d, rfl, d, l, _, 12, rfl, by decide, by decide, d4, by omega, fun H5 u u0 u1 f5 d5 => ?_⟩
    refine ⟨.ref d, rfl, d, l, _, 12, rfl, by decide, by decide, d5, by omega, fun H6 v v0 v1 f6 d6 => ?_⟩
    refine ⟨by show 2 ≤ sizeLine; decide, fun mo nmo => ?_⟩
    have smo := same_upd (o := .tup [V.int u, V.int v]) nmo
    have emo := same_at (o := .tup [V.int u, V.int v]) nmo
    have en : En K d l p (200 * i + 90 + 3) x y st H3 (upd H6 mo (.tup [V.int u, V.int v])) [] := by
      have e3 : En K d l p (200 * i + 90) x y st H3 H3 [] := ⟨hx, hy, d3, Fm.refl, ⟨_, ep⟩, (fun _ h => nomatch h)⟩
      exact (((e3.fm f4 d4 offp.1 offp.2).fm f5 d5 offp.1 offp.2).fm f6 d6 offp.1 offp.2).same smo
    have omo := d6.off nmo
    generalize upd H6 mo (.tup [V.int u, V.int v]) = H7 at en emo ⊢
    clear smo nmo f3 d3 f4 d4 f5 d5 f6 d6 hx hy ep
    dsimp only [gName]
    -- the first three values
    obtain ⟨fa, eb, exs, rfl, hfa, heb, hA, lxs, gE⟩ := gx_for ok en.hx
    obtain ⟨op, eop⟩ := en.he
    refine ⟨.ref fa, rfl, fa, _, 0, .int (st.m : Int), rfl, rfl, hfa, atI_nat (j := 0) rfl, .ref d, rfl, .ref fa, rfl, fa, _, 1, .ref eb, rfl, rfl, hfa, atI_nat (j := 1) rfl, d, l, p, _, eb, exs, op, rfl, en.dk, by omega, lxs, heb, gE d l p, eop, offp.1, offp.2, fun H8 cv f8 d8 gc => ?_⟩
    have en := en.fm f8 d8 offp.1 offp.2
    refine ⟨by show 2 ≤ sizeLine; decide, fun t1 nt1 => ?_⟩
    have s1 := same_upd (o := .tup [V.int (st.m : Int), cv]) nt1
    have e1 := same_at (o := .tup [V.int (st.m : Int), cv]) nt1
    have en := (en.same s1).add (v := .ref t1) ((Gx.tup2 (SqT.of e1) ((Gx.int (i := (st.m : Int)) (by have := ok.m12; omega)).le (Nat.le_refl 300) (show 3 ≤ 6 by decide)) (gc.same s1)).le (by decide) (by decide))
    have emo := f8 _ _ omo.1 omo.2 emo
    have emo := s1 _ _ emo
    generalize upd H8 t1 _ = H9 at en emo ⊢
    clear s1 e1 nt1 gc f8 d8 eop hfa heb hA lxs gE
    have frg : ∀ {H' : Hp} {o : V}, (∃ o, H' p = some o) → (∀ a, o = .ref a → H' a = none) → ∀ a, o = .ref a → a ≠ p := fun he fr a z e => by
      obtain ⟨o2, ho2⟩ := he
      subst e
      have := fr _ z
      rw [ho2] at this
      cases this
    refine ⟨.ref d, rfl, d, l, _, rfl, en.dk, by omega, fun H10 o1 x1 f10 d10 ov1 fr1 => ?_⟩
    have g1 := ov1.gx (frg en.he fr1)
    have en := (en.fm f10 d10 offp.1 offp.2).add (g1.le (by decide) (by decide))
    have emo := f10 _ _ omo.1 omo.2 emo
    clear g1 ov1 fr1 f10 d10
    refine ⟨.ref d, rfl, d, l, _, rfl, en.dk, by omega, fun H11 o2 x2 f11 d11 ov2 fr2 => ?_⟩
    have g2 := ov2.gx (frg en.he fr2)
    have en := en.fm f11 d11 offp.1 offp.2
    have emo := f11 _ _ omo.1 omo.2 emo
    obtain ⟨fa', eb, exs, e, hfa, heb, hA, lxs, gE⟩ := gx_for ok en.hx
    cases e
    refine ⟨.ref fa, rfl, fa, _, 1, .ref eb, rfl, rfl, hfa, atI_nat (j := 1) rfl, by show 2 ≤ sizeLine; decide, fun t2 nt2 => ?_⟩
    have s2 := same_upd (o := .tup [o2, V.ref eb]) nt2
    have e2 := same_at (o := .tup [o2, V.ref eb]) nt2
    have en := (en.same s2).add (v := .ref t2) ((Gx.tup2 (SqT.of e2) (g2.same s2) ((Ga.tup heb (gE d l p) (by omega)).same s2)).le (by decide) (by decide))
    have emo := s2 _ _ emo
    generalize upd H11 t2 (.tup [o2, V.ref eb]) = H12 at en emo ⊢
    clear s2 e2 nt2 g2 ov2 fr2 f11 d11 hfa heb hA lxs gE
    refine ⟨by show 3 ≤ sizeLine; decide, fun L1 nL1 => ?_⟩
    have sL1 := same_upd (o := .lst [V.ref t1, o1, V.ref t2]) nL1
    have eL1 := same_at (o := .lst [V.ref t1, o1, V.ref t2]) nL1
    have en := en.same sL1
    have emo := sL1 _ _ emo
    generalize upd H12 L1 (.lst [V.ref t1, o1, V.ref t2]) = H13 at en emo eL1 ⊢
    clear sL1 nL1
    dsimp only [gName]
    -- three more
    obtain ⟨fa', eb, exs, e, hfa, heb, hA, lxs, gE⟩ := gx_for ok en.hx
    cases e
    refine ⟨.ref L1, rfl, .ref fa, rfl, fa, _, rfl, .inr hfa, fun v7 n7 np7 => ?_⟩
    have s7 := same_upd (o := .lst [V.int (st.m : Int), V.ref eb]) n7
    have e7 := same_at (o := .lst [V.int (st.m : Int), V.ref eb]) n7
    have o7 := en.dk.off n7
    have g7 : v7 ≠ p := by
      obtain ⟨o, ho⟩ := en.he
      exact fun z => by rw [z, ho] at n7; cases n7
    have ge := Ga.tup heb (gE d l p) (by omega)
    have en := (en.same s7).add (v := .ref v7) ((Gx.lst2 np7 e7 o7.1 ⟨o7.2, g7⟩ (Gx.int (i := (st.m : Int)) (by have := ok.m12; omega)) (ge.same s7)).le (by decide) (by decide))
    have emo := s7 _ _ emo
    have eL1 := s7 _ _ eL1
    have hfa := Same.tup s7 hfa
    have heb := Same.tup s7 heb
    have hA := DpAll.same s7 hA
    generalize upd H13 v7 (.lst [V.int (st.m : Int), V.ref eb]) = H14 at en emo eL1 hfa heb hA ⊢
    clear s7 e7 n7 gE ge o7 g7
    refine ⟨.ref fa, rfl, fa, _, 0, .int (st.m : Int), rfl, rfl, hfa, atI_nat (j := 0) rfl, .ref fa, rfl, fa, _, 1, .ref eb, rfl, rfl, hfa, atI_nat (j := 1) rfl, ?_⟩
    refine ⟨.ref mo, rfl, mo, u, [v], rfl, SqT.of emo, .ref mo, rfl, mo, u, [v], rfl, SqT.of emo, ?_⟩
    obtain ⟨mn, emn⟩ : ∃ mn : Int, mn = [v].foldl min u := ⟨_, rfl⟩
    obtain ⟨mx, emx⟩ : ∃ mx : Int, mx = [v].foldl max u := ⟨_, rfl⟩
    have rmn : 0 ≤ mn ∧ mn ≤ 12 := by rw [emn]; show 0 ≤ min u v ∧ min u v ≤ 12; omega
    have rmx : 0 ≤ mx ∧ mx ≤ 12 := by rw [emx]; show 0 ≤ max u v ∧ max u v ≤ 12; omega
    refine ⟨by show 2 ≤ sizeLine; decide, fun t4 n4 => ⟨by show 1 ≤ sizeLine; decide, fun t5 n5 => ?_⟩⟩
    rw [← emn, ← emx] at n5 ⊢
    have s4 := same_upd (o := .tup [V.int mn, V.int mx]) n4
    have e4 := same_at (o := .tup [V.int mn, V.int mx]) n4
    have s5 := same_upd (o := .tup [V.ref t4]) n5
    have e5 := same_at (o := .tup [V.ref t4]) n5
    refine catV (Same.tup (s4.trans s5) heb) (SqT.of e5) (by show exs.length + 1 ≤ 900; omega) fun H15 z8 s8 e8 => ?_
    have s48 := (s4.trans s5).trans s8
    have dE : DpAll K H15 (exs ++ [V.ref t4]) ((st.es ++ [(mn, mx)]).map prD) := by
      rw [List.map_append]
      exact DpAll.append (DpAll.same s48 hA) (.cons (Dp.pr (SqT.of ((s5.trans s8) _ _ e4))) .nil)
    have les : st.es.length ≤ 12 := by rw [← List.length_map (f := prD), ← DpAll.length hA]; exact lxs
    have okE : ∀ q ∈ srtP (st.es ++ [(mn, mx)]), okP q := fun q hq => by
      rcases List.mem_append.mp ((srtP_perm _).mem_iff.mp hq) with h | h
      · have := ok.isf.rng q h
        have := ok.m12
        exact ⟨by omega, by omega⟩
      · rw [List.mem_singleton.mp h]
        exact ⟨by show 0 ≤ mn ∧ mn ≤ 20; omega, by show 0 ≤ mx ∧ mx ≤ 20; omega⟩
    refine sortTup e8 dE (by rw [List.length_append, List.length_singleton]; omega) fun p9 zs np9 dz => ?_
    have s9 := same_upd (o := .lst zs) np9
    refine ⟨p9, zs, rfl, .inl ⟨SqL.of upd_same, fun mt nmt => ?_⟩⟩
    have s10 := same_upd (o := .tup zs) nmt
    have e10 := same_at (o := .tup zs) nmt
    have lps : (srtP (st.es ++ [(mn, mx)])).length ≤ 13 := by rw [srtP_length, List.length_append, List.length_singleton]; omega
    have lzs : zs.length ≤ 13 := by rw [DpAll.length dz, List.length_map]; exact lps
    have gm := (Ga.tup (d := d) (l := l) (g := p) (SqT.of e10) (((gaPrs dz okE).same (s9.trans s10)).le (M := 300) (by omega) (show 1 ≤ 2 by decide)) (by omega))
    have s410 := (s48.trans s9).trans s10
    have en := en.same s410
    have emo := s410 _ _ emo
    have eL1 := s410 _ _ eL1
    have hfa := Same.tup s410 hfa
    generalize upd (upd H15 p9 (.lst zs)) mt (.tup zs) = H16 at en emo eL1 hfa gm ⊢
    clear s410 s10 e10 nmt s9 np9 dz okE dE s48 s8 e8 s5 e5 n5 s4 e4 n4 lzs lps heb hA lxs les
    refine ⟨by show 2 ≤ sizeLine; decide, fun t6 n6 => ?_⟩
    have s6 := same_upd (o := .tup [V.int (st.m : Int), V.ref mt]) n6
    have e6 := same_at (o := .tup [V.int (st.m : Int), V.ref mt]) n6
    have en := (en.same s6).add (v := .ref t6) ((Gx.tup2 (SqT.of e6) (Gx.int (i := (st.m : Int)) (by have := ok.m12; omega)) (gm.same s6)).le (by decide) (by decide))
    have emo := s6 _ _ emo
    have eL1 := s6 _ _ eL1
    generalize upd H16 t6 (.tup [V.int (st.m : Int), V.ref mt]) = H17 at en emo eL1 ⊢
    clear s6 e6 n6 gm hfa
    obtain ⟨fa', eb, exs, e, hfa, heb, hA, lxs, gE⟩ := gx_for ok en.hx
    cases e
    have en := en.add (v := .ref fa) ((Gx.tup2 hfa (Gx.int (i := (st.m : Int)) (by have := ok.m12; omega)) (Ga.tup heb (gE d l p) (by omega))).le (by decide) (by decide))
    clear hfa heb hA lxs gE
    refine ⟨.ref fa, rfl, by show 3 ≤ sizeLine; decide, fun L2 nL2 => ?_⟩
    have sL2 := same_upd (o := .lst [V.ref v7, V.ref t6, V.ref fa]) nL2
    have eL2 := same_at (o := .lst [V.ref v7, V.ref t6, V.ref fa]) nL2
    have en := en.same sL2
    have emo := sL2 _ _ emo
    have eL1 := sL2 _ _ eL1
    generalize upd H17 L2 (.lst [V.ref v7, V.ref t6, V.ref fa]) = H18 at en emo eL1 eL2 ⊢
    refine ⟨L1, L2, _, _, rfl, rfl, eL1, eL2, by show 3 + 3 ≤ sizeLine; decide, fun P nP => ?_⟩
    have sP := same_upd (o := .lst ([V.ref t1, o1, V.ref t2] ++ [V.ref v7, V.ref t6, V.ref fa])) nP
    have eP := same_at (o := .lst ([V.ref t1, o1, V.ref t2] ++ [V.ref v7, V.ref t6, V.ref fa])) nP
    have en := en.same sP
    have emo := sP _ _ emo
    have all : ∀ w ∈ [V.ref t1, o1, V.ref t2] ++ [V.ref v7, V.ref t6, V.ref fa], Gx K d l p 3000 9 (upd H18 P (.lst ([V.ref t1, o1, V.ref t2] ++ [V.ref v7, V.ref t6, V.ref fa]))) w := fun w hw => en.al w (by
      simp only [List.mem_append, List.mem_cons, List.not_mem_nil, or_false, false_or, List.nil_append] at hw ⊢
      rcases hw with (h | h | h) | h | h | h <;> simp [h])
    have lv : ([V.ref t1, o1, V.ref t2] ++ [V.ref v7, V.ref t6, V.ref fa]).length = 6 := rfl
    obtain ⟨nn, enn⟩ : ∃ nn, nn = 200 * i + 100 := ⟨_, rfl⟩
    have en : En K d l p nn (.ref fa) y st H3 _ [] := ⟨en.hx, en.hy, en.dk.le (by omega), en.f0, en.he, (fun _ h => nomatch h)⟩
    generalize [V.ref t1, o1, V.ref t2] ++ [V.ref v7, V.ref t6, V.ref fa] = us at eP all lv en emo ⊢
    generalize upd H18 P (.lst us) = H19 at eP all en emo ⊢
    clear sP nP sL2 nL2 eL1 eL2
    dsimp only [gName]
    -- the value
    have hwy : wy.toNat < us.length := by omega
    refine ⟨.ref P, rfl, .int wy, rfl, P, us, wy, us[wy.toNat], rfl, rfl, SqL.of eP, at_of (j := wy.toNat) (by omega) (List.getElem?_eq_getElem hwy), ?_⟩
    have gs := all _ (List.getElem_mem hwy)
    generalize us[wy.toNat] = sv at gs ⊢
    clear all eP lv hwy
    refine ⟨y, rfl, by show 2 ≤ sizeLine; decide, fun VA nV npV => ?_⟩
    have sV := same_upd (o := .lst [sv, y]) nV
    have eV := same_at (o := .lst [sv, y]) nV
    have oV := en.dk.off nV
    have gs := (gs.newg nV).same sV
    obtain ⟨ya, rfl, hya, lS, gS⟩ := gx_set ok en.hy
    have gy := (Ga.tup hya (gS d l VA) (by rw [List.length_map]; omega)).same sV
    have en := en.same sV
    have emo := sV _ _ emo
    generalize upd H19 VA (.lst [sv, .ref ya]) = H20 at gs gy en emo eV ⊢
    clear sV nV hya gS
    dsimp only [gName]
    have gs9 : Gx K d l VA 3000 9 H20 sv := gs
    have gy9 : Gx K d l VA 3000 9 H20 (.ref ya) := gy.le (by decide) (by decide)
    clear gs gy
    refine seqTail (fun σ' H' => ∃ (lv : V), σ' = [some (.ref a), some (.ref d), some (.int (0 + (i : Int))), some (.ref fa), some (.ref ya), some (.int wy), some (.ref mo), some (.ref P), some (.ref VA), y9, y10, y11] ∧
      H' VA = some (.lst [sv, lv]) ∧ Gx K d l VA 3000 9 H' sv ∧ Gx K d l VA 3000 9 H' lv ∧ Deck H' d l (200 * i + 110)) (fun nx' hn => ?_) ?_
    · refine ⟨.ref d, rfl, d, l, _, 2, rfl, by decide, by decide, en.dk, by omega, fun H21 r r0 r1 f21 d21 => ?_⟩
      have gs10 := gs9.fm f21 en.dk
      have gy10 := gy9.fm f21 en.dk
      have eV10 := f21 _ _ oV.1 oV.2 eV
      refine ⟨rfl, _, rfl, ite2 (fun hc => ?_) (fun hc => ?_)⟩
      rotate_left
      · exact hn _ _ ⟨_, rfl, eV10, gs10, gy10, d21.le (by omega)⟩
      have en10 := en.fm f21 d21 offp.1 offp.2
      have emo10 := f21 _ _ omo.1 omo.2 emo
      obtain ⟨ya', e, hya, lS, gS⟩ := gx_set ok en10.hy
      cases e
      refine ⟨.ref d, rfl, .ref ya, rfl, d, l, VA, _, ya, st.S.map V.int, _, rfl, d21, by omega, by rw [List.length_map]; omega, hya, gS d l VA, eV10, oV.1, oV.2, fun H22 cv f22 d22 gc => ?_⟩
      have gs11 := gs10.fm f22 d21
      have eV11 := f22 _ _ oV.1 oV.2 eV10
      have emo11 := f22 _ _ omo.1 omo.2 emo10
      have hya11 := (f22.kt d21) _ _ hya
      refine ⟨.ref ya, rfl, .ref mo, rfl, catV hya11 (SqT.of emo11) (by rw [List.length_map]; show _ + 2 ≤ 900; omega) fun H23 z9 s9 e9 => ?_⟩
      refine ⟨z9, st.S ++ [u, v], rfl, by rw [List.map_append]; exact e9, by rw [List.length_append]; show _ + 2 < 64; omega, fun ms p9 asc hms2 np9 => ?_⟩
      have s10 := same_upd (o := .lst (ms.map V.int)) np9
      refine ⟨p9, _, rfl, .inl ⟨SqL.of upd_same, fun mt nmt => ?_⟩⟩
      have s11 := same_upd (o := .tup (ms.map V.int)) nmt
      have e11 := same_at (o := .tup (ms.map V.int)) nmt
      have rms : ∀ z ∈ ms, 0 ≤ z ∧ z ≤ 20 := fun z hz => by
        rcases List.mem_append.mp ((hms2 z).mp hz) with h | h
        · have := ok.iss.rng z h
          have := ok.m12
          omega
        · rcases List.mem_cons.mp h with rfl | h
          · omega
          · rw [List.mem_singleton.mp h]; omega
      have lms : ms.length ≤ 14 := by
        have := nd_len (l := ms) (D := st.S ++ [u, v]) (asc.imp fun h => Int.ne_of_lt h) fun z hz => (hms2 z).mp hz
        rw [List.length_append] at this
        have : ms.length ≤ st.S.length + 2 := this
        omega
      have gm : Gx K d l VA 3000 9 _ (.ref mt) := (Ga.tup (d := d) (l := l) (g := VA) (SqT.of e11) ((gaInts rms).le (M := 300) (by omega) (show 1 ≤ 2 by decide)) (by rw [List.length_map]; omega)).le (by decide) (by decide)
      have s911 := (s9.trans s10).trans s11
      have gs12 := gs11.same s911
      have gc12 := (gc.le (M := 3000) (j := 9) (by decide) (by decide)).same s911
      have eV12 := s911 _ _ eV11
      have d23 := d22.same s911
      generalize upd (upd H23 p9 (.lst (ms.map V.int))) mt (.tup (ms.map V.int)) = H24 at gm gs12 gc12 eV12 d23 ⊢
      clear s911 s11 e11 nmt s10 np9 s9 e9
      refine ⟨by show 2 ≤ sizeLine; decide, fun L nL => ?_⟩
      have sL := same_upd (o := .lst [cv, V.ref mt]) nL
      have eL := same_at (o := .lst [cv, V.ref mt]) nL
      have oL := d23.off nL
      have d24 := d23.same sL
      have eV13 := sL _ _ eV12
      have gs13 := gs12.same sL
      have all : ∀ w ∈ [cv, V.ref mt], Gx K d l VA 3000 9 (upd H24 L (.lst [cv, V.ref mt])) w := fun w hw => by
        rcases List.mem_cons.mp hw with rfl | hw
        · exact gc12.same sL
        · rw [List.mem_singleton.mp hw]; exact gm.same sL
      have lv2 : [cv, V.ref mt].length = 2 := rfl
      generalize [cv, V.ref mt] = us at eL all lv2 eV13 gs13 d24 ⊢
      generalize upd H24 L (.lst us) = H25 at eL all eV13 gs13 d24 ⊢
      refine ⟨.ref d, rfl, d, l, _, 2, rfl, by decide, by decide, d24, by omega, fun H26 r2 r20 r21 f26 d26 => ?_⟩
      have hr2 : r2.toNat < us.length := by omega
      refine ⟨L, us, r2, us[r2.toNat], rfl, rfl, SqL.of (f26 _ _ oL.1 oL.2 eL), at_of (j := r2.toNat) (by omega) (List.getElem?_eq_getElem hr2), ?_⟩
      have gw := (all _ (List.getElem_mem hr2)).fm f26 d24
      generalize us[r2.toNat] = wv at gw ⊢
      have eV14 := f26 _ _ oV.1 oV.2 eV13
      have gs14 := gs13.fm f26 d24
      refine ⟨.ref VA, rfl, VA, _, 1, 1, rfl, rfl, eV14, rfl, ?_⟩
      exact hn _ _ ⟨wv, rfl, upd_same, gs14.put eV14, gw.put eV14, (d26.put oV.1 oV.2).le (by omega)⟩
    clear gs9 gy9 eV en emo
    rintro σ' H21 ⟨lv, rfl, eV, gs, gl, dk⟩
    obtain ⟨X1, b1, w1⟩ := gs
    obtain ⟨X2, b2, w2⟩ := gl
    have dqV : ∀ H', Same H21 H' → Dq K H' (.ref VA) (.list [X1, X2]) := fun H' s => .lst npV (s _ _ eV) (.cons (b1.same s).dq (.cons (b2.same s).dq .nil))
    have shV : ShowsQ (.list [X1, X2]) := ((SwB.one w1).app (SwB.one w2)).lst.showsQ (by decide) (by decide)
    refine ⟨.ref VA, rfl, .ref VA, .list [X1, X2], rfl, .inr ⟨dqV _ (Same.refl _), shV⟩, ?_⟩
    dsimp only [gName]
    obtain ⟨oi, so, hoi, hso⟩ := b1.lk (by decide)
    obtain ⟨ol, hol⟩ := b2.vw (by decide)
    refine ⟨.ref VA, rfl, VA, _, 0, sv, rfl, rfl, SqL.of eV, atI_nat (j := 0) rfl, .ref VA, rfl, VA, _, 1, lv, rfl, rfl, SqL.of eV, atI_nat (j := 1) rfl, sv, lv, oi, so, ol, rfl, hoi, hso, hol, fun ef H22 D r s22 eD dr => ?_, fun en => ?_⟩
    · refine ⟨.ref VA, rfl, VA, _, 0, sv, rfl, rfl, SqL.of (s22 _ _ eV), atI_nat (j := 0) rfl, sv, oi, so, rfl, hoi.same s22, Iw.sv_same s22 hso, fun H23 r2 s23 dr2 => ⟨.ref D, r2, rfl, ?_⟩⟩
      dsimp only [gName]
      refine ⟨r2, rfl, rfl, _, rfl, ?_⟩
      rw [isNo_dp dr2, ef]
      refine iteT ?_
      have eD3 := s23 _ _ eD
      have sh : Shows (.list [.str (Str.ofString "forest"), forE so oi]) := (Sm.two ((smW (s := "forest") (by decide)).le (by decide) (by decide)) (errSm hso)).shows (by decide) (by decide)
      refine ⟨.ref D, rfl, _, _, _, _, true, rfl, .ty "list", .base (.lst eD3), kit_ty (by decide +kernel), true, rfl, iteF ?_⟩
      refine ⟨.ref D, rfl, .ref D, .list [.str (Str.ofString "forest"), forE so oi], rfl, .lst (SqL.of eD3) (.cons (.str _) (.cons (Dp.same s23 dr) .nil)), sh, ?_⟩
      refine ⟨r2, rfl, by show 2 ≤ sizeLine; decide, fun D2 nD2 => ?_⟩
      have s24 := same_upd (o := .lst [V.str "forest", r2]) nD2
      have e24 := same_at (o := .lst [V.str "forest", r2]) nD2
      refine ⟨.ref D2, .list [.str (Str.ofString "forest"), forE so oi], rfl, .lst (SqL.of e24) (.cons (.str _) (.cons (Dp.same s24 dr2) .nil)), sh, rfl, _, rfl, ?_⟩
      rw [eq_str]
      refine iteF ?_
      have sl := (s22.trans s23).trans s24
      refine ⟨.ref VA, rfl, .ref VA, .list [X1, X2], rfl, .inr ⟨dqV _ sl, shV⟩, ?_⟩
      exact ⟨_, rfl, rfl, false, by rw [decide_eq_true rfl]; rfl, iteF ⟨_, _, _, _, _, _, _, _, _, _, rfl, (dk.same sl).le (by omega)⟩⟩
    · obtain ⟨m, es, hm, isf, hsv⟩ := for_of hoi hso en
      refine ⟨m, es, hm, isf, hsv, fun eo H22 D s22 eD => ?_, fun eo => ?_⟩
      · refine ⟨.ref VA, rfl, VA, _, 0, sv, rfl, rfl, SqL.of (s22 _ _ eV), atI_nat (j := 0) rfl, sv, oi, so, rfl, hoi.same s22, Iw.sv_same s22 hso, fun H23 r2 s23 dr2 => ⟨.ref D, r2, rfl, ?_⟩⟩
        dsimp only [gName]
        refine ⟨r2, rfl, rfl, _, rfl, ?_⟩
        rw [isNo_dp dr2, en]
        refine iteF ?_
        have s223 := s22.trans s23
        refine ⟨.ref VA, rfl, VA, _, 0, sv, rfl, rfl, SqL.of (s223 _ _ eV), atI_nat (j := 0) rfl, .ref VA, rfl, VA, _, 1, lv, rfl, rfl, SqL.of (s223 _ _ eV), atI_nat (j := 1) rfl, sv, lv, m, es, ol, rfl, hm, isf, Dp.same s223 hsv, hol.same s223, fun H24 s24 => ⟨_, rfl, ?_⟩⟩
        rw [eo]
        refine iteT ?_
        refine ⟨.ref D, rfl, by show 1 ≤ sizeLine; decide, fun D2 nD2 => ?_⟩
        have s25 := same_upd (o := .lst [V.str "setting"]) nD2
        refine ⟨.list [.str "setting"], .list [.str "setting"], .lst (SqL.of (((s23.trans s24).trans s25) _ _ eD)) (.cons (.str _) .nil), .lst (SqL.of upd_same) (.cons (.str _) .nil), by decide +kernel, by decide +kernel, _, rfl, ?_⟩
        rw [show PyData.eqv (.list [.str "setting"]) (.list [.str "setting"]) = true by decide +kernel]
        refine iteF ?_
        have sl := (s223.trans s24).trans s25
        refine ⟨.ref VA, rfl, .ref VA, .list [X1, X2], rfl, .inr ⟨dqV _ sl, shV⟩, ?_⟩
        exact ⟨_, rfl, rfl, false, by rw [decide_eq_true rfl]; rfl, iteF ⟨_, _, _, _, _, _, _, _, _, _, rfl, (dk.same sl).le (by omega)⟩⟩
      · obtain ⟨S, iss, hlv⟩ := set_of isf hol eo
        refine ⟨S, iss, hlv, fun H22 b s22 hB => ?_⟩
        refine ⟨.ref VA, rfl, VA, _, 0, sv, rfl, rfl, SqL.of (s22 _ _ eV), atI_nat (j := 0) rfl, sv, oi, so, rfl, hoi.same s22, Iw.sv_same s22 hso, fun H23 r2 s23 dr2 => ⟨.ref b, r2, rfl, ?_⟩⟩
        dsimp only [gName]
        refine ⟨r2, rfl, rfl, _, rfl, ?_⟩
        rw [isNo_dp dr2, en]
        refine iteF ?_
        have s223 := s22.trans s23
        refine ⟨.ref VA, rfl, VA, _, 0, sv, rfl, rfl, SqL.of (s223 _ _ eV), atI_nat (j := 0) rfl, .ref VA, rfl, VA, _, 1, lv, rfl, rfl, SqL.of (s223 _ _ eV), atI_nat (j := 1) rfl, sv, lv, m, es, ol, rfl, hm, isf, Dp.same s223 hsv, hol.same s223, fun H24 s24 => ⟨_, rfl, ?_⟩⟩
        rw [eo]
        refine iteF ?_
        have s234 := s23.trans s24
        have s224 := s223.trans s24
        have hB4 := hB.same s234
        obtain ⟨dx, sa, ma, hb, hsa, hma⟩ := hB4.at_
        refine ⟨.ref b, rfl, _, _, _, _, false, rfl, .ty "list", .base (.ins hb TB.cl TL.cl TL.gt TL.tk TL.mr), TL.nol, false, rfl, iteF ?_⟩
        refine ⟨.ref b, rfl, .ref VA, rfl, Nat.zero_le _, fun g0 ng0 => ?_⟩
        have s25 := same_upd (o := .lst []) ng0
        have sl := s224.trans s25
        refine ⟨b, VA, g0, sv, lv, [], [⟨m, es, S⟩], [], ⟨m, es, S⟩, rfl, hB4.same s25, rfl, sl _ _ eV, Dp.same sl hsv, Dp.same sl hlv, upd_same, .nil, (fun _ h => nomatch h), fun H26 s26 => ⟨true, rfl, iteF ?_⟩⟩
        have sl := sl.trans s26
        refine ⟨.ref VA, rfl, .ref VA, .list [X1, X2], rfl, .inr ⟨dqV _ sl, shV⟩, ?_⟩
        exact ⟨_, rfl, rfl, false, by rw [decide_eq_true rfl]; rfl, iteF ⟨_, _, _, _, _, _, _, _, _, _, rfl, (dk.same sl).le (by omega)⟩⟩
end
end TL
namespace TL
open PySem PySem.Spec PyProof.Rows L2
section
variable {P : Program} {w : World} {K : PySem.W.Frag} {mg : Str → Option Value} {base : Heap}
end
theorem all_mk {l : PySem.W.OpenLaw} {w : World} {K : PySem.W.Frag} {h : Heap} {mg : Str → Option Value} {fa f0 f1 f2 f3 f4 f5 f6 f7 f8 f9 f10 f11 f12 f13 f14 f15 f16 f17 f18 f19 f20 f21 f22 f23 f24 f25 f26 f27 f28 f29 f30 : Addr} (X : K.In h) (G : h.Ns mainGlobals mg) (hfa : mg "law" = some (.ref fa))
    {od0 an0 od1 an1 od2 an2 od3 an3 od4 an4 od5 an5 od6 an6 od7 an7 od8 an8 od9 an9 od10 an10 od11 an11 od12 an12 od13 an13 od14 an14 od15 an15 od16 an16 od17 an17 od18 an18 od19 an19 od20 an20 od21 an21 od22 an22 od23 an23 od24 an24 od25 an25 od26 an26 od27 an27 od28 an28 od29 an29 od30 an30 : Option Addr} {sl0 sl1 sl2 sl3 sl4 sl5 sl6 sl7 sl8 sl9 sl10 sl11 sl12 sl13 sl14 sl15 sl16 sl17 sl18 sl19 sl20 sl21 sl22 sl23 sl24 sl25 sl26 sl27 sl28 sl29 sl30 : Array (Option Value)} {oc0 kV0 dc0 pm0 cd0 ct0 oc1 kV1 dc1 pm1 cd1 ct1 oc2 kV2 dc2 pm2 cd2 ct2 oc3 kV3 dc3 pm3 cd3 ct3 oc4 kV4 dc4 pm4 cd4 ct4 oc5 kV5 dc5 pm5 cd5 ct5 oc6 kV6 dc6 pm6 cd6 ct6 oc7 kV7 dc7 pm7 cd7 ct7 oc8 kV8 dc8 pm8 cd8 ct8 oc9 kV9 dc9 pm9 cd9 ct9 oc10 kV10 dc10 pm10 cd10 ct10 oc11 kV11 dc11 pm11 cd11 ct11 oc12 kV12 dc12 pm12 cd12 ct12 oc13 kV13 dc13 pm13 cd13 ct13 oc14 kV14 dc14 pm14 cd14 ct14 oc15 kV15 dc15 pm15 cd15 ct15 oc16 kV16 dc16 pm16 cd16 ct16 oc17 kV17 dc17 pm17 cd17 ct17 oc18 kV18 dc18 pm18 cd18 ct18 oc19 kV19 dc19 pm19 cd19 ct19 oc20 kV20 dc20 pm20 cd20 ct20 oc21 kV21 dc21 pm21 cd21 ct21 oc22 kV22 dc22 pm22 cd22 ct22 oc23 kV23 dc23 pm23 cd23 ct23 oc24 kV24 dc24 pm24 cd24 ct24 oc25  dc25 pm25 cd25 ct25 oc26  dc26 pm26 cd26 ct26 oc27 kV27 dc27 pm27 cd27 ct27 oc28 kV28 dc28 pm28 cd28 ct28 oc29 kV29 dc29 pm29 cd29 ct29 oc30 kV30 dc30 pm30 cd30 ct30 : Value}
    {oBoard : Addr} (oaBoard : PySem.W.nsIn K mainGlobals "Board" = some (some (.ref oBoard))) (ogBoard : PySem.W.plainGet K oBoard Str.empty = true) (ohBoard : PySem.W.hasDictIn K oBoard = true) (opBoard : PySem.W.plainOver K oBoard = true) (osBoard : PySem.W.findIn K (.ref oBoard) "__setattr__" = some (some (.builtin "object.__setattr__"))) (omBoard : PySem.W.makesIn K oBoard = true) (okBoard : PySem.W.keepIn K (.ref oBoard) = true)
    (on0Board : PySem.W.findIn K (.ref oBoard) "states" = some none)
    (on1Board : PySem.W.findIn K (.ref oBoard) "made" = some none)
    (on2Board : PySem.W.findIn K (.ref oBoard) "busy" = some none)
    (oiBoard : PySem.W.typeIn K (.ref oBoard) = some (.type "type")) (ojBoard : PySem.W.subIn K (.ref oBoard) (.ref oBoard) = some true) (oqBoard : PySem.W.findIn K (.ref oBoard) "__class__" = some (some (.builtin "object.__class__"))) (otBoard : PySem.W.specialIn K (.builtin "object.__class__") "__get__" = some (some (.builtin "getset_descriptor.__get__"))) (ouBoard : PySem.W.takesIn K (.builtin "object.__class__") = some true) (ovBoard : PySem.W.mroIn K oBoard (.type "object") = some true)
    (a0 : PySem.W.nsIn K mainGlobals "is_number" = some (some (.ref f0))) (l0 : K.lookup f0 = some ⟨oc0, od0, .func (PySem.W.fnOf "is_number" "is_number" (defArgs sIsNumber) (defBody sIsNumber) (defScope sIsNumber) .none kV0 dc0 pm0 an0 cd0 ct0), sl0⟩) (c0 : PySem.W.codeIn K cd0 "is_number" = true) (k0 : PySem.W.keepIn K (.ref f0) = true)
    (a1 : PySem.W.nsIn K mainGlobals "is_pair" = some (some (.ref f1))) (l1 : K.lookup f1 = some ⟨oc1, od1, .func (PySem.W.fnOf "is_pair" "is_pair" (defArgs sIsPair) (defBody sIsPair) (defScope sIsPair) .none kV1 dc1 pm1 an1 cd1 ct1), sl1⟩) (c1 : PySem.W.codeIn K cd1 "is_pair" = true) (k1 : PySem.W.keepIn K (.ref f1) = true)
    (a2 : PySem.W.nsIn K mainGlobals "is_vertex" = some (some (.ref f2))) (l2 : K.lookup f2 = some ⟨oc2, od2, .func (PySem.W.fnOf "is_vertex" "is_vertex" (defArgs sIsVertex) (defBody sIsVertex) (defScope sIsVertex) .none kV2 dc2 pm2 an2 cd2 ct2), sl2⟩) (c2 : PySem.W.codeIn K cd2 "is_vertex" = true) (k2 : PySem.W.keepIn K (.ref f2) = true)
    (a3 : PySem.W.nsIn K mainGlobals "is_edge" = some (some (.ref f3))) (l3 : K.lookup f3 = some ⟨oc3, od3, .func (PySem.W.fnOf "is_edge" "is_edge" (defArgs sIsEdge) (defBody sIsEdge) (defScope sIsEdge) .none kV3 dc3 pm3 an3 cd3 ct3), sl3⟩) (c3 : PySem.W.codeIn K cd3 "is_edge" = true) (k3 : PySem.W.keepIn K (.ref f3) = true)
    (a4 : PySem.W.nsIn K mainGlobals "is_ascending" = some (some (.ref f4))) (l4 : K.lookup f4 = some ⟨oc4, od4, .func (PySem.W.fnOf "is_ascending" "is_ascending" (defArgs sIsAscending) (defBody sIsAscending) (defScope sIsAscending) .none kV4 dc4 pm4 an4 cd4 ct4), sl4⟩) (c4 : PySem.W.codeIn K cd4 "is_ascending" = true) (k4 : PySem.W.keepIn K (.ref f4) = true)
    (a5 : PySem.W.nsIn K mainGlobals "merged" = some (some (.ref f5))) (l5 : K.lookup f5 = some ⟨oc5, od5, .func (PySem.W.fnOf "merged" "merged" (defArgs sMerged) (defBody sMerged) (defScope sMerged) .none kV5 dc5 pm5 an5 cd5 ct5), sl5⟩) (c5 : PySem.W.codeIn K cd5 "merged" = true) (k5 : PySem.W.keepIn K (.ref f5) = true)
    (a6 : PySem.W.nsIn K mainGlobals "edges_error" = some (some (.ref f6))) (l6 : K.lookup f6 = some ⟨oc6, od6, .func (PySem.W.fnOf "edges_error" "edges_error" (defArgs sEdgesError) (defBody sEdgesError) (defScope sEdgesError) .none kV6 dc6 pm6 an6 cd6 ct6), sl6⟩) (c6 : PySem.W.codeIn K cd6 "edges_error" = true) (k6 : PySem.W.keepIn K (.ref f6) = true)
    (a7 : PySem.W.nsIn K mainGlobals "forest_error" = some (some (.ref f7))) (l7 : K.lookup f7 = some ⟨oc7, od7, .func (PySem.W.fnOf "forest_error" "forest_error" (defArgs sForestError) (defBody sForestError) (defScope sForestError) .none kV7 dc7 pm7 an7 cd7 ct7), sl7⟩) (c7 : PySem.W.codeIn K cd7 "forest_error" = true) (k7 : PySem.W.keepIn K (.ref f7) = true)
    (a8 : PySem.W.nsIn K mainGlobals "is_setting" = some (some (.ref f8))) (l8 : K.lookup f8 = some ⟨oc8, od8, .func (PySem.W.fnOf "is_setting" "is_setting" (defArgs sIsSetting) (defBody sIsSetting) (defScope sIsSetting) .none kV8 dc8 pm8 an8 cd8 ct8), sl8⟩) (c8 : PySem.W.codeIn K cd8 "is_setting" = true) (k8 : PySem.W.keepIn K (.ref f8) = true)
    (a9 : PySem.W.nsIn K mainGlobals "_law_deck" = some (some (.ref f9))) (l9 : K.lookup f9 = some ⟨oc9, od9, .func (PySem.W.fnOf "_law_deck" "_law_deck" (defArgs sLDeck) (defBody sLDeck) (defScope sLDeck) .none kV9 dc9 pm9 an9 cd9 ct9), sl9⟩) (c9 : PySem.W.codeIn K cd9 "_law_deck" = true) (k9 : PySem.W.keepIn K (.ref f9) = true)
    (a10 : PySem.W.nsIn K mainGlobals "_law_draw" = some (some (.ref f10))) (l10 : K.lookup f10 = some ⟨oc10, od10, .func (PySem.W.fnOf "_law_draw" "_law_draw" (defArgs sLDraw) (defBody sLDraw) (defScope sLDraw) .none kV10 dc10 pm10 an10 cd10 ct10), sl10⟩) (c10 : PySem.W.codeIn K cd10 "_law_draw" = true) (k10 : PySem.W.keepIn K (.ref f10) = true)
    (a11 : PySem.W.nsIn K mainGlobals "_law_forest" = some (some (.ref f11))) (l11 : K.lookup f11 = some ⟨oc11, od11, .func (PySem.W.fnOf "_law_forest" "_law_forest" (defArgs sLForest) (defBody sLForest) (defScope sLForest) .none kV11 dc11 pm11 an11 cd11 ct11), sl11⟩) (c11 : PySem.W.codeIn K cd11 "_law_forest" = true) (k11 : PySem.W.keepIn K (.ref f11) = true)
    (a12 : PySem.W.nsIn K mainGlobals "_law_near" = some (some (.ref f12))) (l12 : K.lookup f12 = some ⟨oc12, od12, .func (PySem.W.fnOf "_law_near" "_law_near" (defArgs sLNear) (defBody sLNear) (defScope sLNear) .none kV12 dc12 pm12 an12 cd12 ct12), sl12⟩) (c12 : PySem.W.codeIn K cd12 "_law_near" = true) (k12 : PySem.W.keepIn K (.ref f12) = true)
    (a13 : PySem.W.nsIn K mainGlobals "_law_setting" = some (some (.ref f13))) (l13 : K.lookup f13 = some ⟨oc13, od13, .func (PySem.W.fnOf "_law_setting" "_law_setting" (defArgs sLSetting) (defBody sLSetting) (defScope sLSetting) .none kV13 dc13 pm13 an13 cd13 ct13), sl13⟩) (c13 : PySem.W.codeIn K cd13 "_law_setting" = true) (k13 : PySem.W.keepIn K (.ref f13) = true)
    (a14 : PySem.W.nsIn K mainGlobals "_law_path" = some (some (.ref f14))) (l14 : K.lookup f14 = some ⟨oc14, od14, .func (PySem.W.fnOf "_law_path" "_law_path" (defArgs sLPath) (defBody sLPath) (defScope sLPath) .none kV14 dc14 pm14 an14 cd14 ct14), sl14⟩) (c14 : PySem.W.codeIn K cd14 "_law_path" = true) (k14 : PySem.W.keepIn K (.ref f14) = true)
    (a15 : PySem.W.nsIn K mainGlobals "_law_right" = some (some (.ref f15))) (l15 : K.lookup f15 = some ⟨oc15, od15, .func (PySem.W.fnOf "_law_right" "_law_right" (defArgs sLRight) (defBody sLRight) (defScope sLRight) .none kV15 dc15 pm15 an15 cd15 ct15), sl15⟩) (c15 : PySem.W.codeIn K cd15 "_law_right" = true) (k15 : PySem.W.keepIn K (.ref f15) = true)
    (a16 : PySem.W.nsIn K mainGlobals "_law_begun" = some (some (.ref f16))) (l16 : K.lookup f16 = some ⟨oc16, od16, .func (PySem.W.fnOf "_law_begun" "_law_begun" (defArgs sLBegun) (defBody sLBegun) (defScope sLBegun) .none kV16 dc16 pm16 an16 cd16 ct16), sl16⟩) (c16 : PySem.W.codeIn K cd16 "_law_begun" = true) (k16 : PySem.W.keepIn K (.ref f16) = true)
    (a17 : PySem.W.nsIn K mainGlobals "_law_is_below" = some (some (.ref f17))) (l17 : K.lookup f17 = some ⟨oc17, od17, .func (PySem.W.fnOf "_law_is_below" "_law_is_below" (defArgs sLIsBelow) (defBody sLIsBelow) (defScope sLIsBelow) .none kV17 dc17 pm17 an17 cd17 ct17), sl17⟩) (c17 : PySem.W.codeIn K cd17 "_law_is_below" = true) (k17 : PySem.W.keepIn K (.ref f17) = true)
    (a18 : PySem.W.nsIn K mainGlobals "_law_error" = some (some (.ref f18))) (l18 : K.lookup f18 = some ⟨oc18, od18, .func (PySem.W.fnOf "_law_error" "_law_error" (defArgs sLError) (defBody sLError) (defScope sLError) .none kV18 dc18 pm18 an18 cd18 ct18), sl18⟩) (c18 : PySem.W.codeIn K cd18 "_law_error" = true) (k18 : PySem.W.keepIn K (.ref f18) = true)
    (a19 : PySem.W.nsIn K mainGlobals "_law_is_setting" = some (some (.ref f19))) (l19 : K.lookup f19 = some ⟨oc19, od19, .func (PySem.W.fnOf "_law_is_setting" "_law_is_setting" (defArgs sLIsSetting) (defBody sLIsSetting) (defScope sLIsSetting) .none kV19 dc19 pm19 an19 cd19 ct19), sl19⟩) (c19 : PySem.W.codeIn K cd19 "_law_is_setting" = true) (k19 : PySem.W.keepIn K (.ref f19) = true)
    (a20 : PySem.W.nsIn K mainGlobals "_law_odd" = some (some (.ref f20))) (l20 : K.lookup f20 = some ⟨oc20, od20, .func (PySem.W.fnOf "_law_odd" "_law_odd" (defArgs sLOdd) (defBody sLOdd) (defScope sLOdd) .none kV20 dc20 pm20 an20 cd20 ct20), sl20⟩) (c20 : PySem.W.codeIn K cd20 "_law_odd" = true) (k20 : PySem.W.keepIn K (.ref f20) = true)
    (a21 : PySem.W.nsIn K mainGlobals "_law_changed" = some (some (.ref f21))) (l21 : K.lookup f21 = some ⟨oc21, od21, .func (PySem.W.fnOf "_law_changed" "_law_changed" (defArgs sLChanged) (defBody sLChanged) (defScope sLChanged) .none kV21 dc21 pm21 an21 cd21 ct21), sl21⟩) (c21 : PySem.W.codeIn K cd21 "_law_changed" = true) (k21 : PySem.W.keepIn K (.ref f21) = true)
    (a22 : PySem.W.nsIn K mainGlobals "_law_made" = some (some (.ref f22))) (l22 : K.lookup f22 = some ⟨oc22, od22, .func (PySem.W.fnOf "_law_made" "_law_made" (defArgs sLMade) (defBody sLMade) (defScope sLMade) .none kV22 dc22 pm22 an22 cd22 ct22), sl22⟩) (c22 : PySem.W.codeIn K cd22 "_law_made" = true) (k22 : PySem.W.keepIn K (.ref f22) = true)
    (a23 : PySem.W.nsIn K mainGlobals "law" = some (some (.ref f23))) (l23 : K.lookup f23 = some ⟨oc23, od23, .func (PySem.W.fnOf "law" "law" (defArgs sLaw) (defBody sLaw) (defScope sLaw) .none kV23 dc23 pm23 an23 cd23 ct23), sl23⟩) (c23 : PySem.W.codeIn K cd23 "law" = true) (k23 : PySem.W.keepIn K (.ref f23) = true)
    (a24 : PySem.W.findIn K (.ref oBoard) "__init__" = some (some (.ref f24))) (i24 : PySem.W.isFn K (.ref f24) = true) (l24 : K.lookup f24 = some ⟨oc24, od24, .func (PySem.W.fnOf "__init__" "Board.__init__" (defArgs sBoardInit) (defBody sBoardInit) (defScope sBoardInit) .none kV24 dc24 pm24 an24 cd24 ct24), sl24⟩) (c24 : PySem.W.codeIn K cd24 "Board.__init__" = true) (k24 : PySem.W.keepIn K (.ref f24) = true)
    {kd25 : Addr} (a25 : PySem.W.findIn K (.ref oBoard) "forest" = some (some (.ref f25))) (i25 : PySem.W.isFn K (.ref f25) = true) (l25 : K.lookup f25 = some ⟨oc25, od25, .func (PySem.W.fnOf "forest" "Board.forest" (defArgs sBoardForest) (defBody sBoardForest) (defScope sBoardForest) .none (.ref kd25) dc25 pm25 an25 cd25 ct25), sl25⟩) (c25 : PySem.W.codeIn K cd25 "Board.forest" = true) (k25 : PySem.W.keepIn K (.ref f25) = true)
    (q025 : PySem.W.nsIn K kd25 "version" = some (some .none))
    {kd26 : Addr} (a26 : PySem.W.findIn K (.ref oBoard) "lamps" = some (some (.ref f26))) (i26 : PySem.W.isFn K (.ref f26) = true) (l26 : K.lookup f26 = some ⟨oc26, od26, .func (PySem.W.fnOf "lamps" "Board.lamps" (defArgs sBoardLamps) (defBody sBoardLamps) (defScope sBoardLamps) .none (.ref kd26) dc26 pm26 an26 cd26 ct26), sl26⟩) (c26 : PySem.W.codeIn K cd26 "Board.lamps" = true) (k26 : PySem.W.keepIn K (.ref f26) = true)
    (q026 : PySem.W.nsIn K kd26 "version" = some (some .none))
    (a27 : PySem.W.findIn K (.ref oBoard) "edits" = some (some (.ref f27))) (i27 : PySem.W.isFn K (.ref f27) = true) (l27 : K.lookup f27 = some ⟨oc27, od27, .func (PySem.W.fnOf "edits" "Board.edits" (defArgs sBoardEdits) (defBody sBoardEdits) (defScope sBoardEdits) .none kV27 dc27 pm27 an27 cd27 ct27), sl27⟩) (c27 : PySem.W.codeIn K cd27 "Board.edits" = true) (k27 : PySem.W.keepIn K (.ref f27) = true)
    (a28 : PySem.W.findIn K (.ref oBoard) "__len__" = some (some (.ref f28))) (i28 : PySem.W.isFn K (.ref f28) = true) (l28 : K.lookup f28 = some ⟨oc28, od28, .func (PySem.W.fnOf "__len__" "Board.__len__" (defArgs sBoardLen) (defBody sBoardLen) (defScope sBoardLen) .none kV28 dc28 pm28 an28 cd28 ct28), sl28⟩) (c28 : PySem.W.codeIn K cd28 "Board.__len__" = true) (k28 : PySem.W.keepIn K (.ref f28) = true)
    (a29 : PySem.W.findIn K (.ref oBoard) "__str__" = some (some (.ref f29))) (i29 : PySem.W.isFn K (.ref f29) = true) (l29 : K.lookup f29 = some ⟨oc29, od29, .func (PySem.W.fnOf "__str__" "Board.__str__" (defArgs sBoardStr) (defBody sBoardStr) (defScope sBoardStr) .none kV29 dc29 pm29 an29 cd29 ct29), sl29⟩) (c29 : PySem.W.codeIn K cd29 "Board.__str__" = true) (k29 : PySem.W.keepIn K (.ref f29) = true)
    (a30 : PySem.W.findIn K (.ref oBoard) "state_at" = some (some (.ref f30))) (i30 : PySem.W.isFn K (.ref f30) = true) (l30 : K.lookup f30 = some ⟨oc30, od30, .func (PySem.W.fnOf "state_at" "Board.state_at" (defArgs sBoardStateAt) (defBody sBoardStateAt) (defScope sBoardStateAt) .none kV30 dc30 pm30 an30 cd30 ct30), sl30⟩) (c30 : PySem.W.codeIn K cd30 "Board.state_at" = true) (k30 : PySem.W.keepIn K (.ref f30) = true)
    {cBadForest iBadForest eN0 : Addr} {en0 eq0 : Str} {eb0 em0 eu0 : List Value} {es0 : List Str} {ea0 : Bool} {ec0 : Option Bool} {ed0 : Option Addr} {e00 e10 e20 e30 e50 : Option Value}
    {iod0 ian0 : Option Addr} {isl0 : Array (Option Value)} {ioc0 ikV0 idc0 ipm0 icd0 ict0 : Value}
    (eaBadForest : PySem.W.nsIn K mainGlobals "BadForest" = some (some (.ref cBadForest))) (elBadForest : K.lookup cBadForest = some (excClassObj en0 eq0 cBadForest eN0 eb0 em0 true es0 eu0 ea0 ec0 ed0 e00 e10 e20 e30 e50 "ValueError.__new__")) (erBadForest : PySem.HandSPX.refsVE em0 = true)
    (e1BadForest : PySem.W.findIn K (.ref cBadForest) "__setattr__" = some (some (.builtin "object.__setattr__"))) (e2BadForest : PySem.W.subIn K (.ref cBadForest) (.type "BaseException") = some true) (e3BadForest : PySem.W.typeIn K (.ref cBadForest) = some (.type "type")) (e4BadForest : PySem.W.keepIn K (.ref cBadForest) = true)
    (e5BadForest : PySem.W.findIn K (.ref cBadForest) "__getattribute__" = some (some (.builtin "BaseException.__getattribute__"))) (e6BadForest : PySem.W.findIn K (.ref cBadForest) "__getattr__" = some none) (e7BadForest : PySem.W.hasDictIn K cBadForest = true)
    (e8BadForest : PySem.W.findIn K (.ref cBadForest) "__class__" = some (some (.builtin "object.__class__"))) (e9BadForest : PySem.W.specialIn K (.builtin "object.__class__") "__get__" = some (some (.builtin "getset_descriptor.__get__"))) (eABadForest : PySem.W.takesIn K (.builtin "object.__class__") = some true) (eBBadForest : PySem.W.mroIn K cBadForest (.type "object") = some true)
    (eCBadForest : PySem.W.findIn K (.ref cBadForest) "__init__" = some (some (.ref iBadForest))) (eDBadForest : PySem.W.typeIn K (.ref iBadForest) = some (.type "function")) (eEBadForest : PySem.W.findIn K (.ref cBadForest) "error" = some none) (eFBadForest : PySem.W.subIn K (.ref cBadForest) (.ref cBadForest) = some true) (eGBadForest : PySem.W.subIn K (.ref cBadForest) (.type "ValueError") = some true)
    (eHBadForest : K.lookup iBadForest = some ⟨ioc0, iod0, .func (PySem.W.fnOf "__init__" "BadForest.__init__" (defArgs sBadforestInit) (defBody sBadforestInit) (defScope sBadforestInit) .none ikV0 idc0 ipm0 ian0 icd0 ict0), isl0⟩) (eIBadForest : PySem.W.codeIn K icd0 "BadForest.__init__" = true) (eJBadForest : PySem.W.keepIn K (.ref iBadForest) = true)
    {cBadSetting : Addr} (caBadSetting : PySem.W.nsIn K mainGlobals "BadSetting" = some (some (.ref cBadSetting))) (f1BadSetting : PySem.W.excIn K cBadSetting [.type "ValueError", .type "Exception", .type "BaseException", .type "object"] "ValueError.__new__" = true) (f2BadSetting : PySem.W.keepIn K (.ref cBadSetting) = true) (f3BadSetting : PySem.W.subIn K (.ref cBadSetting) (.type "BaseException") = some true) (ctBadSetting : PySem.W.typeIn K (.ref cBadSetting) = some (.type "type"))
    (f4BadSetting : PySem.W.findIn K (.ref cBadSetting) "__getattribute__" = some (some (.builtin "BaseException.__getattribute__"))) (f5BadSetting : PySem.W.findIn K (.ref cBadSetting) "__getattr__" = some none) (f6BadSetting : PySem.W.hasDictIn K cBadSetting = true)
    (f8BadSetting : PySem.W.findIn K (.ref cBadSetting) "__class__" = some (some (.builtin "object.__class__"))) (f9BadSetting : PySem.W.specialIn K (.builtin "object.__class__") "__get__" = some (some (.builtin "getset_descriptor.__get__"))) (fABadSetting : PySem.W.takesIn K (.builtin "object.__class__") = some true) (fBBadSetting : PySem.W.mroIn K cBadSetting (.type "object") = some true)
    (cdBadSetting : PySem.W.hasDictIn K cBadSetting = true)

    {cBadEdits : Addr} (caBadEdits : PySem.W.nsIn K mainGlobals "BadEdits" = some (some (.ref cBadEdits))) (cdBadEdits : PySem.W.hasDictIn K cBadEdits = true) (ctBadEdits : PySem.W.typeIn K (.ref cBadEdits) = some (.type "type"))
    {cNoVertex : Addr} (caNoVertex : PySem.W.nsIn K mainGlobals "NoVertex" = some (some (.ref cNoVertex))) (cdNoVertex : PySem.W.hasDictIn K cNoVertex = true) (ctNoVertex : PySem.W.typeIn K (.ref cNoVertex) = some (.type "type"))
    {cLampError : Addr} (caLampError : PySem.W.nsIn K mainGlobals "LampError" = some (some (.ref cLampError))) (cdLampError : PySem.W.hasDictIn K cLampError = true) (ctLampError : PySem.W.typeIn K (.ref cLampError) = some (.type "type"))
    (cbLampError : PySem.W.subIn K (.ref cLampError) (.type "BaseException") = some true)
    (suBadForestLampError : PySem.W.subIn K (.ref cBadForest) (.ref cLampError) = some true)
    (suBadSettingLampError : PySem.W.subIn K (.ref cBadSetting) (.ref cLampError) = some true)
    (suBadForestBadForest : PySem.W.subIn K (.ref cBadForest) (.ref cBadForest) = some true)
    (suBadForestBadSetting : PySem.W.subIn K (.ref cBadForest) (.ref cBadSetting) = some false)
    (suBadForestBadEdits : PySem.W.subIn K (.ref cBadForest) (.ref cBadEdits) = some false)
    (suBadForestNoVertex : PySem.W.subIn K (.ref cBadForest) (.ref cNoVertex) = some false)
    (suBadSettingBadForest : PySem.W.subIn K (.ref cBadSetting) (.ref cBadForest) = some false)
    (suBadSettingBadSetting : PySem.W.subIn K (.ref cBadSetting) (.ref cBadSetting) = some true)
    (suBadSettingBadEdits : PySem.W.subIn K (.ref cBadSetting) (.ref cBadEdits) = some false)
    (suBadSettingNoVertex : PySem.W.subIn K (.ref cBadSetting) (.ref cNoVertex) = some false)
    (stBadForestValueError : PySem.W.subIn K (.ref cBadForest) (.type "ValueError") = some true)
    (stBoardlist : PySem.W.subIn K (.ref oBoard) (.type "list") = some false)
    {yt0 : Tok} (y0 : PySem.W.nsIn K mainGlobals "MAX_VERTICES" = some (some (.int 12 yt0)))
    (z0 : PySem.W.nsIn K mainGlobals "abs" = some none) (z1 : PySem.W.nsIn K mainGlobals "len" = some none) (z2 : PySem.W.nsIn K mainGlobals "list" = some none) (z3 : PySem.W.nsIn K mainGlobals "range" = some none) (z4 : PySem.W.nsIn K mainGlobals "max" = some none) (z5 : PySem.W.nsIn K mainGlobals "min" = some none) (z6 : PySem.W.nsIn K mainGlobals "tuple" = some none) (z7 : PySem.W.nsIn K mainGlobals "sorted" = some none) (z8 : PySem.W.nsIn K mainGlobals "set" = some none) (z9 : PySem.W.nsIn K mainGlobals "any" = some none) (z10 : PySem.W.nsIn K mainGlobals "isinstance" = some none) (z11 : PySem.W.nsIn K mainGlobals "int" = some none) (z12 : PySem.W.nsIn K mainGlobals "bool" = some none) (z13 : PySem.W.nsIn K mainGlobals "repr" = some none) (z14 : PySem.W.nsIn K mainGlobals "enumerate" = some none) (z15 : PySem.W.nsIn K mainGlobals "str" = some none) (z16 : PySem.W.nsIn K mainGlobals "ValueError" = some none) :
    ∃ fd : FuncData, (∀ (s : Shared) (v : Value), BindsTo s fd ⟨[v], []⟩ [("_law_script", v)]) ∧ ∀ base : Heap, K.In base → base.Ns mainGlobals mg → FnG l.prog w K mg base 11 fa fd ["_law_script"] (spLaw K) := by
  cases hfa.symm.trans (PySem.W.mg_of X G a23)
  have FIsNumber := fun_mk (st := sIsNumber) l0 c0 k0
  have FIsPair := fun_mk (st := sIsPair) l1 c1 k1
  have FIsVertex := fun_mk (st := sIsVertex) l2 c2 k2
  have FIsEdge := fun_mk (st := sIsEdge) l3 c3 k3
  have FIsAscending := fun_mk (st := sIsAscending) l4 c4 k4
  have FMerged := fun_mk (st := sMerged) l5 c5 k5
  have FEdgesError := fun_mk (st := sEdgesError) l6 c6 k6
  have FForestError := fun_mk (st := sForestError) l7 c7 k7
  have FIsSetting := fun_mk (st := sIsSetting) l8 c8 k8
  have FLDeck := fun_mk (st := sLDeck) l9 c9 k9
  have FLDraw := fun_mk (st := sLDraw) l10 c10 k10
  have FLForest := fun_mk (st := sLForest) l11 c11 k11
  have FLNear := fun_mk (st := sLNear) l12 c12 k12
  have FLSetting := fun_mk (st := sLSetting) l13 c13 k13
  have FLPath := fun_mk (st := sLPath) l14 c14 k14
  have FLRight := fun_mk (st := sLRight) l15 c15 k15
  have FLBegun := fun_mk (st := sLBegun) l16 c16 k16
  have FLIsBelow := fun_mk (st := sLIsBelow) l17 c17 k17
  have FLError := fun_mk (st := sLError) l18 c18 k18
  have FLIsSetting := fun_mk (st := sLIsSetting) l19 c19 k19
  have FLOdd := fun_mk (st := sLOdd) l20 c20 k20
  have FLChanged := fun_mk (st := sLChanged) l21 c21 k21
  have FLMade := fun_mk (st := sLMade) l22 c22 k22
  have FLaw := fun_mk (st := sLaw) l23 c23 k23
  have FBoardInit := fun_mk (st := sBoardInit) l24 c24 k24
  have FBoardForest := fun_mk (st := sBoardForest) l25 c25 k25
  have FBoardLamps := fun_mk (st := sBoardLamps) l26 c26 k26
  have FBoardEdits := fun_mk (st := sBoardEdits) l27 c27 k27
  have FBoardLen := fun_mk (st := sBoardLen) l28 c28 k28
  have FBoardStr := fun_mk (st := sBoardStr) l29 c29 k29
  have FBoardStateAt := fun_mk (st := sBoardStateAt) l30 c30 k30
  have bIsNumber := FIsNumber.binds (ps := ["value"]) fun _ _ _ _ _ _ us hl => match us, hl with | [_], _ => rfl
  have bIsPair := FIsPair.binds (ps := ["value"]) fun _ _ _ _ _ _ us hl => match us, hl with | [_], _ => rfl
  have bIsVertex := FIsVertex.binds (ps := ["n", "value"]) fun _ _ _ _ _ _ us hl => match us, hl with | [_, _], _ => rfl
  have bIsEdge := FIsEdge.binds (ps := ["n", "value"]) fun _ _ _ _ _ _ us hl => match us, hl with | [_, _], _ => rfl
  have bIsAscending := FIsAscending.binds (ps := ["n", "value"]) fun _ _ _ _ _ _ us hl => match us, hl with | [_, _], _ => rfl
  have bMerged := FMerged.binds (ps := ["labels", "a", "b"]) fun _ _ _ _ _ _ us hl => match us, hl with | [_, _, _], _ => rfl
  have bEdgesError := FEdgesError.binds (ps := ["n", "edges"]) fun _ _ _ _ _ _ us hl => match us, hl with | [_, _], _ => rfl
  have bForestError := FForestError.binds (ps := ["value"]) fun _ _ _ _ _ _ us hl => match us, hl with | [_], _ => rfl
  have bIsSetting := FIsSetting.binds (ps := ["forest", "value"]) fun _ _ _ _ _ _ us hl => match us, hl with | [_, _], _ => rfl
  have bLDeck := FLDeck.binds (ps := ["_law_script"]) fun _ _ _ _ _ _ us hl => match us, hl with | [_], _ => rfl
  have bLDraw := FLDraw.binds (ps := ["_law_deck_here", "_law_many"]) fun _ _ _ _ _ _ us hl => match us, hl with | [_, _], _ => rfl
  have bLForest := FLForest.binds (ps := ["_law_deck_here", "_law_most"]) fun _ _ _ _ _ _ us hl => match us, hl with | [_, _], _ => rfl
  have bLNear := FLNear.binds (ps := ["_law_forest_here", "_law_vertex"]) fun _ _ _ _ _ _ us hl => match us, hl with | [_, _], _ => rfl
  have bLSetting := FLSetting.binds (ps := ["_law_deck_here", "_law_forest_here"]) fun _ _ _ _ _ _ us hl => match us, hl with | [_, _], _ => rfl
  have bLPath := FLPath.binds (ps := ["_law_forest_here", "_law_first", "_law_second"]) fun _ _ _ _ _ _ us hl => match us, hl with | [_, _, _], _ => rfl
  have bLRight := FLRight.binds (ps := ["_law_table", "_law_state", "_law_edits"]) fun _ _ _ _ _ _ us hl => match us, hl with | [_, _, _], _ => rfl
  have bLBegun := FLBegun.binds (ps := ["_law_deck_here", "_law_most"]) fun _ _ _ _ _ _ us hl => match us, hl with | [_, _], _ => rfl
  have bLIsBelow := FLIsBelow.binds (ps := ["_law_value", "_law_limit"]) fun _ _ _ _ _ _ us hl => match us, hl with | [_, _], _ => rfl
  have bLError := FLError.binds (ps := ["_law_value"]) fun _ _ _ _ _ _ us hl => match us, hl with | [_], _ => rfl
  have bLIsSetting := FLIsSetting.binds (ps := ["_law_forest_here", "_law_value"]) fun _ _ _ _ _ _ us hl => match us, hl with | [_, _], _ => rfl
  have bLOdd := FLOdd.binds (ps := ["_law_deck_here"]) fun _ _ _ _ _ _ us hl => match us, hl with | [_], _ => rfl
  have bLChanged := FLChanged.binds (ps := ["_law_deck_here", "_law_row"]) fun _ _ _ _ _ _ us hl => match us, hl with | [_, _], _ => rfl
  have bLMade := FLMade.binds (ps := ["_law_forest_here", "_law_lamps"]) fun _ _ _ _ _ _ us hl => match us, hl with | [_, _], _ => rfl
  have bBoardInit := FBoardInit.binds (ps := ["self", "forest", "lamps"]) fun _ _ _ _ _ _ us hl => match us, hl with | [_, _, _], _ => rfl
  have bBoardForest := binds_kw1 (ps := ["self", "version"]) (kn := "version") l25 q025 (fun _ _ _ _ _ u v => ⟨_, _, _, _, _, _, rfl, rfl, rfl⟩)
  have bBoardLamps := binds_kw1 (ps := ["self", "version"]) (kn := "version") l26 q026 (fun _ _ _ _ _ u v => ⟨_, _, _, _, _, _, rfl, rfl, rfl⟩)
  have bBoardEdits := FBoardEdits.binds (ps := ["self"]) fun _ _ _ _ _ _ us hl => match us, hl with | [_], _ => rfl
  have bBoardLen := FBoardLen.binds (ps := ["self"]) fun _ _ _ _ _ _ us hl => match us, hl with | [_], _ => rfl
  have bBoardStr := FBoardStr.binds (ps := ["self"]) fun _ _ _ _ _ _ us hl => match us, hl with | [_], _ => rfl
  have bBoardStateAt := FBoardStateAt.binds (ps := ["self", "version"]) fun _ _ _ _ _ _ us hl => match us, hl with | [_, _], _ => rfl
  have m_abs := PySem.W.mg_none_of X G z0
  have m_len := PySem.W.mg_none_of X G z1
  have m_list := PySem.W.mg_none_of X G z2
  have m_range := PySem.W.mg_none_of X G z3
  have m_max := PySem.W.mg_none_of X G z4
  have m_min := PySem.W.mg_none_of X G z5
  have m_tuple := PySem.W.mg_none_of X G z6
  have m_sorted := PySem.W.mg_none_of X G z7
  have m_set := PySem.W.mg_none_of X G z8
  have m_any := PySem.W.mg_none_of X G z9
  have m_isinstance := PySem.W.mg_none_of X G z10
  have m_int := PySem.W.mg_none_of X G z11
  have m_bool := PySem.W.mg_none_of X G z12
  have m_repr := PySem.W.mg_none_of X G z13
  have m_enumerate := PySem.W.mg_none_of X G z14
  have m_str := PySem.W.mg_none_of X G z15
  have m_ValueError := PySem.W.mg_none_of X G z16
  have m_Board := PySem.W.mg_of X G oaBoard
  have clBoard : Cls K oBoard := ⟨ogBoard, ohBoard, opBoard, osBoard⟩
  have m_BadForest := PySem.W.mg_of X G eaBadForest
  have FBadforestInit := fun_mk (st := sBadforestInit) eHBadForest eIBadForest eJBadForest
  have bBadforestInit := FBadforestInit.binds (ps := ["self", "error"]) fun _ _ _ _ _ _ us hl => match us, hl with | [_, _], _ => rfl
  have m_BadSetting := PySem.W.mg_of X G caBadSetting
  have eBadSetting : Err0 K mg "BadSetting" cBadSetting := ⟨f1BadSetting, m_BadSetting, f2BadSetting, f3BadSetting, ctBadSetting⟩
  have xeBadSetting : ExcC K cBadSetting := ⟨f4BadSetting, f5BadSetting, f3BadSetting, f6BadSetting, f8BadSetting, f9BadSetting, fABadSetting, fBBadSetting⟩
  have m_BadEdits := PySem.W.mg_of X G caBadEdits
  have m_NoVertex := PySem.W.mg_of X G caNoVertex
  have m_LampError := PySem.W.mg_of X G caLampError
  have m_MAX_VERTICES := PySem.W.mg_of X G y0
  refine ⟨PySem.W.fnOf "law" "law" (defArgs sLaw) (defBody sLaw) (defScope sLaw) .none kV23 dc23 pm23 an23 cd23 ct23, fun s v => .of_eq rfl, fun base _ _ => ?_⟩
  have eBadForest : ErrC l.prog w K mg base "BadForest" "error" cBadForest := ⟨⟨⟨_, _, _, _, _, _, _, _, _, _, _, _, _, _, _, elBadForest, erBadForest⟩, e1BadForest, e2BadForest, e3BadForest, e4BadForest⟩, ⟨e5BadForest, e6BadForest, e2BadForest, e7BadForest⟩, ⟨e5BadForest, e6BadForest, e2BadForest, e7BadForest, e8BadForest, e9BadForest, eABadForest, eBBadForest⟩, cls_of e7BadForest, eEBadForest, m_BadForest, _, _, _, eCBadForest, eDBadForest, ok_BadforestInit FBadforestInit ⟨⟨⟨_, _, _, _, _, _, _, _, _, _, _, _, _, _, _, elBadForest, erBadForest⟩, e1BadForest, e2BadForest, e3BadForest, e4BadForest⟩, eEBadForest⟩, bBadforestInit⟩
  have nwxBoardInit := fun {k : Nat} {sp : Sp} (G0 : FnOk l.prog w K mg base (L2.CX l.prog w) k f24 _ ["self", "forest", "lamps"] sp) => (⟨f24, _, G0, ⟨omBoard, a24, i24, okBoard⟩, m_Board, bBoardInit⟩ : NwX l.prog w K mg base "Board" oBoard k ["self", "forest", "lamps"] sp)
  have metBoardForest := fun {k : Nat} {sp : Sp} (G0 : FnOk l.prog w K mg base CX0 k f25 _ ["self", "version"] sp) => (⟨clBoard, f25, _, [Value.none], G0, ⟨a25, i25, k25⟩, (.cons rfl .nil), bBoardForest⟩ : Mt l.prog w K mg base oBoard "forest" k ["self", "version"] [V.non] sp)
  have metBoardLamps := fun {k : Nat} {sp : Sp} (G0 : FnOk l.prog w K mg base CX0 k f26 _ ["self", "version"] sp) => (⟨clBoard, f26, _, [Value.none], G0, ⟨a26, i26, k26⟩, (.cons rfl .nil), bBoardLamps⟩ : Mt l.prog w K mg base oBoard "lamps" k ["self", "version"] [V.non] sp)
  have metBoardEdits := fun {k : Nat} {sp : Sp} (G0 : FnOk l.prog w K mg base CX0 k f27 _ ["self"] sp) => (⟨clBoard, f27, _, [], G0, ⟨a27, i27, k27⟩, .nil, bBoardEdits⟩ : Mt l.prog w K mg base oBoard "edits" k ["self"] [] sp)
  have metBoardLen := fun {k : Nat} {sp : Sp} (G0 : FnOk l.prog w K mg base CX0 k f28 _ ["self"] sp) => (⟨clBoard, f28, _, [], G0, ⟨a28, i28, k28⟩, .nil, bBoardLen⟩ : Mt l.prog w K mg base oBoard "__len__" k ["self"] [] sp)
  have metBoardStr := fun {k : Nat} {sp : Sp} (G0 : FnOk l.prog w K mg base CX0 k f29 _ ["self"] sp) => (⟨clBoard, f29, _, [], G0, ⟨a29, i29, k29⟩, .nil, bBoardStr⟩ : Mt l.prog w K mg base oBoard "__str__" k ["self"] [] sp)
  have metBoardStateAt := fun {k : Nat} {sp : Sp} (G0 : FnOk l.prog w K mg base CX0 k f30 _ ["self", "version"] sp) => (⟨clBoard, f30, _, [], G0, ⟨a30, i30, k30⟩, .nil, bBoardStateAt⟩ : Mt l.prog w K mg base oBoard "state_at" k ["self", "version"] [] sp)
  have ownIsNumber := fun {k : Nat} {sp : Sp} (G0 : FnOk l.prog w K mg base CX0 k f0 _ _ sp) => (Own.mk ⟨f0, _, G0, PySem.W.mg_of X G a0, k0, bIsNumber⟩ : Own l.prog w K mg base "is_number" k ["value"] sp)
  have ownIsPair := fun {k : Nat} {sp : Sp} (G0 : FnOk l.prog w K mg base CX0 k f1 _ _ sp) => (Own.mk ⟨f1, _, G0, PySem.W.mg_of X G a1, k1, bIsPair⟩ : Own l.prog w K mg base "is_pair" k ["value"] sp)
  have ownIsVertex := fun {k : Nat} {sp : Sp} (G0 : FnOk l.prog w K mg base CX0 k f2 _ _ sp) => (Own.mk ⟨f2, _, G0, PySem.W.mg_of X G a2, k2, bIsVertex⟩ : Own l.prog w K mg base "is_vertex" k ["n", "value"] sp)
  have ownIsEdge := fun {k : Nat} {sp : Sp} (G0 : FnOk l.prog w K mg base CX0 k f3 _ _ sp) => (Own.mk ⟨f3, _, G0, PySem.W.mg_of X G a3, k3, bIsEdge⟩ : Own l.prog w K mg base "is_edge" k ["n", "value"] sp)
  have ownIsAscending := fun {k : Nat} {sp : Sp} (G0 : FnOk l.prog w K mg base CX0 k f4 _ _ sp) => (Own.mk ⟨f4, _, G0, PySem.W.mg_of X G a4, k4, bIsAscending⟩ : Own l.prog w K mg base "is_ascending" k ["n", "value"] sp)
  have ownMerged := fun {k : Nat} {sp : Sp} (G0 : FnOk l.prog w K mg base CX0 k f5 _ _ sp) => (Own.mk ⟨f5, _, G0, PySem.W.mg_of X G a5, k5, bMerged⟩ : Own l.prog w K mg base "merged" k ["labels", "a", "b"] sp)
  have ownEdgesError := fun {k : Nat} {sp : Sp} (G0 : FnOk l.prog w K mg base CX0 k f6 _ _ sp) => (Own.mk ⟨f6, _, G0, PySem.W.mg_of X G a6, k6, bEdgesError⟩ : Own l.prog w K mg base "edges_error" k ["n", "edges"] sp)
  have ownForestError := fun {k : Nat} {sp : Sp} (G0 : FnOk l.prog w K mg base CX0 k f7 _ _ sp) => (Own.mk ⟨f7, _, G0, PySem.W.mg_of X G a7, k7, bForestError⟩ : Own l.prog w K mg base "forest_error" k ["value"] sp)
  have ownIsSetting := fun {k : Nat} {sp : Sp} (G0 : FnOk l.prog w K mg base CX0 k f8 _ _ sp) => (Own.mk ⟨f8, _, G0, PySem.W.mg_of X G a8, k8, bIsSetting⟩ : Own l.prog w K mg base "is_setting" k ["forest", "value"] sp)
  have ownLDeck := fun {k : Nat} {sp : Sp} (G0 : FnOk l.prog w K mg base CX0 k f9 _ _ sp) => (Own.mk ⟨f9, _, G0, PySem.W.mg_of X G a9, k9, bLDeck⟩ : Own l.prog w K mg base "_law_deck" k ["_law_script"] sp)
  have ownLDraw := fun {k : Nat} {sp : Sp} (G0 : FnOk l.prog w K mg base CX0 k f10 _ _ sp) => (Own.mk ⟨f10, _, G0, PySem.W.mg_of X G a10, k10, bLDraw⟩ : Own l.prog w K mg base "_law_draw" k ["_law_deck_here", "_law_many"] sp)
  have ownLForest := fun {k : Nat} {sp : Sp} (G0 : FnOk l.prog w K mg base CX0 k f11 _ _ sp) => (Own.mk ⟨f11, _, G0, PySem.W.mg_of X G a11, k11, bLForest⟩ : Own l.prog w K mg base "_law_forest" k ["_law_deck_here", "_law_most"] sp)
  have ownLNear := fun {k : Nat} {sp : Sp} (G0 : FnOk l.prog w K mg base CX0 k f12 _ _ sp) => (Own.mk ⟨f12, _, G0, PySem.W.mg_of X G a12, k12, bLNear⟩ : Own l.prog w K mg base "_law_near" k ["_law_forest_here", "_law_vertex"] sp)
  have ownLSetting := fun {k : Nat} {sp : Sp} (G0 : FnOk l.prog w K mg base CX0 k f13 _ _ sp) => (Own.mk ⟨f13, _, G0, PySem.W.mg_of X G a13, k13, bLSetting⟩ : Own l.prog w K mg base "_law_setting" k ["_law_deck_here", "_law_forest_here"] sp)
  have ownLPath := fun {k : Nat} {sp : Sp} (G0 : FnOk l.prog w K mg base CX0 k f14 _ _ sp) => (Own.mk ⟨f14, _, G0, PySem.W.mg_of X G a14, k14, bLPath⟩ : Own l.prog w K mg base "_law_path" k ["_law_forest_here", "_law_first", "_law_second"] sp)
  have wngLRight := fun {k : Nat} {sp : Sp} (G0 : FnG l.prog w K mg base k f15 _ _ sp) => (OwnG.mk ⟨f15, _, G0, PySem.W.mg_of X G a15, k15, bLRight⟩ : OwnG l.prog w K mg base "_law_right" k ["_law_table", "_law_state", "_law_edits"] sp)
  have ownLBegun := fun {k : Nat} {sp : Sp} (G0 : FnOk l.prog w K mg base CX0 k f16 _ _ sp) => (Own.mk ⟨f16, _, G0, PySem.W.mg_of X G a16, k16, bLBegun⟩ : Own l.prog w K mg base "_law_begun" k ["_law_deck_here", "_law_most"] sp)
  have ownLIsBelow := fun {k : Nat} {sp : Sp} (G0 : FnOk l.prog w K mg base CX0 k f17 _ _ sp) => (Own.mk ⟨f17, _, G0, PySem.W.mg_of X G a17, k17, bLIsBelow⟩ : Own l.prog w K mg base "_law_is_below" k ["_law_value", "_law_limit"] sp)
  have ownLError := fun {k : Nat} {sp : Sp} (G0 : FnOk l.prog w K mg base CX0 k f18 _ _ sp) => (Own.mk ⟨f18, _, G0, PySem.W.mg_of X G a18, k18, bLError⟩ : Own l.prog w K mg base "_law_error" k ["_law_value"] sp)
  have ownLIsSetting := fun {k : Nat} {sp : Sp} (G0 : FnOk l.prog w K mg base CX0 k f19 _ _ sp) => (Own.mk ⟨f19, _, G0, PySem.W.mg_of X G a19, k19, bLIsSetting⟩ : Own l.prog w K mg base "_law_is_setting" k ["_law_forest_here", "_law_value"] sp)
  have ownLOdd := fun {k : Nat} {sp : Sp} (G0 : FnOk l.prog w K mg base CX0 k f20 _ _ sp) => (Own.mk ⟨f20, _, G0, PySem.W.mg_of X G a20, k20, bLOdd⟩ : Own l.prog w K mg base "_law_odd" k ["_law_deck_here"] sp)
  have ownLChanged := fun {k : Nat} {sp : Sp} (G0 : FnOk l.prog w K mg base CX0 k f21 _ _ sp) => (Own.mk ⟨f21, _, G0, PySem.W.mg_of X G a21, k21, bLChanged⟩ : Own l.prog w K mg base "_law_changed" k ["_law_deck_here", "_law_row"] sp)
  have ownLMade := fun {k : Nat} {sp : Sp} (G0 : FnOk l.prog w K mg base CX0 k f22 _ _ sp) => (Own.mk ⟨f22, _, G0, PySem.W.mg_of X G a22, k22, bLMade⟩ : Own l.prog w K mg base "_law_made" k ["_law_forest_here", "_law_lamps"] sp)
  have TB : BrdC K oBoard := ⟨clBoard, on0Board, on1Board, on2Board⟩
  have tyB := oiBoard
  have TL : BrdL K oBoard := ⟨oqBoard, otBoard, ouBoard, ovBoard, kit_no (by decide) stBoardlist⟩
  have oLDraw := ownLDraw (ok_LDraw (k := 0) FLDraw m_len)
  have oLDeck := ownLDeck (ok_LDeck (k := 0) FLDeck m_abs)
  have oLForest := ownLForest (ok_LForest FLForest m_list m_range m_len m_max m_min m_tuple m_sorted oLDraw)
  have oLNear := ownLNear (ok_LNear (k := 0) FLNear m_sorted)
  have oLSetting := ownLSetting (ok_LSetting FLSetting m_list m_range m_len m_tuple m_sorted oLDraw oLNear)
  have oLBegun := ownLBegun (ok_LBegun FLBegun oLForest oLSetting)
  have oIsNumber := ownIsNumber (ok_IsNumber (k := 0) FIsNumber m_isinstance m_int m_bool)
  have oIsVertex := ownIsVertex (ok_IsVertex FIsVertex oIsNumber)
  have oIsPair := ownIsPair (ok_IsPair (k := 0) FIsPair m_isinstance m_tuple m_len)
  have oIsEdge := ownIsEdge (ok_IsEdge FIsEdge oIsPair oIsVertex)
  have oMerged := ownMerged (ok_Merged (k := 0) FMerged)
  have oEdgesError := ownEdgesError (ok_EdgesError FEdgesError m_range m_enumerate oIsEdge oMerged)
  have oForestError := ownForestError (ok_ForestError FForestError m_isinstance m_tuple m_MAX_VERTICES oIsPair oIsNumber oEdgesError)
  have oIsAscending := ownIsAscending (ok_IsAscending FIsAscending m_isinstance m_tuple oIsVertex)
  have oIsSetting := ownIsSetting (ok_IsSetting FIsSetting m_any oIsAscending)
  have xBoardInit := nwxBoardInit (ok_BoardInit FBoardInit TB eBadForest eBadSetting oForestError oIsSetting)
  have oBoardStateAt := metBoardStateAt (ok_BoardStateAt FBoardStateAt TB m_len oIsNumber)
  have oBoardForest := metBoardForest (ok_BoardForest FBoardForest oBoardStateAt)
  have oBoardLamps := metBoardLamps (ok_BoardLamps FBoardLamps oBoardStateAt)
  have oBoardEdits := metBoardEdits (ok_BoardEdits FBoardEdits TB)
  have oBoardLen := metBoardLen (ok_BoardLen FBoardLen TB m_len)
  have oBoardStr := metBoardStr (ok_BoardStr FBoardStr TB m_len oBoardForest oBoardLamps)
  have oLRight := wngLRight (ok_LRight FLRight m_len m_repr m_tuple m_str oBoardForest oBoardLamps oBoardEdits oBoardLen oBoardStr)
  have oLPath := ownLPath (ok_LPath FLPath m_len oLNear)
  have oLIsBelow := ownLIsBelow (ok_LIsBelow (k := 0) FLIsBelow m_isinstance m_int m_bool)
  have oLError := ownLError (ok_LError FLError m_isinstance m_tuple m_len m_enumerate oLIsBelow oLPath)
  have oLIsSetting := ownLIsSetting (ok_LIsSetting FLIsSetting m_isinstance m_tuple m_range m_len oLIsBelow)
  have oLOdd := ownLOdd (ok_LOdd FLOdd oLDraw)
  have oLChanged := ownLChanged (ok_LChanged FLChanged m_len m_list oLDraw oLOdd)
  have kB : Ck48 K cBadForest cBadSetting cBadEdits cNoVertex cLampError := ⟨exm_own cbLampError cdLampError ctLampError suBadForestLampError, eBadForest.exc, eBadForest.cls, eBadForest.xf, eBadForest.nof,
    kit_own e7BadForest e3BadForest suBadForestBadForest suBadForestBadForest, kit_own cdBadSetting ctBadSetting suBadForestBadSetting suBadForestBadForest,
    kitAny_no (cs := [cBadEdits, cNoVertex]) (fun c hc => by
      rcases List.mem_cons.mp hc with rfl | hc
      · exact kit_own cdBadEdits ctBadEdits suBadForestBadEdits suBadForestBadForest
      · rw [List.mem_singleton.mp hc]
        exact kit_own cdNoVertex ctNoVertex suBadForestNoVertex suBadForestBadForest),
    kit_ve (by decide) stBadForestValueError,
    exm_own cbLampError cdLampError ctLampError suBadSettingLampError, xeBadSetting, cls_of cdBadSetting,
    kit_own e7BadForest e3BadForest suBadSettingBadForest suBadSettingBadSetting, kit_own cdBadSetting ctBadSetting suBadSettingBadSetting suBadSettingBadSetting,
    kitAny_no (cs := [cBadEdits, cNoVertex]) (fun c hc => by
      rcases List.mem_cons.mp hc with rfl | hc
      · exact kit_own cdBadEdits ctBadEdits suBadSettingBadEdits suBadSettingBadSetting
      · rw [List.mem_singleton.mp hc]
        exact kit_own cdNoVertex ctNoVertex suBadSettingNoVertex suBadSettingBadSetting)⟩
  have oLMade := ownLMade (ok_LMade FLMade m_isinstance m_int m_ValueError m_BadSetting m_BadForest m_BadEdits m_NoVertex m_LampError kB xBoardInit)
  exact ok_Law FLaw TB TL m_range m_repr m_isinstance m_list m_tuple m_sorted m_set m_min m_max oLDeck oLDraw oLBegun oLOdd oLChanged oLMade oLError oLIsSetting oLRight
theorem facts_mk {l : PySem.W.OpenLaw} {w : World} {K : PySem.W.Frag} {h : Heap} {mg : Str → Option Value} {fa : Addr} (X : K.In h) (G : h.Ns mainGlobals mg) (hfa : mg "law" = some (.ref fa)) (c : SaysZ exs fns tbs w K) :
    ∃ fd : FuncData, (∀ (s : Shared) (v : Value), BindsTo s fd ⟨[v], []⟩ [("_law_script", v)]) ∧ ∀ base : Heap, K.In base → base.Ns mainGlobals mg → FnG l.prog w K mg base 11 fa fd ["_law_script"] (spLaw K) := by
  obtain ⟨ogBoard, ohBoard, opBoard, osBoard⟩ := cls_get (c.tst 1 rfl)
  obtain ⟨omBoard, okBoard⟩ := mkr_get (c.tst 2 rfl)
  obtain ⟨oc0, od0, kV0, dc0, pm0, an0, cd0, ct0, sl0, l0, c0, k0, w0⟩ := c.dfn 0 rfl
  obtain ⟨oc1, od1, kV1, dc1, pm1, an1, cd1, ct1, sl1, l1, c1, k1, w1⟩ := c.dfn 1 rfl
  obtain ⟨oc2, od2, kV2, dc2, pm2, an2, cd2, ct2, sl2, l2, c2, k2, w2⟩ := c.dfn 2 rfl
  obtain ⟨oc3, od3, kV3, dc3, pm3, an3, cd3, ct3, sl3, l3, c3, k3, w3⟩ := c.dfn 3 rfl
  obtain ⟨oc4, od4, kV4, dc4, pm4, an4, cd4, ct4, sl4, l4, c4, k4, w4⟩ := c.dfn 4 rfl
  obtain ⟨oc5, od5, kV5, dc5, pm5, an5, cd5, ct5, sl5, l5, c5, k5, w5⟩ := c.dfn 5 rfl
  obtain ⟨oc6, od6, kV6, dc6, pm6, an6, cd6, ct6, sl6, l6, c6, k6, w6⟩ := c.dfn 6 rfl
  obtain ⟨oc7, od7, kV7, dc7, pm7, an7, cd7, ct7, sl7, l7, c7, k7, w7⟩ := c.dfn 7 rfl
  obtain ⟨oc8, od8, kV8, dc8, pm8, an8, cd8, ct8, sl8, l8, c8, k8, w8⟩ := c.dfn 8 rfl
  obtain ⟨oc9, od9, kV9, dc9, pm9, an9, cd9, ct9, sl9, l9, c9, k9, w9⟩ := c.dfn 9 rfl
  obtain ⟨oc10, od10, kV10, dc10, pm10, an10, cd10, ct10, sl10, l10, c10, k10, w10⟩ := c.dfn 10 rfl
  obtain ⟨oc11, od11, kV11, dc11, pm11, an11, cd11, ct11, sl11, l11, c11, k11, w11⟩ := c.dfn 11 rfl
  obtain ⟨oc12, od12, kV12, dc12, pm12, an12, cd12, ct12, sl12, l12, c12, k12, w12⟩ := c.dfn 12 rfl
  obtain ⟨oc13, od13, kV13, dc13, pm13, an13, cd13, ct13, sl13, l13, c13, k13, w13⟩ := c.dfn 13 rfl
  obtain ⟨oc14, od14, kV14, dc14, pm14, an14, cd14, ct14, sl14, l14, c14, k14, w14⟩ := c.dfn 14 rfl
  obtain ⟨oc15, od15, kV15, dc15, pm15, an15, cd15, ct15, sl15, l15, c15, k15, w15⟩ := c.dfn 15 rfl
  obtain ⟨oc16, od16, kV16, dc16, pm16, an16, cd16, ct16, sl16, l16, c16, k16, w16⟩ := c.dfn 16 rfl
  obtain ⟨oc17, od17, kV17, dc17, pm17, an17, cd17, ct17, sl17, l17, c17, k17, w17⟩ := c.dfn 17 rfl
  obtain ⟨oc18, od18, kV18, dc18, pm18, an18, cd18, ct18, sl18, l18, c18, k18, w18⟩ := c.dfn 18 rfl
  obtain ⟨oc19, od19, kV19, dc19, pm19, an19, cd19, ct19, sl19, l19, c19, k19, w19⟩ := c.dfn 19 rfl
  obtain ⟨oc20, od20, kV20, dc20, pm20, an20, cd20, ct20, sl20, l20, c20, k20, w20⟩ := c.dfn 20 rfl
  obtain ⟨oc21, od21, kV21, dc21, pm21, an21, cd21, ct21, sl21, l21, c21, k21, w21⟩ := c.dfn 21 rfl
  obtain ⟨oc22, od22, kV22, dc22, pm22, an22, cd22, ct22, sl22, l22, c22, k22, w22⟩ := c.dfn 22 rfl
  obtain ⟨oc23, od23, kV23, dc23, pm23, an23, cd23, ct23, sl23, l23, c23, k23, w23⟩ := c.dfn 23 rfl
  obtain ⟨oc24, od24, kV24, dc24, pm24, an24, cd24, ct24, sl24, l24, c24, k24, w24⟩ := c.dfn 24 rfl
  obtain ⟨a24, i24⟩ := met_get (c.tst 36 rfl)
  obtain ⟨oc25, od25, kV25, dc25, pm25, an25, cd25, ct25, sl25, l25, c25, k25, w25⟩ := c.dfn 25 rfl
  obtain ⟨a25, i25⟩ := met_get (c.tst 37 rfl)
  obtain ⟨kd25, e25, q025⟩ := kw_one w25
  subst e25
  obtain ⟨oc26, od26, kV26, dc26, pm26, an26, cd26, ct26, sl26, l26, c26, k26, w26⟩ := c.dfn 26 rfl
  obtain ⟨a26, i26⟩ := met_get (c.tst 38 rfl)
  obtain ⟨kd26, e26, q026⟩ := kw_one w26
  subst e26
  obtain ⟨oc27, od27, kV27, dc27, pm27, an27, cd27, ct27, sl27, l27, c27, k27, w27⟩ := c.dfn 27 rfl
  obtain ⟨a27, i27⟩ := met_get (c.tst 39 rfl)
  obtain ⟨oc28, od28, kV28, dc28, pm28, an28, cd28, ct28, sl28, l28, c28, k28, w28⟩ := c.dfn 28 rfl
  obtain ⟨a28, i28⟩ := met_get (c.tst 40 rfl)
  obtain ⟨oc29, od29, kV29, dc29, pm29, an29, cd29, ct29, sl29, l29, c29, k29, w29⟩ := c.dfn 29 rfl
  obtain ⟨a29, i29⟩ := met_get (c.tst 41 rfl)
  obtain ⟨oc30, od30, kV30, dc30, pm30, an30, cd30, ct30, sl30, l30, c30, k30, w30⟩ := c.dfn 30 rfl
  obtain ⟨a30, i30⟩ := met_get (c.tst 42 rfl)
  obtain ⟨ex0BadForest, ex1BadForest, ex2BadForest, ex3BadForest, ex4BadForest, ex5BadForest, ex6BadForest, ex7BadForest, ex8BadForest, ex9BadForest, ex10BadForest, ex11BadForest, ex12BadForest, ex13BadForest, ex14BadForest, elBadForest, erBadForest⟩ := excOb_ok (c.tst 43 rfl)
  obtain ⟨iecBadForest, iedBadForest, ievBadForest, iefBadForest, iegBadForest, iehBadForest, ieiBadForest, iejBadForest, iekBadForest, eHBadForest, eIBadForest, eJBadForest, iewBadForest⟩ := c.dfn 31 rfl
  obtain ⟨eCBadForest, eDfBadForest⟩ := met_get (c.tst 44 rfl)
  obtain ⟨yt0, y0⟩ := int_get (c.tst 95 rfl)
  exact all_mk (w := w) X G hfa (glo_get (c.tst 0 rfl)) ogBoard ohBoard opBoard osBoard omBoard okBoard (He.eqO_ok (c.tst 3 rfl)) (He.eqO_ok (c.tst 4 rfl)) (He.eqO_ok (c.tst 5 rfl)) (of_decide_eq_true (c.tst 6 rfl)) (of_decide_eq_true (c.tst 7 rfl)) (of_decide_eq_true (c.tst 8 rfl)) (of_decide_eq_true (c.tst 9 rfl)) (of_decide_eq_true (c.tst 10 rfl)) (of_decide_eq_true (c.tst 11 rfl)) (glo_get (c.tst 12 rfl)) l0 c0 k0 (glo_get (c.tst 13 rfl)) l1 c1 k1 (glo_get (c.tst 14 rfl)) l2 c2 k2 (glo_get (c.tst 15 rfl)) l3 c3 k3 (glo_get (c.tst 16 rfl)) l4 c4 k4 (glo_get (c.tst 17 rfl)) l5 c5 k5 (glo_get (c.tst 18 rfl)) l6 c6 k6 (glo_get (c.tst 19 rfl)) l7 c7 k7 (glo_get (c.tst 20 rfl)) l8 c8 k8 (glo_get (c.tst 21 rfl)) l9 c9 k9 (glo_get (c.tst 22 rfl)) l10 c10 k10 (glo_get (c.tst 23 rfl)) l11 c11 k11 (glo_get (c.tst 24 rfl)) l12 c12 k12 (glo_get (c.tst 25 rfl)) l13 c13 k13 (glo_get (c.tst 26 rfl)) l14 c14 k14 (glo_get (c.tst 27 rfl)) l15 c15 k15 (glo_get (c.tst 28 rfl)) l16 c16 k16 (glo_get (c.tst 29 rfl)) l17 c17 k17 (glo_get (c.tst 30 rfl)) l18 c18 k18 (glo_get (c.tst 31 rfl)) l19 c19 k19 (glo_get (c.tst 32 rfl)) l20 c20 k20 (glo_get (c.tst 33 rfl)) l21 c21 k21 (glo_get (c.tst 34 rfl)) l22 c22 k22 (glo_get (c.tst 35 rfl)) l23 c23 k23 a24 i24 l24 c24 k24 a25 i25 l25 c25 k25 q025 a26 i26 l26 c26 k26 q026 a27 i27 l27 c27 k27 a28 i28 l28 c28 k28 a29 i29 l29 c29 k29 a30 i30 l30 c30 k30 (glo_get (c.tst 45 rfl)) elBadForest erBadForest (of_decide_eq_true (c.tst 46 rfl)) (of_decide_eq_true (c.tst 47 rfl)) (of_decide_eq_true (c.tst 48 rfl)) (c.tst 49 rfl) (of_decide_eq_true (c.tst 50 rfl)) (of_decide_eq_true (c.tst 51 rfl)) (c.tst 52 rfl) (of_decide_eq_true (c.tst 53 rfl)) (of_decide_eq_true (c.tst 54 rfl)) (of_decide_eq_true (c.tst 55 rfl)) (of_decide_eq_true (c.tst 56 rfl)) eCBadForest (isFn_ty eDfBadForest) (He.eqO_ok (c.tst 57 rfl)) (of_decide_eq_true (c.tst 58 rfl)) (of_decide_eq_true (c.tst 59 rfl)) eHBadForest eIBadForest eJBadForest (glo_get (c.tst 60 rfl)) (c.tst 61 rfl) (c.tst 62 rfl) (of_decide_eq_true (c.tst 63 rfl)) (of_decide_eq_true (c.tst 64 rfl)) (of_decide_eq_true (c.tst 65 rfl)) (of_decide_eq_true (c.tst 66 rfl)) (c.tst 67 rfl) (of_decide_eq_true (c.tst 68 rfl)) (of_decide_eq_true (c.tst 69 rfl)) (of_decide_eq_true (c.tst 70 rfl)) (of_decide_eq_true (c.tst 71 rfl)) (c.tst 72 rfl) (glo_get (c.tst 73 rfl)) (c.tst 74 rfl) (of_decide_eq_true (c.tst 75 rfl)) (glo_get (c.tst 76 rfl)) (c.tst 77 rfl) (of_decide_eq_true (c.tst 78 rfl)) (glo_get (c.tst 79 rfl)) (c.tst 80 rfl) (of_decide_eq_true (c.tst 81 rfl)) (of_decide_eq_true (c.tst 82 rfl)) (of_decide_eq_true (c.tst 83 rfl)) (of_decide_eq_true (c.tst 84 rfl)) (of_decide_eq_true (c.tst 85 rfl)) (of_decide_eq_true (c.tst 86 rfl)) (of_decide_eq_true (c.tst 87 rfl)) (of_decide_eq_true (c.tst 88 rfl)) (of_decide_eq_true (c.tst 89 rfl)) (of_decide_eq_true (c.tst 90 rfl)) (of_decide_eq_true (c.tst 91 rfl)) (of_decide_eq_true (c.tst 92 rfl)) (of_decide_eq_true (c.tst 93 rfl)) (of_decide_eq_true (c.tst 94 rfl)) y0 (He.eqO_ok (c.tst 96 rfl)) (He.eqO_ok (c.tst 97 rfl)) (He.eqO_ok (c.tst 98 rfl)) (He.eqO_ok (c.tst 99 rfl)) (He.eqO_ok (c.tst 100 rfl)) (He.eqO_ok (c.tst 101 rfl)) (He.eqO_ok (c.tst 102 rfl)) (He.eqO_ok (c.tst 103 rfl)) (He.eqO_ok (c.tst 104 rfl)) (He.eqO_ok (c.tst 105 rfl)) (He.eqO_ok (c.tst 106 rfl)) (He.eqO_ok (c.tst 107 rfl)) (He.eqO_ok (c.tst 108 rfl)) (He.eqO_ok (c.tst 109 rfl)) (He.eqO_ok (c.tst 110 rfl)) (He.eqO_ok (c.tst 111 rfl)) (He.eqO_ok (c.tst 112 rfl))
end TL
open PySem PySem.W PySem.Calls PyProof.Rows
set_option maxHeartbeats 0 in
theorem PySem.Challenge.cw_treelamps_k48_boards_created_holds : PySem.Challenge.rw_treelamps_k48_boards_created.Holds := by
  w_on; o_law
  refine HandSHeadRun.head_any (r := OpenLaw.row PySem.Challenge.rw_treelamps_k48_boards_created) (q := TL.qv) (H := TL.hkZ) (ob := TL.obZ) (M := 12000) (loose := TL.lz) (d := HandSHeadRun.topDef (OpenLaw.row PySem.Challenge.rw_treelamps_k48_boards_created).prog 73) (kwd := []) TL.obZ_eq
    (by kernel_rfl) (fun s => by kernel_rfl) TL.runZ (by kernel_rfl) (by kernel_rfl) (by kernel_rfl) (by rfl) (by first | assumption | decide +kernel) (by decide +kernel) ⟨rfl, rfl, rfl, rfl, rfl, by decide +kernel⟩ ?hw ?hc
  case hw => w_witness2
  case hc =>
    refine TL.walk_ofGE (l := PySem.Challenge.rw_treelamps_k48_boards_created) (n := 63) (k := 11) (x := "_law_script") rfl (by decide) (by kernel_rfl) ⟨rfl, by decide, by decide⟩ ?F
    intro w mg fa h Y G hmg0
    obtain ⟨K, KX, c⟩ := Y
    have hmg : mg ("law" : PySem.Str) = some (.ref fa) := by
      have e : (HandSHeadRun.topDef (OpenLaw.row PySem.Challenge.rw_treelamps_k48_boards_created).prog 73).name = ("law" : PySem.Str) := by kernel_rfl
      rw [← e]
      exact hmg0
    obtain ⟨fd, hb, hF⟩ := TL.facts_mk (l := PySem.Challenge.rw_treelamps_k48_boards_created) KX G hmg c
    exact ⟨K, fd, TL.spLaw K, KX, hb, fun H a ns hl _ hS => ⟨a, ns, rfl, hS, hl, fun _ => rfl⟩, hF⟩
