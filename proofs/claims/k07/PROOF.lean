import PyProof.Rows.All
import Wide.All
import OpenK.AllK
import Wide.FinOn
import HandS.ForMost
import HandS.Rev
import HandS.TupAny
import HandS.Wide
import PyProof.ReprRoads
import KE.SortData
import HandS.Conv
import HandS.IsInst
import HandS.Style
import HandS.DictComp
import HandS.ExcInit
import HandS.ExcField
import HandS.WordsExc
import KE.KExcIs
import KE.KTryMore
import HandS.ExcIs
import HandS.SetFor
import KE.DataMinMax
import KE.GoesMore
import PySem.Challenge.RW_treelamps_k07_slides_followed
set_option Elab.async false
set_option linter.all false
set_option maxRecDepth 100000
set_option maxHeartbeats 4000000
namespace TL
open PySem PySem.Spec PyProof.Rows L2

/-! ### defs that show data: they run where no text is being made -/
/-- as the layer's promise of a def, for callers outside of any showing -/
structure FnG (P : Program) (w : World) (K : PySem.W.Frag) (mg : Str → Option Value)
    (base : Heap) (k : Nat) (f : Addr) (fd : FuncData) (ps : List Str) (sp : Sp) : Prop where
  wide : ∀ vs H Q E, sp vs H Q E → vs.length = ps.length
  goes : ∀ (A : Around) (out : List Env) (s : Shared) (H : Hp) (args : Args) (us : List Value)
    (vs : List V) (Q : VK) (E : XK), Room k A → A.guards = some [] →
    Env0 P w K mg base A out s H → BindsTo s fd args (ps.zip us) → Vals vs us → sp vs H Q E →
    codeAny (model P w) A (.call (.ref f) args) (CR CX0 out P w H s Q E) s
section
variable {P : Program} {w : World} {K : PySem.W.Frag} {mg : Str → Option Value} {base : Heap}
theorem FnG.of {k : Nat} {f : Addr} {fd : FuncData} {ps : List Str} {sp : Sp}
    (F : FnOk P w K mg base CX0 k f fd ps sp) : FnG P w K mg base k f fd ps sp :=
  ⟨F.len, fun A out s H args us vs Q E hr _ => F.run A out s H args us vs Q E hr⟩

theorem okG {x qual : Str} {st : Stmt} {f : Addr} {fd : FuncData} {N ps : List Str} {k : Nat} {sp : Sp}
    (F : Fun K x qual st f fd) (S : FnScope N ps (defScope st))
    (len : ∀ vs H Q E, sp vs H Q E → vs.length = ps.length)
    (hb : ∀ (cdv : Value) (A : Around) (out : List Env) (s : Shared) (H : Hp) (vs : List V) (Q : VK) (E : XK),
      Room k (A.deeper (envOfC qual (defScope st) s.heap.objs.size f cdv)) → A.guards = some [] → sp vs H Q E →
      ∃ t, PSs (cxOf CX0 P w K mg base N qual (defScope st) f cdv A out s H E).nox (defBody st) t ∧
        t { nx := fun _ H' => Q .non H', rt := Q } (start N vs) H) :
    FnG P w K mg base (k + 1) f fd ps sp := by
  obtain ⟨oc, od, kV, doc, pm, an, cdv, ct, osl, rfl, lk, hcd⟩ := F.ex
  refine ⟨len, fun A out s H args us vs Q E hr gd e0 bnd r hsp => ?_⟩
  have stays : ∀ b o, base.get? b = some o → s.heap.get? b = some o := fun b o e => (e0.bs b o e).1
  have KX : K.In s.heap := e0.mod.kin.keeps stays
  have nl : s.heap.NoLimit := e0.mod.nolimit.keeps stays
  have kinds : ∀ y ∈ ps.zip us, (defScope st).names.lookup y.1 = some .local ∨
      ((defScope st).names.lookup y.1 = some .cell ∧
        ((cellsFrom (s.heap.objs.size + 1) (defScope st).names []).lookup y.1).isSome = true) := by
    rintro ⟨n, v⟩ hy
    exact (S.par n (List.of_mem_zip hy).1).imp id fun q => ⟨q, PySem.W.cellsFrom_some _ _ _ (.inl q)⟩
  refine codeAny_call_function hr.depth (KX _ _ lk) rfl S.co S.gen rfl
    (PySem.W.codeRec_of KX hcd) (bnd _ _ _ _ ?_)
  refine wpAny_newFunctionEnv_cells S.kind kinds fun env he s1 ic => ?_
  subst he
  refine ⟨nl.keeps ic.toInCall.keep, codeAny_func ?_⟩
  obtain ⟨t, ht, hq⟩ := hb cdv A out s H vs Q E (hr.deeper _) gd hsp
  have J := inv_start (CX := CX0) (E := E) S hr.hd e0 (len _ _ _ _ hsp) r ic
  refine wpAny_mono (ht.nox.run [] s1 (start N vs) H _ J hq) (fun fl s' hs => ?_) fun e s' hs => hs
  match fl, hs with
  | .ret u, ⟨v, σ', H', J', rv, q⟩ => exact ⟨v, H', J'.os, J'.bare, J'.base, J'.hok, rv, q⟩
  | .next, ⟨σ', H', J', q⟩ => exact ⟨V.non, H', J'.os, J'.bare, J'.base, J'.hok, rfl, q⟩
  | .brk, ⟨_, _, _, q⟩ => exact False.elim q
  | .cont, ⟨_, _, _, q⟩ => exact False.elim q
end

section
variable {X : Cx} {k : Nat} {f : Addr} {fd : FuncData} {ps : List Str} {sp : Sp} {x : Str} {p pos : Pos}
  {e : Expr} {es : List Expr} {t : TA}
theorem pe_callG (F : FnG X.prog X.w X.K X.mg X.base k f fd ps sp) (hr : Room k X.A) (gd : X.A.guards = some [])
    (hg : Gl X x) (hm : X.mg x = some (.ref f)) (hk : PySem.W.keepIn X.K (.ref f) = true) (hb : Binds X.K fd ps [])
    (ha : PA X (e :: es) t) (hdb : (x == ("__debug__" : Str)) = false := by decide)
    (he : starEach (e :: es) X.env = (false, eval e X.env) :: starEach es X.env := by rfl)
    (hpl : (backTo pos (starEach es X.env)).any (·.1) = false := by rfl) :
    PE X (.Call (.Name x p) (e :: es) [] pos) (tCall sp [] E0 t) := by
  refine ⟨fun pins s σ H Q I h => wpAny_Call_Name_kw (ld_glob I hg hm ?_ hdb)⟩
  refine PySem.W.callWith_K (h₀ := X.base) I.ok.mod.kin hk
    (thn (ha.run pos pins s σ H _ I h) fun us s1 ⟨vs, H1, I1, r, q⟩ => ⟨I1.kIn, ?_⟩) he hpl
  have q1 : sp (vs ++ []) H1 Q E0 := q
  have q2 : sp vs H1 Q E0 := by rw [List.append_nil] at q1; exact q1
  have bd := hb s1 us I1.kIn (by rw [List.append_nil, ← r.length]; exact F.wide _ _ _ _ q2)
  rw [List.append_nil] at bd
  refine wpAny_call (codeAny_mono (F.goes X.A X.stack s1 H1 ⟨us, []⟩ us vs Q E0 hr gd I1.env0 bd r q2)
    fun res s' hq => ?_)
  match res, hq with
  | .ok (.ret u), hq => exact I1.after hq
  | .ok .next, hq => exact False.elim hq
  | .ok .brk, hq => exact False.elim hq
  | .ok .cont, hq => exact False.elim hq
  | .error e, hq => exact False.elim hq
end

/-! ### the law's own call -/
theorem law_callG {P : Program} {w : World} {K : PySem.W.Frag} {mg mb : Str → Option Value} {k : Nat}
    {fa a : Addr} {fd : FuncData} {x : Str} {sp : Sp} {s : Shared} {vs : List Value} {ns : List Int}
    (KX : K.In s.heap) (hns : s.heap.Ns mainGlobals mg) (hb : s.heap.Ns builtinsNs mb)
    (hbb : ∀ x : Str, x ≠ "__name__" → mb x = bootBuiltins x) (nl : s.heap.NoLimit) (hg : s.gens = #[])
    (ha : s.heap.get? a = some { cls := .type "list", data := .seq vs.toArray }) (hi : IntsAre vs ns)
    (hl : ns.length ≤ sizeLine) (hr : Room k callerA)
    (F : ∀ base : Heap, K.In base → base.Ns mainGlobals mg → FnG P w K mg base k fa fd [x] sp)
    (bnd : ∀ (s : Shared) (u : Value), BindsTo s fd ⟨[u], []⟩ [(x, u)])
    (hsp : ∀ H : Hp, Only H → SqL K H a (ns.map V.int) → sp [.ref a] H (fun v _ => v = .bl true) E0) :
    codeAny (model P w) callerA (.call (.ref fa) ⟨[.ref a], []⟩)
      (fun r s' => r = .ok (.ret (.bool true)) ∧ OldK s.heap s'.heap ∧ s'.os = s.os ∧ AllBare s'.gens) s := by
  have rv := vals_ints hi
  have core : ∀ H : Hp, Only H → SqL K H a (ns.map V.int) → HOk P w H s.heap →
      (∀ b u, H b = some u → b = a) → ((∃ u, H a = some u) → K.lookup a = none) →
      codeAny (model P w) callerA (.call (.ref fa) ⟨[.ref a], []⟩)
        (fun r s' => r = .ok (.ret (.bool true)) ∧ OldK s.heap s'.heap ∧ s'.os = s.os ∧ AllBare s'.gens) s := by
    intro H hO hS hok hA hK
    have dictFree : ∀ {b : Addr} {o : Obj} {es : Array DictEntry} {ep : Nat},
        s.heap.get? b = some o → o.data = .dict es ep → H b = none := by
      intro b o es ep e d
      cases q : H b with
      | none => rfl
      | some u =>
        rw [hA b u q, ha] at e
        cases e
        exact nomatch d
    have nsK : ∀ {b : Addr} {m : Str → Option Value}, s.heap.Ns b m → (hidT s.heap H).Ns b m := by
      rintro b m ⟨o, es, ep, e, d, r⟩
      exact ⟨o, es, ep, hidT_get e (dictFree e d), d, r⟩
    have hKb : K.In (hidT s.heap H) := by
      intro b o e
      refine hidT_get (KX b o e) ?_
      cases q : H b with
      | none => rfl
      | some u =>
        have eb := hA b u q
        rw [eb] at e q
        rw [hK ⟨u, q⟩] at e
        cases e
    have hM : Mod K mg (hidT s.heap H) :=
      ⟨hKb, nsK hns, ⟨mb, nsK hb, hbb⟩, let ⟨mc, h1, h2⟩ := nl; ⟨mc, nsK h1, h2⟩⟩
    have e0 : Env0 P w K mg (hidT s.heap H) callerA [] s H :=
      ⟨rfl, hM, fun b o e => of_hidT e, Nat.le_of_eq (hidT_size _ _), trivial, fun b z => (nomatch z), hok, .of_eq hg⟩
    refine codeAny_mono ((F _ hKb (nsK hns)).goes callerA [] s H ⟨[.ref a], []⟩ [.ref a] [.ref a] _ _ hr rfl
      e0 (bnd s (.ref a)) (.cons rfl .nil) (hsp H hO hS)) fun r s' h => ?_
    match r, h with
    | .error e, h => exact False.elim h
    | .ok .next, h => exact False.elim h
    | .ok .brk, h => exact False.elim h
    | .ok .cont, h => exact False.elim h
    | .ok (.ret u), h =>
      obtain ⟨v, H', os, bare, un, hok', r', q⟩ := h
      obtain rfl : v = .bl true := q
      obtain rfl : u = Value.bool true := r'
      refine ⟨rfl, OldK.of_keep fun b o e => ?_, os, bare⟩
      rcases hO b with z | ⟨ob, xs, z⟩
      · exact un.keep b o e z (fun m => (nomatch m)) (fun m => (nomatch m))
      · have z2 := un.frzs b ob _ z
        have e1 := (hok b _ z).1
        have e2 := (hok' b _ z2).1
        rw [e] at e1
        cases e1
        exact e2
  cases hk : K.lookup a with
  | some o =>
    have e := KX a o hk
    rw [ha] at e
    cases e
    refine core (fun _ => none) (fun _ => .inl rfl) (.inr ⟨_, vs.toArray, _, hk, rfl, rfl, rfl, ?_, by simpa using rv⟩)
      (fun b u z => (nomatch z)) (fun b u z => (nomatch z)) fun ⟨u, z⟩ => (nomatch z)
    rw [List.size_toArray, hi.length]
    exact hl
  | none =>
    let ob : Obj := { cls := .type "list", data := .seq vs.toArray }
    let G : Hp := fun b => if b = a then some (.frz ob (.lst (ns.map V.int))) else none
    have at_a : G a = some (.frz ob (.lst (ns.map V.int))) := if_pos rfl
    have off : ∀ b, b ≠ a → G b = none := fun b z => if_neg z
    refine core G (fun b => ?_) (.inl (.inr ⟨ob, at_a⟩)) (fun b u z => ?_) (fun b u z => ?_) fun _ => hk
    · by_cases hb : b = a
      · exact .inr ⟨ob, _, by rw [hb]; exact at_a⟩
      · exact .inl (off b hb)
    · by_cases hb : b = a
      · rw [hb, at_a] at z
        cases z
        rw [hb]
        exact ⟨ha, by rw [List.length_map]; exact hl, vs, _, rv, ha⟩
      · rw [off b hb] at z
        cases z
    · by_cases hb : b = a
      · exact hb
      · rw [off b hb] at z
        cases z

theorem walk_ofG {l : PySem.W.OpenLaw} {n k : Nat} {q : Program} {loose : List Str}
    {XP : (Str → Option Value) → Heap → Prop} {YP : World → Heap → Prop} {d : DefRec}
    {K : Params → PySem.W.Frag} {sp : World → Sp} {x : Str}
    (hn : l.most = some n) (hn2 : n ≤ sizeLine) (hdf : d.params.defaults = []) (hr : Room k callerA)
    (hY : ∀ (w : World) (h : Heap), YP w h → (K w.params).In h)
    (F : ∀ (w : World) (mg : Str → Option Value) (fa : Addr) (h : Heap), (K w.params).In h →
      h.Ns mainGlobals mg → mg d.name = some (.ref fa) →
      ∃ fd : FuncData, (∀ (s : Shared) (u : Value), BindsTo s fd ⟨[u], []⟩ [(x, u)]) ∧
        ∀ base : Heap, (K w.params).In base → base.Ns mainGlobals mg →
          FnG l.prog w (K w.params) mg base k fa fd [x] (sp w))
    (hsp : ∀ (w : World) (H : Hp) (a : Addr) (ns : List Int), ns.length ≤ n → Only H →
      SqL (K w.params) H a (ns.map V.int) → sp w [.ref a] H (fun v _ => v = .bl true) E0) :
    PySem.W.WalkO q loose XP YP l.row.toRowW d [] (fun f vs => PySem.call f vs) := by
  refine Att.attach_call hn hdf fun w s₀ s₁ mg mb fa o pm cd doc a vs ns G Y ho hd hcd hmg hobj hints hlen hg => ?_
  obtain ⟨fd, hb, hF⟩ := F w mg fa _ (hY w _ Y) G.T.g hmg
  exact law_callG (hY w _ Y) G.T.g G.T.b G.T.builtins G.T.nolimit hg hobj hints
    (Nat.le_trans hlen hn2) hr hF hb fun H hO hS => hsp w H a ns hlen hO hS
end TL
namespace TL
open PySem PySem.Spec PyProof.Rows L2

/-! ### repr of data -/
structure Shows (d : PyData) : Prop where
  can : d.showable = true
  nod : d.hasDict = false
  deep : d.depth ≤ 60
  fits : d.shown.length ≤ sizeLine
def rRepr (K : PySem.W.Frag) : List V → Hp → VK → Prop := fun xs H Q =>
  ∃ (y : V) (d : PyData), xs = [y] ∧ Dp K H y d ∧ Shows d ∧ Q (.str d.shown) H
section
variable {X : Cx}
theorem call_reprD (gd : X.A.guards = some []) (hu : X.A.units + 64 < cLine) :
    CallR X (.builtin "repr") (rRepr X.K) := by
  intro pins s σ H xs us Q I r h
  obtain ⟨y, d, rfl, hd, sh, q⟩ := h
  cases r with
  | cons r1 r2 =>
    rename_i u us'
    cases r2
    obtain ⟨as, rd⟩ := Dp.reads I d y u hd r1
    have big : ∀ a, u = Value.ref a → wpAny (model X.prog X.w) X.A (call (.builtin "repr") [u]) (EP X pins σ Q) X.xe s := by
      intro a e
      subst e
      refine repr_of_reads' rd sh.can (fun z => ?_) gd (by have := sh.deep; omega) (fun _ _ e => e) (fun h' u tk hk => ?_) sh.fits
      · rw [sh.nod] at z
        cases z
      · exact ⟨.str d.shown, H, I.kept (t' := tk) hk, ⟨u, rfl⟩, q⟩
    cases hd with
    | non =>
      obtain rfl : u = Value.none := r1
      rw [PyData.shown_none] at q
      exact PySem.P.repr_of_none ⟨.str _, H, I.tok _, ⟨_, rfl⟩, q⟩
    | bl b =>
      obtain rfl : u = Value.bool b := r1
      rw [PyData.shown_bool] at q
      exact PySem.P.repr_of_bool ⟨.str _, H, I.tok _, ⟨_, rfl⟩, q⟩
    | int i =>
      obtain ⟨t, rfl⟩ := r1
      rw [PyData.shown_int] at q
      exact PySem.P.repr_of_int (by have := sh.can; simpa [PyData.showable] using this) ⟨.str _, H, I.tok _, ⟨_, rfl⟩, q⟩
    | str x =>
      obtain ⟨t, rfl⟩ := r1
      have z := sh.fits
      rw [PyData.shown_str] at q z
      exact PySem.P.repr_of_str ⟨.str _, H, I.tok _, ⟨_, rfl⟩, q⟩ z
    | lst hs ha => exact big _ r1
    | tup hs ha => exact big _ r1
end

/-! ### t[::-1], t a tuple -/
section
variable {prog : Program} {w : World} {A : Around} {E : Value → Shared → Prop} {s : Shared}
theorem fm_congr {α β : Type} (f g : α → Option β) : ∀ l : List α, (∀ x ∈ l, f x = g x) → l.filterMap f = l.filterMap g
  | [], _ => rfl
  | a :: r, h => by
    rw [List.filterMap_cons, List.filterMap_cons, h a List.mem_cons_self, fm_congr f g r fun x hx => h x (List.mem_cons_of_mem _ hx)]
theorem places_back (n : Nat) : Builtin.Slice.slicePlaces ((n : Int) - 1) (-1) (-1) = n := by
  unfold Builtin.Slice.slicePlaces
  rw [if_neg (by decide)]
  by_cases h : (n : Int) - 1 > -1
  · rw [if_pos h]
    have e : ((n : Int) - 1 - -1 - 1) / (- -1) + 1 = (n : Int) := by
      rw [show (- -1 : Int) = 1 by decide, Int.ediv_one]
      omega
    rw [e]
    exact Int.toNat_natCast n
  · rw [if_neg h]
    show (0 : Nat) = n
    omega
theorem pick_back (xs : Array Value) :
    ((List.range xs.size).filterMap fun (m : Nat) => xs[((xs.size : Int) - 1 + (m : Int) * (-1)).toNat]?).toArray = xs.toList.reverse.toArray := by
  have e : (List.range xs.size).filterMap (fun (m : Nat) => xs[((xs.size : Int) - 1 + (m : Int) * (-1)).toNat]?)
      = ((List.range xs.size).map fun k => xs.size - 1 - k).filterMap (xs[·]?) := by
    rw [List.filterMap_map]
    refine fm_congr _ _ _ fun m hm => ?_
    have := List.mem_range.mp hm
    have q : ((xs.size : Int) - 1 + (m : Int) * (-1)).toNat = xs.size - 1 - m := by omega
    rw [q]
    rfl
  rw [e, PySem.W.krv_range, List.filterMap_reverse, PySem.W.krv_all]
theorem back_applied {sl : Addr} {vk : Value} {n : Nat} {Q : Int × Int × Nat → Shared → Prop}
    (hs : s.heap.IsSliceOf sl .none .none vk) (pk : IsPart vk (some (-1)))
    (h : Q ((n : Int) - 1, -1, n) s) : wpAny (model prog w) A (Builtin.Slice.sliceApplied (.ref sl) (pure (n : Int))) Q E s := by
  obtain ⟨os, hos, hcs, hds⟩ := id hs
  unfold Builtin.Slice.sliceApplied Builtin.Slice.sliceFields
  refine wpAny_bind (wpAny_bind (wpAny_field hos hds (x := .none) rfl (wpAny_bind (wpAny_field hos hds (x := .none) rfl
    (wpAny_bind (wpAny_field hos hds (x := vk) rfl (wpAny_pure ?_)))))))
  refine wpAny_bind (HT.slicePart_ pk ?_)
  show wpAny _ _ (if ((-1 : Int) == 0) = true then _ else _) _ _ s
  rw [if_neg (by decide)]
  refine wpAny_bind (slicePart_none (wpAny_bind (slicePart_none (wpAny_bind (wpAny_pure ?_)))))
  show wpAny _ _ (pure ((n : Int) - 1, (-1 : Int), Builtin.Slice.slicePlaces ((n : Int) - 1) (-1) (-1))) _ _ s
  rw [places_back]
  exact wpAny_pure h
theorem getItem_back {t sl : Addr} {items : Array Value} {vk : Value} {Q : Value → Shared → Prop}
    (ht : IsTup s.heap t items) (hs : s.heap.IsSliceOf sl .none .none vk) (pk : IsPart vk (some (-1)))
    (h : Q (.ref s.heap.objs.size) { s with heap := s.heap.push { cls := .type "tuple", data := .seq items.toList.reverse.toArray } })
    (hsz : items.size ≤ sizeLine) : wpAny (model prog w) A (getItem (.ref t) (.ref sl)) Q E s := by
  have hz : sizeOk (.seq items.toList.reverse.toArray) := by
    show items.toList.reverse.toArray.size ≤ sizeLine
    rw [List.size_toArray, List.length_reverse, Array.length_toList]
    exact hsz
  obtain ⟨os, hos, hcs, hds⟩ := id hs
  have hTs : s.TypeIs (.ref sl) "slice" := ⟨os, hos, hcs⟩
  unfold getItem
  try with_reducible refine wpAny_holding ?_
  first | refine wpAny_bind (wpAny_pure ?_) | skip
  refine wpAny_bind (wpAny_sequenceKey ht.typeIs (by decide) ?_)
  refine wpAny_bind (wpAny_callSpecial?_slot (name := Str.ofString "__getitem__") ht.typeIs
    PyProof.Rows.slot_tuple_getitem (wpAny_call_entry PyProof.Rows.slot_tuple_getitem ht.typeIs
      entry_tuple_getitem ?_ (args_tuple_getitem _ _)))
  show wpAny _ _ (Builtin.Tuple.tupleItemsOf (.ref t) >>= _) _ _ s
  refine wpAny_bind (tupleItemsOf_ ht (wpAny_bind (wpAny_typeOf hTs ?_)))
  rw [if_pos (by decide)]
  refine wpAny_bind (back_applied hs pk ?_)
  show wpAny _ _ (if (((items.size : Int) - 1 == 0) && ((-1 : Int) == 1) && (items.size == items.size)) = true then _ else _) _ _ s
  rw [if_neg (by rw [show ((-1 : Int) == 1) = false by decide, Bool.and_false, Bool.false_and]; decide), pick_back]
  first
    | exact wpAny_bind (m := Builtin.Tuple.tupleExact _) (wpAny_newObj_type (wpAny_pure ⟨_, rfl, wpAny_pure h⟩) hz)
    | exact wpAny_bind (m := Builtin.Tuple.tupleExact _) (wpAny_newObj_type (wpAny_bind (wpAny_pure (wpAny_pure ⟨_, rfl, wpAny_pure h⟩))) hz)
    | exact wpAny_bind (wpAny_bind (m := Builtin.Tuple.tupleExact _) (wpAny_newObj_type (wpAny_pure (wpAny_pure ⟨_, rfl, wpAny_pure h⟩)) hz))
    | exact wpAny_bind (wpAny_bind (m := Builtin.Tuple.tupleExact _) (wpAny_newObj_type (wpAny_pure ⟨_, rfl, wpAny_pure h⟩) hz))
end
section
variable {X : Cx}
def tRevT (K : PySem.W.Frag) (te : TE) : TE := fun σ H Q => te σ H fun x H1 =>
  ∃ a xs, x = .ref a ∧ SqT K H1 a xs ∧ ∀ p, H1 p = none → Q (.ref p) (upd H1 p (.tup xs.reverse))
theorem pe_revT {e : Expr} {te : TE} {k : Nat} {p1 p2 p3 pos : Pos} (he : PE X e te) :
    PE X (.Subscript e (.Slice none none (some (.UnaryOp .USub (.Constant (.int 1) k p1) p2)) p3) pos) (tRevT X.K te) := by
  refine ⟨fun pins s σ H Q I h => Subscript_ (thn (he.run pins s σ H _ I h) fun v s1 ⟨x, H1, I1, r1, q1⟩ => ?_)⟩
  obtain ⟨a, xs, ex, hx, q⟩ := q1
  subst ex
  cases r1
  have hst : PO X (some (.UnaryOp .USub (.Constant (.int 1) k p1) p2))
    (tPart (tUn (rU fun i => .int (-i)) (tC (.int 1)))) := po_some (pe_un un_neg pe_int)
  refine wpAny_Slice ?_
  rw [evalPart_none]
  refine wpAny_pure ?_
  refine wpAny_pure ?_
  refine thn (hst.run pins s1 σ H1 (fun o H4 => o = some (-1) ∧ H4 = H1) I1 ⟨1, rfl, -1, rfl, rfl, rfl⟩)
    fun vk s4 ⟨o, H4, I4, pk, eo, e4⟩ => ?_
  subst eo e4
  have I5 : Inv X pins σ H4 { s4 with heap := s4.heap.push { cls := .type "slice", data := .fields #[.none, .none, vk] } } :=
    I4.kept (t' := s4.toks) fun b ob q => Heap.get?_push_of_some _ q
  obtain ⟨its, r, ht, hz⟩ := I5.tuple hx
  have hlen := r.length
  refine tail_any (ops := [.ref a, .ref s4.heap.objs.size]) ht.typeIs PyProof.Rows.slot_tuple_getitem.lookup ?_ (by with_unfolding_all rfl)
  refine getItem_back ht (Heap.IsSliceOf.new _ .none .none vk) pk ?_ (by rw [List.size_toArray]; omega)
  refine ⟨.ref _, _, I5.laid (t' := s4.toks) (o := .tup xs.reverse) (fun b ob q => Heap.get?_push_of_some _ q) (Nat.le_refl _) ?_,
    rfl, q _ (I5.hok.fresh (Nat.le_refl _))⟩
  exact ⟨by rw [List.length_reverse]; exact hz, _, r.reverse, IsTup.new _ _⟩
end
/-! ### the rules with the written part as a letter of its own (within comprehensions) -/
section
variable {X : Cx}
theorem ixTK (K : PySem.W.Frag) (h : X.K = K := by rfl) : IxR X (rIxT K) := h ▸ ix_tup
theorem ixLK (K : PySem.W.Frag) (h : X.K = K := by rfl) : IxR X (rIxL K) := h ▸ ix_list
def rLenK (K : PySem.W.Frag) : List V → Hp → VK → Prop := fun xs H Q => ∃ p ys, xs = [.ref p] ∧ (SqL K H p ys ∨ SqT K H p ys) ∧ Q (.int ys.length) H
theorem lenK (K : PySem.W.Frag) (h : X.K = K := by rfl) : CallR X (.builtin "len") (rLenK K) := h ▸ call_len_seq
def rTupK (K : PySem.W.Frag) : List V → Hp → VK → Prop := fun xs H Q => ∃ p ys, xs = [.ref p] ∧
  ((SqL K H p ys ∧ ∀ l, H l = none → Q (.ref l) (upd H l (.tup ys))) ∨ (SqT K H p ys ∧ Q (.ref p) H))
theorem tupleK (K : PySem.W.Frag) (h : X.K = K := by rfl) : CallR X (.type "tuple") (rTupK K) := h ▸ call_tuple_of
theorem catAK (K : PySem.W.Frag) (h : X.K = K := by rfl) : OpR X (binaryOp .Add) (rCatA K) := h ▸ op_catA
theorem revTK (K : PySem.W.Frag) {e : Expr} {te : TE} {k : Nat} {p1 p2 p3 pos : Pos} (he : PE X e te) (h : X.K = K := by rfl) :
    PE X (.Subscript e (.Slice none none (some (.UnaryOp .USub (.Constant (.int 1) k p1) p2)) p3) pos) (tRevT K te) := h ▸ pe_revT he
theorem reprK (K : PySem.W.Frag) (gd : X.A.guards = some []) (hu : X.A.units + 64 < cLine) (h : X.K = K := by rfl) :
    CallR X (.builtin "repr") (rRepr K) := h ▸ call_reprD gd hu
end
end TL
namespace TL
open PySem PySem.Spec PyProof.Rows L2

/-! ### heaps -/
theorem same_upd {H : Hp} {p : Addr} {o : HO} (h : H p = none) : Same H (upd H p o) := fun b x e => by
  rw [upd_ne (ne_of_none e h)]
  exact e
theorem same_at {H : Hp} {p : Addr} {o : HO} (_ : H p = none) : upd H p o p = some o := upd_same
theorem Same.tup {K : PySem.W.Frag} {H H' : Hp} {a : Addr} {xs : List V} (e : Same H H') (h : SqT K H a xs) : SqT K H' a xs := by
  rcases h with (h | ⟨o, h⟩) | h
  · exact .inl (.inl (e _ _ h))
  · exact .inl (.inr ⟨o, e _ _ h⟩)
  · exact .inr h
/-- every tuple stays -/
def KT (K : PySem.W.Frag) (H H' : Hp) : Prop := ∀ a xs, SqT K H a xs → SqT K H' a xs
theorem KT.refl {K : PySem.W.Frag} {H : Hp} : KT K H H := fun _ _ h => h
theorem KT.trans {K : PySem.W.Frag} {H H1 H2 : Hp} (a : KT K H H1) (b : KT K H1 H2) : KT K H H2 := fun c o h => b c o (a c o h)
theorem Same.kt {K : PySem.W.Frag} {H H' : Hp} (e : Same H H') : KT K H H' := fun _ _ h => Same.tup e h
/-- all but what stands at d and l is as it was -/
def Fm (d l : Addr) (H H' : Hp) : Prop := ∀ b o, b ≠ d → b ≠ l → H b = some o → H' b = some o
theorem Fm.refl {d l : Addr} {H : Hp} : Fm d l H H := fun _ _ _ _ h => h
theorem Fm.trans {d l : Addr} {H H1 H2 : Hp} (a : Fm d l H H1) (b : Fm d l H1 H2) : Fm d l H H2 :=
  fun c o h1 h2 h => b c o h1 h2 (a c o h1 h2 h)
theorem Same.fm {d l : Addr} {H H' : Hp} (e : Same H H') : Fm d l H H' := fun b o _ _ h => e b o h

/-! ### the deck: a list of cells and a count -/
def Deck (H : Hp) (d l : Addr) (n : Nat) : Prop := ∃ (c : Nat) (ns : List Int), c ≤ n ∧
  H d = some (.lst [.ref l, .int (c : Int)]) ∧ H l = some (.lst (ns.map V.int)) ∧ (∀ z ∈ ns, 0 ≤ z) ∧ ns.length ≤ 63
theorem Deck.ne {H : Hp} {d l : Addr} {n : Nat} (h : Deck H d l n) : d ≠ l := by
  obtain ⟨c, ns, _, h1, h2, _⟩ := h
  intro e
  rw [e, h2] at h1
  cases ns with
  | nil => cases h1
  | cons z r => cases h1
theorem Deck.same {H H' : Hp} {d l : Addr} {n : Nat} (h : Deck H d l n) (e : Same H H') : Deck H' d l n := by
  obtain ⟨c, ns, hc, h1, h2, h3⟩ := h
  exact ⟨c, ns, hc, e _ _ h1, e _ _ h2, h3⟩
theorem Deck.le {H : Hp} {d l : Addr} {n m : Nat} (h : Deck H d l n) (e : n ≤ m) : Deck H d l m := by
  obtain ⟨c, ns, hc, h3⟩ := h
  exact ⟨c, ns, Nat.le_trans hc e, h3⟩
theorem Fm.kt {K : PySem.W.Frag} {H H' : Hp} {d l : Addr} {n : Nat} (e : Fm d l H H') (h : Deck H d l n) : KT K H H' := by
  obtain ⟨c, ns, hc, h1, h2, h3⟩ := h
  intro a xs q
  rcases q with (q | ⟨o, q⟩) | q
  · refine .inl (.inl (e _ _ (fun z => ?_) (fun z => ?_) q))
    · rw [z, h1] at q; cases q
    · rw [z, h2] at q; cases q
  · refine .inl (.inr ⟨o, e _ _ (fun z => ?_) (fun z => ?_) q⟩)
    · rw [z, h1] at q; cases q
    · rw [z, h2] at q; cases q
  · exact .inr q
/-- a tracked thing that is neither -/
theorem Deck.off {H : Hp} {d l a : Addr} {n : Nat} (h : Deck H d l n) (ha : H a = none) : a ≠ d ∧ a ≠ l := by
  obtain ⟨c, ns, hc, h1, h2, h3⟩ := h
  exact ⟨fun z => (by rw [z, h1] at ha; cases ha), fun z => (by rw [z, h2] at ha; cases ha)⟩

theorem Deck.put {H : Hp} {d l a : Addr} {n : Nat} {o : HO} (h : Deck H d l n) (h1 : a ≠ d) (h2 : a ≠ l) : Deck (upd H a o) d l n := by
  obtain ⟨c, ns, hc, e1, e2, h3⟩ := h
  exact ⟨c, ns, hc, by rw [upd_ne h1.symm]; exact e1, by rw [upd_ne h2.symm]; exact e2, h3⟩
theorem kt_lst {K : PySem.W.Frag} {H : Hp} {a : Addr} {xs ys : List V} (h : H a = some (.lst xs)) : KT K H (upd H a (.lst ys)) := by
  intro b zs q
  rcases q with (q | ⟨o, q⟩) | q
  · refine .inl (.inl ?_)
    rw [upd_ne fun z => by rw [z, h] at q; cases q]
    exact q
  · refine .inl (.inr ⟨o, ?_⟩)
    rw [upd_ne fun z => by rw [z, h] at q; cases q]
    exact q
  · exact .inr q

/-! ### data -/
mutual
def only : PyData → Bool
  | .none => true
  | .bool _ => true
  | .int _ => true
  | .str _ => true
  | .tuple xs => onlyAll xs
  | .list _ => false
  | .dict _ => false
def onlyAll : List PyData → Bool
  | [] => true
  | x :: xs => only x && onlyAll xs
end
section
variable {K : PySem.W.Frag} {H H' : Hp}
mutual
theorem Dp.kt (e : KT K H H') : ∀ {v : V} {d : PyData}, Dp K H v d → only d = true → Dp K H' v d
  | _, _, .non, _ => .non
  | _, _, .bl b, _ => .bl b
  | _, _, .int i, _ => .int i
  | _, _, .str x, _ => .str x
  | _, _, .lst h a, o => by
    unfold only at o
    cases o
  | _, _, .tup h a, o => .tup (e _ _ h) (DpAll.kt e a (by unfold only at o; exact o))
theorem DpAll.kt (e : KT K H H') : ∀ {v : List V} {d : List PyData}, DpAll K H v d → onlyAll d = true → DpAll K H' v d
  | _, _, .nil, _ => .nil
  | _, _, .cons h a, o => by
    unfold onlyAll at o
    rw [Bool.and_eq_true] at o
    exact .cons (Dp.kt e h o.1) (DpAll.kt e a o.2)
end
mutual
theorem Dp.same (e : Same H H') : ∀ {v : V} {d : PyData}, Dp K H v d → Dp K H' v d
  | _, _, .non => .non
  | _, _, .bl b => .bl b
  | _, _, .int i => .int i
  | _, _, .str x => .str x
  | _, _, .lst h a => .lst (e.seq h) (DpAll.same e a)
  | _, _, .tup h a => .tup (Same.tup e h) (DpAll.same e a)
theorem DpAll.same (e : Same H H') : ∀ {v : List V} {d : List PyData}, DpAll K H v d → DpAll K H' v d
  | _, _, .nil => .nil
  | _, _, .cons h a => .cons (Dp.same e h) (DpAll.same e a)
end
theorem DpAll.length : ∀ {v : List V} {d : List PyData}, DpAll K H v d → v.length = d.length
  | _, _, .nil => rfl
  | _, _, .cons _ a => congrArg (· + 1) (DpAll.length a)
theorem DpAll.append : ∀ {v u : List V} {d e : List PyData}, DpAll K H v d → DpAll K H u e → DpAll K H (v ++ u) (d ++ e)
  | _, _, _, _, .nil, b => b
  | _, _, _, _, .cons h a, b => .cons h (DpAll.append a b)
theorem DpAll.reverse : ∀ {v : List V} {d : List PyData}, DpAll K H v d → DpAll K H v.reverse d.reverse
  | _, _, .nil => .nil
  | _, _, .cons h a => by
    rw [List.reverse_cons, List.reverse_cons]
    exact DpAll.append (DpAll.reverse a) (.cons h .nil)
theorem DpAll.get : ∀ {v : List V} {d : List PyData} {i : Nat} {x : V}, DpAll K H v d → v[i]? = some x → ∃ z, d[i]? = some z ∧ Dp K H x z
  | _, _, _, _, .nil, q => by simp at q
  | _, _, 0, _, .cons h a, q => by
    rw [List.getElem?_cons_zero] at q
    cases q
    exact ⟨_, List.getElem?_cons_zero, h⟩
  | _, _, i + 1, _, .cons h a, q => by
    rw [List.getElem?_cons_succ] at q
    obtain ⟨z, e, r⟩ := DpAll.get a q
    exact ⟨z, by rw [List.getElem?_cons_succ]; exact e, r⟩
theorem Dp.tupI {v : V} {ds : List PyData} (h : Dp K H v (.tuple ds)) : ∃ a xs, v = .ref a ∧ SqT K H a xs ∧ DpAll K H xs ds := by
  cases h with
  | tup h a => exact ⟨_, _, rfl, h, a⟩
theorem Dp.lstI {v : V} {ds : List PyData} (h : Dp K H v (.list ds)) : ∃ a xs, v = .ref a ∧ SqL K H a xs ∧ DpAll K H xs ds := by
  cases h with
  | lst h a => exact ⟨_, _, rfl, h, a⟩
theorem Dp.intI {v : V} {i : Int} (h : Dp K H v (.int i)) : v = .int i := by
  cases h
  rfl
theorem DpAll.ints : ∀ {xs : List V} {ns : List Int}, DpAll K H xs (ns.map .int) → xs = ns.map V.int
  | [], [], _ => rfl
  | _ :: _, n :: ns, .cons h a => by
    rw [Dp.intI h, DpAll.ints a]
    rfl
theorem DpAll.of_ints : ∀ (ns : List Int), DpAll K H (ns.map V.int) (ns.map .int)
  | [] => .nil
  | n :: ns => .cons (.int n) (DpAll.of_ints ns)
end

/-! ### pairs of ints -/
def prD (p : Int × Int) : PyData := .tuple [.int p.1, .int p.2]
def prsD (ps : List (Int × Int)) : PyData := .tuple (ps.map prD)
theorem only_pr (p : Int × Int) : only (prD p) = true := by simp [prD, only, onlyAll]
theorem only_prs : ∀ ps : List (Int × Int), onlyAll (ps.map prD) = true
  | [] => by simp [onlyAll]
  | p :: ps => by simp [onlyAll, only_pr p, only_prs ps]
theorem only_prsD (ps : List (Int × Int)) : only (prsD ps) = true := by
  unfold prsD only
  exact only_prs ps
section
variable {K : PySem.W.Frag} {H : Hp}
theorem Dp.prI {v : V} {p : Int × Int} (h : Dp K H v (prD p)) : ∃ a, v = .ref a ∧ SqT K H a [.int p.1, .int p.2] := by
  obtain ⟨a, xs, e, h1, h2⟩ := Dp.tupI h
  have q : xs = [p.1, p.2].map V.int := DpAll.ints (ns := [p.1, p.2]) h2
  subst q
  exact ⟨a, e, h1⟩
theorem Dp.pr {a : Addr} {i j : Int} (h : SqT K H a [.int i, .int j]) : Dp K H (.ref a) (prD (i, j)) :=
  .tup h (.cons (.int i) (.cons (.int j) .nil))
end

/-! ### showing small data -/
def sm (i : Int) : Prop := -1000 ≤ i ∧ i ≤ 1000
theorem sm_log {i : Int} (h : sm i) : i.natAbs.log2 < 10 := by
  have h2 : i.natAbs < 2 ^ 10 := by
    unfold sm at h
    omega
  exact PySem.Flt.log2_lt_of (by decide) h2
structure Sm (d : PyData) (n k : Nat) : Prop where
  can : d.showable = true
  nod : d.hasDict = false
  deep : d.depth ≤ k
  short : d.leavesShort 13 = true
  light : d.weight ≤ n
theorem Sm.shows {d : PyData} {n k : Nat} (h : Sm d n k) (hn : n ≤ 1000000) (hk : k ≤ 60) : Shows d :=
  ⟨h.can, h.nod, Nat.le_trans h.deep hk, PyData.shown_fits (by decide) (by decide) h.short (Nat.le_trans h.light (by omega))⟩
theorem Sm.le {d : PyData} {n k m j : Nat} (h : Sm d n k) (hn : n ≤ m) (hk : k ≤ j) : Sm d m j :=
  ⟨h.can, h.nod, Nat.le_trans h.deep hk, h.short, Nat.le_trans h.light hn⟩
theorem Sm.none : Sm .none 0 0 := ⟨rfl, rfl, Nat.le_refl _, rfl, Nat.le_refl _⟩
theorem Sm.bool (b : Bool) : Sm (.bool b) 0 0 := ⟨rfl, rfl, Nat.le_refl _, rfl, Nat.le_refl _⟩
theorem Sm.int {i : Int} (h : sm i) : Sm (.int i) 10 0 := by
  have h1 := sm_log h
  refine ⟨?_, by simp [PyData.hasDict], by simp [PyData.depth], ?_, ?_⟩
  · simp only [PyData.showable]
    exact decide_eq_true (by omega)
  · simp only [PyData.leavesShort]
    exact decide_eq_true (PyData.shown_int_le (by unfold sm at h; omega))
  · simp only [PyData.weight]
    split <;> omega
structure SmA (ds : List PyData) (n k : Nat) : Prop where
  can : PyData.showableAll ds = true
  nod : PyData.hasDictAll ds = false
  deep : PyData.depthAll ds ≤ k
  short : PyData.leavesShortAll 13 ds = true
  light : PyData.weightAll ds ≤ ds.length * (n + 1)
theorem SmA.of {n k : Nat} : ∀ {ds : List PyData}, (∀ d ∈ ds, Sm d n k) → SmA ds n k
  | [], _ => ⟨rfl, rfl, by simp [PyData.depthAll], rfl, by simp [PyData.weightAll]⟩
  | d :: ds, h => by
    have h1 := h d List.mem_cons_self
    have h2 := SmA.of (n := n) (k := k) fun e he => h e (List.mem_cons_of_mem _ he)
    refine ⟨?_, ?_, ?_, ?_, ?_⟩
    · simp only [PyData.showableAll, h1.can, h2.can, Bool.and_self]
    · simp only [PyData.hasDictAll, h1.nod, h2.nod, Bool.or_self]
    · simp only [PyData.depthAll]
      exact Nat.max_le.mpr ⟨h1.deep, h2.deep⟩
    · simp only [PyData.leavesShortAll, h1.short, h2.short, Bool.and_self]
    · have a := h1.light
      have b := h2.light
      simp only [PyData.weightAll, List.length_cons, Nat.add_mul, Nat.one_mul]
      omega
theorem Sm.tup {n k m : Nat} {ds : List PyData} (h : ∀ d ∈ ds, Sm d n k) (hm : ds.length ≤ m) : Sm (.tuple ds) (m * (n + 1)) (k + 1) := by
  have q := SmA.of h
  have z : ds.length * (n + 1) ≤ m * (n + 1) := Nat.mul_le_mul_right _ hm
  refine ⟨?_, ?_, ?_, ?_, ?_⟩
  · simp only [PyData.showable]; exact q.can
  · simp only [PyData.hasDict]; exact q.nod
  · simp only [PyData.depth]; have := q.deep; omega
  · simp only [PyData.leavesShort]; exact q.short
  · simp only [PyData.weight]; exact Nat.le_trans q.light z
theorem Sm.lst {n k m : Nat} {ds : List PyData} (h : ∀ d ∈ ds, Sm d n k) (hm : ds.length ≤ m) : Sm (.list ds) (m * (n + 1)) (k + 1) := by
  have q := SmA.of h
  have z : ds.length * (n + 1) ≤ m * (n + 1) := Nat.mul_le_mul_right _ hm
  refine ⟨?_, ?_, ?_, ?_, ?_⟩
  · simp only [PyData.showable]; exact q.can
  · simp only [PyData.hasDict]; exact q.nod
  · simp only [PyData.depth]; have := q.deep; omega
  · simp only [PyData.leavesShort]; exact q.short
  · simp only [PyData.weight]; exact Nat.le_trans q.light z
def smP (p : Int × Int) : Prop := sm p.1 ∧ sm p.2
theorem Sm.pr {p : Int × Int} (h : smP p) : Sm (prD p) 22 1 :=
  Sm.tup (n := 10) (k := 0) (m := 2) (fun d hd => by
    rcases List.mem_cons.mp hd with rfl | hd
    · exact Sm.int h.1
    · rcases List.mem_cons.mp hd with rfl | hd
      · exact Sm.int h.2
      · exact nomatch hd) (Nat.le_refl _)
theorem Sm.prs {ps : List (Int × Int)} {m : Nat} (h : ∀ p ∈ ps, smP p) (hm : ps.length ≤ m) : Sm (prsD ps) (m * 23) 2 :=
  Sm.tup (n := 22) (k := 1) (m := m) (fun d hd => by
    obtain ⟨p, hp, rfl⟩ := List.mem_map.mp hd
    exact Sm.pr (h p hp)) (by rw [List.length_map]; exact hm)
end TL
namespace TL
open PySem PySem.Spec PyProof.Rows L2
theorem yesI {σ : L2.St} {H : Hp} {Q : Bool → Hp → Prop} (h : Q true H) : tYes σ H Q := h
/-- what a comprehension asks of its turns -/
def LcGoal (J : It) (g : TG) (tt : TT) (te : TE) (vs : List Nat) (σ : L2.St) (H1 : Hp) (D : Addr) (Qd : Hp → Prop) : Prop :=
  ∃ W : Nat → Nat → Hp → Prop, (∃ m, W 0 m (upd H1 D (.lst []))) ∧ ∀ i m H, W i m H →
    (J.stop i H ∧ Qd H) ∨
    (J.go i H ∧ ∃ Nx : Hp → Prop, (∀ H', Nx H' → ∃ m', m' < m ∧ W (i + 1) m' H') ∧
      ∀ x H', J.yld i H x H' → g x (wipe σ vs) H' fun σ2 H2 =>
        wipe σ2 vs = wipe σ vs ∧ tt σ2 H2 fun b H3 =>
          if b = true then
            te σ2 H3 fun y H4 => ∃ acc, H4 D = some (.lst acc) ∧ acc.length < sizeLine ∧ Nx (upd H4 D (.lst (acc ++ [y])))
          else Nx H3)
/-- by the number of turns -/
theorem lc_by {J : It} {g : TG} {tt : TT} {te : TE} {vs : List Nat} {σ : L2.St} {H1 : Hp} {D : Addr} {Qd : Hp → Prop} (n : Nat)
    (Pv : Nat → Hp → Prop) (h0 : Pv 0 (upd H1 D (.lst []))) (hgo : ∀ i H, i < n → Pv i H → J.go i H) (hst : ∀ H, Pv n H → J.stop n H)
    (hs : ∀ i x H H', i < n → Pv i H → J.yld i H x H' → g x (wipe σ vs) H' fun σ2 H2 =>
      wipe σ2 vs = wipe σ vs ∧ tt σ2 H2 fun b H3 =>
        if b = true then
          te σ2 H3 fun y H4 => ∃ acc, H4 D = some (.lst acc) ∧ acc.length < sizeLine ∧ Pv (i + 1) (upd H4 D (.lst (acc ++ [y])))
        else Pv (i + 1) H3)
    (hd : ∀ H, Pv n H → Qd H) : LcGoal J g tt te vs σ H1 D Qd := by
  refine ⟨fun i m H => m = n - i ∧ i ≤ n ∧ Pv i H, ⟨n, rfl, Nat.zero_le _, h0⟩, fun i m H hW => ?_⟩
  obtain ⟨e, hi, p⟩ := hW
  by_cases hlt : i < n
  · refine .inr ⟨hgo i H hlt p, Pv (i + 1), fun H' p' => ⟨n - (i + 1), by omega, rfl, hlt, p'⟩, fun x H' y => hs i x H H' hlt p y⟩
  · obtain rfl : i = n := by omega
    exact .inl ⟨hst H p, hd H p⟩
/-- over reversed(a tuple) -/
theorem lc_revT {K : PySem.W.Frag} {a : Addr} {xs : List V} {g : TG} {tt : TT} {te : TE} {vs : List Nat} {σ : L2.St} {H1 : Hp} {D : Addr} {Qd : Hp → Prop}
    (Pv : Nat → Hp → Prop) (h0 : Pv 0 (upd H1 D (.lst []))) (hl : ∀ i H, Pv i H → SqT K H a xs)
    (hs : ∀ i x H, i < xs.length → xs[xs.length - 1 - i]? = some x → Pv i H → g x (wipe σ vs) H fun σ2 H2 =>
      wipe σ2 vs = wipe σ vs ∧ tt σ2 H2 fun b H3 =>
        if b = true then
          te σ2 H3 fun y H4 => ∃ acc, H4 D = some (.lst acc) ∧ acc.length < sizeLine ∧ Pv (i + 1) (upd H4 D (.lst (acc ++ [y])))
        else Pv (i + 1) H3)
    (hd : ∀ H, Pv xs.length H → Qd H) : LcGoal (RT.ItvT K a xs.length) g tt te vs σ H1 D Qd := by
  refine lc_by xs.length Pv h0 (fun i H hi p => ?_) (fun H p => Nat.le_refl _) (fun i x H H' hi p y => ?_) hd
  · have hj : xs.length - 1 - i < xs.length := by omega
    exact ⟨hi, xs, _, hl i H p, List.getElem?_eq_getElem hj⟩
  · obtain ⟨e, hy⟩ := y
    subst e
    exact hs i x _ hi (hy xs (hl i _ p)) p
end TL
namespace TL
open PySem PySem.Spec PyProof.Rows L2
/-! ### sorted, of any alike data -/
theorem each_of {K : PySem.W.Frag} {H : Hp} {β : Type} (enc : β → PyData) : ∀ {xs : List V} {us : List Value} {bs : List β},
    Vals xs us → DpAll K H xs (bs.map enc) → PySem.W.EachIs (fun (u : Value) (b : β) => ∃ x, RelV x u ∧ Dp K H x (enc b)) us bs
  | _, _, [], .nil, _ => .nil
  | _, _, _ :: _, .nil, h => nomatch h
  | _, _, [], .cons _ _, h => nomatch h
  | _, _, b :: bs, .cons r t, .cons h a => .cons ⟨_, r, h⟩ (each_of enc t a)
theorem of_each {K : PySem.W.Frag} {H : Hp} {β : Type} (enc : β → PyData) : ∀ {us : List Value} {bs : List β},
    PySem.W.EachIs (fun (u : Value) (b : β) => ∃ x, RelV x u ∧ Dp K H x (enc b)) us bs → ∃ ys, Vals ys us ∧ DpAll K H ys (bs.map enc)
  | _, _, .nil => ⟨[], .nil, .nil⟩
  | _, _, .cons ⟨x, r, h⟩ t => by
    obtain ⟨ys, a, b⟩ := of_each enc t
    exact ⟨x :: ys, .cons r a, .cons h b⟩
@[irreducible] def rSortD (K : PySem.W.Frag) : List V → Hp → VK → Prop := fun vs H Q => ∃ (β : Type) (enc : β → PyData) (bs : List β) (a : Addr) (xs : List V),
  vs = [.ref a] ∧ SqL K H a xs ∧ DpAll K H xs (bs.map enc) ∧ PySem.W.AllAlike (bs.map enc) ∧ PySem.W.Sortable (bs.map enc) ∧ (∀ b ∈ bs, (enc b).depth ≤ 50) ∧
  ∀ p ys, H p = none → DpAll K H ys ((bs.mergeSort (PySem.W.dataLe false enc)).map enc) → Q (.ref p) (upd H p (.lst ys))
section
variable {X : Cx}
theorem sorted_D (hu : X.A.units + 64 < cLine) : CallR X (.builtin "sorted") (rSortD X.K) := by
  intro pins s σ H vs us Q I r h
  unfold rSortD at h
  obtain ⟨β, enc, bs, a, xs, rfl, hs, ha, al, so, dp, q⟩ := h
  cases r with
  | cons r1 r2 =>
    cases r2
    rename_i u
    obtain rfl : u = Value.ref a := r1
    obtain ⟨its, rv, hl, hz⟩ := I.list hs
    have e1 := each_of enc rv ha
    have lb : xs.length = bs.length := by rw [DpAll.length ha, List.length_map]
    have e2 : PySem.W.EachIs (fun v b => ∃ as, Reads s.heap v (enc b) as) its bs :=
      e1.mono fun u b ⟨x, rx, hx⟩ => Dp.reads I _ x u hx rx
    refine PySem.W.sorted_data hl.isList e1 e2 al so (by omega) (fun b hb => by have := dp b hb; omega) fun out hlen eo => ?_
    obtain ⟨ys, ry, dy⟩ := of_each enc eo
    obtain ⟨c, hc⟩ := PyProof.Rows.sortedAll_at s.heap its out.toArray
    have fr : H (s.heap.objs.size + 1) = none := I.hok.fresh (Nat.le_succ _)
    refine ⟨.ref (s.heap.objs.size + 1), upd H (s.heap.objs.size + 1) (.lst ys), I.laid (t' := s.toks) (fun _ _ => PyProof.Rows.sortedAll_old) (Nat.le_succ _) ?_, rfl, q _ ys fr dy⟩
    exact ⟨by have := ry.length; omega, out, c, ry, hc⟩
/-! ### in, of data -/
def rInDt (K : PySem.W.Frag) (neg : Bool) : R2 := fun x y H Q => ∃ d ds, Dp K H x d ∧ (Dp K H y (.list ds) ∨ Dp K H y (.tuple ds)) ∧
  PyData.canLayAll0 ds = true ∧ d.canLay0 = true ∧ d.depth ≤ 50 ∧ Q (.bl (if neg then !(ds.any fun z => PyData.eqv z d) else ds.any fun z => PyData.eqv z d)) H
theorem room_in {d : PyData} {ds : List PyData} {u : Nat} (h : d.depth ≤ 50) (hu : u + 64 < cLine) : u + 1 + min (PyData.depthAll ds) d.depth < cLine := by
  have : min (PyData.depthAll ds) d.depth ≤ 50 := Nat.le_trans (Nat.min_le_right _ _) h
  omega
theorem op_inDt (hu : X.A.units + 64 < cLine) : OpR X (compareOp .In) (rInDt X.K false) := by
  intro pins s σ H x y v u Q I rx ry h
  obtain ⟨d, ds, hd, he, c1, c2, dp, q⟩ := h
  obtain ⟨as, r1⟩ := Dp.reads I d x v hd rx
  rcases he with he | he
  · obtain ⟨bs, r2⟩ := Dp.reads I _ y u he ry
    exact SeqAt.in_list_reads r2 r1 c1 c2 (room_in dp hu) ⟨.bl _, H, I, rfl, q⟩
  · obtain ⟨bs, r2⟩ := Dp.reads I _ y u he ry
    exact SeqAt.in_tuple_reads r2 r1 c1 c2 (room_in dp hu) ⟨.bl _, H, I, rfl, q⟩
theorem op_notInDt (hu : X.A.units + 64 < cLine) : OpR X (compareOp .NotIn) (rInDt X.K true) := by
  intro pins s σ H x y v u Q I rx ry h
  obtain ⟨d, ds, hd, he, c1, c2, dp, q⟩ := h
  obtain ⟨as, r1⟩ := Dp.reads I d x v hd rx
  rcases he with he | he
  · obtain ⟨bs, r2⟩ := Dp.reads I _ y u he ry
    exact SeqAt.notIn_list_reads r2 r1 c1 c2 (room_in dp hu) ⟨.bl _, H, I, rfl, q⟩
  · obtain ⟨bs, r2⟩ := Dp.reads I _ y u he ry
    exact SeqAt.notIn_tuple_reads r2 r1 c1 c2 (room_in dp hu) ⟨.bl _, H, I, rfl, q⟩
/-! ### the written part as a letter -/
theorem sortK (K : PySem.W.Frag) (hu : X.A.units + 64 < cLine) (h : X.K = K := by rfl) : CallR X (.builtin "sorted") (rSortD K) := h ▸ sorted_D hu
theorem inDK (K : PySem.W.Frag) (hu : X.A.units + 64 < cLine) (h : X.K = K := by rfl) : OpR X (compareOp .In) (rInDt K false) := h ▸ op_inDt hu
theorem notInDK (K : PySem.W.Frag) (hu : X.A.units + 64 < cLine) (h : X.K = K := by rfl) : OpR X (compareOp .NotIn) (rInDt K true) := h ▸ op_notInDt hu
theorem inK (K : PySem.W.Frag) (h : X.K = K := by rfl) : OpR X (compareOp .In) (rIn K false) := h ▸ op_in_seq
theorem notInK (K : PySem.W.Frag) (h : X.K = K := by rfl) : OpR X (compareOp .NotIn) (rIn K true) := h ▸ op_notIn_seq
theorem eqDK (K : PySem.W.Frag) (hu : X.A.units + 64 < cLine) (h : X.K = K := by rfl) : OpR X (compareOp .Eq) (rEqD K) := h ▸ op_eqD hu
theorem neDK (K : PySem.W.Frag) (hu : X.A.units + 64 < cLine) (h : X.K = K := by rfl) : OpR X (compareOp .NotEq) (rNeD K) := h ▸ op_neD hu
theorem anyK (K : PySem.W.Frag) (hc : X.calm = true) (h : X.K = K := by rfl) : CallR X (.builtin "any") (rAny K) := h ▸ cr_any hc
def rListK (K : PySem.W.Frag) : List V → Hp → VK → Prop := fun xs H Q => ∃ p ys, xs = [.ref p] ∧ (SqL K H p ys ∨ SqT K H p ys) ∧ ∀ l, H l = none → Q (.ref l) (upd H l (.lst ys))
theorem listK (K : PySem.W.Frag) (h : X.K = K := by rfl) : CallR X (.type "list") (rListK K) := h ▸ call_list_of
theorem slTK (K : PySem.W.Frag) (h : X.K = K := by rfl) : SlR X (rSlA K) := h ▸ sl_tupA
theorem slLK (K : PySem.W.Frag) (h : X.K = K := by rfl) : SlR X (rSlL K) := h ▸ sl_list
end
end TL
namespace TL
open PySem PySem.Spec PyProof.Rows L2
/-- a def of the text by its name, with its promise -/
structure Own (P : Program) (w : World) (K : PySem.W.Frag) (mg : Str → Option Value) (base : Heap)
    (x : Str) (k : Nat) (ps : List Str) (sp : Sp) : Prop where
  ex : ∃ (f : Addr) (fd : FuncData), FnOk P w K mg base CX0 k f fd ps sp ∧ mg x = some (.ref f) ∧
    PySem.W.keepIn K (.ref f) = true ∧ Binds K fd ps []
/-- .. that shows data -/
structure OwnG (P : Program) (w : World) (K : PySem.W.Frag) (mg : Str → Option Value) (base : Heap)
    (x : Str) (k : Nat) (ps : List Str) (sp : Sp) : Prop where
  ex : ∃ (f : Addr) (fd : FuncData), FnG P w K mg base k f fd ps sp ∧ mg x = some (.ref f) ∧
    PySem.W.keepIn K (.ref f) = true ∧ Binds K fd ps []
section
variable {X : Cx} {k : Nat} {ps : List Str} {sp : Sp} {x : Str} {p pos : Pos} {e : Expr} {es : List Expr} {t : TA}
theorem pe_own (O : Own X.prog X.w X.K X.mg X.base x k ps sp) (hr : Room k X.A) (hg : Gl X x) (ha : PA X (e :: es) t)
    (hdb : (x == ("__debug__" : Str)) = false := by decide)
    (he : starEach (e :: es) X.env = (false, eval e X.env) :: starEach es X.env := by rfl)
    (hpl : (backTo pos (starEach es X.env)).any (·.1) = false := by rfl) :
    PE X (.Call (.Name x p) (e :: es) [] pos) (tCall sp [] E0 t) := by
  obtain ⟨f, fd, F, hm, hk, hb⟩ := O.ex
  exact pe_call F hr hg hm hk hb .nil pass0 ha hdb he hpl
theorem pe_ownG (O : OwnG X.prog X.w X.K X.mg X.base x k ps sp) (hr : Room k X.A) (gd : X.A.guards = some []) (hg : Gl X x) (ha : PA X (e :: es) t)
    (hdb : (x == ("__debug__" : Str)) = false := by decide)
    (he : starEach (e :: es) X.env = (false, eval e X.env) :: starEach es X.env := by rfl)
    (hpl : (backTo pos (starEach es X.env)).any (·.1) = false := by rfl) :
    PE X (.Call (.Name x p) (e :: es) [] pos) (tCall sp [] E0 t) := by
  obtain ⟨f, fd, F, hm, hk, hb⟩ := O.ex
  exact pe_callG F hr gd hg hm hk hb ha hdb he hpl
theorem piTK (K : PySem.W.Frag) {tg a : Expr} {ta : TE} (ha : PE X a ta) (h : X.K = K := by rfl) : PI X tg a (iTup K ta) := h ▸ pi_tup ha
theorem piLK (K : PySem.W.Frag) {tg a : Expr} {ta : TE} (ha : PE X a ta) (h : X.K = K := by rfl) : PI X tg a (iList K ta) := h ▸ pi_list ha
theorem pgTK (K : PySem.W.Frag) {es : List Expr} {k : Nat} {t : TGs} {n : Nat} (h : PGs X es t) (hc : X.calm = true := by rfl) (hK : X.K = K := by rfl)
    (hn : (assignEach es X.env).length = n := by rfl) (hst : (assignEach es X.env).findIdx? (·.1) = none := by rfl) :
    PG X (.Tuple es k pos) (gTup K n t) := hK ▸ pg_tup hc h hn hst
theorem bmK (K : PySem.W.Frag) {o : Expr} {to : TE} {name : Str} {apos cpos : Pos} {T id : String}
    {r : V → List V → Hp → VK → Prop} (pa : PlainAttrs T) (slot : Slot T name id)
    (hty : typeOf (.builtin id) = pure (.type "method_descriptor")) (hm : MtR X id r) (ho : PE X o to)
    (ha : PA X (e :: es) t) (h : X.K = K := by rfl)
    (hbase : attributeBase o name X.env (eval o X.env) = eval o X.env := by rfl)
    (hfew : ((backTo cpos (starEach (e :: es) X.env)).all (fun x => !x.1)
        && (backToKw cpos (keywordEach [] X.env)).all (fun x => x.1.isSome)
        && decide ((e :: es).length + ([] : List Keyword).length
          + (if ([] : List Keyword).isEmpty then 0 else 1) < 30)) = true := by rfl)
    (hline : (apos.endLine == cpos.line) = true := by rfl)
    (hs : starEach (e :: es) X.env = (false, eval e X.env) :: starEach es X.env := by rfl)
    (hplain : (backTo cpos (starEach es X.env)).any (·.1) = false := by rfl) :
    PE X (.Call (.Attribute o name apos) (e :: es) [] cpos) (tBM K T r to t) :=
  h ▸ pe_bm pa slot hty hm ho ha hbase hfew hline hs hplain
theorem bm0K (K : PySem.W.Frag) {o : Expr} {to : TE} {name : Str} {apos cpos : Pos} {T id : String}
    {r : V → List V → Hp → VK → Prop} (pa : PlainAttrs T) (slot : Slot T name id)
    (hty : typeOf (.builtin id) = pure (.type "method_descriptor")) (hm : MtR X id r) (ho : PE X o to) (h : X.K = K := by rfl)
    (hbase : attributeBase o name X.env (eval o X.env) = eval o X.env := by rfl)
    (hline : (apos.endLine == cpos.line) = true := by rfl) :
    PE X (.Call (.Attribute o name apos) [] [] cpos) (tBM0 K T r to) := h ▸ pe_bm0 pa slot hty hm ho hbase hline
end
end TL
namespace TL
/-! ### ascending lists -/
abbrev Asc (l : List Int) : Prop := l.Pairwise (· < ·)
theorem asc_ext : ∀ {a b : List Int}, Asc a → Asc b → (∀ x, x ∈ a ↔ x ∈ b) → a = b
  | [], [], _, _, _ => rfl
  | [], y :: b, _, _, h => absurd ((h y).mpr List.mem_cons_self) (by simp)
  | x :: a, [], _, _, h => absurd ((h x).mp List.mem_cons_self) (by simp)
  | x :: a, y :: b, ha, hb, h => by
    have ha' := List.pairwise_cons.mp ha
    have hb' := List.pairwise_cons.mp hb
    have e : x = y := by
      rcases List.mem_cons.mp ((h x).mp List.mem_cons_self) with e | q
      · exact e
      · rcases List.mem_cons.mp ((h y).mpr List.mem_cons_self) with e | r
        · exact e.symm
        · have h1 := hb'.1 x q
          have h2 := ha'.1 y r
          omega
    subst e
    congr 1
    refine asc_ext ha'.2 hb'.2 fun z => ⟨fun hz => ?_, fun hz => ?_⟩
    · rcases List.mem_cons.mp ((h z).mp (List.mem_cons_of_mem _ hz)) with e | q
      · have := ha'.1 z hz
        omega
      · exact q
    · rcases List.mem_cons.mp ((h z).mpr (List.mem_cons_of_mem _ hz)) with e | q
      · have := hb'.1 z hz
        omega
      · exact q
theorem Asc.nodup {l : List Int} (h : Asc l) : l.Nodup := h.imp fun h => by omega
def leI (a b : Int) : Bool := decide (a ≤ b)
def srtI (l : List Int) : List Int := l.mergeSort leI
theorem srtI_perm (l : List Int) : (srtI l).Perm l := List.mergeSort_perm l _
theorem srtI_le (l : List Int) : (srtI l).Pairwise (· ≤ ·) :=
  (List.pairwise_mergeSort (le := leI) (fun a b c h1 h2 => by
    have h1 := of_decide_eq_true h1
    have h2 := of_decide_eq_true h2
    exact decide_eq_true (by omega)) (fun a b => by
    unfold leI
    by_cases h : a ≤ b
    · simp [h]
    · have : b ≤ a := by omega
      simp [this]) l).imp fun h => of_decide_eq_true h
theorem mem_srtI {l : List Int} {x : Int} : x ∈ srtI l ↔ x ∈ l := (srtI_perm l).mem_iff
theorem srtI_asc {l : List Int} (h : l.Nodup) : Asc (srtI l) := by
  have n : (srtI l).Nodup := (srtI_perm l).nodup_iff.mpr h
  exact ((srtI_le l).and n).imp fun h => by omega
theorem srtI_of_asc {l : List Int} (h : Asc l) : srtI l = l :=
  List.mergeSort_of_pairwise (h.imp fun h => decide_eq_true (by omega))
theorem srtI_congr {a b : List Int} (h : a.Perm b) : srtI a = srtI b := by
  have p : (srtI a).Perm (srtI b) := (srtI_perm a).trans (h.trans (srtI_perm b).symm)
  exact p.eq_of_pairwise (fun x y _ _ h1 h2 => by omega) (srtI_le a) (srtI_le b)
theorem srtI_length (l : List Int) : (srtI l).length = l.length := (srtI_perm l).length_eq
/-! ### pairs -/
abbrev LtP (p q : Int × Int) : Prop := p.1 < q.1 ∨ (p.1 = q.1 ∧ p.2 < q.2)
abbrev AscP (l : List (Int × Int)) : Prop := l.Pairwise LtP
def leP (p q : Int × Int) : Bool := decide (p.1 < q.1 ∨ (p.1 = q.1 ∧ p.2 ≤ q.2))
def srtP (l : List (Int × Int)) : List (Int × Int) := l.mergeSort leP
theorem srtP_perm (l : List (Int × Int)) : (srtP l).Perm l := List.mergeSort_perm l _
theorem srtP_le (l : List (Int × Int)) : (srtP l).Pairwise fun p q => p.1 < q.1 ∨ (p.1 = q.1 ∧ p.2 ≤ q.2) :=
  (List.pairwise_mergeSort (le := leP) (fun a b c h1 h2 => by
    have h1 := of_decide_eq_true h1
    have h2 := of_decide_eq_true h2
    exact decide_eq_true (by omega)) (fun a b => by
    unfold leP
    by_cases h : a.1 < b.1 ∨ (a.1 = b.1 ∧ a.2 ≤ b.2)
    · simp [h]
    · have : b.1 < a.1 ∨ (b.1 = a.1 ∧ b.2 ≤ a.2) := by omega
      simp [this]) l).imp fun h => of_decide_eq_true h
theorem mem_srtP {l : List (Int × Int)} {x : Int × Int} : x ∈ srtP l ↔ x ∈ l := (srtP_perm l).mem_iff
theorem srtP_asc {l : List (Int × Int)} (h : l.Nodup) : AscP (srtP l) := by
  have n : (srtP l).Nodup := (srtP_perm l).nodup_iff.mpr h
  refine ((srtP_le l).and n).imp fun {a b} h => ?_
  obtain ⟨h1, h2⟩ := h
  rcases h1 with h1 | ⟨h1, h3⟩
  · exact .inl h1
  · refine .inr ⟨h1, ?_⟩
    have : a.2 ≠ b.2 := fun e => h2 (Prod.ext h1 e)
    omega
theorem srtP_of_asc {l : List (Int × Int)} (h : AscP l) : srtP l = l :=
  List.mergeSort_of_pairwise (h.imp fun h => decide_eq_true (by rcases h with h | h <;> omega))
theorem srtP_length (l : List (Int × Int)) : (srtP l).length = l.length := (srtP_perm l).length_eq
/-! ### an edge between two vertices -/
def ordP (a b : Int) : Int × Int := if a ≤ b then (a, b) else (b, a)
theorem srt2 (a b : Int) : srtI [a, b] = [(ordP a b).1, (ordP a b).2] := by
  unfold ordP
  by_cases h : a ≤ b
  · rw [if_pos h]
    exact List.mergeSort_of_pairwise (le := leI) (List.pairwise_cons.mpr ⟨fun x hx => by
      obtain rfl := List.mem_singleton.mp hx
      exact decide_eq_true h, List.pairwise_singleton _ _⟩)
  · rw [if_neg h]
    have p : [a, b].Perm [b, a] := List.Perm.swap _ _ _
    rw [srtI_congr p]
    exact List.mergeSort_of_pairwise (le := leI) (List.pairwise_cons.mpr ⟨fun x hx => by
      obtain rfl := List.mem_singleton.mp hx
      exact decide_eq_true (by omega), List.pairwise_singleton _ _⟩)
theorem ordP_comm (a b : Int) : ordP a b = ordP b a := by
  unfold ordP
  by_cases h : a ≤ b
  · by_cases h2 : b ≤ a
    · obtain rfl : a = b := by omega
      rfl
    · rw [if_pos h, if_neg h2]
  · rw [if_neg h, if_pos (by omega)]
/-! ### forests as they are drawn -/
def rng (m : Nat) : List Int := (List.range m).map Int.ofNat
theorem mem_rng {m : Nat} {x : Int} : x ∈ rng m ↔ 0 ≤ x ∧ x < m := by
  unfold rng
  rw [List.mem_map]
  constructor
  · rintro ⟨i, hi, rfl⟩
    have := List.mem_range.mp hi
    simp only [Int.ofNat_eq_natCast]
    omega
  · intro h
    exact ⟨x.toNat, List.mem_range.mpr (by omega), by simp only [Int.ofNat_eq_natCast]; omega⟩
theorem rng_asc (m : Nat) : Asc (rng m) := by
  unfold rng Asc
  rw [List.pairwise_map]
  exact List.pairwise_lt_range.imp fun h => by simp only [Int.ofNat_eq_natCast]; omega
theorem rng_length (m : Nat) : (rng m).length = m := by
  unfold rng
  rw [List.length_map, List.length_range]
/-- edge k joins the k-th name with an earlier one -/
def edgeOf (nm : List Int) (q : Nat × Nat) : Int × Int := ordP (nm.getD q.1 0) (nm.getD q.2 0)
structure Grow (m : Nat) (nm : List Int) (ks : List (Nat × Nat)) : Prop where
  names : nm.Perm (rng m)
  up : ks.Pairwise fun a b => a.1 < b.1
  down : ∀ q ∈ ks, q.2 < q.1 ∧ q.1 < m
structure IsFor (m : Nat) (es : List (Int × Int)) : Prop where
  asc : AscP es
  rng : ∀ p ∈ es, 0 ≤ p.1 ∧ p.1 < p.2 ∧ p.2 < m
  grow : ∃ nm ks, Grow m nm ks ∧ es.Perm (ks.map (edgeOf nm))
theorem Grow.len {m : Nat} {nm : List Int} {ks : List (Nat × Nat)} (g : Grow m nm ks) : nm.length = m := by
  rw [g.names.length_eq, rng_length]
theorem Grow.nd {m : Nat} {nm : List Int} {ks : List (Nat × Nat)} (g : Grow m nm ks) : nm.Nodup := g.names.nodup_iff.mpr (rng_asc m).nodup
theorem Grow.name {m : Nat} {nm : List Int} {ks : List (Nat × Nat)} (g : Grow m nm ks) {i : Nat} (h : i < m) : 0 ≤ nm.getD i 0 ∧ nm.getD i 0 < m := by
  have hl : i < nm.length := by rw [g.len]; exact h
  have e : nm.getD i 0 = nm[i] := by rw [List.getD_eq_getElem?_getD, List.getElem?_eq_getElem hl]; rfl
  rw [e]
  exact mem_rng.mp (g.names.mem_iff.mp (List.getElem_mem hl))
theorem Grow.inj {m : Nat} {nm : List Int} {ks : List (Nat × Nat)} (g : Grow m nm ks) {i j : Nat} (hi : i < m) (hj : j < m) (e : nm.getD i 0 = nm.getD j 0) : i = j := by
  have hi' : i < nm.length := by rw [g.len]; exact hi
  have hj' : j < nm.length := by rw [g.len]; exact hj
  rw [List.getD_eq_getElem?_getD, List.getElem?_eq_getElem hi', List.getD_eq_getElem?_getD, List.getElem?_eq_getElem hj'] at e
  exact (List.getElem_inj g.nd).mp e
theorem Grow.edge {m : Nat} {nm : List Int} {ks : List (Nat × Nat)} (g : Grow m nm ks) {q : Nat × Nat} (h : q ∈ ks) :
    0 ≤ (edgeOf nm q).1 ∧ (edgeOf nm q).1 < (edgeOf nm q).2 ∧ (edgeOf nm q).2 < m := by
  obtain ⟨h1, h2⟩ := g.down q h
  have a := g.name h2
  have b := g.name (Nat.lt_trans h1 h2)
  have n : nm.getD q.1 0 ≠ nm.getD q.2 0 := fun e => by
    have := g.inj h2 (Nat.lt_trans h1 h2) e
    omega
  unfold edgeOf ordP
  split
  · exact ⟨a.1, by omega, b.2⟩
  · exact ⟨b.1, by omega, a.2⟩
theorem ordP_inj {a b c d : Int} (h : ordP a b = ordP c d) : (a = c ∧ b = d) ∨ (a = d ∧ b = c) := by
  unfold ordP at h
  split at h <;> split at h <;> (injection h with h1 h2; omega)
theorem Grow.nodup {m : Nat} {nm : List Int} {ks : List (Nat × Nat)} (g : Grow m nm ks) : (ks.map (edgeOf nm)).Nodup := by
  rw [List.Nodup, List.pairwise_map]
  have u := g.up
  have d := g.down
  refine (List.Pairwise.and_mem.mp u).imp ?_
  rintro a b ⟨ha, hb, hab⟩ e
  obtain ⟨a1, a2⟩ := d a ha
  obtain ⟨b1, b2⟩ := d b hb
  rcases ordP_inj e with ⟨e1, e2⟩ | ⟨e1, e2⟩
  · have := g.inj a2 b2 e1
    omega
  · have h1 := g.inj a2 (Nat.lt_trans b1 b2) e1
    have h2 := g.inj (Nat.lt_trans a1 a2) b2 e2
    omega
theorem Grow.isFor {m : Nat} {nm : List Int} {ks : List (Nat × Nat)} (g : Grow m nm ks) : IsFor m (srtP (ks.map (edgeOf nm))) where
  asc := srtP_asc g.nodup
  rng := fun p hp => by
    obtain ⟨q, hq, rfl⟩ := List.mem_map.mp (mem_srtP.mp hp)
    exact g.edge hq
  grow := ⟨nm, ks, g, srtP_perm _⟩
theorem rise_len {m : Nat} : ∀ {ks : List (Nat × Nat)} {lo : Nat}, ks.Pairwise (fun a b => a.1 < b.1) → (∀ q ∈ ks, lo ≤ q.1 ∧ q.1 < m) → ks.length ≤ m - lo
  | [], _, _, _ => Nat.zero_le _
  | q :: ks, lo, h, b => by
    have h' := List.pairwise_cons.mp h
    have hq := b q List.mem_cons_self
    have := rise_len (lo := q.1 + 1) h'.2 fun r hr => ⟨h'.1 r hr, (b r (List.mem_cons_of_mem _ hr)).2⟩
    rw [List.length_cons]
    omega
theorem Grow.count {m : Nat} {nm : List Int} {ks : List (Nat × Nat)} (g : Grow m nm ks) : ks.length ≤ m := by
  have := rise_len (lo := 0) g.up fun q hq => ⟨Nat.zero_le _, (g.down q hq).2⟩
  omega
theorem IsFor.count {m : Nat} {es : List (Int × Int)} (f : IsFor m es) : es.length ≤ m := by
  obtain ⟨nm, ks, g, p⟩ := f.grow
  rw [p.length_eq, List.length_map]
  exact g.count
/-! ### neighbours -/
def nearL (m : Nat) (es : List (Int × Int)) (v : Int) : List Int := (rng m).filter fun o => decide (ordP o v ∈ es)
def nbL (es : List (Int × Int)) (v : Int) : List Int := (es.filter fun p => decide (p.2 = v)).map (·.1) ++ (es.filter fun p => decide (p.1 = v)).map (·.2)
theorem nearL_asc (m : Nat) (es : List (Int × Int)) (v : Int) : Asc (nearL m es v) := (rng_asc m).filter _
theorem mem_nearL {m : Nat} {es : List (Int × Int)} {v o : Int} : o ∈ nearL m es v ↔ (0 ≤ o ∧ o < m) ∧ ordP o v ∈ es := by
  unfold nearL
  rw [List.mem_filter, mem_rng, decide_eq_true_eq]
theorem mem_nbL {es : List (Int × Int)} {v o : Int} : o ∈ nbL es v ↔ (o, v) ∈ es ∨ (v, o) ∈ es := by
  unfold nbL
  rw [List.mem_append, List.mem_map, List.mem_map]
  constructor
  · rintro (⟨⟨a, b⟩, h, rfl⟩ | ⟨⟨a, b⟩, h, rfl⟩)
    · obtain ⟨h1, h2⟩ := List.mem_filter.mp h
      have : b = v := of_decide_eq_true h2
      subst this
      exact .inl h1
    · obtain ⟨h1, h2⟩ := List.mem_filter.mp h
      have : a = v := of_decide_eq_true h2
      subst this
      exact .inr h1
  · rintro (h | h)
    · exact .inl ⟨(o, v), List.mem_filter.mpr ⟨h, decide_eq_true rfl⟩, rfl⟩
    · exact .inr ⟨(v, o), List.mem_filter.mpr ⟨h, decide_eq_true rfl⟩, rfl⟩
theorem IsFor.mem_ord {m : Nat} {es : List (Int × Int)} (f : IsFor m es) {o v : Int} : ordP o v ∈ es ↔ (o, v) ∈ es ∨ (v, o) ∈ es := by
  unfold ordP
  by_cases h : o ≤ v
  · rw [if_pos h]
    refine ⟨.inl, fun q => q.elim id fun q => ?_⟩
    have := f.rng _ q
    simp only at this
    omega
  · rw [if_neg h]
    refine ⟨.inr, fun q => q.elim (fun q => ?_) id⟩
    have := f.rng _ q
    simp only at this
    omega
theorem IsFor.nb {m : Nat} {es : List (Int × Int)} (f : IsFor m es) (v : Int) : nbL es v = nearL m es v := by
  refine asc_ext ?_ (nearL_asc m es v) fun o => ?_
  · unfold nbL
    refine List.pairwise_append.mpr ⟨?_, ?_, ?_⟩
    · rw [List.pairwise_map]
      refine (List.Pairwise.and_mem.mp (f.asc.filter fun p => decide (p.2 = v))).imp ?_
      rintro a b ⟨ha, hb, hab⟩
      have h1 : a.2 = v := of_decide_eq_true (List.mem_filter.mp ha).2
      have h2 : b.2 = v := of_decide_eq_true (List.mem_filter.mp hb).2
      rcases hab with h | h <;> omega
    · rw [List.pairwise_map]
      refine (List.Pairwise.and_mem.mp (f.asc.filter fun p => decide (p.1 = v))).imp ?_
      rintro a b ⟨ha, hb, hab⟩
      have h1 : a.1 = v := of_decide_eq_true (List.mem_filter.mp ha).2
      have h2 : b.1 = v := of_decide_eq_true (List.mem_filter.mp hb).2
      rcases hab with h | h <;> omega
    · intro x hx y hy
      obtain ⟨a, ha, rfl⟩ := List.mem_map.mp hx
      obtain ⟨b, hb, rfl⟩ := List.mem_map.mp hy
      have a1 := f.rng _ (List.mem_filter.mp ha).1
      have b1 := f.rng _ (List.mem_filter.mp hb).1
      have h1 : a.2 = v := of_decide_eq_true (List.mem_filter.mp ha).2
      have h2 : b.1 = v := of_decide_eq_true (List.mem_filter.mp hb).2
      omega
  · rw [mem_nbL, mem_nearL, f.mem_ord]
    refine ⟨fun h => ⟨?_, h⟩, fun h => h.2⟩
    rcases h with h | h
    · have := f.rng _ h
      simp only at this
      omega
    · have := f.rng _ h
      simp only at this
      omega
/-! ### settings -/
structure IsSet (m : Nat) (es : List (Int × Int)) (S : List Int) : Prop where
  asc : Asc S
  rng : ∀ v ∈ S, 0 ≤ v ∧ v < m
  free : ∀ u ∈ S, ∀ v ∈ S, ordP u v ∉ es
end TL
namespace TL
open PySem PySem.Spec PyProof.Rows L2
/-! ### sorting ints, pairs -/
theorem le_int_fun : PySem.W.dataLe false PyData.int = leI := by
  funext a b
  exact congrFun (congrFun (PySem.W.dataLe_int (β := Int) id) a) b
theorem le_pr_fun : PySem.W.dataLe false prD = leP := by
  funext p q
  exact congrFun (congrFun (PySem.W.dataLe_ii (β := Int × Int) Prod.fst Prod.snd) p) q
section
variable {K : PySem.W.Frag} {H : Hp} {Q : VK}
theorem sortInts {a : Addr} {ns : List Int} (hS : SqL K H a (ns.map V.int)) (q : ∀ p, H p = none → Q (.ref p) (upd H p (.lst ((srtI ns).map V.int)))) : rSortD K [.ref a] H Q := by
  unfold rSortD
  refine ⟨Int, PyData.int, ns, a, ns.map V.int, rfl, hS, DpAll.of_ints ns, ?_, .inr fun d hd => ?_, fun b _ => by simp [PyData.depth], fun p ys np dy => ?_⟩
  · intro d hd e he
    obtain ⟨x, _, rfl⟩ := List.mem_map.mp hd
    obtain ⟨y, _, rfl⟩ := List.mem_map.mp he
    simp [PySem.W.alike]
  · obtain ⟨x, _, rfl⟩ := List.mem_map.mp hd
    exact ⟨fun z => (nomatch z), fun _ z => (nomatch z)⟩
  · rw [le_int_fun] at dy
    have e := DpAll.ints dy
    subst e
    exact q p np
theorem sortPairs {a : Addr} {xs : List V} {ps : List (Int × Int)} (hS : SqL K H a xs) (hA : DpAll K H xs (ps.map prD))
    (q : ∀ p ys, H p = none → DpAll K H ys ((srtP ps).map prD) → Q (.ref p) (upd H p (.lst ys))) : rSortD K [.ref a] H Q := by
  unfold rSortD
  refine ⟨Int × Int, prD, ps, a, xs, rfl, hS, hA, ?_, .inl fun d hd => ?_, fun b _ => by simp [prD, PyData.depth, PyData.depthAll], fun p ys np dy => ?_⟩
  · intro d hd e he
    obtain ⟨x, _, rfl⟩ := List.mem_map.mp hd
    obtain ⟨y, _, rfl⟩ := List.mem_map.mp he
    simp [prD, PySem.W.alike, PySem.W.alikeAll]
  · obtain ⟨x, _, rfl⟩ := List.mem_map.mp hd
    exact ⟨_, _, rfl⟩
  · rw [le_pr_fun] at dy
    exact q p ys np dy
end
/-! ### forests as data -/
def forD (m : Nat) (es : List (Int × Int)) : PyData := .tuple [.int (m : Int), prsD es]
def intsD (ns : List Int) : PyData := .tuple (ns.map .int)
theorem only_ints : ∀ ns : List Int, onlyAll (ns.map .int) = true
  | [] => by simp [onlyAll]
  | n :: ns => by simp [onlyAll, only, only_ints ns]
theorem only_intsD (ns : List Int) : only (intsD ns) = true := by
  unfold intsD only
  exact only_ints ns
theorem only_forD (m : Nat) (es : List (Int × Int)) : only (forD m es) = true := by
  unfold forD
  simp [only, onlyAll, only_prsD]
section
variable {K : PySem.W.Frag} {H : Hp}
theorem Dp.forI {x : V} {m : Nat} {es : List (Int × Int)} (h : Dp K H x (forD m es)) :
    ∃ a b xs, x = .ref a ∧ SqT K H a [.int (m : Int), .ref b] ∧ SqT K H b xs ∧ DpAll K H xs (es.map prD) := by
  obtain ⟨a, xs, e, h1, h2⟩ := Dp.tupI h
  cases h2 with
  | cons ha hb =>
    cases hb with
    | cons hc hd =>
      cases hd
      obtain ⟨b, ys, e2, h3, h4⟩ := Dp.tupI hc
      subst e2
      rw [Dp.intI ha] at h1
      exact ⟨a, b, ys, e, h1, h3, h4⟩
theorem Dp.intsI {x : V} {ns : List Int} (h : Dp K H x (intsD ns)) : ∃ a, x = .ref a ∧ SqT K H a (ns.map V.int) := by
  obtain ⟨a, xs, e, h1, h2⟩ := Dp.tupI h
  have := DpAll.ints h2
  subst this
  exact ⟨a, e, h1⟩
theorem Dp.ints {a : Addr} {ns : List Int} (h : SqT K H a (ns.map V.int)) : Dp K H (.ref a) (intsD ns) := .tup h (DpAll.of_ints ns)
end
/-! ### equal data -/
theorem eqv_pr (a b : Int × Int) : PyData.eqv (prD a) (prD b) = decide (a = b) := by
  have e : PyData.eqv (prD a) (prD b) = ((a.1 == b.1) && ((a.2 == b.2) && true)) := by simp only [prD, PyData.eqv, PyData.eqvAll]
  rw [e]
  obtain ⟨x, y⟩ := a
  obtain ⟨u, v⟩ := b
  by_cases h1 : x = u
  · by_cases h2 : y = v
    · subst h1 h2; simp
    · have : ¬ ((x, y) : Int × Int) = (u, v) := fun z => h2 (Prod.mk.inj z).2
      rw [decide_eq_false this]; simp [h2]
  · have : ¬ ((x, y) : Int × Int) = (u, v) := fun z => h1 (Prod.mk.inj z).1
    rw [decide_eq_false this]; simp [h1]
theorem any_pr (p : Int × Int) : ∀ es : List (Int × Int), (es.map prD).any (fun z => PyData.eqv z (prD p)) = decide (p ∈ es)
  | [] => by simp
  | e :: es => by
    rw [List.map_cons, List.any_cons, any_pr p es, eqv_pr]
    by_cases h : e = p
    · subst h; simp
    · have h' : ¬ p = e := fun z => h z.symm
      simp [h, h']
theorem lay_pr (p : Int × Int) : (prD p).canLay0 = true := by simp [prD, PyData.canLay0, PyData.canLayAll0]
theorem lay_prs : ∀ es : List (Int × Int), PyData.canLayAll0 (es.map prD) = true
  | [] => by simp [PyData.canLayAll0]
  | e :: es => by simp [PyData.canLayAll0, lay_pr e, lay_prs es]
theorem dep_pr (p : Int × Int) : (prD p).depth ≤ 50 := by simp [prD, PyData.depth, PyData.depthAll]
theorem lay_ints : ∀ ns : List Int, PyData.canLayAll0 (ns.map PyData.int) = true
  | [] => by simp [PyData.canLayAll0]
  | n :: ns => by simp [PyData.canLayAll0, PyData.canLay0, lay_ints ns]
theorem dep_ints : ∀ ns : List Int, PyData.depthAll (ns.map PyData.int) = 0
  | [] => by simp [PyData.depthAll]
  | n :: ns => by simp [PyData.depthAll, PyData.depth, dep_ints ns]
theorem shaped_ints (ns : List Int) : SeqAt.shaped (.list (ns.map PyData.int)) = true := by
  unfold SeqAt.shaped
  simp only [PyData.canLay0, PyData.depth, lay_ints, dep_ints]
  decide
theorem eqv_nil (ns : List Int) : PyData.eqv (.list (ns.map PyData.int)) (.list []) = decide (ns = []) := by
  cases ns with
  | nil => simp [PyData.eqv, PyData.eqvAll]
  | cons n r => simp [PyData.eqv, PyData.eqvAll]
/-! ### ints in lists of ints -/
theorem flat_ints (ns : List Int) : (ns.map V.int).all flatV = true := by
  rw [List.all_map]
  exact List.all_eq_true.mpr fun _ _ => rfl
theorem inV_ints (x : Int) : ∀ ns : List Int, inV (.int x) (ns.map V.int) = decide (x ∈ ns)
  | [] => by simp [inV]
  | n :: ns => by
    have ih := inV_ints x ns
    unfold inV at ih ⊢
    rw [List.map_cons, List.any_cons, ih]
    show (decide (n = x) || decide (x ∈ ns)) = _
    by_cases h : n = x
    · subst h; simp
    · have h' : ¬ x = n := fun z => h z.symm
      simp [h, h']
/-! ### an if whose test is read for any end -/
theorem ifJ {c : TT} {t u : TS} {D : Ends} {σ : L2.St} {H : Hp} (R : Bool → Hp → Prop)
    (h1 : ∀ Q : Bool → Hp → Prop, (∀ b H1, R b H1 → Q b H1) → c σ H Q) (h2 : ∀ H1, R true H1 → t D σ H1) (h3 : ∀ H1, R false H1 → u D σ H1) : tIfS c t u D σ H := by
  refine h1 _ fun b H1 r => ?_
  cases b with
  | true => exact iteT (h2 H1 r)
  | false => exact iteF (h3 H1 r)
end TL
namespace TL
open PySem PySem.Spec PyProof.Rows L2
/-! ### comprehensions that leave all that was tracked as it was -/
theorem lc_gen {K : PySem.W.Frag} {J : It} {g : TG} {tt : TT} {te : TE} {vs : List Nat} {σ : L2.St} {H1 : Hp} {D : Addr} {Qd : Hp → Prop} {β : Type}
    (bs : List β) (σb : β → L2.St) (p : β → Bool) (d : β → PyData) (nD : H1 D = none)
    (hgo : ∀ j H', j < bs.length → Same H1 H' → J.go j H') (hst : ∀ H', Same H1 H' → J.stop bs.length H')
    (hg : ∀ j b x H' H'', bs[j]? = some b → Same H1 H' → J.yld j H' x H'' → H'' = H' ∧ ∀ Q : L2.St → Hp → Prop, Q (σb b) H' → g x (wipe σ vs) H' Q)
    (hw : ∀ b, wipe (σb b) vs = wipe σ vs)
    (ht : ∀ b ∈ bs, ∀ H' (Q : Bool → Hp → Prop), Same H1 H' → (∀ H2, Same H' H2 → Q (p b) H2) → tt (σb b) H' Q)
    (he : ∀ b ∈ bs, p b = true → ∀ H' (Q : VK), Same H1 H' → (∀ H2 y, Same H' H2 → Dp K H2 y (d b) → Q y H2) → te (σb b) H' Q)
    (ho : ∀ b, only (d b) = true) (hl : bs.length ≤ 1000)
    (hd : ∀ H' ys, Same H1 H' → H' D = some (.lst ys) → DpAll K H' ys ((bs.filter p).map d) → Qd H') : LcGoal J g tt te vs σ H1 D Qd := by
  have oa : ∀ l : List β, onlyAll (l.map d) = true := by
    intro l
    induction l with
    | nil => simp [onlyAll]
    | cons b l ih => simp [onlyAll, ho b, ih]
  refine lc_by bs.length (fun i H' => ∃ ys, Same H1 H' ∧ H' D = some (.lst ys) ∧ DpAll K H' ys (((bs.take i).filter p).map d) ∧ ys.length ≤ i) ?_ ?_ ?_ ?_ ?_
  · exact ⟨[], same_upd nD, upd_same, .nil, Nat.le_refl _⟩
  · rintro i H' hi ⟨ys, s, _⟩
    exact hgo i H' hi s
  · rintro H' ⟨ys, s, _⟩
    exact hst H' s
  · rintro i x H' H'' hi ⟨ys, s, eD, a, ln⟩ y
    obtain ⟨rfl, k⟩ := hg i bs[i] x H' H'' (List.getElem?_eq_getElem hi) s y
    have mb : bs[i] ∈ bs := List.getElem_mem hi
    have tk : bs.take (i + 1) = bs.take i ++ [bs[i]] := by rw [List.take_add_one, List.getElem?_eq_getElem hi]; rfl
    refine k _ ⟨hw _, ht _ mb _ _ s fun H2 s2 => ?_⟩
    by_cases hp : p bs[i] = true
    · rw [if_pos hp]
      refine he _ mb hp _ _ (s.trans s2) fun H3 z s3 dz => ?_
      have e3 := s3 _ _ (s2 _ _ eD)
      have kt : KT K H3 (upd H3 D (.lst (ys ++ [z]))) := kt_lst e3
      refine ⟨ys, e3, small1000 (by omega), ys ++ [z], ?_, upd_same, ?_, ?_⟩
      · intro b o e
        rw [upd_ne (ne_of_none e nD)]
        exact s3 _ _ (s2 _ _ (s _ _ e))
      · rw [tk, List.filter_append, List.map_append, List.filter_cons_of_pos hp]
        exact DpAll.append (DpAll.kt kt (DpAll.same (s2.trans s3) a) (oa _)) (.cons (Dp.kt kt dz (ho _)) .nil)
      · rw [List.length_append, List.length_singleton]
        omega
    · rw [if_neg hp]
      refine ⟨ys, s.trans s2, s2 _ _ eD, ?_, by omega⟩
      rw [tk, List.filter_append, List.filter_cons_of_neg hp, List.filter_nil, List.append_nil]
      exact DpAll.same s2 a
  · rintro H' ⟨ys, s, eD, a, _⟩
    rw [List.take_length] at a
    exact hd H' ys s eD a
section
variable {K : PySem.W.Frag} {tt : TT} {te : TE} {vs : List Nat} {σ : L2.St} {H1 : Hp} {D : Addr} {Qd : Hp → Prop}
/-- over a list of ints, the element any data -/
theorem lc_listI {a : Addr} {ns : List Int} {i : Nat} (p : Int → Bool) (d : Int → PyData) (nD : H1 D = none) (hS : SqL K H1 a (ns.map V.int))
    (hw : ∀ v, wipe ((wipe σ vs).set i (some v)) vs = wipe σ vs)
    (ht : ∀ o ∈ ns, ∀ H' (Q : Bool → Hp → Prop), Same H1 H' → (∀ H2, Same H' H2 → Q (p o) H2) → tt ((wipe σ vs).set i (some (.int o))) H' Q)
    (he : ∀ o ∈ ns, p o = true → ∀ H' (Q : VK), Same H1 H' → (∀ H2 y, Same H' H2 → Dp K H2 y (d o) → Q y H2) → te ((wipe σ vs).set i (some (.int o))) H' Q)
    (ho : ∀ o, only (d o) = true) (hl : ns.length ≤ 1000)
    (hd : ∀ H' ys, Same H1 H' → H' D = some (.lst ys) → DpAll K H' ys ((ns.filter p).map d) → Qd H') : LcGoal (Itl K a) (gName i) tt te vs σ H1 D Qd := by
  refine lc_gen ns (fun o => (wipe σ vs).set i (some (.int o))) p d nD (fun j H' hj s => ⟨_, _, s.seq hS, List.getElem?_eq_getElem (by rw [List.length_map]; exact hj)⟩)
    (fun H' s => ⟨_, s.seq hS, by rw [List.length_map]; exact Nat.le_refl _⟩) (fun j b x H' H'' hb s y => ?_) (fun b => hw _) ht he ho hl hd
  obtain ⟨e, hy⟩ := y
  have := hy _ (s.seq hS)
  rw [List.getElem?_map, hb] at this
  cases this
  exact ⟨e, fun Q q => q⟩
/-- over a tuple of ints -/
theorem lc_tupI {a : Addr} {ns : List Int} {i : Nat} (p : Int → Bool) (d : Int → PyData) (nD : H1 D = none) (hS : SqT K H1 a (ns.map V.int))
    (hw : ∀ v, wipe ((wipe σ vs).set i (some v)) vs = wipe σ vs)
    (ht : ∀ o ∈ ns, ∀ H' (Q : Bool → Hp → Prop), Same H1 H' → (∀ H2, Same H' H2 → Q (p o) H2) → tt ((wipe σ vs).set i (some (.int o))) H' Q)
    (he : ∀ o ∈ ns, p o = true → ∀ H' (Q : VK), Same H1 H' → (∀ H2 y, Same H' H2 → Dp K H2 y (d o) → Q y H2) → te ((wipe σ vs).set i (some (.int o))) H' Q)
    (ho : ∀ o, only (d o) = true) (hl : ns.length ≤ 1000)
    (hd : ∀ H' ys, Same H1 H' → H' D = some (.lst ys) → DpAll K H' ys ((ns.filter p).map d) → Qd H') : LcGoal (Itt K a) (gName i) tt te vs σ H1 D Qd := by
  refine lc_gen ns (fun o => (wipe σ vs).set i (some (.int o))) p d nD (fun j H' hj s => ⟨_, _, Same.tup s hS, List.getElem?_eq_getElem (by rw [List.length_map]; exact hj)⟩)
    (fun H' s => ⟨_, Same.tup s hS, by rw [List.length_map]; exact Nat.le_refl _⟩) (fun j b x H' H'' hb s y => ?_) (fun b => hw _) ht he ho hl hd
  obtain ⟨e, hy⟩ := y
  have := hy _ (Same.tup s hS)
  rw [List.getElem?_map, hb] at this
  cases this
  exact ⟨e, fun Q q => q⟩
/-- over range(m) -/
theorem lc_rng {m i : Nat} (p : Int → Bool) (d : Int → PyData) (nD : H1 D = none)
    (hw : ∀ v, wipe ((wipe σ vs).set i (some v)) vs = wipe σ vs)
    (ht : ∀ o ∈ rng m, ∀ H' (Q : Bool → Hp → Prop), Same H1 H' → (∀ H2, Same H' H2 → Q (p o) H2) → tt ((wipe σ vs).set i (some (.int o))) H' Q)
    (he : ∀ o ∈ rng m, p o = true → ∀ H' (Q : VK), Same H1 H' → (∀ H2 y, Same H' H2 → Dp K H2 y (d o) → Q y H2) → te ((wipe σ vs).set i (some (.int o))) H' Q)
    (ho : ∀ o, only (d o) = true) (hl : m ≤ 1000)
    (hd : ∀ H' ys, Same H1 H' → H' D = some (.lst ys) → DpAll K H' ys (((rng m).filter p).map d) → Qd H') : LcGoal (Itr 0 m) (gName i) tt te vs σ H1 D Qd := by
  refine lc_gen (rng m) (fun o => (wipe σ vs).set i (some (.int o))) p d nD (fun j H' hj s => by rw [rng_length] at hj; exact hj)
    (fun H' s => by rw [rng_length]; exact Nat.le_refl _) (fun j b x H' H'' hb s y => ?_) (fun b => hw _) ht he ho (by rw [rng_length]; exact hl) hd
  obtain ⟨e, hy⟩ := y
  unfold rng at hb
  rw [List.getElem?_map] at hb
  obtain ⟨z, hz, rfl⟩ := Option.map_eq_some_iff.mp hb
  obtain ⟨h1, rfl⟩ := List.getElem?_eq_some_iff.mp hz
  rw [List.getElem_range] at *
  subst hy
  refine ⟨e, fun Q q => ?_⟩
  show Q ((wipe σ vs).set i (some (.int (0 + (j : Int))))) H'
  rw [Int.zero_add]
  exact q
/-- over a tuple of pairs, the target two names -/
theorem lc_tupP {a : Addr} {xs : List V} {es : List (Int × Int)} {i j : Nat} (p : Int × Int → Bool) (d : Int × Int → PyData) (nD : H1 D = none) (hS : SqT K H1 a xs) (hA : DpAll K H1 xs (es.map prD))
    (hw : ∀ v u, wipe (((wipe σ vs).set i (some v)).set j (some u)) vs = wipe σ vs)
    (ht : ∀ o ∈ es, ∀ H' (Q : Bool → Hp → Prop), Same H1 H' → (∀ H2, Same H' H2 → Q (p o) H2) → tt (((wipe σ vs).set i (some (.int o.1))).set j (some (.int o.2))) H' Q)
    (he : ∀ o ∈ es, p o = true → ∀ H' (Q : VK), Same H1 H' → (∀ H2 y, Same H' H2 → Dp K H2 y (d o) → Q y H2) → te (((wipe σ vs).set i (some (.int o.1))).set j (some (.int o.2))) H' Q)
    (ho : ∀ o, only (d o) = true) (hl : es.length ≤ 1000)
    (hd : ∀ H' ys, Same H1 H' → H' D = some (.lst ys) → DpAll K H' ys ((es.filter p).map d) → Qd H') :
    LcGoal (Itt K a) (gTup K 2 (gCons (gName i) (gCons (gName j) gNil))) tt te vs σ H1 D Qd := by
  have xl : xs.length = es.length := by rw [DpAll.length hA, List.length_map]
  refine lc_gen es (fun o => ((wipe σ vs).set i (some (.int o.1))).set j (some (.int o.2))) p d nD (fun j H' hj s => ⟨_, _, Same.tup s hS, List.getElem?_eq_getElem (by rw [xl]; exact hj)⟩)
    (fun H' s => ⟨_, Same.tup s hS, by rw [xl]; exact Nat.le_refl _⟩) (fun k b x H' H'' hb s y => ?_) (fun b => hw _ _) ht he ho hl hd
  obtain ⟨e, hy⟩ := y
  obtain ⟨z, hz, dz⟩ := DpAll.get hA (hy _ (Same.tup s hS))
  rw [List.getElem?_map, hb] at hz
  cases hz
  obtain ⟨t, rfl, hT⟩ := Dp.prI (Dp.same s dz)
  exact ⟨e, fun Q q => ⟨t, _, rfl, hT, rfl, _, _, rfl, _, _, rfl, rfl, q⟩⟩
/-- over a list of pairs -/
theorem lc_listP {a : Addr} {xs : List V} {es : List (Int × Int)} {i j : Nat} (p : Int × Int → Bool) (d : Int × Int → PyData) (nD : H1 D = none) (hS : SqL K H1 a xs) (hA : DpAll K H1 xs (es.map prD))
    (hw : ∀ v u, wipe (((wipe σ vs).set i (some v)).set j (some u)) vs = wipe σ vs)
    (ht : ∀ o ∈ es, ∀ H' (Q : Bool → Hp → Prop), Same H1 H' → (∀ H2, Same H' H2 → Q (p o) H2) → tt (((wipe σ vs).set i (some (.int o.1))).set j (some (.int o.2))) H' Q)
    (he : ∀ o ∈ es, p o = true → ∀ H' (Q : VK), Same H1 H' → (∀ H2 y, Same H' H2 → Dp K H2 y (d o) → Q y H2) → te (((wipe σ vs).set i (some (.int o.1))).set j (some (.int o.2))) H' Q)
    (ho : ∀ o, only (d o) = true) (hl : es.length ≤ 1000)
    (hd : ∀ H' ys, Same H1 H' → H' D = some (.lst ys) → DpAll K H' ys ((es.filter p).map d) → Qd H') :
    LcGoal (Itl K a) (gTup K 2 (gCons (gName i) (gCons (gName j) gNil))) tt te vs σ H1 D Qd := by
  have xl : xs.length = es.length := by rw [DpAll.length hA, List.length_map]
  refine lc_gen es (fun o => ((wipe σ vs).set i (some (.int o.1))).set j (some (.int o.2))) p d nD (fun j H' hj s => ⟨_, _, s.seq hS, List.getElem?_eq_getElem (by rw [xl]; exact hj)⟩)
    (fun H' s => ⟨_, s.seq hS, by rw [xl]; exact Nat.le_refl _⟩) (fun k b x H' H'' hb s y => ?_) (fun b => hw _ _) ht he ho hl hd
  obtain ⟨e, hy⟩ := y
  obtain ⟨z, hz, dz⟩ := DpAll.get hA (hy _ (s.seq hS))
  rw [List.getElem?_map, hb] at hz
  cases hz
  obtain ⟨t, rfl, hT⟩ := Dp.prI (Dp.same s dz)
  exact ⟨e, fun Q q => ⟨t, _, rfl, hT, rfl, _, _, rfl, _, _, rfl, rfl, q⟩⟩
end
theorem only_int (i : Int) : only (.int i) = true := by simp [only]
theorem lst_ints {K : PySem.W.Frag} {H : Hp} {ys : List V} {ns : List Int} (h : DpAll K H ys (ns.map .int)) : ys = ns.map V.int := DpAll.ints h
end TL
namespace TL
open PySem PySem.Spec PyProof.Rows L2
theorem onlyAll_app : ∀ a b : List PyData, onlyAll (a ++ b) = (onlyAll a && onlyAll b)
  | [], b => by simp [onlyAll]
  | x :: a, b => by
    rw [List.cons_append]
    simp only [onlyAll, onlyAll_app a b, Bool.and_assoc]
theorem onlyAll_map {β : Type} {d : β → PyData} (h : ∀ b, only (d b) = true) : ∀ l : List β, onlyAll (l.map d) = true
  | [] => by simp [onlyAll]
  | x :: l => by simp [onlyAll, h x, onlyAll_map h l]
/-- [e for u in a tuple of ints for v in what f gives] -/
theorem lc2_tup {K : PySem.W.Frag} {a : Addr} {S : List Int} {i j : Nat} {wi1 : TI} {te : TE} {vs vs1 : List Nat} {σ : L2.St} {H1 : Hp} {D : Addr} {Qd : Hp → Prop}
    (f : Int → List Int) (d : Int → Int → PyData) (nD : H1 D = none) (hS : SqT K H1 a (S.map V.int))
    (hw : ∀ v, wipe ((wipe σ vs).set i (some v)) vs = wipe σ vs)
    (hw1 : ∀ u v, wipe ((wipe ((wipe σ vs).set i (some u)) vs1).set j (some v)) vs1 = wipe ((wipe σ vs).set i (some u)) vs1)
    (hin : ∀ u ∈ S, ∀ H' (R : It → Hp → Prop), Same H1 H' → (∀ H2 b, Same H' H2 → SqT K H2 b ((f u).map V.int) → R (Itt K b) H2) → wi1 ((wipe σ vs).set i (some (.int u))) H' R)
    (he : ∀ u ∈ S, ∀ v ∈ f u, ∀ H' (Q : VK), Same H1 H' → (∀ H2 y, Same H' H2 → Dp K H2 y (d u v) → Q y H2) → te ((wipe ((wipe σ vs).set i (some (.int u))) vs1).set j (some (.int v))) H' Q)
    (ho : ∀ u v, only (d u v) = true) (hl : S.length ≤ 100) (hf : ∀ u ∈ S, (f u).length ≤ 100)
    (hd : ∀ H' ys, Same H1 H' → H' D = some (.lst ys) → DpAll K H' ys (S.flatMap fun u => (f u).map (d u)) → Qd H') :
    ∃ W : Nat → Nat → Hp → Prop, (∃ m, W 0 m (upd H1 D (.lst []))) ∧ ∀ k m H, W k m H →
      ((Itt K a).stop k H ∧ Qd H) ∨
      ((Itt K a).go k H ∧ ∃ Nx : Hp → Prop, (∀ H', Nx H' → ∃ m', m' < m ∧ W (k + 1) m' H') ∧
        ∀ x H', (Itt K a).yld k H x H' → (gName i) x (wipe σ vs) H' fun σ2 H2 =>
          wipe σ2 vs = wipe σ vs ∧ tYes σ2 H2 fun b H3 =>
            if b = true then
              wi1 σ2 H3 fun J1 H4 => ∃ W1 : Nat → Nat → Hp → Prop, (∃ m, W1 0 m H4) ∧ ∀ j' k H, W1 j' k H →
                (J1.stop j' H ∧ Nx H) ∨
                (J1.go j' H ∧ ∃ Nx1 : Hp → Prop, (∀ H', Nx1 H' → ∃ k', k' < k ∧ W1 (j' + 1) k' H') ∧
                  ∀ x H', J1.yld j' H x H' → (gName j) x (wipe σ2 vs1) H' fun σ3 H5 =>
                    wipe σ3 vs1 = wipe σ2 vs1 ∧ tYes σ3 H5 fun b H6 =>
                      if b = true then
                        te σ3 H6 fun y H7 => ∃ acc, H7 D = some (.lst acc) ∧ acc.length < sizeLine ∧ Nx1 (upd H7 D (.lst (acc ++ [y])))
                      else Nx1 H6)
            else Nx H3) := by
  have ofl : ∀ l : List Int, onlyAll (l.flatMap fun u => (f u).map (d u)) = true := by
    intro l
    induction l with
    | nil => simp [onlyAll]
    | cons u l ih => rw [List.flatMap_cons, onlyAll_app, ih, onlyAll_map (ho u)]; rfl
  let Pv : Nat → Hp → Prop := fun k H' => ∃ ys, Same H1 H' ∧ H' D = some (.lst ys) ∧ DpAll K H' ys ((S.take k).flatMap fun u => (f u).map (d u)) ∧ ys.length ≤ 100 * k
  refine ⟨fun k m H => m = S.length - k ∧ k ≤ S.length ∧ Pv k H, ⟨S.length, rfl, Nat.zero_le _, [], same_upd nD, upd_same, .nil, Nat.le_refl _⟩, fun k m H hW => ?_⟩
  obtain ⟨em, hk, ys, s, eD, dy, ln⟩ := hW
  by_cases hlt : k < S.length
  · refine .inr ⟨⟨_, _, Same.tup s hS, List.getElem?_eq_getElem (by rw [List.length_map]; exact hlt)⟩, Pv (k + 1), fun H' p => ⟨S.length - (k + 1), by omega, rfl, hlt, p⟩, fun x H' y => ?_⟩
    obtain ⟨e, hy⟩ := y
    subst e
    have hx := hy _ (Same.tup s hS)
    rw [List.getElem?_map, List.getElem?_eq_getElem hlt] at hx
    cases hx
    have mu : S[k] ∈ S := List.getElem_mem hlt
    have tk : S.take (k + 1) = S.take k ++ [S[k]] := by rw [List.take_add_one, List.getElem?_eq_getElem hlt]; rfl
    refine ⟨hw _, yesI (iteT (hin _ mu _ _ s fun H4 b s4 hb => ?_))⟩
    refine ⟨fun j' m H => m = (f S[k]).length - j' ∧ j' ≤ (f S[k]).length ∧ ∃ zs, Same H1 H ∧ SqT K H b ((f S[k]).map V.int) ∧ H D = some (.lst zs) ∧
      DpAll K H zs (((S.take k).flatMap fun u => (f u).map (d u)) ++ ((f S[k]).take j').map (d S[k])) ∧ zs.length ≤ 100 * k + j', ⟨(f S[k]).length, rfl, Nat.zero_le _, ys, s.trans s4, hb, s4 _ _ eD, ?_, by omega⟩, fun j' m H hW => ?_⟩
    · rw [List.take_zero, List.map_nil, List.append_nil]
      exact DpAll.same s4 dy
    · obtain ⟨em', hj, zs, sj, hbj, eDj, dz, lz⟩ := hW
      have lf := hf _ mu
      by_cases hjl : j' < (f S[k]).length
      · refine .inr ⟨⟨_, _, hbj, List.getElem?_eq_getElem (by rw [List.length_map]; exact hjl)⟩, fun H => ∃ zs, Same H1 H ∧ SqT K H b ((f S[k]).map V.int) ∧ H D = some (.lst zs) ∧
          DpAll K H zs (((S.take k).flatMap fun u => (f u).map (d u)) ++ ((f S[k]).take (j' + 1)).map (d S[k])) ∧ zs.length ≤ 100 * k + (j' + 1),
          fun H' p => ⟨(f S[k]).length - (j' + 1), by omega, rfl, hjl, p⟩, fun x H' y => ?_⟩
        obtain ⟨e, hy⟩ := y
        subst e
        have hx := hy _ hbj
        rw [List.getElem?_map, List.getElem?_eq_getElem hjl] at hx
        cases hx
        have mv : (f S[k])[j'] ∈ f S[k] := List.getElem_mem hjl
        refine ⟨hw1 _ _, yesI (iteT (he _ mu _ mv _ _ sj fun H5 y5 s5 d5 => ?_))⟩
        have e5 := s5 _ _ eDj
        have kt : KT K H5 (upd H5 D (.lst (zs ++ [y5]))) := kt_lst e5
        refine ⟨zs, e5, Nat.lt_of_le_of_lt (show zs.length ≤ 20000 by omega) (by decide), zs ++ [y5], ?_, kt _ _ (Same.tup s5 hbj), upd_same, ?_, ?_⟩
        · intro c o e
          rw [upd_ne (ne_of_none e nD)]
          exact s5 _ _ (sj _ _ e)
        · rw [List.take_add_one, List.getElem?_eq_getElem hjl, List.map_append, ← List.append_assoc]
          refine DpAll.append (DpAll.kt kt (DpAll.same s5 dz) ?_) (.cons (Dp.kt kt d5 (ho _ _)) .nil)
          rw [onlyAll_app, ofl, onlyAll_map (ho _)]
          rfl
        · rw [List.length_append, List.length_singleton]
          omega
      · obtain rfl : j' = (f S[k]).length := by omega
        refine .inl ⟨⟨_, hbj, by rw [List.length_map]; exact Nat.le_refl _⟩, zs, sj, eDj, ?_, by omega⟩
        rw [List.take_length] at dz
        rw [tk, List.flatMap_append, List.flatMap_cons, List.flatMap_nil, List.append_nil]
        exact dz
  · obtain rfl : k = S.length := by omega
    rw [List.take_length] at dy
    exact .inl ⟨⟨_, Same.tup s hS, by rw [List.length_map]; exact Nat.le_refl _⟩, hd H ys s eD dy⟩
section
variable {X : Cx}
def tTruth (K : PySem.W.Frag) (ta : TE) : TT := fun σ H Q => ta σ H fun x H' => ∃ k, TruV K x H' k ∧ Q k H'
theorem truthK (K : PySem.W.Frag) {a : Expr} {ta : TE} (ha : PE X a ta)
    (he : ∀ whole, isTrue a X.env whole = (do let v ← whole; standAt a.pos; holding [v] (truthy v))) (h : X.K = K := by rfl) :
    PT X a (tTruth K ta) := h ▸ pt_truth ha he
theorem isiK (K : PySem.W.Frag) (h : X.K = K := by rfl) : CallR X (.builtin "isinstance") (rIsi K) := h ▸ call_isi
end
theorem ty_tup {K : PySem.W.Frag} {H : Hp} {a : Addr} {xs : List V} (h : SqT K H a xs) : TyX K H (.ref a) (.type "tuple") := by
  rcases h with (h | ⟨o, h⟩) | ⟨o, its, n, h, c, _⟩
  · exact .base (.tup h)
  · exact .fTuple h
  · exact .kTuple h c
end TL
namespace TL
/-! ### slides -/
def oth (m : Nat) (es : List (Int × Int)) (S : List Int) (u v : Int) : List Int := (nearL m es v).filter fun o => decide (o ∈ S) && !decide (o = u)
theorem mem_oth {m : Nat} {es : List (Int × Int)} {S : List Int} {u v o : Int} : o ∈ oth m es S u v ↔ o ∈ nearL m es v ∧ o ∈ S ∧ o ≠ u := by
  unfold oth
  rw [List.mem_filter, Bool.and_eq_true, decide_eq_true_eq, Bool.not_eq_true', decide_eq_false_iff_not]
def stepsL (m : Nat) (es : List (Int × Int)) (T : List Int) : List (Int × Int) := T.flatMap fun u => (nearL m es u).map fun v => (u, v)
def slidesP (m : Nat) (es : List (Int × Int)) (S : List Int) : List (Int × Int) := (stepsL m es S).filter fun p => decide (oth m es S p.1 p.2 = [])
def slidesT (m : Nat) (es : List (Int × Int)) (S T : List Int) : List (Int × Int) := T.flatMap fun u => ((nearL m es u).filter fun v => decide (oth m es S u v = [])).map fun v => (u, v)
theorem slides_eqT (m : Nat) (es : List (Int × Int)) (S : List Int) : ∀ T : List Int, (stepsL m es T).filter (fun p => decide (oth m es S p.1 p.2 = [])) = slidesT m es S T
  | [] => rfl
  | u :: T => by
    have ih := slides_eqT m es S T
    unfold stepsL slidesT at ih ⊢
    rw [List.flatMap_cons, List.flatMap_cons, List.filter_append, ih, List.filter_map]
    rfl
theorem slides_eq (m : Nat) (es : List (Int × Int)) (S : List Int) : slidesP m es S = slidesT m es S S := slides_eqT m es S S
theorem mem_slidesP {m : Nat} {es : List (Int × Int)} {S : List Int} {u v : Int} : (u, v) ∈ slidesP m es S ↔ u ∈ S ∧ v ∈ nearL m es u ∧ oth m es S u v = [] := by
  unfold slidesP stepsL
  rw [List.mem_filter, List.mem_flatMap, decide_eq_true_eq]
  constructor
  · rintro ⟨⟨a, ha, hb⟩, h⟩
    obtain ⟨b, hb, e⟩ := List.mem_map.mp hb
    cases e
    exact ⟨ha, hb, h⟩
  · rintro ⟨h1, h2, h3⟩
    exact ⟨⟨u, h1, List.mem_map.mpr ⟨v, h2, rfl⟩⟩, h3⟩
theorem ascP_steps (m : Nat) (es : List (Int × Int)) : ∀ {T : List Int}, Asc T → AscP (stepsL m es T)
  | [], _ => .nil
  | u :: T, h => by
    have h' := List.pairwise_cons.mp h
    unfold stepsL
    rw [List.flatMap_cons]
    refine List.pairwise_append.mpr ⟨?_, ascP_steps m es h'.2, ?_⟩
    · rw [List.pairwise_map]
      exact (nearL_asc m es u).imp fun h => .inr ⟨rfl, h⟩
    · intro a ha b hb
      obtain ⟨v, _, rfl⟩ := List.mem_map.mp ha
      obtain ⟨z, hz, hb⟩ := List.mem_flatMap.mp hb
      obtain ⟨y, _, rfl⟩ := List.mem_map.mp hb
      exact .inl (h'.1 z hz)
theorem ascP_slides {m : Nat} {es : List (Int × Int)} {S : List Int} (h : Asc S) : AscP (slidesP m es S) := (ascP_steps m es h).filter _
theorem nearL_len (m : Nat) (es : List (Int × Int)) (v : Int) : (nearL m es v).length ≤ m := by
  have := List.length_filter_le (fun o => decide (ordP o v ∈ es)) (rng m)
  rw [rng_length] at this
  exact this
theorem asc_len {m : Nat} : ∀ {S : List Int} {lo : Nat}, Asc S → (∀ v ∈ S, (lo : Int) ≤ v ∧ v < m) → S.length ≤ m - lo
  | [], _, _, _ => Nat.zero_le _
  | v :: S, lo, h, b => by
    have h' := List.pairwise_cons.mp h
    have hv := b v List.mem_cons_self
    have := asc_len (m := m) (lo := v.toNat + 1) h'.2 fun z hz => ⟨by have := h'.1 z hz; omega, (b z (List.mem_cons_of_mem _ hz)).2⟩
    rw [List.length_cons]
    omega
theorem IsSet.len {m : Nat} {es : List (Int × Int)} {S : List Int} (h : IsSet m es S) : S.length ≤ m := by
  have := asc_len (lo := 0) h.asc fun v hv => by have := h.rng v hv; omega
  omega
theorem steps_len (m : Nat) (es : List (Int × Int)) : ∀ T : List Int, (stepsL m es T).length ≤ T.length * m
  | [] => by simp [stepsL]
  | u :: T => by
    have ih := steps_len m es T
    unfold stepsL at ih ⊢
    rw [List.flatMap_cons, List.length_append, List.length_map, List.length_cons, Nat.add_mul, Nat.one_mul]
    have := nearL_len m es u
    omega
/-! ### the setting behind a slide -/
theorem move_perm {u v : Int} : ∀ {S : List Int}, S.Nodup → u ∈ S → (S.map fun l => if l = u then v else l).Perm (S.filter (fun l => !decide (l = u)) ++ [v])
  | [], _, h => nomatch h
  | a :: S, nd, h => by
    have nd' := List.nodup_cons.mp nd
    by_cases e : a = u
    · subst e
      rw [List.map_cons, if_pos rfl, List.filter_cons_of_neg (by simp)]
      have e1 : S.map (fun l => if l = a then v else l) = S := by
        have q : S.map (fun l => if l = a then v else l) = S.map id :=
          List.map_congr_left fun l hl => if_neg fun z => nd'.1 (by rw [← z]; exact hl)
        rw [q, List.map_id]
      have e2 : S.filter (fun l => !decide (l = a)) = S := List.filter_eq_self.mpr fun l hl => by
        have : l ≠ a := fun z => nd'.1 (z ▸ hl)
        simp [this]
      rw [e1, e2]
      exact (List.perm_append_singleton v S).symm
    · rw [List.map_cons, if_neg e, List.filter_cons_of_pos (by simp [e]), List.cons_append]
      exact List.Perm.cons a (move_perm nd'.2 ((List.mem_cons.mp h).resolve_left fun z => e z.symm))
def after (S : List Int) (u v : Int) : List Int := srtI (S.filter (fun l => !decide (l = u)) ++ [v])
theorem after_eq {S : List Int} {u v : Int} (nd : S.Nodup) (h : u ∈ S) : srtI (S.map fun l => if l = u then v else l) = after S u v := srtI_congr (move_perm nd h)
theorem IsFor.loop {m : Nat} {es : List (Int × Int)} (f : IsFor m es) (v : Int) : ordP v v ∉ es := fun h => by
  have := f.rng _ h
  unfold ordP at this
  rw [if_pos (Int.le_refl _)] at this
  simp only at this
  omega
theorem mem_after {S : List Int} {u v z : Int} : z ∈ after S u v ↔ (z ∈ S ∧ z ≠ u) ∨ z = v := by
  unfold after
  rw [mem_srtI, List.mem_append, List.mem_filter, List.mem_singleton, Bool.not_eq_true', decide_eq_false_iff_not]
theorem IsSet.after {m : Nat} {es : List (Int × Int)} {S : List Int} {u v : Int} (f : IsFor m es) (h : IsSet m es S) (hu : u ∈ S) (hv : v ∈ nearL m es u) (ho : oth m es S u v = []) :
    IsSet m es (after S u v) := by
  obtain ⟨rv, av⟩ := mem_nearL.mp hv
  have nv : v ∉ S := fun z => h.free v z u hu av
  have key : ∀ a ∈ S, a ≠ u → ordP a v ∉ es := fun a ha hne hin => by
    have : a ∈ oth m es S u v := mem_oth.mpr ⟨mem_nearL.mpr ⟨h.rng a ha, hin⟩, ha, hne⟩
    rw [ho] at this
    cases this
  refine ⟨srtI_asc ?_, fun z hz => ?_, fun a ha b hb => ?_⟩
  · refine List.nodup_append.mpr ⟨h.asc.nodup.filter _, List.pairwise_singleton _ _, fun a ha b hb e => ?_⟩
    rw [List.mem_singleton.mp hb] at e
    subst e
    exact nv (List.mem_filter.mp ha).1
  · rcases mem_after.mp hz with ⟨h1, _⟩ | rfl
    · exact h.rng z h1
    · exact rv
  · rcases mem_after.mp ha with ⟨h1, h2⟩ | rfl
    · rcases mem_after.mp hb with ⟨h3, h4⟩ | rfl
      · exact h.free a h1 b h3
      · exact key a h1 h2
    · rcases mem_after.mp hb with ⟨h3, h4⟩ | rfl
      · rw [ordP_comm]
        exact key b h3 h4
      · exact f.loop b
end TL
namespace TL
open PySem PySem.Spec PyProof.Rows L2
theorem Sm.ints {ns : List Int} {m : Nat} (h : ∀ v ∈ ns, sm v) (hm : ns.length ≤ m) : Sm (intsD ns) (m * 11) 1 :=
  Sm.tup (n := 10) (k := 0) (m := m) (fun d hd => by
    obtain ⟨p, hp, rfl⟩ := List.mem_map.mp hd
    exact Sm.int (h p hp)) (by rw [List.length_map]; exact hm)
theorem IsSet.shows {m : Nat} {es : List (Int × Int)} {S : List Int} (h : IsSet m es S) (hm : m ≤ 12) : Sm (intsD S) 132 1 :=
  Sm.ints (m := 12) (fun v hv => by have := h.rng v hv; unfold sm; omega) (by have := h.len; omega)
theorem IsFor.shows {m : Nat} {es : List (Int × Int)} (h : IsFor m es) (hm : m ≤ 12) : Sm (forD m es) 600 3 := by
  have h1 : Sm (prsD es) (12 * 23) 2 := Sm.prs (fun p hp => by have := h.rng p hp; unfold smP sm; omega) (by have := h.count; omega)
  have h2 : Sm (.int (m : Int)) (12 * 23) 2 := (Sm.int (by unfold sm; omega)).le (by decide) (by decide)
  refine (Sm.tup (n := 12 * 23) (k := 2) (m := 2) (fun d hd => ?_) (Nat.le_refl _)).le (by decide) (by decide)
  rcases List.mem_cons.mp hd with rfl | hd
  · exact h2
  · obtain rfl := List.mem_singleton.mp hd
    exact h1
theorem slides_small {m : Nat} {es : List (Int × Int)} {S : List Int} (h : IsSet m es S) (hm : m ≤ 12) : ∀ p ∈ slidesP m es S, smP p := by
  rintro ⟨u, v⟩ hp
  obtain ⟨h1, h2, _⟩ := mem_slidesP.mp hp
  have a := h.rng u h1
  have b := (mem_nearL.mp h2).1
  unfold smP sm
  exact ⟨⟨by show (-1000 : Int) ≤ u; omega, by show u ≤ 1000; omega⟩, by show (-1000 : Int) ≤ v; omega, by show v ≤ 1000; omega⟩
theorem slides_len {m : Nat} {es : List (Int × Int)} {S : List Int} (h : IsSet m es S) (hm : m ≤ 12) : (slidesP m es S).length ≤ 144 := by
  have h1 := List.length_filter_le (fun p => decide (oth m es S p.1 p.2 = [])) (stepsL m es S)
  have h2 := steps_len m es S
  have h3 : S.length * m ≤ 12 * 12 := Nat.mul_le_mul (by have := h.len; omega) hm
  unfold slidesP
  omega
theorem Sm.two {d e : PyData} {n k : Nat} (h1 : Sm d n k) (h2 : Sm e n k) : Sm (.list [d, e]) (2 * (n + 1)) (k + 1) :=
  Sm.lst (m := 2) (fun z hz => by
    rcases List.mem_cons.mp hz with rfl | hz
    · exact h1
    · obtain rfl := List.mem_singleton.mp hz
      exact h2) (Nat.le_refl _)
theorem show2 {m : Nat} {es : List (Int × Int)} {S : List Int} (f : IsFor m es) (h : IsSet m es S) (hm : m ≤ 12) : Shows (.list [forD m es, intsD S]) :=
  (Sm.two (f.shows hm) ((h.shows hm).le (by decide) (by decide))).shows (by decide) (by decide)
end TL
namespace TL
/-! ### slides one after another -/
def walk (m : Nat) (es : List (Int × Int)) : List Int → List (Int × Int) → Option (List Int)
  | S, [] => some S
  | S, p :: ps => if p ∈ slidesP m es S then walk m es (after S p.1 p.2) ps else none
theorem walk_cons {m : Nat} {es : List (Int × Int)} {S T : List Int} {p : Int × Int} {ps : List (Int × Int)} (h : walk m es S (p :: ps) = some T) :
    p ∈ slidesP m es S ∧ walk m es (after S p.1 p.2) ps = some T := by
  unfold walk at h
  split at h
  · rename_i h1
    exact ⟨h1, h⟩
  · cases h
theorem IsSet.slide {m : Nat} {es : List (Int × Int)} {S : List Int} {p : Int × Int} (f : IsFor m es) (h : IsSet m es S) (hp : p ∈ slidesP m es S) : IsSet m es (TL.after S p.1 p.2) := by
  obtain ⟨u, v⟩ := p
  obtain ⟨h1, h2, h3⟩ := mem_slidesP.mp hp
  exact IsSet.after f h h1 h2 h3
theorem mem_nearL_comm {m : Nat} {es : List (Int × Int)} (f : IsFor m es) {u v : Int} : v ∈ nearL m es u ↔ u ∈ nearL m es v := by
  rw [mem_nearL, mem_nearL, ordP_comm v u]
  constructor
  · rintro ⟨_, h⟩
    refine ⟨?_, h⟩
    rcases f.mem_ord.mp h with q | q
    · have := f.rng _ q; simp only at this; omega
    · have := f.rng _ q; simp only at this; omega
  · rintro ⟨_, h⟩
    refine ⟨?_, h⟩
    rcases f.mem_ord.mp h with q | q
    · have := f.rng _ q; simp only at this; omega
    · have := f.rng _ q; simp only at this; omega
theorem adj_free {m : Nat} {es : List (Int × Int)} {S : List Int} (h : IsSet m es S) {u v : Int} (hu : u ∈ S) (hv : v ∈ nearL m es u) : v ∉ S :=
  fun z => h.free v z u hu (mem_nearL.mp hv).2
/-- another lamp's slide after a slide -/
theorem slide_other {m : Nat} {es : List (Int × Int)} {S : List Int} (f : IsFor m es) (h : IsSet m es S) {u v u' v' : Int} (p : (u, v) ∈ slidesP m es S) (q : (u', v') ∈ slidesP m es S) (ne : u ≠ u') :
    (u', v') ∈ slidesP m es (after S u v) ↔ v' ∉ nearL m es v := by
  obtain ⟨hu, hv, ho⟩ := mem_slidesP.mp p
  obtain ⟨hu', hv', ho'⟩ := mem_slidesP.mp q
  have nv := adj_free h hu hv
  rw [mem_slidesP]
  constructor
  · rintro ⟨_, _, o⟩ z
    have : v ∈ oth m es (after S u v) u' v' := mem_oth.mpr ⟨(mem_nearL_comm f).mp z, mem_after.mpr (.inr rfl), fun e => nv (e ▸ hu')⟩
    rw [o] at this
    cases this
  · intro z
    refine ⟨mem_after.mpr (.inl ⟨hu', fun e => ne e.symm⟩), hv', ?_⟩
    refine List.eq_nil_iff_forall_not_mem.mpr fun a ha => ?_
    obtain ⟨h1, h2, h3⟩ := mem_oth.mp ha
    rcases mem_after.mp h2 with ⟨h4, h5⟩ | rfl
    · have : a ∈ oth m es S u' v' := mem_oth.mpr ⟨h1, h4, h3⟩
      rw [ho'] at this
      cases this
    · exact z ((mem_nearL_comm f).mp h1)
theorem slide_same {m : Nat} {es : List (Int × Int)} {S : List Int} (f : IsFor m es) (h : IsSet m es S) {u v v' : Int} (p : (u, v) ∈ slidesP m es S) : (u, v') ∉ slidesP m es (after S u v) := by
  obtain ⟨hu, hv, ho⟩ := mem_slidesP.mp p
  have nv := adj_free h hu hv
  intro z
  rcases mem_after.mp (mem_slidesP.mp z).1 with ⟨_, h2⟩ | h2
  · exact h2 rfl
  · exact nv (h2 ▸ hu)
theorem slide_back {m : Nat} {es : List (Int × Int)} {S : List Int} (f : IsFor m es) (h : IsSet m es S) {u v : Int} (p : (u, v) ∈ slidesP m es S) : (v, u) ∈ slidesP m es (after S u v) := by
  obtain ⟨hu, hv, ho⟩ := mem_slidesP.mp p
  refine mem_slidesP.mpr ⟨mem_after.mpr (.inr rfl), (mem_nearL_comm f).mp hv, ?_⟩
  refine List.eq_nil_iff_forall_not_mem.mpr fun a ha => ?_
  obtain ⟨h1, h2, h3⟩ := mem_oth.mp ha
  rcases mem_after.mp h2 with ⟨h4, h5⟩ | h4
  · exact h.free a h4 u hu (mem_nearL.mp h1).2
  · exact h3 h4
theorem after_comm {m : Nat} {es : List (Int × Int)} {S : List Int} (f : IsFor m es) (h : IsSet m es S) {u v u' v' : Int} (p : (u, v) ∈ slidesP m es S) (q : (u', v') ∈ slidesP m es S) (ne : u ≠ u')
    (ap : v' ∉ nearL m es v) : after (after S u v) u' v' = after (after S u' v') u v := by
  obtain ⟨hu, hv, ho⟩ := mem_slidesP.mp p
  obtain ⟨hu', hv', ho'⟩ := mem_slidesP.mp q
  have nv := adj_free h hu hv
  have nv' := adj_free h hu' hv'
  have s1 := IsSet.slide f (IsSet.slide f h p) ((slide_other f h p q ne).mpr ap)
  have ap' : v ∉ nearL m es v' := fun z => ap ((mem_nearL_comm f).mp z)
  have s2 := IsSet.slide f (IsSet.slide f h q) ((slide_other f h q p (Ne.symm ne)).mpr ap')
  refine asc_ext s1.asc s2.asc fun z => ?_
  have e1 : v ≠ u' := fun e => nv (e ▸ hu')
  have e2 : v' ≠ u := fun e => nv' (e ▸ hu)
  rw [mem_after, mem_after, mem_after, mem_after]
  constructor
  · rintro (⟨⟨a, b⟩ | a, c⟩ | a)
    · exact .inl ⟨.inl ⟨a, c⟩, b⟩
    · exact .inr a
    · exact .inl ⟨.inr a, by rw [a]; exact e2⟩
  · rintro (⟨⟨a, b⟩ | a, c⟩ | a)
    · exact .inl ⟨.inl ⟨a, c⟩, b⟩
    · exact .inr a
    · exact .inl ⟨.inr a, by rw [a]; exact e1⟩
theorem walk_two {m : Nat} {es : List (Int × Int)} {S : List Int} (f : IsFor m es) (h : IsSet m es S) {p q : Int × Int} (hp : p ∈ slidesP m es S) (hq : q ∈ slidesP m es S) (ne : p.1 ≠ q.1)
    (ap : q.2 ∉ nearL m es p.2) : walk m es S [p, q] = some (after (after S p.1 p.2) q.1 q.2) := by
  have h2 : q ∈ slidesP m es (after S p.1 p.2) := (slide_other f h (u := p.1) (v := p.2) (u' := q.1) (v' := q.2) hp hq ne).mpr ap
  unfold walk
  rw [if_pos hp]
  unfold walk
  rw [if_pos h2]
  rfl
end TL
namespace TL
/-! ### labels: vertices that edges join have one label -/
inductive Conn (es : List (Int × Int)) : Int → Int → Prop
  | refl (a : Int) : Conn es a a
  | step {a b c : Int} : Conn es a b → ((b, c) ∈ es ∨ (c, b) ∈ es) → Conn es a c
theorem Conn.trans {es : List (Int × Int)} {a b c : Int} (h : Conn es a b) (k : Conn es b c) : Conn es a c := by
  induction k with
  | refl => exact h
  | step _ e ih => exact .step ih e
theorem Conn.symm {es : List (Int × Int)} {a b : Int} (h : Conn es a b) : Conn es b a := by
  induction h with
  | refl => exact .refl _
  | step _ e ih => exact Conn.trans (.step (.refl _) e.symm) ih
theorem Conn.mono {es fs : List (Int × Int)} (s : ∀ p ∈ es, p ∈ fs) {a b : Int} (h : Conn es a b) : Conn fs a b := by
  induction h with
  | refl => exact .refl _
  | step _ e ih => exact .step ih (e.imp (s _) (s _))
def mrg (f : Int → Int) (a b : Int) : Int → Int := fun v => if f v = f a then f b else f v
structure Lab (es : List (Int × Int)) (vs : List Int) (f : Int → Int) : Prop where
  join : ∀ p ∈ es, p.1 ∈ vs → p.2 ∈ vs → f p.1 = f p.2
  conn : ∀ a ∈ vs, ∀ b ∈ vs, f a = f b → Conn (es.filter fun p => decide (p.1 ∈ vs) && decide (p.2 ∈ vs)) a b
theorem Lab.start (vs : List Int) : Lab [] vs id := ⟨(fun _ h => nomatch h), fun a _ b _ e => by
  have e : a = b := e
  rw [e]
  exact .refl _⟩
theorem filt_sub {es : List (Int × Int)} {p : Int × Int} {q : Int × Int → Bool} : ∀ r ∈ es.filter q, r ∈ (es ++ [p]).filter q := fun r hr => by
  rw [List.filter_append]
  exact List.mem_append_left _ hr
theorem Lab.skip {es : List (Int × Int)} {vs : List Int} {f : Int → Int} {p : Int × Int} (h : Lab es vs f) (n : ¬ (p.1 ∈ vs ∧ p.2 ∈ vs)) : Lab (es ++ [p]) vs f where
  join := fun r hr h1 h2 => by
    rcases List.mem_append.mp hr with hr | hr
    · exact h.join r hr h1 h2
    · rw [List.mem_singleton.mp hr] at h1 h2
      exact absurd ⟨h1, h2⟩ n
  conn := fun a ha b hb e => (h.conn a ha b hb e).mono filt_sub
theorem Lab.merge {es : List (Int × Int)} {vs : List Int} {f : Int → Int} {p : Int × Int} (h : Lab es vs f) (h1 : p.1 ∈ vs) (h2 : p.2 ∈ vs) : Lab (es ++ [p]) vs (mrg f p.1 p.2) where
  join := fun r hr k1 k2 => by
    unfold mrg
    rcases List.mem_append.mp hr with hr | hr
    · rw [h.join r hr k1 k2]
    · rw [List.mem_singleton.mp hr, if_pos rfl]
      split <;> rfl
  conn := fun a ha b hb e => by
    have up : ∀ x ∈ vs, ∀ y ∈ vs, f x = f y → Conn ((es ++ [p]).filter fun p => decide (p.1 ∈ vs) && decide (p.2 ∈ vs)) x y := fun x hx y hy q => (h.conn x hx y hy q).mono filt_sub
    have ed : Conn ((es ++ [p]).filter fun p => decide (p.1 ∈ vs) && decide (p.2 ∈ vs)) p.1 p.2 := by
      refine .step (.refl _) (.inl ?_)
      refine List.mem_filter.mpr ⟨List.mem_append_right _ (List.mem_singleton.mpr rfl), ?_⟩
      rw [Bool.and_eq_true, decide_eq_true_eq, decide_eq_true_eq]
      exact ⟨h1, h2⟩
    unfold mrg at e
    by_cases ea : f a = f p.1
    · by_cases eb : f b = f p.1
      · exact up a ha b hb (ea.trans eb.symm)
      · rw [if_pos ea, if_neg eb] at e
        exact ((up a ha _ h1 ea).trans ed).trans (up _ h2 b hb e)
    · by_cases eb : f b = f p.1
      · rw [if_neg ea, if_pos eb] at e
        exact (((up b hb _ h1 eb).trans ed).trans (up _ h2 a ha e.symm)).symm
      · rw [if_neg ea, if_neg eb] at e
        exact up a ha b hb e
/-! ### groups of one label -/
structure Grp (f : Int → Int) (T : List Int) (gs : List (Int × List Int)) : Prop where
  nd : (gs.map (·.1)).Nodup
  is : ∀ g ∈ gs, g.2 = T.filter (fun v => decide (f v = g.1)) ∧ g.2 ≠ []
  all : ∀ v ∈ T, f v ∈ gs.map (·.1)
theorem Grp.start (f : Int → Int) : Grp f [] [] := ⟨.nil, (fun _ h => nomatch h), (fun _ h => nomatch h)⟩
def addG (gs : List (Int × List Int)) (l v : Int) : List (Int × List Int) :=
  if l ∈ gs.map (·.1) then gs.map (fun g => if g.1 = l then (g.1, g.2 ++ [v]) else g) else gs ++ [(l, [v])]
theorem addG_keys_old {gs : List (Int × List Int)} {l v : Int} : (gs.map (fun g => if g.1 = l then (g.1, g.2 ++ [v]) else g)).map (·.1) = gs.map (·.1) := by
  rw [List.map_map]
  refine List.map_congr_left fun g _ => ?_
  show (if g.1 = l then (g.1, g.2 ++ [v]) else g).1 = g.1
  split <;> rfl
theorem Grp.add {f : Int → Int} {T : List Int} {gs : List (Int × List Int)} (h : Grp f T gs) (v : Int) : Grp f (T ++ [v]) (addG gs (f v) v) := by
  unfold addG
  by_cases hin : f v ∈ gs.map (·.1)
  · rw [if_pos hin]
    refine ⟨by rw [addG_keys_old]; exact h.nd, fun g hg => ?_, fun u hu => ?_⟩
    · obtain ⟨g0, hg0, rfl⟩ := List.mem_map.mp hg
      obtain ⟨i1, i2⟩ := h.is g0 hg0
      by_cases e : g0.1 = f v
      · rw [if_pos e]
        refine ⟨?_, by simp⟩
        show g0.2 ++ [v] = _
        rw [List.filter_append, ← i1, List.filter_cons_of_pos (by simp [e])]
        rfl
      · rw [if_neg e]
        refine ⟨?_, i2⟩
        rw [List.filter_append, ← i1, List.filter_cons_of_neg (by simp; exact fun z => e z.symm), List.filter_nil, List.append_nil]
    · rw [addG_keys_old]
      rcases List.mem_append.mp hu with hu | hu
      · exact h.all u hu
      · rw [List.mem_singleton.mp hu]
        exact hin
  · rw [if_neg hin]
    have none : T.filter (fun u => decide (f u = f v)) = [] := List.filter_eq_nil_iff.mpr fun u hu z => hin (by
      rw [← of_decide_eq_true z]
      exact h.all u hu)
    refine ⟨?_, fun g hg => ?_, fun u hu => ?_⟩
    · rw [List.map_append]
      refine List.nodup_append.mpr ⟨h.nd, List.pairwise_singleton _ _, fun a ha b hb e => ?_⟩
      rw [List.mem_singleton.mp hb] at e
      have e : a = f v := e
      rw [e] at ha
      exact hin ha
    · rcases List.mem_append.mp hg with hg | hg
      · obtain ⟨i1, i2⟩ := h.is g hg
        refine ⟨?_, i2⟩
        have : ¬ f v = g.1 := fun z => hin (by rw [z]; exact List.mem_map.mpr ⟨g, hg, rfl⟩)
        rw [List.filter_append, ← i1, List.filter_cons_of_neg (by simp [this]), List.filter_nil, List.append_nil]
      · rw [List.mem_singleton.mp hg]
        refine ⟨?_, by simp⟩
        rw [List.filter_append, none, List.nil_append, List.filter_cons_of_pos (by simp)]
        rfl
    · rw [List.map_append]
      rcases List.mem_append.mp hu with hu | hu
      · exact List.mem_append_left _ (h.all u hu)
      · rw [List.mem_singleton.mp hu]
        exact List.mem_append_right _ (List.mem_singleton.mpr rfl)
theorem Grp.len {f : Int → Int} {T : List Int} {gs : List (Int × List Int)} (h : Grp f T gs) : gs.length ≤ T.length := by
  have key : ∀ (l : List Int), l.Nodup → (∀ x ∈ l, x ∈ T.map f) → l.length ≤ T.length := by
    intro l nd sub
    have := nd.length_le_of_subset sub
    rw [List.length_map] at this
    exact this
  have := key (gs.map (·.1)) h.nd fun x hx => by
    obtain ⟨g, hg, rfl⟩ := List.mem_map.mp hx
    obtain ⟨i1, i2⟩ := h.is g hg
    obtain ⟨u, hu⟩ := List.exists_mem_of_ne_nil _ i2
    rw [i1] at hu
    obtain ⟨a, b⟩ := List.mem_filter.mp hu
    exact List.mem_map.mpr ⟨u, a, of_decide_eq_true b⟩
  rw [List.length_map] at this
  exact this
end TL
namespace TL
open PySem PySem.Spec L2
/-! ### walks and the way back -/
def run (S : List Int) (ps : List (Int × Int)) : List Int := ps.foldl (fun S p => after S p.1 p.2) S
theorem run_snoc (S : List Int) (ps : List (Int × Int)) (p : Int × Int) : run S (ps ++ [p]) = after (run S ps) p.1 p.2 := by
  unfold run
  rw [List.foldl_append]
  rfl
theorem walk_run {m : Nat} {es : List (Int × Int)} : ∀ {ps : List (Int × Int)} {S T : List Int}, walk m es S ps = some T → T = run S ps
  | [], S, T, h => by cases h; rfl
  | p :: ps, S, T, h => by
    obtain ⟨_, h2⟩ := walk_cons h
    exact (walk_run h2 : T = run (after S p.1 p.2) ps)
theorem walk_push {m : Nat} {es : List (Int × Int)} {S : List Int} {p : Int × Int} {ps : List (Int × Int)} (h : p ∈ slidesP m es S) : walk m es S (p :: ps) = walk m es (after S p.1 p.2) ps := by
  show (if p ∈ slidesP m es S then _ else _) = _
  rw [if_pos h]
theorem walk_app {m : Nat} {es : List (Int × Int)} {qs : List (Int × Int)} : ∀ {ps : List (Int × Int)} {S T : List Int}, walk m es S ps = some T → walk m es S (ps ++ qs) = walk m es T qs
  | [], S, T, h => by cases h; rfl
  | p :: ps, S, T, h => by
    obtain ⟨h1, h2⟩ := walk_cons h
    rw [List.cons_append, walk_push h1]
    exact walk_app h2
theorem walk_some {m : Nat} {es : List (Int × Int)} {qs : List (Int × Int)} : ∀ {ps : List (Int × Int)} {S T : List Int}, walk m es S (ps ++ qs) = some T → walk m es S ps = some (run S ps) ∧ walk m es (run S ps) qs = some T
  | [], S, T, h => ⟨rfl, h⟩
  | p :: ps, S, T, h => by
    rw [List.cons_append] at h
    obtain ⟨h1, h2⟩ := walk_cons h
    rw [walk_push h1]
    exact walk_some h2
theorem walk_cut {m : Nat} {es : List (Int × Int)} {ps : List (Int × Int)} {S T : List Int} (n : Nat) (h : walk m es S ps = some T) : walk m es S (ps.take n) = some (run S (ps.take n)) ∧ walk m es (run S (ps.take n)) (ps.drop n) = some T := by
  rw [← List.take_append_drop n ps] at h
  exact walk_some h
theorem walk_set {m : Nat} {es : List (Int × Int)} (f : IsFor m es) : ∀ {ps : List (Int × Int)} {S T : List Int}, IsSet m es S → walk m es S ps = some T → IsSet m es T
  | [], S, T, i, h => by cases h; exact i
  | p :: ps, S, T, i, h => by
    obtain ⟨h1, h2⟩ := walk_cons h
    exact walk_set f (IsSet.slide f i h1) h2
theorem after_back {m : Nat} {es : List (Int × Int)} {S : List Int} (f : IsFor m es) (h : IsSet m es S) {u v : Int} (p : (u, v) ∈ slidesP m es S) : after (after S u v) v u = S := by
  obtain ⟨hu, hv, ho⟩ := mem_slidesP.mp p
  have nv := adj_free h hu hv
  have s1 := IsSet.slide f (IsSet.slide f h p) (slide_back f h p)
  refine asc_ext s1.asc h.asc fun z => ?_
  show z ∈ after (after S u v) v u ↔ _
  rw [mem_after, mem_after]
  constructor
  · rintro (⟨⟨a, b⟩ | a, c⟩ | a)
    · exact a
    · exact absurd a c
    · rw [a]; exact hu
  · intro hz
    by_cases e : z = u
    · exact .inr e
    · exact .inl ⟨.inl ⟨hz, e⟩, fun y => nv (y ▸ hz)⟩
def bk (ps : List (Int × Int)) : List (Int × Int) := (ps.map fun p => (p.2, p.1)).reverse
theorem bk_length (ps : List (Int × Int)) : (bk ps).length = ps.length := by
  unfold bk
  rw [List.length_reverse, List.length_map]
theorem walk_bk {m : Nat} {es : List (Int × Int)} (f : IsFor m es) : ∀ {ps : List (Int × Int)} {S T : List Int}, IsSet m es S → walk m es S ps = some T → walk m es T (bk ps) = some S
  | [], S, T, i, h => by cases h; rfl
  | p :: ps, S, T, i, h => by
    obtain ⟨h1, h2⟩ := walk_cons h
    have h3 := walk_bk f (IsSet.slide f i h1) h2
    have e : bk (p :: ps) = bk ps ++ [(p.2, p.1)] := by
      unfold bk
      rw [List.map_cons, List.reverse_cons]
    rw [e, walk_app h3, walk_push (slide_back f i (u := p.1) (v := p.2) h1)]
    show some (after (after S p.1 p.2) p.2 p.1) = _
    rw [after_back f i (u := p.1) (v := p.2) h1]
/-! ### the settings on the way -/
def sts (S : List Int) (ps : List (Int × Int)) : List (List Int) := (List.range (ps.length + 1)).map fun i => run S (ps.take i)
theorem sts_nil (S : List Int) : sts S [] = [S] := rfl
theorem sts_len (S : List Int) (ps : List (Int × Int)) : (sts S ps).length = ps.length + 1 := by
  unfold sts
  rw [List.length_map, List.length_range]
theorem sts_snoc (S : List Int) (ps : List (Int × Int)) (p : Int × Int) : sts S (ps ++ [p]) = sts S ps ++ [run S (ps ++ [p])] := by
  unfold sts
  rw [List.length_append, List.length_singleton, List.range_succ, List.map_append, List.map_singleton, List.take_of_length_le (l := ps ++ [p]) (by rw [List.length_append]; exact Nat.le_refl _)]
  congr 1
  refine List.map_congr_left fun i hi => ?_
  have := List.mem_range.mp hi
  rw [List.take_append_of_le_length (by omega)]
theorem sts_get {S : List Int} {ps : List (Int × Int)} {i : Nat} (h : i ≤ ps.length) : (sts S ps)[i]? = some (run S (ps.take i)) := by
  unfold sts
  rw [List.getElem?_map, List.getElem?_range (by omega)]
  rfl
theorem mem_sts {S R : List Int} {ps : List (Int × Int)} (h : R ∈ sts S ps) : ∃ i, i ≤ ps.length ∧ R = run S (ps.take i) := by
  unfold sts at h
  obtain ⟨i, hi, rfl⟩ := List.mem_map.mp h
  have := List.mem_range.mp hi
  exact ⟨i, by omega, rfl⟩
/-! ### lamps counted -/
def cnt (bs : List (List Int)) (S : List Int) : List Int := bs.map fun b => (((S.filter fun l => decide (l ∈ b)).length : Nat) : Int)
theorem cnt_slide {m : Nat} {es : List (Int × Int)} {f : Int → Int} {gs : List (Int × List Int)} {S : List Int} {u v : Int} {bs : List (List Int)} (isf : IsFor m es) (iss : IsSet m es S) (lab : Lab es (rng m) f) (gr : Grp f (rng m) gs)
    (hb : ∀ b ∈ bs, b ∈ gs.map (·.2)) (p : (u, v) ∈ slidesP m es S) : cnt bs (after S u v) = cnt bs S := by
  obtain ⟨hu, hv, ho⟩ := mem_slidesP.mp p
  obtain ⟨rv, av⟩ := mem_nearL.mp hv
  have ru := iss.rng u hu
  have mu : u ∈ rng m := mem_rng.mpr ru
  have mv : v ∈ rng m := mem_rng.mpr rv
  have e : f u = f v := by
    unfold ordP at av
    split at av
    · exact (lab.join _ av mv mu).symm
    · exact lab.join _ av mu mv
  unfold cnt
  refine List.map_congr_left fun b hb0 => ?_
  obtain ⟨g, hg, rfl⟩ := List.mem_map.mp (hb b hb0)
  have key : ∀ x, x ∈ g.2 ↔ x ∈ rng m ∧ f x = g.1 := fun x => by
    rw [(gr.is g hg).1, List.mem_filter, decide_eq_true_eq]
  have uv : u ∈ g.2 ↔ v ∈ g.2 := by
    rw [key, key, e]
    exact ⟨fun z => ⟨mv, z.2⟩, fun z => ⟨mu, z.2⟩⟩
  have h1 : (after S u v).Perm (S.map fun l => if l = u then v else l) := (srtI_perm _).trans (move_perm iss.asc.nodup hu).symm
  rw [(h1.filter _).length_eq, List.filter_map, List.length_map]
  congr 2
  refine List.filter_congr fun l _ => ?_
  show decide ((if l = u then v else l) ∈ g.2) = _
  split
  · rename_i h
    rw [h]
    exact decide_eq_decide.mpr uv.symm
  · rfl
theorem cnt_walk {m : Nat} {es : List (Int × Int)} {f : Int → Int} {gs : List (Int × List Int)} {bs : List (List Int)} (isf : IsFor m es) (lab : Lab es (rng m) f) (gr : Grp f (rng m) gs)
    (hb : ∀ b ∈ bs, b ∈ gs.map (·.2)) : ∀ {ps : List (Int × Int)} {S T : List Int}, IsSet m es S → walk m es S ps = some T → cnt bs T = cnt bs S
  | [], S, T, i, h => by cases h; rfl
  | p :: ps, S, T, i, h => by
    obtain ⟨h1, h2⟩ := walk_cons h
    rw [cnt_walk isf lab gr hb (IsSet.slide isf i h1) h2]
    exact cnt_slide isf i lab gr hb (u := p.1) (v := p.2) h1
/-! ### a comprehension within another -/
def env0 (sc : Scope) : Env := { scope := sc, locals := 0, globals := 0, cells := [], qual := "", func := none, code := .none, frame := default, builtins := default }
theorem blkOk_in {N : List Str} {scope0 scope : Scope} {own : List (Str × Nat)} {env : Env} {cl : List (Str × Addr)} {C : Addr} (sc : Scope) (e : env.scope = sc) (h : blkC N (relabel scope0 (env0 sc)) scope own = true) :
    BlkOk N (compEnvC scope0 cl C env).scope scope own := by
  subst e
  exact blkOk_by h
/-! ### comprehensions over lists and tuples of data -/
theorem zip_filter {α β γ : Type} {xs : List α} {bs : List β} (h : xs.length = bs.length) (p : β → Bool) (d : β → γ) : ((xs.zip bs).filter (fun q => p q.2)).map (fun q => d q.2) = (bs.filter p).map d := by
  have e : (xs.zip bs).map Prod.snd = bs := List.map_snd_zip (by omega)
  conv => rhs; rw [← e, List.filter_map, List.map_map]
  rfl
section
variable {K : PySem.W.Frag} {tt : TT} {te : TE} {vs : List Nat} {σ : L2.St} {H1 : Hp} {D : Addr} {Qd : Hp → Prop}
theorem lc_listD {a : Addr} {xs : List V} {β : Type} {bs : List β} {e : β → PyData} {i : Nat} (p : β → Bool) (d : β → PyData) (nD : H1 D = none) (hS : SqL K H1 a xs) (hA : DpAll K H1 xs (bs.map e))
    (hw : ∀ v, wipe ((wipe σ vs).set i (some v)) vs = wipe σ vs)
    (ht : ∀ x b, b ∈ bs → Dp K H1 x (e b) → ∀ H' (Q : Bool → Hp → Prop), Same H1 H' → (∀ H2, Same H' H2 → Q (p b) H2) → tt ((wipe σ vs).set i (some x)) H' Q)
    (he : ∀ x b, b ∈ bs → p b = true → Dp K H1 x (e b) → ∀ H' (Q : VK), Same H1 H' → (∀ H2 y, Same H' H2 → Dp K H2 y (d b) → Q y H2) → te ((wipe σ vs).set i (some x)) H' Q)
    (ho : ∀ o, only (d o) = true) (hl : bs.length ≤ 1000)
    (hd : ∀ H' ys, Same H1 H' → H' D = some (.lst ys) → DpAll K H' ys ((bs.filter p).map d) → Qd H') : LcGoal (Itl K a) (gName i) tt te vs σ H1 D Qd := by
  have xl : xs.length = bs.length := by rw [DpAll.length hA, List.length_map]
  have mem : ∀ q ∈ xs.zip bs, q.2 ∈ bs ∧ Dp K H1 q.1 (e q.2) := fun q hq => by
    obtain ⟨k, hk⟩ := List.getElem?_of_mem hq
    obtain ⟨h1, h2⟩ := List.getElem?_zip_eq_some.mp hk
    obtain ⟨z, hz, dz⟩ := DpAll.get hA h1
    rw [List.getElem?_map, h2] at hz
    cases hz
    exact ⟨List.mem_of_getElem? h2, dz⟩
  have zl : (xs.zip bs).length = xs.length := by rw [List.length_zip]; omega
  refine lc_gen (K := K) (xs.zip bs) (fun q => (wipe σ vs).set i (some q.1)) (fun q => p q.2) (fun q => d q.2) nD (fun j H' hj s => ⟨_, _, s.seq hS, List.getElem?_eq_getElem (by omega)⟩)
    (fun H' s => ⟨_, s.seq hS, by omega⟩) (fun j b x H' H'' hb s y => ?_) (fun b => hw _) (fun b hb H' Q s hQ => ht _ _ (mem b hb).1 (mem b hb).2 H' Q s hQ) (fun b hb hp H' Q s hQ => he _ _ (mem b hb).1 hp (mem b hb).2 H' Q s hQ) (fun o => ho _) (by omega)
    (fun H' ys s eD dy => hd H' ys s eD ?_)
  · obtain ⟨e1, hy⟩ := y
    have h1 := hy _ (s.seq hS)
    obtain ⟨h2, h3⟩ := List.getElem?_zip_eq_some.mp hb
    rw [h2] at h1
    cases h1
    exact ⟨e1, fun Q q => q⟩
  · rw [zip_filter xl] at dy
    exact dy
theorem lc_tupD {a : Addr} {xs : List V} {β : Type} {bs : List β} {e : β → PyData} {i : Nat} (p : β → Bool) (d : β → PyData) (nD : H1 D = none) (hS : SqT K H1 a xs) (hA : DpAll K H1 xs (bs.map e))
    (hw : ∀ v, wipe ((wipe σ vs).set i (some v)) vs = wipe σ vs)
    (ht : ∀ x b, b ∈ bs → Dp K H1 x (e b) → ∀ H' (Q : Bool → Hp → Prop), Same H1 H' → (∀ H2, Same H' H2 → Q (p b) H2) → tt ((wipe σ vs).set i (some x)) H' Q)
    (he : ∀ x b, b ∈ bs → p b = true → Dp K H1 x (e b) → ∀ H' (Q : VK), Same H1 H' → (∀ H2 y, Same H' H2 → Dp K H2 y (d b) → Q y H2) → te ((wipe σ vs).set i (some x)) H' Q)
    (ho : ∀ o, only (d o) = true) (hl : bs.length ≤ 1000)
    (hd : ∀ H' ys, Same H1 H' → H' D = some (.lst ys) → DpAll K H' ys ((bs.filter p).map d) → Qd H') : LcGoal (Itt K a) (gName i) tt te vs σ H1 D Qd := by
  have xl : xs.length = bs.length := by rw [DpAll.length hA, List.length_map]
  have mem : ∀ q ∈ xs.zip bs, q.2 ∈ bs ∧ Dp K H1 q.1 (e q.2) := fun q hq => by
    obtain ⟨k, hk⟩ := List.getElem?_of_mem hq
    obtain ⟨h1, h2⟩ := List.getElem?_zip_eq_some.mp hk
    obtain ⟨z, hz, dz⟩ := DpAll.get hA h1
    rw [List.getElem?_map, h2] at hz
    cases hz
    exact ⟨List.mem_of_getElem? h2, dz⟩
  have zl : (xs.zip bs).length = xs.length := by rw [List.length_zip]; omega
  refine lc_gen (K := K) (xs.zip bs) (fun q => (wipe σ vs).set i (some q.1)) (fun q => p q.2) (fun q => d q.2) nD (fun j H' hj s => ⟨_, _, Same.tup s hS, List.getElem?_eq_getElem (by omega)⟩)
    (fun H' s => ⟨_, Same.tup s hS, by omega⟩) (fun j b x H' H'' hb s y => ?_) (fun b => hw _) (fun b hb H' Q s hQ => ht _ _ (mem b hb).1 (mem b hb).2 H' Q s hQ) (fun b hb hp H' Q s hQ => he _ _ (mem b hb).1 hp (mem b hb).2 H' Q s hQ) (fun o => ho _) (by omega)
    (fun H' ys s eD dy => hd H' ys s eD ?_)
  · obtain ⟨e1, hy⟩ := y
    have h1 := hy _ (Same.tup s hS)
    obtain ⟨h2, h3⟩ := List.getElem?_zip_eq_some.mp hb
    rw [h2] at h1
    cases h1
    exact ⟨e1, fun Q q => q⟩
  · rw [zip_filter xl] at dy
    exact dy
end
end TL
namespace TL
open PySem PySem.Spec L2
/-! ### vertices joined by edges, found pass by pass -/
def stp (f : List Int) (p : Int × Int) : List Int := if decide (p.1 ∈ f) = decide (p.2 ∈ f) then f else f ++ [if p.1 ∈ f then p.2 else p.1]
def pas (E : List (Int × Int)) (f : List Int) : List Int := E.foldl stp f
def passes (E : List (Int × Int)) (v : Int) : Nat → List Int
  | 0 => [v]
  | n + 1 => pas E (passes E v n)
theorem filt_le {α : Type} {P Q : α → Bool} (h : ∀ x, P x = true → Q x = true) : ∀ l : List α, (l.filter P).length ≤ (l.filter Q).length
  | [] => Nat.le_refl _
  | a :: l => by
    have ih := filt_le h l
    rw [List.filter_cons, List.filter_cons]
    by_cases hp : P a = true
    · rw [if_pos hp, if_pos (h a hp), List.length_cons, List.length_cons]
      omega
    · rw [if_neg hp]
      split
      · rw [List.length_cons]
        omega
      · exact ih
theorem filt_lt {α : Type} {P Q : α → Bool} (h : ∀ x, P x = true → Q x = true) : ∀ {l : List α} {a : α}, a ∈ l → P a = false → Q a = true → (l.filter P).length < (l.filter Q).length
  | b :: l, a, ha, hp, hq => by
    rw [List.filter_cons, List.filter_cons]
    rcases List.mem_cons.mp ha with e | ha
    · rw [← e, if_neg (by rw [hp]; decide), if_pos hq, List.length_cons]
      have := filt_le h l
      omega
    · have ih := filt_lt h ha hp hq
      by_cases hb : P b = true
      · rw [if_pos hb, if_pos (h b hb), List.length_cons, List.length_cons]
        omega
      · rw [if_neg hb]
        split
        · rw [List.length_cons]
          omega
        · exact ih
def inn (f : List Int) (p : Int × Int) : Bool := decide (p.1 ∈ f) && decide (p.2 ∈ f)
structure Jn (E : List (Int × Int)) (v : Int) (f : List Int) : Prop where
  nd : f.Nodup
  has : v ∈ f
  conn : ∀ x ∈ f, Conn E v x
  cnt : f.length ≤ 1 + (E.filter (inn f)).length
theorem Jn.start (E : List (Int × Int)) (v : Int) : Jn E v [v] where
  nd := List.pairwise_singleton _ _
  has := List.mem_singleton.mpr rfl
  conn := fun x hx => by rw [List.mem_singleton.mp hx]; exact .refl _
  cnt := by rw [List.length_singleton]; omega
theorem Jn.put {E : List (Int × Int)} {v : Int} {f : List Int} {p : Int × Int} {y : Int} (h : Jn E v f) (hp : p ∈ E) (ny : y ∉ f) (cy : Conn E v y) (n : inn f p = false) (m : inn (f ++ [y]) p = true) : Jn E v (f ++ [y]) where
  nd := List.nodup_append.mpr ⟨h.nd, List.pairwise_singleton _ _, fun a ha b hb e => by rw [List.mem_singleton.mp hb] at e; exact ny (e ▸ ha)⟩
  has := List.mem_append_left _ h.has
  conn := fun x hx => (List.mem_append.mp hx).elim (h.conn x) fun z => by rw [List.mem_singleton.mp z]; exact cy
  cnt := by
    have := filt_lt (P := inn f) (Q := inn (f ++ [y])) (fun x hx => by
      unfold inn at hx ⊢
      rw [Bool.and_eq_true, decide_eq_true_eq, decide_eq_true_eq] at hx ⊢
      exact ⟨List.mem_append_left _ hx.1, List.mem_append_left _ hx.2⟩) hp n m
    have := h.cnt
    rw [List.length_append, List.length_singleton]
    omega
theorem Jn.stp {E : List (Int × Int)} {v : Int} {f : List Int} {p : Int × Int} (h : Jn E v f) (hp : p ∈ E) : Jn E v (TL.stp f p) := by
  unfold TL.stp
  split
  · exact h
  · rename_i ne
    by_cases h1 : p.1 ∈ f
    · have h2 : p.2 ∉ f := fun z => ne (by rw [decide_eq_true h1, decide_eq_true z])
      rw [if_pos h1]
      refine h.put hp h2 (.step (h.conn _ h1) (.inl hp)) ?_ ?_
      · unfold inn; rw [decide_eq_false h2, Bool.and_false]
      · unfold inn; rw [decide_eq_true (List.mem_append_left _ h1), decide_eq_true (List.mem_append_right _ (List.mem_singleton.mpr rfl))]; rfl
    · have h2 : p.2 ∈ f := Decidable.byContradiction fun z => ne (by rw [decide_eq_false h1, decide_eq_false z])
      rw [if_neg h1]
      refine h.put hp h1 (.step (h.conn _ h2) (.inr hp)) ?_ ?_
      · unfold inn; rw [decide_eq_false h1, Bool.false_and]
      · unfold inn; rw [decide_eq_true (List.mem_append_left _ h2), decide_eq_true (List.mem_append_right _ (List.mem_singleton.mpr rfl))]; rfl
theorem Jn.fold {E : List (Int × Int)} {v : Int} : ∀ {D : List (Int × Int)} {f : List Int}, (∀ p ∈ D, p ∈ E) → Jn E v f → Jn E v (D.foldl TL.stp f)
  | [], _, _, h => h
  | p :: D, f, s, h => Jn.fold (D := D) (fun q hq => s q (List.mem_cons_of_mem _ hq)) (h.stp (s p List.mem_cons_self))
theorem Jn.passes (E : List (Int × Int)) (v : Int) : ∀ n, Jn E v (TL.passes E v n)
  | 0 => Jn.start E v
  | n + 1 => Jn.fold (fun _ h => h) (Jn.passes E v n)
def Closed (E : List (Int × Int)) (f : List Int) : Prop := ∀ p ∈ E, decide (p.1 ∈ f) = decide (p.2 ∈ f)
theorem fold_grow : ∀ {D : List (Int × Int)} {f : List Int}, (D.foldl TL.stp f = f ∧ Closed D f) ∨ f.length + 1 ≤ (D.foldl TL.stp f).length
  | [], f => .inl ⟨rfl, fun _ h => nomatch h⟩
  | p :: D, f => by
    rw [List.foldl_cons]
    by_cases e : decide (p.1 ∈ f) = decide (p.2 ∈ f)
    · have es : TL.stp f p = f := by unfold TL.stp; rw [if_pos e]
      rw [es]
      rcases fold_grow (D := D) (f := f) with ⟨h1, h2⟩ | h
      · exact .inl ⟨h1, fun q hq => (List.mem_cons.mp hq).elim (fun z => z ▸ e) (h2 q)⟩
      · exact .inr h
    · have es : (TL.stp f p).length = f.length + 1 := by unfold TL.stp; rw [if_neg e, List.length_append, List.length_singleton]
      rcases fold_grow (D := D) (f := TL.stp f p) with ⟨h1, h2⟩ | h
      · rw [h1]
        exact .inr (by omega)
      · exact .inr (by omega)
theorem fold_closed : ∀ {D : List (Int × Int)} {f : List Int}, Closed D f → D.foldl TL.stp f = f
  | [], _, _ => rfl
  | p :: D, f, h => by
    have es : TL.stp f p = f := by unfold TL.stp; rw [if_pos (h p List.mem_cons_self)]
    rw [List.foldl_cons, es]
    exact fold_closed fun q hq => h q (List.mem_cons_of_mem _ hq)
theorem passes_grow (E : List (Int × Int)) (v : Int) : ∀ n, Closed E (passes E v n) ∨ n + 1 ≤ (passes E v n).length
  | 0 => .inr (Nat.le_refl _)
  | n + 1 => by
    rcases passes_grow E v n with h | h
    · left
      show Closed E (pas E (passes E v n))
      unfold pas
      rw [fold_closed h]
      exact h
    · rcases fold_grow (D := E) (f := passes E v n) with ⟨h1, h2⟩ | h3
      · left
        show Closed E (pas E (passes E v n))
        unfold pas
        rw [h1]
        exact h2
      · right
        show _ ≤ (pas E (passes E v n)).length
        unfold pas
        omega
theorem passes_closed (E : List (Int × Int)) (v : Int) : Closed E (passes E v E.length) := by
  rcases passes_grow E v E.length with h | h
  · exact h
  · have c := (Jn.passes E v E.length).cnt
    have l := List.length_filter_le (inn (passes E v E.length)) E
    have e : E.filter (inn (passes E v E.length)) = E := List.filter_sublist.eq_of_length (by omega)
    intro p hp
    rw [← e] at hp
    have h2 := (List.mem_filter.mp hp).2
    unfold inn at h2
    rw [Bool.and_eq_true] at h2
    rw [h2.1, h2.2]
theorem mem_passes (E : List (Int × Int)) (v x : Int) : x ∈ passes E v E.length ↔ Conn E v x := by
  refine ⟨(Jn.passes E v _).conn x, fun h => ?_⟩
  induction h with
  | refl => exact (Jn.passes E v _).has
  | step _ hp ih =>
    rcases hp with hp | hp
    · have := passes_closed E v _ hp
      exact of_decide_eq_true (by rw [← this]; exact decide_eq_true ih)
    · have := passes_closed E v _ hp
      exact of_decide_eq_true (by rw [this]; exact decide_eq_true ih)
/-! ### groups of one label -/
def within (es : List (Int × Int)) (ws : List Int) : List (Int × Int) := es.filter fun p => decide (p.1 ∈ ws) && decide (p.2 ∈ ws)
theorem mem_within {es : List (Int × Int)} {ws : List Int} {p : Int × Int} : p ∈ within es ws ↔ p ∈ es ∧ p.1 ∈ ws ∧ p.2 ∈ ws := by
  unfold within
  rw [List.mem_filter, Bool.and_eq_true, decide_eq_true_eq, decide_eq_true_eq]
theorem conn_lab {es : List (Int × Int)} {ws : List Int} {f : Int → Int} (h : Lab es ws f) {a b : Int} (ha : a ∈ ws) (c : Conn (within es ws) a b) : b ∈ ws ∧ f a = f b := by
  induction c with
  | refl => exact ⟨ha, rfl⟩
  | step _ hp ih =>
    rcases hp with hp | hp
    · obtain ⟨h1, h2, h3⟩ := mem_within.mp hp
      exact ⟨h3, ih.2.trans (h.join _ h1 h2 h3)⟩
    · obtain ⟨h1, h2, h3⟩ := mem_within.mp hp
      exact ⟨h2, ih.2.trans (h.join _ h1 h2 h3).symm⟩
theorem group_eq {es : List (Int × Int)} {ws : List Int} {f : Int → Int} (h : Lab es ws f) (asc : Asc ws) {v : Int} (hv : v ∈ ws) :
    srtI (passes (within es ws) v (within es ws).length) = ws.filter fun u => decide (f u = f v) := by
  refine asc_ext (srtI_asc (Jn.passes _ _ _).nd) (asc.filter _) fun z => ?_
  rw [(srtI_perm _).mem_iff, mem_passes, List.mem_filter, decide_eq_true_eq]
  constructor
  · intro c
    obtain ⟨h1, h2⟩ := conn_lab h hv c
    exact ⟨h1, h2.symm⟩
  · intro hz
    exact h.conn v hv z hz.1 hz.2.symm
end TL
namespace TL
open PySem PySem.Spec PyProof.Rows L2
section
variable {X : Cx}
/-- name = {..} on one line, the name a local -/
theorem ps_setDc {i : Nat} {y : Str} {py : Pos} {kx vx tg iter : Expr} {ifs : List Expr} {scope : Scope} {own : List (Str × Nat)} {pos spos : Pos}
    {wi : TI} {g : TG} {tt : TT} {tk tv : TE} (hc : X.calm = true) (hN : X.N.Nodup) (hy : X.N[i]? = some y) (hyl : X.env.scope.names.lookup y = some .local)
    (hsw : swapsWith (.DictComp kx vx [⟨tg, iter, ifs, 0⟩] scope pos) (some (.Name y py)) spos.line X.env = pure true)
    (hi : PI X tg iter wi) (ok : BlkOk X.N X.env.scope scope own)
    (hg : ∀ (s : Shared) (H : Hp) (C : Addr) (cl : List (Str × Addr)) (fp : List Addr),
      PG (X.blk s H scope (compEnvC scope cl C X.env) fp) tg g)
    (ht : ∀ (s : Shared) (H : Hp) (C : Addr) (cl : List (Str × Addr)) (fp : List Addr),
      PTs (X.blk s H scope (compEnvC scope cl C X.env) fp) ifs tt)
    (hk : ∀ (s : Shared) (H : Hp) (C : Addr) (cl : List (Str × Addr)) (fp : List Addr),
      PE (X.blk s H scope (compEnvC scope cl C X.env) fp) kx tk)
    (he : ∀ (s : Shared) (H : Hp) (C : Addr) (cl : List (Str × Addr)) (fp : List Addr),
      PE (X.blk s H scope (compEnvC scope cl C X.env) fp) vx tv)
    (hs : ∀ x, foldedSetIterable iter X.env x = pure x := by intro _; rfl) :
    PS X (.Assign [.Name y py] (.DictComp kx vx [⟨tg, iter, ifs, 0⟩] scope pos) spos) (tAsg (tDc wi g tt tk tv (own.map (·.2))) (gName i)) := by
  refine ⟨fun pins s σ H D I h => ?_⟩
  rw [exec_Assign_Name_used _ _ _ _ hsw]
  refine wpAny_bind (wpAny_standAt (wpAny_bind ?_))
  show wpAny _ X.A (do
    let _ ← comprehension (.DictComp kx vx [⟨tg, iter, ifs, 0⟩] scope pos) scope X.env
      (firstIterPos [⟨tg, iter, ifs, 0⟩] pos) newDict false (eval iter X.env) (some (assign (.Name y py) X.env))) _ _ s
  have h2 : tDc wi g tt tk tv (own.map (·.2)) σ H (fun x H1 => gName i x σ H1 D.nx) := h
  refine wpAny_bind (thn (dc_core (Qf := fun _ s' => SP X pins D .next s') hc hN I hi ok hg ht hk he hs h2
    fun L C s' m H' I' q hn f => ?_) fun _ s' hq => wpAny_pure (wpAny_pure hq))
  show wpAny _ _ (assign (.Name y py) X.env (.ref L)) _ _ _
  refine wpAny_assign_Name (store_ok2 (v := V.ref L) I' hN hy (.inl hyl) rfl (fun s2 I2 ⟨a, sb, ha⟩ => ?_) (.inr hyl))
  obtain ⟨f0, f1, f2, f3, f4, f5⟩ := f
  have haC : C ≠ a := by
    rcases ha with z | z
    · rw [z]; exact f1
    · exact fun e => f4 y a z e.symm
  exact ⟨m, hn.sameBut sb haC, fun h3 sb3 => ⟨_, H', I2.turned (t' := s2.toks) (fun b o hb e => (sb3.2 b hb).trans e) f0 f1 f3 f4 f5, q⟩⟩
theorem sw_trueD {kx vx : Expr} {gs : List Comprehension} {scope : Scope} {pos py : Pos} {y : Str} {l : Nat} {env : Env} (hk : env.scope.kind = .function)
    (hy : env.scope.names.lookup y = some .local) (hl : (py.line == pos.line) = true)
    (ha : (scope.names.any fun (n, k) => n == y && (k == .local || k == .cell)) = false) :
    swapsWith (.DictComp kx vx gs scope pos) (some (.Name y py)) l env = pure true := by
  have ky : env.kindOf y = some .local := hy
  have hb : env.blockKind = .function := by
    unfold Env.blockKind
    rw [hk]
    rfl
  unfold swapsWith
  simp only [hb, ky, ha, Expr.pos, hl]
  rfl
end
/-! ### tables from ints to ints -/
def tab (f : Int → Int) (vs : List Int) : List (Key × V) := vs.map fun v => ((Sum.inl v : Key), V.int (f v))
theorem tab_val (f : Int → Int) (v : Int) : ∀ vs : List Int, valV (tab f vs) (Sum.inl v) = if v ∈ vs then some (V.int (f v)) else none
  | [] => rfl
  | u :: vs => by
    have ih := tab_val f v vs
    unfold tab at ih ⊢
    rw [List.map_cons]
    by_cases e : u = v
    · subst e
      rw [valV_pos rfl, if_pos List.mem_cons_self]
    · have e' : ¬ (Sum.inl u : Key) = Sum.inl v := fun z => e (Sum.inl.inj z)
      rw [valV_neg e', ih]
      by_cases h : v ∈ vs
      · rw [if_pos h, if_pos (List.mem_cons_of_mem _ h)]
      · rw [if_neg h, if_neg fun z => (List.mem_cons.mp z).elim (fun z => e z.symm) h]
theorem tab_len (f : Int → Int) (vs : List Int) : (tab f vs).length = vs.length := List.length_map _
theorem tab_snoc (f : Int → Int) (vs : List Int) (v : Int) (h : v ∉ vs) : putK (tab f vs) (Sum.inl v) (V.int (f v)) = tab f (vs ++ [v]) := by
  rw [putK_new _ (by rw [tab_val, if_neg h])]
  unfold tab
  rw [List.map_append]
  rfl
/-- {v: f(v) for v in ..}: the turns leave what was tracked as it was -/
theorem dc_tab {J : It} {g : TG} {tk tv : TE} {vs : List Nat} {σ : L2.St} {H1 : Hp} {D : Addr} {Qd : Hp → Prop} (f : Int → Int) (bs : List Int) (σb : Int → L2.St)
    (nd : bs.Nodup) (nD : H1 D = none) (hl : bs.length ≤ 1000)
    (hgo : ∀ j H', j < bs.length → Same H1 H' → J.go j H') (hst : ∀ H', Same H1 H' → J.stop bs.length H')
    (hg : ∀ j b x H' H'', bs[j]? = some b → Same H1 H' → J.yld j H' x H'' → H'' = H' ∧ ∀ Q : L2.St → Hp → Prop, Q (σb b) H' → g x (wipe σ vs) H' Q)
    (hw : ∀ b, wipe (σb b) vs = wipe σ vs)
    (hk : ∀ b ∈ bs, ∀ H' (Q : VK), Same H1 H' → Q (.int b) H' → tk (σb b) H' Q)
    (hv : ∀ b ∈ bs, ∀ H' (Q : VK), Same H1 H' → (∀ H2, Same H' H2 → Q (.int (f b)) H2) → tv (σb b) H' Q)
    (hd : ∀ H', Same H1 H' → H' D = some (.dK (tab f bs)) → Qd H') :
    ∃ W : Nat → Nat → Hp → Prop, (∃ m, W 0 m (upd H1 D (.dK []))) ∧ ∀ i m H, W i m H →
      (J.stop i H ∧ Qd H) ∨
      (J.go i H ∧ ∃ Nx : Hp → Prop, (∀ H', Nx H' → ∃ m', m' < m ∧ W (i + 1) m' H') ∧
        ∀ x H', J.yld i H x H' → g x (wipe σ vs) H' fun σ2 H2 => wipe σ2 vs = wipe σ vs ∧ tYes σ2 H2 fun b H3 =>
          if b = true then
            tk σ2 H3 fun y H4 => tv σ2 H4 fun z H5 => ∃ kvs k, y = kV k ∧ H5 D = some (.dK kvs) ∧ kvs.length < sizeLine ∧ Nx (upd H5 D (.dK (putK kvs k z)))
          else Nx H3) := by
  let Pv : Nat → Hp → Prop := fun i H' => Same H1 H' ∧ H' D = some (.dK (tab f (bs.take i)))
  refine ⟨fun i m H => m = bs.length - i ∧ i ≤ bs.length ∧ Pv i H, ⟨bs.length, rfl, Nat.zero_le _, same_upd nD, upd_same⟩, fun i m H hW => ?_⟩
  obtain ⟨em, hi, s, eD⟩ := hW
  by_cases hlt : i < bs.length
  · refine .inr ⟨hgo i H hlt s, Pv (i + 1), fun H' p => ⟨bs.length - (i + 1), by omega, rfl, hlt, p⟩, fun x H' y => ?_⟩
    obtain ⟨rfl, k⟩ := hg i bs[i] x H H' (List.getElem?_eq_getElem hlt) s y
    have mb : bs[i] ∈ bs := List.getElem_mem hlt
    refine k _ ⟨hw _, yesI (iteT (hk _ mb _ _ s (hv _ mb _ _ s fun H5 s5 => ?_)))⟩
    have tk' : bs.take (i + 1) = bs.take i ++ [bs[i]] := by rw [List.take_add_one, List.getElem?_eq_getElem hlt]; rfl
    have ni : bs[i] ∉ bs.take i := fun z => by
      obtain ⟨j, hj, e⟩ := List.mem_iff_getElem.mp z
      rw [List.length_take] at hj
      rw [List.getElem_take] at e
      have := (List.getElem_inj nd).mp e
      omega
    refine ⟨tab f (bs.take i), Sum.inl bs[i], rfl, s5 _ _ eD, ?_, ?_, ?_⟩
    · rw [tab_len, List.length_take]
      exact small1000 (by omega)
    · intro b o e
      rw [upd_ne (ne_of_none e nD)]
      exact s5 _ _ (s _ _ e)
    · rw [upd_same, tab_snoc f _ _ ni, tk']
  · obtain rfl : i = bs.length := by omega
    rw [List.take_length] at eD
    exact .inl ⟨hst H s, hd H s eD⟩
end TL
namespace TL
open PySem PySem.Spec PyProof.Rows L2
/-- a def of the text that may raise, by its name -/
structure OwnX (P : Program) (w : World) (K : PySem.W.Frag) (mg : Str → Option Value) (base : Heap)
    (x : Str) (k : Nat) (ps : List Str) (sp : Sp) : Prop where
  ex : ∃ (f : Addr) (fd : FuncData), FnOk P w K mg base (L2.CX P w) k f fd ps sp ∧ mg x = some (.ref f) ∧
    PySem.W.keepIn K (.ref f) = true ∧ Binds K fd ps []
section
variable {X : Cx} {k : Nat} {ps : List Str} {sp : Sp} {x : Str} {p pos : Pos} {e : Expr} {es : List Expr} {t : TA} {W : WX}
theorem pe_ownX (O : OwnX X.prog X.w X.K X.mg X.base x k ps sp) (hr : Room k X.A) (tk : Takes X W) (hg : Gl X x) (ha : PA X (e :: es) t)
    (hdb : (x == ("__debug__" : Str)) = false := by decide)
    (he : starEach (e :: es) X.env = (false, eval e X.env) :: starEach es X.env := by rfl)
    (hpl : (backTo pos (starEach es X.env)).any (·.1) = false := by rfl) :
    PE X (.Call (.Name x p) (e :: es) [] pos) (tCallS sp (WE W) t) := by
  obtain ⟨f, fd, F, hm, hk, hb⟩ := O.ex
  exact pe_callS F hr hg hm hk hb (fun σ => passAt tk σ) ha hdb he hpl
end
/-! ### an error class of the text with one field -/
/-- self.f = value -/
def spInit (C : Addr) (f : Str) : Sp := fun vs H Q _ => ∃ (a : Addr) (y : V), vs = [.ref a, y] ∧ H a = some (exo a C none) ∧
  ∀ dx, H dx = none → dx ≠ a → Q .non (upd (upd H dx (exd dx [(f, y)])) a (exo a C (some dx)))
/-- what is said of such a class -/
structure ErrC (P : Program) (w : World) (K : PySem.W.Frag) (mg : Str → Option Value) (base : Heap) (x f : Str) (C : Addr) : Prop where
  oex : OexC K C
  xf : XfC K C
  exc : ExcC K C
  cls : (PySem.W.clsIn K C).isSome = true
  nof : PySem.W.findIn K (.ref C) f = some none
  glo : mg x = some (.ref C)
  ini : ∃ (fI : Addr) (fd : FuncData) (ps : List Str), PySem.W.findIn K (.ref C) "__init__" = some (some (.ref fI)) ∧ PySem.W.typeIn K (.ref fI) = some (.type "function") ∧
    FnOk P w K mg base CX0 1 fI fd ps (spInit C f) ∧ Binds K fd ps []
section
variable {X : Cx} {x f : Str} {C : Addr} {e : Expr} {p pos pos' : Pos} {ta : TA} {W : WX}
/-- raise x(e) -/
theorem ps_err (T : ErrC X.prog X.w X.K X.mg X.base x f C) (hr : Room 2 X.A) (tk : Takes X W) (hg : Gl X x) (ha : PA X [e] ta) (hc : X.calm = true := by rfl)
    (hdb : (x == ("__debug__" : Str)) = false := by decide)
    (he : starEach [e] X.env = (false, eval e X.env) :: starEach [] X.env := by rfl)
    (hpl : (backTo pos (starEach [] X.env)).any (·.1) = false := by rfl) :
    PS X (.Raise (some (.Call (.Name x p) [e] [] pos)) none pos') (fun _ σ H => tMkO C (spInit C f) [] ta σ H fun cls d H' => W cls d σ H') := by
  obtain ⟨fI, fd, ps, iC, tI, F, hb⟩ := T.ini
  exact ps_raise hc tk (pmk_oex (dvs := []) (ds := []) T.oex iC tI F hr hb .nil pass0 hg T.glo ha hdb he hpl)
/-- the reading of it -/
theorem errI {y : V} {H1 : Hp} {Q : XK} (q : ∀ (H' : Hp) (d : Addr), Same H1 H' → H' d = some (.xd [(f, y)]) → Q (.ref C) (some d) H') :
    [y].length ≤ 1000 ∧ ∀ a, H1 a = none → spInit C f (.ref a :: ([y] ++ [])) (upd H1 a (exo a C none))
      (fun v H2 => v = .non ∧ ∃ (d : Addr) (fs : List (Str × V)), H2 a = some (exo a C (some d)) ∧ H2 d = some (exd d fs) ∧ H1 d = none ∧ Q (.ref C) (some d) (upd (del H2 a) d (.xd fs))) (fun _ _ _ => False) := by
  refine ⟨by show 1 ≤ 1000; decide, fun a na => ⟨a, y, rfl, upd_same, fun dx nd ne => ?_⟩⟩
  rw [upd_ne ne] at nd
  refine ⟨rfl, dx, [(f, y)], upd_same, (upd_ne ne).trans upd_same, nd, q _ _ (fun b o e => ?_) upd_same⟩
  have hb : b ≠ a := fun z => by rw [z, na] at e; cases e
  have hd : b ≠ dx := fun z => by rw [z, nd] at e; cases e
  rw [upd_ne hd, del_ne hb, upd_ne hb, upd_ne hd, upd_ne hb]
  exact e
end
/-! ### isinstance of the error that a suite holds -/
def rIsX (K : PySem.W.Frag) (cls : Value) (d : Option Addr) (D a : Addr) : List V → Hp → VK → Prop := fun xs H Q => ∃ (c : V) (b : Bool), xs = [.ref a, c] ∧ cls = .ref D ∧ (∃ (dd : Addr) (fs : List (Str × V)), d = some dd ∧ H dd = some (.xd fs)) ∧
  ((∃ cv, (∀ u, RelV c u → u = cv) ∧ PySem.W.kitOne K (.ref D) cv = some b) ∨ ∃ (tp : Addr) (cs : List Addr), c = .ref tp ∧ H tp = some (.tup (cs.map V.ref)) ∧ PySem.W.kitAny K (.ref D) (cs.map Value.ref) = some b) ∧ Q (.bl b) H
theorem vals_refs : ∀ {cs : List Addr} {its : List Value}, Vals (cs.map V.ref) its → its = cs.map Value.ref
  | [], _, h => by cases h; rfl
  | c :: cs, _, h => by
    cases h with
    | cons r1 r2 =>
      cases r1
      rw [vals_refs r2]
      rfl
theorem isX {X : Cx} {a D : Addr} {oe : Obj} {cls : Value} {d : Option Addr} {pn : List (Addr × Obj)} (C : ExcC X.K D) (hcl : (PySem.W.clsIn X.K D).isSome = true) (hz : Zc cls d oe) (hf : ∃ vs, oe.data = .fields vs) :
    CallR (X.suite a ((a, oe) :: pn)) (.builtin "isinstance") (rIsX X.K cls d D a) := by
  intro pins s σ H xs us Q I r h
  obtain ⟨c, b, rfl, ec, ⟨dd, fs, ed, ex⟩, hk, q⟩ := h
  subst ec ed
  cases r with
  | cons rx rr =>
    cases rr with
    | cons rt rr =>
      cases rr
      cases rx
      obtain ⟨hget, _⟩ := I.pin (a, oe) (List.mem_append.mpr (.inl List.mem_cons_self))
      obtain ⟨vs, hv⟩ := hf
      have hx : ObjOk X.prog X.w H s.heap dd (.xd fs) := I.hok dd _ ex
      obtain ⟨mA, hns, hr⟩ := hx
      obtain ⟨od, ho, hl⟩ := lookIn_ns hns
      have J : PySem.W.InstAt s.heap a oe D (some od) := ⟨hget, hz.1, by unfold PySem.W.notCls; rw [hv] <;> rfl, by rw [hz.2]; exact ho⟩
      have Z := PySem.W.kitx_exc (x := a) (ox := oe) (od := some od) hcl C.hg C.hk C.hs C.ha C.hn C.ht C.hm
      rcases hk with ⟨cv, hcv, e⟩ | ⟨tp, cs, e1, e2, e⟩
      · have ec := hcv _ rt
        subst ec
        exact PySem.W.kia_one Z I.kIn J e (fun z => nomatch z) fun tk => ⟨.bl b, H, I.kept (t' := tk) fun _ _ z => z, rfl, q⟩
      · subst e1
        cases rt
        obtain ⟨_, its, r, o, h1, h2, n, h3⟩ := (show ObjOk X.prog X.w H s.heap tp (.tup (cs.map V.ref)) from I.hok tp _ e2)
        have ei : its = cs.map Value.ref := vals_refs r
        subst ei
        obtain ⟨oc, od2, oda, osl⟩ := o
        dsimp only at h2 h3
        subst h2 h3
        exact PySem.W.kia_tup Z I.kIn J h1 e (fun z => nomatch z) fun tk => ⟨.bl b, H, I.kept (t' := tk) fun _ _ z => z, rfl, q⟩
/-! ### in short, within a suite -/
theorem isXK (K : PySem.W.Frag) {X : Cx} {P : Program} {w : World} {mg : Str → Option Value} {base : Heap} {x f : Str} {a D : Addr} {oe : Obj} {cls : Value} {d : Option Addr} {pn : List (Addr × Obj)} (T : ErrC P w K mg base x f D) (hz : Zc cls d oe) (hf : ∃ vs, oe.data = .fields vs) (h : X.K = K := by rfl) :
    CallR (X.suite a ((a, oe) :: pn)) (.builtin "isinstance") (rIsX K cls d D a) := by
  subst h
  exact isX T.exc T.cls hz hf
theorem xfK (K : PySem.W.Frag) {X : Cx} {P : Program} {w : World} {mg : Str → Option Value} {base : Heap} {x n : Str} {a C : Addr} {oe : Obj} {cls : Value} {d : Option Addr} {pn : List (Addr × Obj)} {e : Expr} {te : TE} {pos : Pos} (T : ErrC P w K mg base x n C)
    (hz : Zc cls d oe) (hf : ∃ vs, oe.data = .fields vs) (he : PE (X.suite a ((a, oe) :: pn)) e te) (h : X.K = K := by rfl) (hb : attributeBase e n X.env (eval e X.env) = eval e X.env := by rfl) :
    PE (X.suite a ((a, oe) :: pn)) (.Attribute e n pos) (tXf a cls d C n te) := by
  subst h
  exact pe_xf T.xf T.nof hz hf he hb
/-! ### what the written part says of classes -/
section
variable {K : PySem.W.Frag} {C D : Addr}
theorem cls_of (h : PySem.W.hasDictIn K C = true) : (PySem.W.clsIn K C).isSome = true := by
  obtain ⟨cd, hc, _⟩ := PySem.W.any_some h
  rw [hc]
  rfl
theorem kit_own {b : Bool} (hd : PySem.W.hasDictIn K D = true) (ht : PySem.W.typeIn K (.ref D) = some (.type "type")) (hs : PySem.W.subIn K (.ref C) (.ref D) = some b) (self : PySem.W.subIn K (.ref C) (.ref C) = some true) : PySem.W.kitOne K (.ref C) (.ref D) = some b := by
  unfold PySem.W.kitOne
  by_cases e : (Value.ref C == Value.ref D) = true
  · rw [if_pos e]
    have e2 := beq_iff_eq.mp e
    rw [← e2, self] at hs
    exact hs
  · rw [if_neg e]
    unfold PySem.W.kitCls
    have e2 : ((PySem.W.clsIn K D).isSome && PySem.W.typeIn K (.ref D) == some (.type "type")) = true := by
      rw [cls_of hd, ht]
      rfl
    show (if ((PySem.W.clsIn K D).isSome && PySem.W.typeIn K (.ref D) == some (.type "type")) = true then _ else _) = _
    rw [if_pos e2]
    exact hs
theorem kit_ve {T : String} (hm : PySem.W.kitMeta T = true) (hs : PySem.W.subIn K (.ref C) (.type T) = some true) : PySem.W.kitOne K (.ref C) (.type T) = some true := by
  unfold PySem.W.kitOne
  rw [if_neg (by intro z; cases beq_iff_eq.mp z)]
  unfold PySem.W.kitCls
  show (if PySem.W.kitMeta T = true then _ else _) = _
  rw [if_pos hm]
  exact hs
theorem exm_own {b : Bool} (h1 : PySem.W.subIn K (.ref D) (.type "BaseException") = some true) (hd : PySem.W.hasDictIn K D = true) (ht : PySem.W.typeIn K (.ref D) = some (.type "type")) (h4 : PySem.W.subIn K (.ref C) (.ref D) = some b) : PySem.W.exmOne K (.ref C) (.ref D) = some b := PySem.W.exm_ref h1 hd ht h4
theorem kitAny_no : ∀ {cs : List Addr}, (∀ c ∈ cs, PySem.W.kitOne K (.ref C) (.ref c) = some false) → PySem.W.kitAny K (.ref C) (cs.map Value.ref) = some false
  | [], _ => rfl
  | c :: cs, h => by
    show (match PySem.W.kitOne K (.ref C) (.ref c) with | some true => some true | some false => PySem.W.kitAny K (.ref C) (cs.map Value.ref) | none => none) = _
    rw [h c List.mem_cons_self]
    exact kitAny_no fun c hc => h c (List.mem_cons_of_mem _ hc)
end
/-- the own __init__ of such a class -/
structure IniC (K : PySem.W.Frag) (C : Addr) (f : Str) : Prop where
  oex : OexC K C
  nof : PySem.W.findIn K (.ref C) f = some none
end TL
namespace TL
open PySem PySem.Spec PyProof.Rows L2
/-! ### data with dicts in it -/
def kD : Key → PyData
  | .inl i => .int i
  | .inr x => .str x
mutual
inductive Dq (K : PySem.W.Frag) (H : Hp) : V → PyData → Prop
  | non : Dq K H .non .none
  | bl (b : Bool) : Dq K H (.bl b) (.bool b)
  | int (i : Int) : Dq K H (.int i) (.int i)
  | str (x : Str) : Dq K H (.str x) (.str x)
  | lst {a : Addr} {xs : List V} {ds : List PyData} : a ≠ sysModules → H a = some (.lst xs) → DqAll K H xs ds → Dq K H (.ref a) (.list ds)
  | tup {a : Addr} {xs : List V} {ds : List PyData} : SqT K H a xs → DqAll K H xs ds → Dq K H (.ref a) (.tuple ds)
  | dct {a : Addr} {kvs : List (Key × V)} {ps : List (PyData × PyData)} : H a = some (.dK kvs) → ps.map (·.1) = kvs.map (fun p => kD p.1) → DqAll K H (kvs.map (·.2)) (ps.map (·.2)) → Dq K H (.ref a) (.dict ps)
inductive DqAll (K : PySem.W.Frag) (H : Hp) : List V → List PyData → Prop
  | nil : DqAll K H [] []
  | cons {v : V} {vs : List V} {d : PyData} {ds : List PyData} : Dq K H v d → DqAll K H vs ds → DqAll K H (v :: vs) (d :: ds)
end
section
variable {X : Cx} {pins : List (Addr × Obj)} {σ : L2.St} {H : Hp} {s : Shared}
theorem keys_reads : ∀ {es : List DictEntry} {vs : List (Key × Value)} {kvs : List (Key × V)}, Pairs (mixKind X.prog X.w) es vs → KV kvs vs → ReadsAll s.heap (es.map (·.key)) (kvs.map fun p => kD p.1) [] ∧ Vals (kvs.map (·.2)) (es.map (·.val))
  | _, _, _, .nil, .nil => ⟨.nil, .nil⟩
  | e :: es, _, p :: kvs, .cons h1 h2 t, .cons r q => by
    obtain ⟨a, b⟩ := keys_reads t q
    refine ⟨?_, .cons ?_ b⟩
    · obtain ⟨k, v⟩ := p
      have h1 : keyIs _ e.key = true := h1
      rw [← r.1] at h1
      show ReadsAll s.heap (e.key :: es.map (·.key)) (kD k :: kvs.map fun p => kD p.1) []
      rcases keyIs_shape h1 with ⟨i, t, hk, hv⟩ | ⟨x, t, hk, hv⟩
      · have hk : k = .inl i := hk
        rw [hk, hv]
        exact .cons (as := []) (bs := []) (.int i t) a
      · have hk : k = .inr x := hk
        rw [hk, hv]
        exact .cons (as := []) (bs := []) (.str x t) a
    · show RelV p.2 e.val
      rw [h2]
      exact r.2
mutual
theorem Dq.reads (I : Inv X pins σ H s) : ∀ {v : V} {d : PyData} {u : Value}, Dq X.K H v d → RelV v u → ∃ as, Reads s.heap u d as ∧ sysModules ∉ as
  | _, _, _, .non, r => by cases r; exact ⟨_, Reads.none, by simp⟩
  | _, _, _, .bl b, r => by cases r; exact ⟨_, Reads.bool b, by simp⟩
  | _, _, _, .int i, r => by obtain ⟨t, rfl⟩ := r; exact ⟨_, Reads.int i t, by simp⟩
  | _, _, _, .str x, r => by obtain ⟨t, rfl⟩ := r; exact ⟨_, Reads.str x t, by simp⟩
  | _, _, _, .lst hs e ha, r => by
    cases r
    obtain ⟨its, rv, ⟨o, n, ho, hc, _, hd⟩, _⟩ := I.list (SqL.of e)
    obtain ⟨as, hr, hn⟩ := Dq.readsAll I ha rv
    refine ⟨_, Reads.list ho hc hd hr, fun z => ?_⟩
    rcases List.mem_cons.mp z with z | z
    · exact hs z.symm
    · exact hn z
  | _, _, _, .tup e ha, r => by
    cases r
    obtain ⟨its, rv, ⟨o, ho, hc, n, hd⟩, _⟩ := I.tuple e
    obtain ⟨as, hr, hn⟩ := Dq.readsAll I ha rv
    exact ⟨_, Reads.tuple ho hc hd hr, hn⟩
  | _, _, _, .dct e ek ha, r => by
    cases r
    obtain ⟨_, hsm, vs, rel, o, es, ep, ho, hx, hd, _, hp, _⟩ := dk_of I.hok e
    obtain ⟨rk, rv⟩ := keys_reads (s := s) hp rel
    obtain ⟨bs, hr, hn⟩ := Dq.readsAll I ha rv
    rw [← ek] at rk
    refine ⟨_, Reads.dict ho hx.1 hd rk hr, fun z => ?_⟩
    rcases List.mem_cons.mp z with z | z
    · rw [← z] at hsm
      cases hsm
    · exact hn z
theorem Dq.readsAll (I : Inv X pins σ H s) : ∀ {vs : List V} {ds : List PyData} {us : List Value}, DqAll X.K H vs ds → Vals vs us → ∃ as, ReadsAll s.heap us ds as ∧ sysModules ∉ as
  | _, _, _, .nil, r => by cases r; exact ⟨_, ReadsAll.nil, by simp⟩
  | _, _, _, .cons h1 h2, r => by
    cases r with
    | cons r1 r2 =>
      obtain ⟨as, q1, n1⟩ := Dq.reads I h1 r1
      obtain ⟨bs, q2, n2⟩ := Dq.readsAll I h2 r2
      exact ⟨_, ReadsAll.cons q1 q2, fun z => (List.mem_append.mp z).elim n1 n2⟩
end
end
structure ShowsQ (d : PyData) : Prop where
  can : d.showable = true
  deep : d.depth ≤ 60
  fits : d.shown.length ≤ sizeLine
def rReprQ (K : PySem.W.Frag) : List V → Hp → VK → Prop := fun xs H Q =>
  ∃ (y : V) (d : PyData), xs = [y] ∧ Dq K H y d ∧ ShowsQ d ∧ Q (.str d.shown) H
section
variable {X : Cx}
theorem call_reprQ (gd : X.A.guards = some []) (hu : X.A.units + 64 < cLine) :
    CallR X (.builtin "repr") (rReprQ X.K) := by
  intro pins s σ H xs us Q I r h
  obtain ⟨y, d, rfl, hd, sh, q⟩ := h
  cases r with
  | cons r1 r2 =>
    rename_i u us'
    cases r2
    obtain ⟨as, rd, hn⟩ := Dq.reads I hd r1
    have big : ∀ a, u = Value.ref a → wpAny (model X.prog X.w) X.A (call (.builtin "repr") [u]) (EP X pins σ Q) X.xe s := by
      intro a e
      subst e
      exact repr_of_reads' rd sh.can (fun z => hn) gd (by have := sh.deep; omega) (fun _ _ e => e) (fun h' u tk hk => ⟨.str d.shown, H, I.kept (t' := tk) hk, ⟨u, rfl⟩, q⟩) sh.fits
    cases hd with
    | non =>
      obtain rfl : u = Value.none := r1
      rw [PyData.shown_none] at q
      exact PySem.P.repr_of_none ⟨.str _, H, I.tok _, ⟨_, rfl⟩, q⟩
    | bl b =>
      obtain rfl : u = Value.bool b := r1
      rw [PyData.shown_bool] at q
      exact PySem.P.repr_of_bool ⟨.str _, H, I.tok _, ⟨_, rfl⟩, q⟩
    | int i =>
      obtain ⟨t, rfl⟩ := r1
      rw [PyData.shown_int] at q
      exact PySem.P.repr_of_int (by have := sh.can; simpa [PyData.showable] using this) ⟨.str _, H, I.tok _, ⟨_, rfl⟩, q⟩
    | str x =>
      obtain ⟨t, rfl⟩ := r1
      have z := sh.fits
      rw [PyData.shown_str] at q z
      exact PySem.P.repr_of_str ⟨.str _, H, I.tok _, ⟨_, rfl⟩, q⟩ z
    | lst hs he ha => exact big _ r1
    | tup hs ha => exact big _ r1
    | dct hs ek ha => exact big _ r1
end
/-! ### repr of either kind of data -/
def rReprO (K : PySem.W.Frag) : List V → Hp → VK → Prop := fun xs H Q =>
  ∃ (y : V) (d : PyData), xs = [y] ∧ ((Dp K H y d ∧ Shows d) ∨ (Dq K H y d ∧ ShowsQ d)) ∧ Q (.str d.shown) H
theorem reprO (K : PySem.W.Frag) {X : Cx} (gd : X.A.guards = some []) (hu : X.A.units + 64 < cLine) (h : X.K = K := by rfl) : CallR X (.builtin "repr") (rReprO K) := by
  subst h
  intro pins s σ H xs us Q I r h
  obtain ⟨y, d, ex, h | h, q⟩ := h
  · exact call_reprD gd hu pins s σ H xs us Q I r ⟨y, d, ex, h.1, h.2, q⟩
  · exact call_reprQ gd hu pins s σ H xs us Q I r ⟨y, d, ex, h.1, h.2, q⟩
/-! ### a held error of any class -/
def rIsA (K : PySem.W.Frag) (cls : Value) (d : Option Addr) (a : Addr) : List V → Hp → VK → Prop := fun xs H Q =>
  ∃ D : Addr, ExcC K D ∧ (PySem.W.clsIn K D).isSome = true ∧ rIsX K cls d D a xs H Q
theorem isAK (K : PySem.W.Frag) {X : Cx} {a : Addr} {oe : Obj} {cls : Value} {d : Option Addr} {pn : List (Addr × Obj)} (hz : Zc cls d oe) (hf : ∃ vs, oe.data = .fields vs) (h : X.K = K := by rfl) :
    CallR (X.suite a ((a, oe) :: pn)) (.builtin "isinstance") (rIsA K cls d a) := by
  subst h
  intro pins s σ H xs us Q I r h
  obtain ⟨D, hc, hcl, h⟩ := h
  exact isX hc hcl hz hf pins s σ H xs us Q I r h
def tXfA (K : PySem.W.Frag) (a : Addr) (cls : Value) (d : Option Addr) (n : Str) (te : TE) : TE := fun σ H Q =>
  ∃ C : Addr, XfC K C ∧ PySem.W.findIn K (.ref C) n = some none ∧ tXf a cls d C n te σ H Q
theorem xfA (K : PySem.W.Frag) {X : Cx} {n : Str} {a : Addr} {oe : Obj} {cls : Value} {d : Option Addr} {pn : List (Addr × Obj)} {e : Expr} {te : TE} {pos : Pos}
    (hz : Zc cls d oe) (hf : ∃ vs, oe.data = .fields vs) (he : PE (X.suite a ((a, oe) :: pn)) e te) (h : X.K = K := by rfl) (hb : attributeBase e n X.env (eval e X.env) = eval e X.env := by rfl) :
    PE (X.suite a ((a, oe) :: pn)) (.Attribute e n pos) (tXfA K a cls d n te) := by
  subst h
  refine ⟨fun pins s σ H Q I h => ?_⟩
  obtain ⟨C, T, hno, h⟩ := h
  exact (pe_xf T hno hz hf he hb).run pins s σ H Q I h
/-! ### count of bools -/
def eqb (k : Bool) (v : Value) : Bool := match v with
  | .bool n => n == k
  | _ => false
theorem bools_of : ∀ {bs : List Bool} {us : List Value}, Vals (bs.map V.bl) us → us = bs.map Value.bool
  | [], _, h => by cases h; rfl
  | b :: bs, _, h => by
    cases h with
    | cons r1 r2 =>
      cases r1
      rw [bools_of r2]
      rfl
theorem eqb_count (k : Bool) : ∀ bs : List Bool, (bs.map Value.bool).countP (eqb k) = bs.count k
  | [] => rfl
  | b :: bs => by
    rw [List.map_cons, List.countP_cons, List.count_cons, eqb_count k bs]
    rfl
def rCntB (K : PySem.W.Frag) : V → List V → Hp → VK → Prop := fun x xs H Q => ∃ (p : Addr) (bs : List Bool) (k : Bool), x = .ref p ∧ xs = [.bl k] ∧ SqL K H p (bs.map V.bl) ∧ Q (.int (bs.count k : Nat)) H
theorem mt_lcountB {X : Cx} (hu : X.A.units + 64 < cLine) : MtR X "list.count" (rCntB X.K) := by
  intro pins s σ H x xs v us Q I rx rxs h
  obtain ⟨p, bs, k, rfl, rfl, hs, q⟩ := h
  cases rx
  obtain ⟨u, rfl, ru⟩ := rxs.one
  cases ru
  obtain ⟨its, rv, ⟨⟨cls, dd, data, sl⟩, n, ho, hc, hdn, hd⟩, hlen⟩ := I.list hs
  simp only at hc hd
  subst hc hd
  have hi := bools_of rv
  subst hi
  refine call_meets PySem.F.slot_list_count ⟨_, ho, rfl⟩ PySem.F.entry_list_count (PySem.F.args_list_count_2 _ _)
    (SeqAt.list_countAt p _ n dd sl (.bool k) (eqb k)) ⟨ho, fun y hy => ?_, ?_⟩
  · obtain ⟨b, hb, rfl⟩ := List.mem_map.mp (List.mem_toArray.mp hy)
    have h := SeqAt.eqAt_reads (.bool b) (.bool k) X.A.in1 s _ _ _ _ (Reads.bool b) (Reads.bool k) rfl rfl (by
      show X.A.units + 1 + min (PyData.depth (.bool b)) (PyData.depth (.bool k)) < cLine
      simp only [PyData.depth]
      omega)
    have e : PyData.eqv (.bool b) (.bool k) = eqb k (.bool b) := by
      cases b <;> cases k <;> simp [PyData.eqv, eqb]
    rw [← e]
    exact h
  have ec : ((bs.map Value.bool).toArray).toList.countP (eqb k) = bs.count k := eqb_count k bs
  refine ⟨.int (bs.count k : Nat), H, I.tok _, ⟨s.toks, ?_⟩, q⟩
  show Value.int ((((bs.map Value.bool).toArray).toList.countP (eqb k) : Nat) : Int) s.toks = Value.int ((bs.count k : Nat) : Int) s.toks
  rw [ec]
end TL
namespace TL
open PySem PySem.Spec PyProof.Rows L2
/-- [..]: the new list does not stand where sys.modules stands -/
def tLstS (t : TA) : TE := fun σ H Q => t σ H fun xs H1 => xs.length ≤ sizeLine ∧ ∀ p, H1 p = none → p ≠ sysModules → Q (.ref p) (upd H1 p (.lst xs))
theorem pe_lstS {X : Cx} {es : List Expr} {t : TA} {pos : Pos} (h : PA X es t) : PE X (.List es pos) (tLstS t) := by
  refine ⟨fun pins s σ H Q I hq => ?_⟩
  refine wpAny_List_spliced (thn (h.run pos pins s σ H _ I hq) fun us s1 ⟨xs, H1, I1, r, z, q⟩ => ⟨by rw [← r.length]; exact z, ?_⟩)
  have hf : H1 s1.heap.objs.size = none := I1.hok.fresh (Nat.le_refl _)
  refine ⟨.ref s1.heap.objs.size, upd H1 s1.heap.objs.size (.lst xs), I1.laid (t' := s1.toks) (fun b u e => Heap.get?_push_of_some _ e) (Nat.le_refl _) ?_, rfl, q _ hf (Nat.ne_of_gt I1.big)⟩
  exact ⟨z, us, 0, r, Heap.get?_push_size _ rfl⟩
end TL
namespace TL
open PySem PySem.Spec PyProof.Rows L2
/-! ### data whose leaves have up to forty signs -/
mutual
theorem lv_mono {B C : Nat} (h : B ≤ C) : ∀ d : PyData, d.leavesShort B = true → d.leavesShort C = true
  | .none, _ => by simp [PyData.leavesShort]
  | .bool _, _ => by simp [PyData.leavesShort]
  | .int i, q => by
    simp only [PyData.leavesShort] at q ⊢
    exact decide_eq_true (Nat.le_trans (of_decide_eq_true q) h)
  | .str x, q => by
    simp only [PyData.leavesShort] at q ⊢
    exact q
  | .list xs, q => by
    simp only [PyData.leavesShort] at q ⊢
    exact lv_monoAll h xs q
  | .tuple xs, q => by
    simp only [PyData.leavesShort] at q ⊢
    exact lv_monoAll h xs q
  | .dict kvs, q => by
    simp only [PyData.leavesShort] at q ⊢
    exact lv_monoKv h kvs q
theorem lv_monoAll {B C : Nat} (h : B ≤ C) : ∀ ds : List PyData, PyData.leavesShortAll B ds = true → PyData.leavesShortAll C ds = true
  | [], _ => rfl
  | d :: ds, q => by
    simp only [PyData.leavesShortAll, Bool.and_eq_true] at q ⊢
    exact ⟨lv_mono h d q.1, lv_monoAll h ds q.2⟩
theorem lv_monoKv {B C : Nat} (h : B ≤ C) : ∀ ds : List (PyData × PyData), PyData.leavesShortKv B ds = true → PyData.leavesShortKv C ds = true
  | [], _ => rfl
  | (k, v) :: ds, q => by
    simp only [PyData.leavesShortKv, Bool.and_eq_true] at q ⊢
    exact ⟨⟨lv_mono h k q.1.1, lv_mono h v q.1.2⟩, lv_monoKv h ds q.2⟩
end
structure Sw (d : PyData) (n k : Nat) : Prop where
  can : d.showable = true
  deep : d.depth ≤ k
  short : d.leavesShort 40 = true
  light : d.weight ≤ n
theorem Sm.sw {d : PyData} {n k : Nat} (h : Sm d n k) : Sw d n k := ⟨h.can, h.deep, lv_mono (by decide) d h.short, h.light⟩
theorem Sw.le {d : PyData} {n k m j : Nat} (h : Sw d n k) (hn : n ≤ m) (hk : k ≤ j) : Sw d m j := ⟨h.can, Nat.le_trans h.deep hk, h.short, Nat.le_trans h.light hn⟩
theorem Sw.fits {d : PyData} {n k : Nat} (h : Sw d n k) (hn : n ≤ 100000) : d.shown.length ≤ sizeLine := by
  have h1 := PyData.shown_le 40 (by decide) d h.short
  have h2 : (40 + 2) * d.weight ≤ 42 * 100000 := Nat.mul_le_mul (by decide) (Nat.le_trans h.light hn)
  exact Nat.le_trans h1 (Nat.le_trans (Nat.add_le_add_right h2 40) (by decide))
theorem Sw.showsQ {d : PyData} {n k : Nat} (h : Sw d n k) (hn : n ≤ 100000) (hk : k ≤ 60) : ShowsQ d := ⟨h.can, Nat.le_trans h.deep hk, h.fits hn⟩
theorem Sw.shows {d : PyData} {n k : Nat} (h : Sw d n k) (nod : d.hasDict = false) (hn : n ≤ 100000) (hk : k ≤ 60) : Shows d := ⟨h.can, nod, Nat.le_trans h.deep hk, h.fits hn⟩
structure SwA (ds : List PyData) (n k : Nat) : Prop where
  can : PyData.showableAll ds = true
  deep : PyData.depthAll ds ≤ k
  short : PyData.leavesShortAll 40 ds = true
  light : PyData.weightAll ds ≤ ds.length * (n + 1)
theorem SwA.of {n k : Nat} : ∀ {ds : List PyData}, (∀ d ∈ ds, Sw d n k) → SwA ds n k
  | [], _ => ⟨rfl, by simp [PyData.depthAll], rfl, by simp [PyData.weightAll]⟩
  | d :: ds, h => by
    have h1 := h d List.mem_cons_self
    have h2 := SwA.of (n := n) (k := k) fun e he => h e (List.mem_cons_of_mem _ he)
    refine ⟨?_, ?_, ?_, ?_⟩
    · simp only [PyData.showableAll, h1.can, h2.can, Bool.and_self]
    · simp only [PyData.depthAll]
      exact Nat.max_le.mpr ⟨h1.deep, h2.deep⟩
    · simp only [PyData.leavesShortAll, h1.short, h2.short, Bool.and_self]
    · have a := h1.light
      have b := h2.light
      simp only [PyData.weightAll, List.length_cons, Nat.add_mul, Nat.one_mul]
      omega
theorem Sw.tup {n k m : Nat} {ds : List PyData} (h : ∀ d ∈ ds, Sw d n k) (hm : ds.length ≤ m) : Sw (.tuple ds) (m * (n + 1)) (k + 1) := by
  have q := SwA.of h
  have z : ds.length * (n + 1) ≤ m * (n + 1) := Nat.mul_le_mul_right _ hm
  refine ⟨?_, ?_, ?_, ?_⟩
  · simp only [PyData.showable]; exact q.can
  · simp only [PyData.depth]; have := q.deep; omega
  · simp only [PyData.leavesShort]; exact q.short
  · simp only [PyData.weight]; exact Nat.le_trans q.light z
theorem Sw.lst {n k m : Nat} {ds : List PyData} (h : ∀ d ∈ ds, Sw d n k) (hm : ds.length ≤ m) : Sw (.list ds) (m * (n + 1)) (k + 1) := by
  have q := SwA.of h
  have z : ds.length * (n + 1) ≤ m * (n + 1) := Nat.mul_le_mul_right _ hm
  refine ⟨?_, ?_, ?_, ?_⟩
  · simp only [PyData.showable]; exact q.can
  · simp only [PyData.depth]; have := q.deep; omega
  · simp only [PyData.leavesShort]; exact q.short
  · simp only [PyData.weight]; exact Nat.le_trans q.light z
theorem sw_big {i : Int} (h : i.natAbs ≤ 10 ^ 29) : Sw (.int i) 200 0 := by
  have h2 : i.natAbs < 10 ^ 30 := Nat.lt_of_le_of_lt h (by decide)
  have e := PySem.int_text_length_le10 (k := 30) (by decide) h2
  have lg : i.natAbs.log2 < 110 := PySem.Flt.log2_lt_of (by decide) (Nat.lt_of_lt_of_le h2 (by decide))
  refine ⟨?_, by simp [PyData.depth], ?_, ?_⟩
  · simp only [PyData.showable]
    exact decide_eq_true (by omega)
  · simp only [PyData.leavesShort]
    refine decide_eq_true ?_
    show (Str.ofString (toString i)).length ≤ 40
    rw [PySem.ofString_length]
    exact Nat.le_trans e (by decide)
  · simp only [PyData.weight]
    split <;> omega
/-! ### data without lists and dicts has no dict -/
mutual
theorem nod_of_only : ∀ d : PyData, only d = true → d.hasDict = false
  | .none, _ => by simp [PyData.hasDict]
  | .bool _, _ => by simp [PyData.hasDict]
  | .int i, q => by simp [PyData.hasDict]
  | .str x, q => by simp [PyData.hasDict]
  | .list xs, q => by simp [only] at q
  | .tuple xs, q => by
    simp only [only] at q
    simp only [PyData.hasDict]
    exact nod_of_onlyAll xs q
  | .dict kvs, q => by simp [only] at q
theorem nod_of_onlyAll : ∀ ds : List PyData, onlyAll ds = true → PyData.hasDictAll ds = false
  | [], _ => rfl
  | d :: ds, q => by
    simp only [onlyAll, Bool.and_eq_true] at q
    simp only [PyData.hasDictAll, nod_of_only d q.1, nod_of_onlyAll ds q.2, Bool.or_self]
end
mutual
theorem Dp.toq {K : PySem.W.Frag} {H : Hp} : ∀ {v : V} {d : PyData}, Dp K H v d → only d = true → Dq K H v d
  | _, _, .non, _ => .non
  | _, _, .bl b, _ => .bl b
  | _, _, .int i, _ => .int i
  | _, _, .str x, _ => .str x
  | _, _, .lst h a, o => by simp [only] at o
  | _, _, .tup h a, o => .tup h (Dp.toqAll a (by simpa [only] using o))
theorem Dp.toqAll {K : PySem.W.Frag} {H : Hp} : ∀ {vs : List V} {ds : List PyData}, DpAll K H vs ds → onlyAll ds = true → DqAll K H vs ds
  | _, _, .nil, _ => .nil
  | _, _, .cons h a, o => by
    simp only [onlyAll, Bool.and_eq_true] at o
    exact .cons (Dp.toq h o.1) (Dp.toqAll a o.2)
end
end TL
namespace TL
open PySem PySem.Spec PyProof.Rows L2
/-! ### min(a list of ints) -/
def rMinI (K : PySem.W.Frag) : List V → Hp → VK → Prop := fun vs H Q => ∃ (a : Addr) (n : Int) (ns : List Int), vs = [.ref a] ∧ SqL K H a ((n :: ns).map V.int) ∧ Q (.int (ns.foldl min n)) H
theorem foldl_min {n : Int} : ∀ {ns : List Int}, (∀ k ∈ ns, n ≤ k) → ns.foldl min n = n
  | [], _ => rfl
  | k :: ns, h => by
    rw [List.foldl_cons, show min n k = n from Int.min_eq_left (h k List.mem_cons_self)]
    exact foldl_min fun j hj => h j (List.mem_cons_of_mem _ hj)
section
variable {X : Cx}
theorem depth_ints : ∀ ns : List Int, PyData.depthAll (ns.map .int) = 0
  | [] => by simp [PyData.depthAll]
  | n :: ns => by simp [PyData.depthAll, PyData.depth, depth_ints ns]
theorem call_minI (hc : X.calm = true) (hu : X.A.units + 64 < cLine) : CallR X (.builtin "min") (rMinI X.K) := by
  intro pins s σ H vs us Q I r h
  obtain ⟨a, n, ns, rfl, hs, q⟩ := h
  rw [Vals.ref1 r]
  obtain ⟨its, rv, hl, _⟩ := I.list hs
  obtain ⟨as, hr⟩ := Dp.readsAll I _ _ _ (DpAll.of_ints (n :: ns)) rv
  refine PySem.W.min_list_data (x := .int n) (xs := ns.map .int) (as := as) (I.ok.hd hc) hl.isList hr ⟨fun x hx y hy => ?_, fun x hx => ?_⟩ ?_ (fun i v h' tk bs hv rd hk => ?_)
  · have hx : x ∈ (n :: ns).map PyData.int := hx
    have hy : y ∈ (n :: ns).map PyData.int := hy
    obtain ⟨i, _, rfl⟩ := List.mem_map.mp hx
    obtain ⟨j, _, rfl⟩ := List.mem_map.mp hy
    simp [PySem.W.alike]
  · have hx : x ∈ (n :: ns).map PyData.int := hx
    obtain ⟨i, _, rfl⟩ := List.mem_map.mp hx
    exact fun z => nomatch z
  · have e : PyData.depthAll (PyData.int n :: ns.map .int) = 0 := depth_ints (n :: ns)
    rw [e]
    omega
  · rw [PySem.W.minD_ints] at rd
    cases rd
    exact ⟨.int _, H, I.kept hk, ⟨_, rfl⟩, q⟩
def rMaxI (K : PySem.W.Frag) : List V → Hp → VK → Prop := fun vs H Q => ∃ (a : Addr) (n : Int) (ns : List Int), vs = [.ref a] ∧ SqL K H a ((n :: ns).map V.int) ∧ Q (.int (ns.foldl max n)) H
theorem call_maxI (hc : X.calm = true) (hu : X.A.units + 64 < cLine) : CallR X (.builtin "max") (rMaxI X.K) := by
  intro pins s σ H vs us Q I r h
  obtain ⟨a, n, ns, rfl, hs, q⟩ := h
  rw [Vals.ref1 r]
  obtain ⟨its, rv, hl, _⟩ := I.list hs
  obtain ⟨as, hr⟩ := Dp.readsAll I _ _ _ (DpAll.of_ints (n :: ns)) rv
  refine PySem.W.max_list_data (x := .int n) (xs := ns.map .int) (as := as) (I.ok.hd hc) hl.isList hr ⟨fun x hx y hy => ?_, fun x hx => ?_⟩ ?_ (fun i v h' tk bs hv rd hk => ?_)
  · have hx : x ∈ (n :: ns).map PyData.int := hx
    have hy : y ∈ (n :: ns).map PyData.int := hy
    obtain ⟨i, _, rfl⟩ := List.mem_map.mp hx
    obtain ⟨j, _, rfl⟩ := List.mem_map.mp hy
    simp [PySem.W.alike]
  · have hx : x ∈ (n :: ns).map PyData.int := hx
    obtain ⟨i, _, rfl⟩ := List.mem_map.mp hx
    exact fun z => nomatch z
  · have e : PyData.depthAll (PyData.int n :: ns.map .int) = 0 := depth_ints (n :: ns)
    rw [e]
    omega
  · rw [PySem.W.maxD_ints] at rd
    cases rd
    exact ⟨.int _, H, I.kept hk, ⟨_, rfl⟩, q⟩
theorem maxIK (K : PySem.W.Frag) (hu : X.A.units + 64 < cLine) (hc : X.calm = true := by rfl) (h : X.K = K := by rfl) : CallR X (.builtin "max") (rMaxI K) := h ▸ call_maxI hc hu
theorem minIK (K : PySem.W.Frag) (hu : X.A.units + 64 < cLine) (hc : X.calm = true := by rfl) (h : X.K = K := by rfl) : CallR X (.builtin "min") (rMinI K) := h ▸ call_minI hc hu
end
end TL
namespace TL
open PySem PySem.Spec PyProof.Rows L2
/-! ### enumerate(a tuple) -/
abbrev tupIt (l : Addr) : Obj := { cls := .type "tuple_iterator", data := .fields #[.ref l, .int 0 0] }
abbrev enumOb (it : Addr) : Obj :=
  { cls := .type "enumerate", data := .fields #[.none, .bool false, .ref it, rawInt 0, .none, .none] }
theorem meets_enumT (l : Addr) (items : Array Value) (n : Nat) (dct : Option Addr) (sl : Array (Option Value)) :
    Meets (Builtin.«enumerate.__new__» ⟨[.type "enumerate", .ref l], []⟩) (fun _ R s =>
      s.heap.get? l = some { cls := .type "tuple", dict := dct, data := .seq items n, slots := sl } ∧
      R (.ok (.ret (.ref (s.heap.push (tupIt l)).objs.size)))
        { s with heap := (s.heap.push (tupIt l)).push (enumOb s.heap.objs.size) }) :=
  .of_wp fun prog w A R s h => by
    obtain ⟨hp, g, d, tk, os⟩ := s
    obtain ⟨hl, h⟩ := h
    have hsub := sub_enumerate
    have hL : Heap.IsTuple (Shared.heap ⟨hp, g, d, tk, os⟩) l items := ⟨_, hl, rfl, n, rfl⟩
    wp_walk using AutoSeq1.wpAny_loadPart' hl
    refine wpAny_stack_any fun st => wpAny_pure ?_
    split
    · rename_i c _ _ _ _ _
      cases (c == Value.type "enumerate")
      · wp_walk using AutoSeq1.wpAny_loadPart' hl, wpAny_pyIter_tuple hL
        exact ⟨_, rfl, h⟩
      · wp_walk using AutoSeq1.wpAny_loadPart' hl, wpAny_pyIter_tuple hL
        exact ⟨_, rfl, h⟩
    · wp_walk using AutoSeq1.wpAny_loadPart' hl, wpAny_pyIter_tuple hL
      exact ⟨_, rfl, h⟩
section
variable {prog : Program} {w : World} {A : Around} {E : Value → Shared → Prop} {s : Shared}
theorem call_enumT {l : Addr} {items : Array Value} {Q : Value → Shared → Prop} (hL : s.heap.IsTuple l items)
    (h : ∀ h', IsEnum h' (s.heap.objs.size + 1) s.heap.objs.size 0 .none → h'.IsTupleIter s.heap.objs.size l 0 →
      (∀ b o, s.heap.get? b = some o → h'.get? b = some o) → Q (.ref (s.heap.objs.size + 1)) { s with heap := h' }) :
    wpAny (model prog w) A (call (.type "enumerate") [.ref l]) Q E s := by
  obtain ⟨⟨c, dct, dt, sl⟩, hl, hc, n, hd⟩ := hL
  obtain rfl : c = .type "tuple" := hc
  obtain rfl : dt = .seq items n := hd
  refine callType_new F.called_enumerate (by decide) (F.typeCall_enumerate_1 _) (F.newCall_enumerate_1 _)
    (fun obj => F.args_object_init_2 obj _) F.entry_enumerate_new (meets_enumT l items n dct sl) ⟨hl, ?_⟩
  have hz : (s.heap.push (tupIt l)).objs.size = s.heap.objs.size + 1 := Heap.size_push ..
  show _ ∧ _
  rw [hz]
  have he : IsEnum ((s.heap.push (tupIt l)).push (enumOb s.heap.objs.size)) (s.heap.objs.size + 1) s.heap.objs.size 0 .none := by
    have q := Heap.get?_push_size (s.heap.push (tupIt l)) (o := enumOb s.heap.objs.size) rfl
    rw [hz] at q
    exact q
  exact ⟨⟨_, he, rfl⟩, h _ he ⟨_, Heap.get?_push_of_some _ (Heap.get?_push_size _ rfl), rfl, rfl⟩
    fun b o x => Heap.get?_push_of_some _ (Heap.get?_push_of_some _ x)⟩
end
/-- the tuple at a, each item in a new pair -/
def IteT (K : PySem.W.Frag) (a : Addr) : It :=
  ⟨fun i H => ∃ (xs : List V) (x : V), SqT K H a xs ∧ xs[i]? = some x,
   fun i H v H' => ∃ T x, v = .ref T ∧ H T = none ∧ H' = upd H T (.tup [.int (i : Nat), x]) ∧ ∀ xs, SqT K H a xs → xs[i]? = some x,
   fun i H => ∃ xs : List V, SqT K H a xs ∧ xs.length ≤ i⟩
theorem turn_enumT {P : Program} {w : World} {K : PySem.W.Frag} {elts : List Expr} {kk : Nat} {tpos : Pos} (a e it : Addr) (ha : a ≠ it) :
    Turn P w K (.Tuple elts kk tpos) (IteT K a) [e, it] e
      (fun i h => (∃ old, IsEnum h e it ((i : Nat) : Int) old) ∧ h.IsTupleIter it a i ∧ e ≠ it) where
  mem := by simp
  obj := fun i h st b hb => by
    obtain ⟨⟨old, he⟩, ⟨o, ho, hc, hd⟩, _⟩ := st
    have e' : b = e ∨ b = it := by simpa using hb
    rcases e' with rfl | rfl
    · exact ⟨_, he, fun v q => nomatch q⟩
    · exact ⟨o, ho, fun v q => by rw [hd] at q; cases q⟩
  keep := fun i h h' st k => by
    obtain ⟨⟨old, he⟩, hi, hne⟩ := st
    exact ⟨⟨old, k e (by simp) _ he⟩, hi.at fun o q => k it (by simp) o q, hne⟩
  item := by
    intro X hP hw hK hc i pins s σ H E I hf st hg
    subst hP hw hK
    obtain ⟨⟨old, he⟩, hit, hne⟩ := st
    obtain ⟨xs, x, hq, hx⟩ := hg
    obtain ⟨its, rv, p, hz⟩ := I.tuple hq
    obtain ⟨u, hu, ru⟩ := rv.get hx
    have hel : e < s.heap.objs.size := Heap.lt_size he
    have hil : it < s.heap.objs.size := by
      obtain ⟨_, q, _⟩ := hit
      exact Heap.lt_size q
    have hi : i < its.toArray.size := by
      rw [List.size_toArray]
      exact (List.getElem?_eq_some_iff.mp hu).1
    obtain ⟨o0, ho0, hc0, n0, hd0⟩ := p
    have pT : s.heap.IsTuple a its.toArray := ⟨o0, ho0, hc0, n0, hd0⟩
    refine wpAny_pyNext_enum_itemD (Draws.tuple (A := X.A.in1) (I.ok.hd hc) it a ha its.toArray) he ⟨hit, pT⟩ hi hne (fun z => ?_) fun x' h' tk hP ho hit' hT hsz hk => ?_
    · rcases List.mem_cons.mp z with z | z
      · exact hne z
      · have z := List.mem_singleton.mp z
        rw [z] at he
        have q := Option.some.inj (ho0.symm.trans he)
        rw [q] at hc0
        exact absurd (show Value.type "enumerate" = Value.type "tuple" from hc0) (by decide)
    have ex : x' = u := by
      have h1 : its.toArray[i]? = some x' := hP
      have h2 : its.toArray[i]? = some u := by simpa using hu
      exact Option.some.inj (h1.symm.trans h2)
    subst ex
    refine ⟨_, rfl, wpAny_letOwnedTupleGo_enum (s := { s with heap := h', toks := tk + 1 }) ho fun h'' he' sb => ?_⟩
    have hT2 : h''.get? s.heap.objs.size = some { cls := .type "tuple", data := .seq #[.int i tk, x'] } := (sb.2 _ (Nat.ne_of_gt hel)).trans hT
    have new : ObjOk X.prog X.w (upd H s.heap.objs.size (.tup [.int (i : Nat), x])) h'' s.heap.objs.size (.tup [.int (i : Nat), x]) :=
      ⟨by show 2 ≤ sizeLine; decide, [.int i tk, x'], .cons ⟨_, rfl⟩ (.cons ru .nil), ⟨_, hT2, rfl, _, rfl⟩⟩
    have kept : ∀ b ob, b ∉ [e, it] → s.heap.get? b = some ob → h''.get? b = some ob := fun b ob hb q =>
      (sb.2 b (fun z => hb (by simp [z]))).trans (hk b ob (fun z => hb (by simp [z])) (fun z => hb (by simp [z])) q)
    have I1 := I.turnedNew (t' := tk + 1) (ch := [e, it]) kept hf (Nat.le_refl _) new
    refine ⟨.ref s.heap.objs.size, _, I1, rfl, ⟨_, x, rfl, I.hok.fresh (Nat.le_refl _), rfl, fun ys hy => by rw [I.tuple_inj hy hq]; exact hx⟩,
      ⟨⟨x', ?_⟩, hit'.1.at fun o q => (sb.2 it (Ne.symm hne)).trans q, hne⟩, fun b hb => ?_⟩
    · have e1 : ((i + 1 : Nat) : Int) = (i : Int) + 1 := by omega
      rw [e1]
      exact he'
    · have hb' : b < s.heap.objs.size := by
        have e' : b = e ∨ b = it := by simpa using hb
        rcases e' with rfl | rfl
        · exact hel
        · exact hil
      rw [upd_ne (Nat.ne_of_lt hb')]
      exact (hf b hb).1
  done := by
    intro X hP hw hK hc i pins s σ H E I hf st hg
    subst hP hw hK
    obtain ⟨⟨old, he⟩, hit, hne⟩ := st
    obtain ⟨xs, hq, hx⟩ := hg
    obtain ⟨its, rv, p, hz⟩ := I.tuple hq
    obtain ⟨f0, f1, f2, f3, f4, f5⟩ := hf it (by simp)
    have hl := rv.length
    obtain ⟨o0, ho0, hc0, n0, hd0⟩ := p
    have pT : s.heap.IsTuple a its.toArray := ⟨o0, ho0, hc0, n0, hd0⟩
    have hT : s.TypeIs (.ref e) "enumerate" := ⟨_, he, rfl⟩
    unfold pyNext
    refine wpAny_bind (wpAny_attempt (wpAny_callSpecial?_slot (name := Str.ofString "__next__") hT F.slot_enumerate_next
      (wpAny_call_entry F.slot_enumerate_next hT F.entry_enumerate_next ?_ (F.args_enumerate_next_1 _))))
    show wpAny _ _ (field (.ref e) 2 >>= _) _ _ _
    refine wpAny_bind (wpAny_field he rfl (x := .ref it) rfl ?_)
    refine wpAny_bind (wpAny_nextOf_tuple_end (I.ok.hd hc) hit pT (by simp; omega) fun h' x he' hx' => ?_)
    obtain ⟨o, ho, hc⟩ := hx'
    refine wpAny_bind (wpAny_isInstance (T := "StopIteration") (b := true) ⟨o, ho, hc⟩ isSubtype_stop ?_)
    exact wpAny_pure ⟨rfl, I.turned (t' := s.toks) (fun b o hb q => he' b o hb q) f0 f1 f3 f4 f5⟩
  self := fun A i s Q E st h => by
    obtain ⟨⟨_, he⟩, _⟩ := st
    exact wpAny_pyIter_enum he h
def iEnumT (K : PySem.W.Frag) (ta : TA) : TI := fun σ H R => ta σ H fun vs H1 => ∃ a xs, vs = [.ref a] ∧ SqT K H1 a xs ∧ R (IteT K a) H1
theorem pi_enumT (K : PySem.W.Frag) {X : Cx} {e : Expr} {ta : TA} {p pos tpos : Pos} {elts : List Expr} {kk : Nat} (hg : Gl X "enumerate") (hm : X.mg "enumerate" = none)
    (ha : PA X [e] ta) (hK : X.K = K := by rfl) (hs : starEach [e] X.env = [(false, eval e X.env)] := by rfl) :
    PI X (.Tuple elts kk tpos) (.Call (.Name "enumerate" p) [e] [] pos) (iEnumT K ta) := by
  subst hK
  refine ⟨fun pins s σ H R I h => ?_⟩
  refine Call_ (ld_blt I hg hm boot_enumerate (PyProof.Rows.callWith_type1
    (thn (ha.run pos pins s σ H _ I h) fun us s1 ⟨vs, H1, I1, r1, q1⟩ => ?_) hs rfl))
  obtain ⟨a, xs, ex, hq, q⟩ := q1
  subst ex
  cases r1 with
  | cons r rr =>
    cases rr
    cases r
    obtain ⟨its, rv, ⟨o0, ho0, hc0, n0, hd0⟩, hz⟩ := I1.tuple hq
    have pT : s1.heap.IsTuple a its.toArray := ⟨o0, ho0, hc0, n0, hd0⟩
    refine call_enumT pT fun h' he hit hk => wpAny_pyIter_enum he ?_
    have I2 : Inv X pins σ H1 { s1 with heap := h' } := I1.kept (t' := s1.toks) hk
    refine ⟨s1.heap.objs.size + 1, [s1.heap.objs.size + 1, s1.heap.objs.size], _, _, H1, rfl, I2,
      turn_enumT a (s1.heap.objs.size + 1) s1.heap.objs.size (Nat.ne_of_lt (Heap.lt_size ho0)), ⟨⟨.none, he⟩, hit, Nat.succ_ne_self _⟩, fun b hb => ?_, q⟩
    have hle : s1.heap.objs.size ≤ b := by
      have e' : b = s1.heap.objs.size + 1 ∨ b = s1.heap.objs.size := by simpa using hb
      rcases e' with z | z
      · rw [z]; exact Nat.le_add_right _ _
      · rw [z]; exact Nat.le_refl _
    exact I1.fpOk hle (I1.hok.fresh hle)
/-- a loop over enumerate(a tuple): the new pair at T -/
theorem for_enumT {K : PySem.W.Frag} {a : Addr} {xs : List V} {g : TG} {tb : TS} {D : Ends} {σ : L2.St} {H : Hp} (Pv : Nat → L2.St → Hp → Prop) (h0 : Pv 0 σ H) (hl : ∀ i σ H, Pv i σ H → SqT K H a xs)
    (hs : ∀ i x T σ H, xs[i]? = some x → H T = none → Pv i σ H →
      g (.ref T) σ (upd H T (.tup [.int (i : Nat), x])) fun σ2 H2 => tb { D with nx := Pv (i + 1), ct := Pv (i + 1), bk := D.nx } σ2 H2)
    (hd : ∀ σ H, Pv xs.length σ H → D.nx σ H) :
    ∃ W : Nat → Nat → L2.St → Hp → Prop, (∃ m, W 0 m σ H) ∧ ∀ i m σ H, W i m σ H →
      ((IteT K a).stop i H ∧ D.nx σ H) ∨ ((IteT K a).go i H ∧ ∃ N : L2.St → Hp → Prop, (∀ σ' H', N σ' H' → ∃ m', m' < m ∧ W (i + 1) m' σ' H') ∧
        ∀ v H', (IteT K a).yld i H v H' → g v σ H' fun σ2 H2 => tb { D with nx := N, ct := N, bk := D.nx } σ2 H2) := by
  refine ⟨fun i m σ H => m = xs.length - i ∧ i ≤ xs.length ∧ Pv i σ H, ⟨xs.length, rfl, Nat.zero_le _, h0⟩, fun i m σ H hW => ?_⟩
  obtain ⟨em, hi, p⟩ := hW
  by_cases hlt : i < xs.length
  · refine .inr ⟨⟨xs, _, hl i σ H p, List.getElem?_eq_getElem hlt⟩, Pv (i + 1), fun σ' H' p' => ⟨xs.length - (i + 1), by omega, rfl, hlt, p'⟩, fun v H' y => ?_⟩
    obtain ⟨T, x, rfl, nT, rfl, hx⟩ := y
    exact hs i x T σ H (hx _ (hl i σ H p)) nT p
  · obtain rfl : i = xs.length := by omega
    exact .inl ⟨⟨xs, hl _ σ H p, Nat.le_refl _⟩, hd σ H p⟩
end TL
namespace TL
open PySem PySem.Spec PyProof.Rows L2
/-! ### what is due -/
def rNeE (K : PySem.W.Frag) : R2 := fun x y H Q => ∃ (a b : Addr) (xs : List V), x = .ref a ∧ y = .ref b ∧ SqL K H a xs ∧ SqL K H b [] ∧ Q (.bl (!xs.isEmpty)) H
theorem op_neE {X : Cx} (hu : X.A.units + 64 < cLine) : OpR X (compareOp .NotEq) (rNeE X.K) := by
  intro pins s σ H x y v u Q I rx ry h
  obtain ⟨a, b, xs, rfl, rfl, ha, hb, q⟩ := h
  cases rx
  cases ry
  obtain ⟨its, rv, ⟨o, n, ho, hc, _, hd⟩, _⟩ := I.list ha
  obtain ⟨its2, rv2, ⟨o2, n2, ho2, hc2, _, hd2⟩, _⟩ := I.list hb
  cases rv2
  have hl : s.heap.IsList a its.toArray := ⟨_, ho, hc, _, hd⟩
  have hl2 : s.heap.IsList b #[] := ⟨_, ho2, hc2, _, hd2⟩
  cases xs with
  | nil =>
    cases rv
    exact (SeqAt.RcNeAt.lists hl hl2 rfl (by omega) (fun j j1 _ => absurd j1 (Nat.not_lt_zero _)) (e := fun _ => true)) X.prog X.w X.xe _ ⟨.bl _, H, I, rfl, q⟩
  | cons x xs =>
    cases rv with
    | cons r1 r2 => exact (SeqAt.RcNeAt.lists_lengths hl hl2 (by simp) (by omega)) X.prog X.w X.xe _ ⟨.bl _, H, I, rfl, q⟩
theorem neEK (K : PySem.W.Frag) {X : Cx} (hu : X.A.units + 64 < cLine) (h : X.K = K := by rfl) : OpR X (compareOp .NotEq) (rNeE K) := h ▸ op_neE hu
end TL
namespace TL
open PySem PySem.Spec PyProof.Rows L2
def topS (i : Nat) : Stmt := PySem.Challenge.pw_treelamps_k07_slides_followed.main.body.getD i (.Pass ⟨0, 0, 0, 0⟩)
def clsS : Stmt → Nat → Stmt
  | .ClassDef _ _ _ body _ _ _ _ _ _ _, j => body.getD j (.Pass ⟨0, 0, 0, 0⟩)
  | s, _ => s
abbrev sNolampInit : Stmt := clsS (topS 2) 0
abbrev nNolampInit : List Str := ["self", "value"]
theorem scNolampInit : FnScope nNolampInit ["self", "value"] (defScope sNolampInit) :=
  ⟨rfl, rfl, rfl, by decide +kernel, rfl, by decide +kernel, by decide +kernel⟩
abbrev sNotadjacentInit : Stmt := clsS (topS 3) 0
abbrev nNotadjacentInit : List Str := ["self", "value"]
theorem scNotadjacentInit : FnScope nNotadjacentInit ["self", "value"] (defScope sNotadjacentInit) :=
  ⟨rfl, rfl, rfl, by decide +kernel, rfl, by decide +kernel, by decide +kernel⟩
abbrev sBlockedInit : Stmt := clsS (topS 4) 0
abbrev nBlockedInit : List Str := ["self", "vertex"]
theorem scBlockedInit : FnScope nBlockedInit ["self", "vertex"] (defScope sBlockedInit) :=
  ⟨rfl, rfl, rfl, by decide +kernel, rfl, by decide +kernel, by decide +kernel⟩
abbrev sBadslidesInit : Stmt := clsS (topS 5) 0
abbrev nBadslidesInit : List Str := ["self", "index"]
theorem scBadslidesInit : FnScope nBadslidesInit ["self", "index"] (defScope sBadslidesInit) :=
  ⟨rfl, rfl, rfl, by decide +kernel, rfl, by decide +kernel, by decide +kernel⟩
abbrev sIsNumber : Stmt := topS 7
abbrev nIsNumber : List Str := ["value"]
theorem scIsNumber : FnScope nIsNumber ["value"] (defScope sIsNumber) :=
  ⟨rfl, rfl, rfl, by decide +kernel, rfl, by decide +kernel, by decide +kernel⟩
abbrev sIsPair : Stmt := topS 8
abbrev nIsPair : List Str := ["value"]
theorem scIsPair : FnScope nIsPair ["value"] (defScope sIsPair) :=
  ⟨rfl, rfl, rfl, by decide +kernel, rfl, by decide +kernel, by decide +kernel⟩
abbrev sNeighboursOf : Stmt := topS 9
abbrev nNeighboursOf : List Str := ["forest", "vertex", "n", "edges", "lower", "upper", "a", "b"]
theorem scNeighboursOf : FnScope nNeighboursOf ["forest", "vertex"] (defScope sNeighboursOf) :=
  ⟨rfl, rfl, rfl, by decide +kernel, rfl, by decide +kernel, by decide +kernel⟩
abbrev sBlockingLamps : Stmt := topS 11
abbrev nBlockingLamps : List Str := ["forest", "setting", "u", "v", "vertex"]
theorem scBlockingLamps : FnScope nBlockingLamps ["forest", "setting", "u", "v"] (defScope sBlockingLamps) :=
  ⟨rfl, rfl, rfl, by decide +kernel, rfl, by decide +kernel, by decide +kernel⟩
abbrev sCheckLamp : Stmt := topS 12
abbrev nCheckLamp : List Str := ["setting", "value"]
theorem scCheckLamp : FnScope nCheckLamp ["setting", "value"] (defScope sCheckLamp) :=
  ⟨rfl, rfl, rfl, by decide +kernel, rfl, by decide +kernel, by decide +kernel⟩
abbrev sSlideLamp : Stmt := topS 13
abbrev nSlideLamp : List Str := ["forest", "setting", "u", "v", "blocking", "lamp"]
theorem scSlideLamp : FnScope nSlideLamp ["forest", "setting", "u", "v"] (defScope sSlideLamp) :=
  ⟨rfl, rfl, rfl, by decide +kernel, rfl, by decide +kernel, by decide +kernel⟩
abbrev sPossibleSlides : Stmt := topS 14
abbrev nPossibleSlides : List Str := ["forest", "setting", "steps", "u", "v"]
theorem scPossibleSlides : FnScope nPossibleSlides ["forest", "setting"] (defScope sPossibleSlides) :=
  ⟨rfl, rfl, rfl, by decide +kernel, rfl, by decide +kernel, by decide +kernel⟩
abbrev sIsPossible : Stmt := topS 15
abbrev nIsPossible : List Str := ["forest", "setting", "value", "u", "v"]
theorem scIsPossible : FnScope nIsPossible ["forest", "setting", "value"] (defScope sIsPossible) :=
  ⟨rfl, rfl, rfl, by decide +kernel, rfl, by decide +kernel, by decide +kernel⟩
abbrev sFollow : Stmt := topS 16
abbrev nFollow : List Str := ["forest", "setting", "slides", "lamps", "index", "item", "u", "v"]
theorem scFollow : FnScope nFollow ["forest", "setting", "slides"] (defScope sFollow) :=
  ⟨rfl, rfl, rfl, by decide +kernel, rfl, by decide +kernel, by decide +kernel⟩
abbrev sLDeck : Stmt := topS 18
abbrev nLDeck : List Str := ["_law_script", "_law_cell"]
theorem scLDeck : FnScope nLDeck ["_law_script"] (defScope sLDeck) :=
  ⟨rfl, rfl, rfl, by decide +kernel, rfl, by decide +kernel, by decide +kernel⟩
abbrev sLDraw : Stmt := topS 19
abbrev nLDraw : List Str := ["_law_deck_here", "_law_limit", "_law_cell", "_law_index"]
theorem scLDraw : FnScope nLDraw ["_law_deck_here", "_law_limit"] (defScope sLDraw) :=
  ⟨rfl, rfl, rfl, by decide +kernel, rfl, by decide +kernel, by decide +kernel⟩
abbrev sLMixed : Stmt := topS 20
abbrev nLMixed : List Str := ["_law_deck_here", "_law_items", "_law_left", "_law_k"]
theorem scLMixed : FnScope nLMixed ["_law_deck_here", "_law_items"] (defScope sLMixed) :=
  ⟨rfl, rfl, rfl, by decide +kernel, rfl, by decide +kernel, by decide +kernel⟩
abbrev sLForest : Stmt := topS 21
abbrev nLForest : List Str := ["_law_deck_here", "_law_most", "_law_n", "_law_names", "_law_way", "_law_rare", "_law_edges", "_law_k", "_law_other"]
theorem scLForest : FnScope nLForest ["_law_deck_here", "_law_most"] (defScope sLForest) :=
  ⟨rfl, rfl, rfl, by decide +kernel, rfl, by decide +kernel, by decide +kernel⟩
abbrev sLSame : Stmt := topS 22
abbrev nLSame : List Str := ["_law_value", "_law_due_here"]
theorem scLSame : FnScope nLSame ["_law_value", "_law_due_here"] (defScope sLSame) :=
  ⟨rfl, rfl, rfl, by decide +kernel, rfl, by decide +kernel, by decide +kernel⟩
abbrev sLNear : Stmt := topS 23
abbrev nLNear : List Str := ["_law_forest_here", "_law_vertex", "_law_other"]
theorem scLNear : FnScope nLNear ["_law_forest_here", "_law_vertex"] (defScope sLNear) :=
  ⟨rfl, rfl, rfl, by decide +kernel, rfl, by decide +kernel, by decide +kernel⟩
abbrev sLSetting : Stmt := topS 24
abbrev nLSetting : List Str := ["_law_deck_here", "_law_forest_here", "_law_lamps", "_law_share", "_law_vertex", "_law_one"]
theorem scLSetting : FnScope nLSetting ["_law_deck_here", "_law_forest_here"] (defScope sLSetting) :=
  ⟨rfl, rfl, rfl, by decide +kernel, rfl, by decide +kernel, by decide +kernel⟩
abbrev sLIsNumber : Stmt := topS 25
abbrev nLIsNumber : List Str := ["_law_value", "_law_low", "_law_high"]
theorem scLIsNumber : FnScope nLIsNumber ["_law_value", "_law_low", "_law_high"] (defScope sLIsNumber) :=
  ⟨rfl, rfl, rfl, by decide +kernel, rfl, by decide +kernel, by decide +kernel⟩
abbrev sLOdd : Stmt := topS 26
abbrev nLOdd : List Str := ["_law_deck_here", "_law_some"]
theorem scLOdd : FnScope nLOdd ["_law_deck_here"] (defScope sLOdd) :=
  ⟨rfl, rfl, rfl, by decide +kernel, rfl, by decide +kernel, by decide +kernel⟩
abbrev sLOthers : Stmt := topS 27
abbrev nLOthers : List Str := ["_law_forest_here", "_law_setting_here", "_law_u", "_law_v", "_law_one"]
theorem scLOthers : FnScope nLOthers ["_law_forest_here", "_law_setting_here", "_law_u", "_law_v"] (defScope sLOthers) :=
  ⟨rfl, rfl, rfl, by decide +kernel, rfl, by decide +kernel, by decide +kernel⟩
abbrev sLSlides : Stmt := topS 28
abbrev nLSlides : List Str := ["_law_forest_here", "_law_setting_here", "_law_found_here", "_law_u", "_law_v"]
theorem scLSlides : FnScope nLSlides ["_law_forest_here", "_law_setting_here"] (defScope sLSlides) :=
  ⟨rfl, rfl, rfl, by decide +kernel, rfl, by decide +kernel, by decide +kernel⟩
abbrev sLAfter : Stmt := topS 29
abbrev nLAfter : List Str := ["_law_setting_here", "_law_slide", "_law_lamp"]
theorem scLAfter : FnScope nLAfter ["_law_setting_here", "_law_slide"] (defScope sLAfter) :=
  ⟨rfl, rfl, rfl, by decide +kernel, rfl, by decide +kernel, by decide +kernel⟩
abbrev sLWalk : Stmt := topS 30
abbrev nLWalk : List Str := ["_law_deck_here", "_law_forest_here", "_law_setting_here", "_law_walk_here", "_law_k", "_law_some"]
theorem scLWalk : FnScope nLWalk ["_law_deck_here", "_law_forest_here", "_law_setting_here"] (defScope sLWalk) :=
  ⟨rfl, rfl, rfl, by decide +kernel, rfl, by decide +kernel, by decide +kernel⟩
abbrev sLDue : Stmt := topS 31
abbrev nLDue : List Str := ["_law_forest_here", "_law_setting_here", "_law_value", "_law_k", "_law_slide", "_law_one"]
theorem scLDue : FnScope nLDue ["_law_forest_here", "_law_setting_here", "_law_value"] (defScope sLDue) :=
  ⟨rfl, rfl, rfl, by decide +kernel, rfl, by decide +kernel, by decide +kernel⟩
abbrev sLFound : Stmt := topS 32
abbrev nLFound : List Str := ["_law_forest_here", "_law_setting_here", "_law_value", "_law_found_here", "e", "_law_alone"]
theorem scLFound : FnScope nLFound ["_law_forest_here", "_law_setting_here", "_law_value"] (defScope sLFound) :=
  ⟨rfl, rfl, rfl, by decide +kernel, rfl, by decide +kernel, by decide +kernel⟩
abbrev sLBack : Stmt := topS 33
abbrev nLBack : List Str := ["_law_walk_here", "_law_u", "_law_v"]
theorem scLBack : FnScope nLBack ["_law_walk_here"] (defScope sLBack) :=
  ⟨rfl, rfl, rfl, by decide +kernel, rfl, by decide +kernel, by decide +kernel⟩
abbrev sLChanged : Stmt := topS 34
abbrev nLChanged : List Str := ["_law_deck_here", "_law_walk_here", "_law_at", "_law_pair", "_law_head", "_law_tail", "_law_some"]
theorem scLChanged : FnScope nLChanged ["_law_deck_here", "_law_walk_here"] (defScope sLChanged) :=
  ⟨rfl, rfl, rfl, by decide +kernel, rfl, by decide +kernel, by decide +kernel⟩
abbrev sLaw : Stmt := topS 35
abbrev nLaw : List Str := ["_law_script", "_law_deck_here", "_law_turn", "_law_forest_here", "_law_setting_here", "_law_walk_here", "_law_value", "_law_before", "_law_k"]
theorem scLaw : FnScope nLaw ["_law_script"] (defScope sLaw) :=
  ⟨rfl, rfl, rfl, by decide +kernel, rfl, by decide +kernel, by decide +kernel⟩
section
variable {P : Program} {w : World} {K : PySem.W.Frag} {mg : Str → Option Value} {base : Heap}
/-! ### the deck and its draws -/
def spLDeck (K : PySem.W.Frag) : Sp := fun vs H Q _ => ∃ (a : Addr) (ns : List Int), vs = [.ref a] ∧
  SqL K H a (ns.map V.int) ∧ ns.length ≤ 63 ∧ ∀ H' d l, Same H H' → Deck H' d l 0 → Q (.ref d) H'
theorem cut63 {ns : List Int} (h : ns.length ≤ 63) : cutV (ns.map V.int) none (some 63) = ns.map V.int := by
  unfold cutV
  rw [HT.sIx_none, show HT.sIx (ns.map V.int).length (ns.map V.int).length (some 63) = min 63 (ns.map V.int).length from HT.sIx_nat _ _ 63]
  rw [List.drop_zero]
  exact List.take_of_length_le (by rw [List.length_map]; omega)
theorem ok_LDeck {f : Addr} {fd : FuncData} {k : Nat} (F : Fun K "_law_deck" "_law_deck" sLDeck f fd) (m_abs : mg "abs" = none) :
    FnOk P w K mg base CX0 (k + 1) f fd ["_law_script"] (spLDeck K) := by
  refine F.ok scLDeck (fun vs H Q E h => ?_) (fun cdv A outer s H vs Q E hr h => ?_)
  · obtain ⟨a, ns, rfl, _⟩ := h
    rfl
  · obtain ⟨a, ns, rfl, hS, hlen, q⟩ := h
    refine ⟨_, (pss_one (ps_ret (pe_lst (pa_cons (pe_lc (own := [("_law_cell", 1)]) (g := (gName 1)) (tt := tYes) rfl scLDeck.nd (piLK K (pe_slice (slLK K) (pv 0) po_none (po_some pe_int)))
      (blkOk_by (own := [("_law_cell", 1)]) (N := nLDeck) (sc := (defScope sLDeck)) (by decide +kernel))
      (fun _ _ _ _ _ => (pg_name (i := 1) scLDeck.nd rfl (Or.inl rfl))) (fun _ _ _ _ _ => pts_nil)
      (fun _ _ _ _ _ => (pe_callB call_abs (by rfl) m_abs (by decide +kernel) (pa_cons (pv 1) pa_nil)))) (pa_cons pe_int pa_nil))))), ?_⟩
    refine ⟨.ref a, rfl, 63, rfl, a, ns.map V.int, rfl, hS, fun c nc => ?_⟩
    rw [cut63 hlen]
    refine ⟨c, rfl, ⟨_, SqL.of upd_same⟩, fun D nD => ?_⟩
    have s1 : Same H (upd H c (.lst (ns.map V.int))) := same_upd nc
    have s2 : Same (upd H c (.lst (ns.map V.int))) (upd (upd H c (.lst (ns.map V.int))) D (.lst [])) := same_upd nD
    have ncD : c ≠ D := ne_of_none (upd_same) nD
    have nHD : H D = none := s1.free nD
    refine lc_list (K := K) (a := c) (xs := ns.map V.int) (fun i H' => Same H H' ∧ H' c = some (.lst (ns.map V.int)) ∧
      H' D = some (.lst (((ns.take i).map fun z => if z < 0 then -z else z).map V.int))) ?_ ?_ ?_ ?_
    · exact ⟨s1.trans s2, by rw [upd_ne ncD, upd_same], by rw [upd_same]; rfl⟩
    · exact fun i H' _ p => SqL.of p.2.1
    · rintro i x H' hx ⟨p1, p2, p3⟩
      rw [List.getElem?_map] at hx
      obtain ⟨z, hz, rfl⟩ := Option.map_eq_some_iff.mp hx
      obtain ⟨hi, _⟩ := List.getElem?_eq_some_iff.mp hz
      refine ⟨rfl, yesI (iteT ?_)⟩
      refine ⟨.int z, rfl, z, rfl, _, p3, ?_, ?_, ?_, ?_⟩
      · rw [List.length_map, List.length_map, List.length_take]
        exact small1000 (by omega)
      · exact fun b o e => by
          have nb : b ≠ D := ne_of_none e nHD
          rw [upd_ne nb]
          exact p1 b o e
      · rw [upd_ne ncD]
        exact p2
      · rw [upd_same, List.take_add_one, hz, List.map_append, List.map_append]
        rfl
    · rintro H' ⟨p1, p2, p3⟩
      rw [List.length_map, List.take_length] at p3
      refine ⟨by show 2 ≤ sizeLine; decide, fun d nd => ?_⟩
      have ndD : D ≠ d := ne_of_none p3 nd
      refine q _ d D (p1.trans (same_upd nd)) ⟨0, (ns.map fun z => if z < 0 then -z else z), Nat.le_refl _, ?_, ?_, ?_, ?_⟩
      · rw [upd_same]
        rfl
      · rw [upd_ne ndD]
        exact p3
      · intro z hz
        obtain ⟨y, _, rfl⟩ := List.mem_map.mp hz
        show 0 ≤ if y < 0 then -y else y
        split <;> omega
      · rw [List.length_map]
        exact hlen

def spLDraw : Sp := fun vs H Q _ => ∃ (d l : Addr) (n : Nat) (m : Int), vs = [.ref d, .int m] ∧ 0 < m ∧ m < 1000000 ∧ Deck H d l n ∧ n < 1000000 ∧
  ∀ H' r, 0 ≤ r → r < m → Fm d l H H' → Deck H' d l (n + 1) → Q (.int r) H'
theorem deck_put {H : Hp} {d l : Addr} {n c : Nat} {ns ns' : List Int} {H1 : Hp} (hc : c ≤ n) (h1 : H1 d = some (.lst [.ref l, .int (c : Int)])) (h2 : H1 l = some (.lst (ns'.map V.int)))
    (h3 : ∀ z ∈ ns', 0 ≤ z) (h4 : ns'.length ≤ 63) : Deck H1 d l n := ⟨c, ns', hc, h1, h2, h3, h4⟩
theorem mod_in {x m : Int} (h : 0 < m) : 0 ≤ x % m ∧ x % m < m := ⟨Int.emod_nonneg x (by omega), Int.emod_lt_of_pos x h⟩
theorem pow_in {x : Int} {c : Nat} (h : c < 1000001) : ((x % 2147483587 + 7919 * (c : Int) + 1)).natAbs < 2 ^ 64 := by
  have := mod_in (x := x) (m := 2147483587) (by decide)
  omega
theorem ok_LDraw {f : Addr} {fd : FuncData} {k : Nat} (F : Fun K "_law_draw" "_law_draw" sLDraw f fd) (m_len : mg "len" = none) :
    FnOk P w K mg base CX0 (k + 1) f fd ["_law_deck_here", "_law_limit"] spLDraw := by
  refine F.ok scLDraw (fun vs H Q E h => ?_) (fun cdv A outer s H vs Q E hr h => ?_)
  · obtain ⟨d, l, n, m, rfl, _⟩ := h
    rfl
  · obtain ⟨d, l, n, m, rfl, m0, m1, hD, hn, q⟩ := h
    refine ⟨_, (pss_cons (ps_asg (pe_op op_add (pe_ix (ixLK K) (pv 0) pe_int (fun _ _ => rfl)) pe_int) (pg_sub (pv 0) pe_int set_list))
    (pss_cons (ps_asg (pe_tup (pa_cons pe_int (pa_cons (pe_un un_neg pe_int) pa_nil))) (pgTK K (pgs_cons (pg_name (i := 2) scLDraw.nd rfl (Or.inl rfl)) (pgs_cons (pg_name (i := 3) scLDraw.nd rfl (Or.inl rfl)) pgs_nil))))
    (pss_cons (ps_if (pt_cmpR op_gt (pe_callB (lenK K) (by rfl) m_len (by decide +kernel) (pa_cons (pe_ix (ixLK K) (pv 0) pe_int (fun _ _ => rfl)) pa_nil)) pe_int (nomark _)) (pss_cons (ps_set (i := 3) scLDraw.nd rfl (.inl rfl) (pe_op op_mod (pe_ix (ixLK K) (pv 0) pe_int (fun _ _ => rfl)) (pe_callB (lenK K) (by rfl) m_len (by decide +kernel) (pa_cons (pe_ix (ixLK K) (pv 0) pe_int (fun _ _ => rfl)) pa_nil))))
    (pss_one (ps_set (i := 2) scLDraw.nd rfl (.inl rfl) (pe_ix (ixLK K) (pe_ix (ixLK K) (pv 0) pe_int (fun _ _ => rfl)) (pv 3) (fun _ _ => rfl))))) pss_nil)
    (pss_cons (ps_if (pt_cmpR op_ge (pv 2) (pe_op op_pow pe_int pe_int) (nomark _)) (pss_cons (ps_asg (pe_op op_fdiv (pv 2) (pv 1)) (pg_sub (pe_ix (ixLK K) (pv 0) pe_int (fun _ _ => rfl)) (pv 3) set_list))
    (pss_one (ps_ret (pe_op op_mod (pv 2) (pv 1))))) pss_nil)
    (pss_one (ps_ret (pe_op op_mod (pe_op op_fdiv (pe_op op_mod (pe_op op_pow (pe_op op_add (pe_op op_add (pe_op op_mod (pv 2) pe_int) (pe_op op_mul pe_int (pe_ix (ixLK K) (pv 0) pe_int (fun _ _ => rfl)))) pe_int) pe_int) pe_int) pe_int) (pv 1)))))))), ?_⟩
    have nel := hD.ne
    obtain ⟨c, ns, hc, h1, h2, h3, h4⟩ := hD
    -- deck[1] = deck[1] + 1
    refine ⟨.ref d, rfl, d, _, 1, .int (c : Int), rfl, rfl, SqL.of h1, atI_nat (j := 1) rfl, (c : Int), 1, rfl, rfl,
      .ref d, rfl, d, _, 1, 1, rfl, rfl, h1, rfl, ?_⟩
    have e1 : (upd H d (.lst ([V.ref l, V.int (c : Int)].set 1 (.int ((c : Int) + 1))))) d = some (.lst [V.ref l, V.int ((c : Int) + 1)]) := upd_same
    generalize hH1 : upd H d (.lst ([V.ref l, V.int (c : Int)].set 1 (.int ((c : Int) + 1)))) = H1 at e1 ⊢
    have e2 : H1 l = some (.lst (ns.map V.int)) := by
      rw [← hH1, upd_ne nel.symm]
      exact h2
    have f1 : Fm d l H H1 := fun b o n1 n2 e => by
      rw [← hH1, upd_ne n1]
      exact e
    have ec : ((c : Int) + 1) = ((c + 1 : Nat) : Int) := by omega
    rw [ec] at e1
    -- cell, index = 0, -1
    refine ⟨1, rfl, by show 2 ≤ sizeLine; decide, fun t nt => ⟨t, _, rfl, SqT.of upd_same, rfl, .int 0, [.int (-1)], rfl, .int (-1), [], rfl, rfl, ?_⟩⟩
    have st := same_upd (o := .tup [.int 0, .int (-1)]) nt
    replace e1 := st _ _ e1
    replace e2 := st _ _ e2
    replace f1 : Fm d l H (upd H1 t (.tup [.int 0, .int (-1)])) := f1.trans (Same.fm st)
    generalize upd H1 t (.tup [.int 0, .int (-1)]) = H2 at e1 e2 f1 ⊢
    -- the last row, for any cell
    have last : ∀ (x : Int), (0 : Int) ≤ ((x % 2147483587 + 7919 * ((c + 1 : Nat) : Int) + 1) ^ (5 : Int).toNat % 2147483647 / 7) % m ∧
        ((x % 2147483587 + 7919 * ((c + 1 : Nat) : Int) + 1) ^ (5 : Int).toNat % 2147483647 / 7) % m < m := fun x => mod_in m0
    have p64 : ∀ x : Int, (x % 2147483587 + 7919 * ((c + 1 : Nat) : Int) + 1).natAbs < 2 ^ 64 := fun x => pow_in (by omega)
    have dk : Deck H2 d l (n + 1) := ⟨c + 1, ns, by omega, e1, e2, h3, h4⟩
    -- if len(deck[0]) > 0
    refine ⟨.ref d, rfl, d, _, 0, .ref l, rfl, rfl, SqL.of e1, atI_nat (j := 0) rfl, l, ns.map V.int, rfl, .inl (SqL.of e2), _, 0, rfl, rfl, _, rfl, ite2 (fun hlen => ?_) (fun hlen => ?_)⟩
    · have hpos : 0 < ns.length := by
        have := of_decide_eq_true hlen
        rw [List.length_map] at this
        omega
      obtain ⟨i0, i1⟩ := mod_in (x := ((c + 1 : Nat) : Int)) (m := (((ns.map V.int).length : Nat) : Int)) (by rw [List.length_map]; omega)
      -- index
      refine ⟨.ref d, rfl, d, _, 1, .int ((c + 1 : Nat) : Int), rfl, rfl, SqL.of e1, atI_nat (j := 1) rfl, .ref d, rfl, d, _, 0, .ref l, rfl, rfl, SqL.of e1, atI_nat (j := 0) rfl, l, ns.map V.int, rfl, .inl (SqL.of e2), _, _, rfl, rfl, by rw [List.length_map]; omega, ?_⟩
      obtain ⟨j, hj⟩ : ∃ j : Nat, ((c + 1 : Nat) : Int) % (((ns.map V.int).length : Nat) : Int) = (j : Int) :=
        ⟨(((c + 1 : Nat) : Int) % (((ns.map V.int).length : Nat) : Int)).toNat, by omega⟩
      have hjl : j < ns.length := by
        rw [hj, List.length_map] at i1
        omega
      have hx : (ns.map V.int)[j]? = some (.int ns[j]) := by
        rw [List.getElem?_map, List.getElem?_eq_getElem hjl]
        rfl
      have hx0 : 0 ≤ ns[j] := h3 _ (List.getElem_mem hjl)
      generalize ns[j] = z at hx hx0
      -- cell
      refine ⟨.ref d, rfl, d, _, 0, .ref l, rfl, rfl, SqL.of e1, atI_nat (j := 0) rfl, _, rfl, l, _, _, .int z, rfl, rfl, SqL.of e2, at_of hj hx, ?_⟩
      -- if cell >= 10 ** 18
      refine ⟨.int z, rfl, 10, 18, rfl, rfl, ⟨by decide, by decide, by decide⟩, z, _, rfl, rfl, _, rfl, ite2 (fun hbig => ?_) (fun hbig => ?_)⟩
      · refine ⟨.int z, rfl, .int m, rfl, z, m, rfl, rfl, ⟨m0, by omega⟩, .ref d, rfl, d, _, 0, .ref l, rfl, rfl, SqL.of e1, atI_nat (j := 0) rfl, _, rfl, l, _, _, j, rfl, rfl, e2, ?_, ?_⟩
        · rw [hj]
          unfold ixN
          rw [if_pos (by omega), if_pos (by rw [List.length_map]; omega)]
          simp
        · refine ⟨.int z, rfl, .int m, rfl, z, m, rfl, rfl, m0, ?_⟩
          obtain ⟨r0, r1⟩ := mod_in (x := z) m0
          refine q _ _ r0 r1 (fun b o n1 n2 e => ?_) ⟨c + 1, ns.set j (z / m), by omega, ?_, ?_, ?_, ?_⟩
          · rw [upd_ne n2]
            exact f1 b o n1 n2 e
          · rw [upd_ne nel]
            exact e1
          · rw [upd_same, List.map_set]
          · intro y hy
            rcases List.mem_or_eq_of_mem_set hy with hy | rfl
            · exact h3 y hy
            · exact Int.ediv_nonneg hx0 (by omega)
          · rw [List.length_set]
            exact h4
      · -- the last row
        refine ⟨.int z, rfl, z, 2147483587, rfl, rfl, (by show (0 : Int) < 2147483587; decide), .ref d, rfl, d, _, 1, .int ((c + 1 : Nat) : Int), rfl, rfl, SqL.of e1, atI_nat (j := 1) rfl, 7919, _, rfl, rfl, .inl ⟨by decide, by decide⟩,
          _, _, rfl, rfl, _, _, rfl, rfl, _, _, rfl, rfl, ⟨by decide, by decide, p64 z⟩, _, _, rfl, rfl, (by show (0 : Int) < 2147483647; decide), _, _, rfl, rfl, (by show (0 : Int) < 7 ∧ (7 : Int) < 1073741824; decide), .int m, rfl, _, m, rfl, rfl, m0, ?_⟩
        exact q _ _ (last z).1 (last z).2 f1 dk
    · refine ⟨.int 0, rfl, 10, 18, rfl, rfl, ⟨by decide, by decide, by decide⟩, 0, _, rfl, rfl, _, rfl, ite2 (fun hbig => ?_) (fun hbig => ?_)⟩
      · exact absurd (of_decide_eq_true hbig) (by decide)
      · refine ⟨.int 0, rfl, 0, 2147483587, rfl, rfl, (by show (0 : Int) < 2147483587; decide), .ref d, rfl, d, _, 1, .int ((c + 1 : Nat) : Int), rfl, rfl, SqL.of e1, atI_nat (j := 1) rfl, 7919, _, rfl, rfl, .inl ⟨by decide, by decide⟩,
          _, _, rfl, rfl, _, _, rfl, rfl, _, _, rfl, rfl, ⟨by decide, by decide, p64 0⟩, _, _, rfl, rfl, (by show (0 : Int) < 2147483647; decide), _, _, rfl, rfl, (by show (0 : Int) < 7 ∧ (7 : Int) < 1073741824; decide), .int m, rfl, _, m, rfl, rfl, m0, ?_⟩
        exact q _ _ (last 0).1 (last 0).2 f1 dk
/-! ### mixed: a list in another order -/
def spLMixed (K : PySem.W.Frag) : Sp := fun vs H Q _ => ∃ (d l a : Addr) (n : Nat) (ns : List Int), vs = [.ref d, .ref a] ∧ Deck H d l n ∧ n < 900000 ∧
  SqL K H a (ns.map V.int) ∧ ns.length ≤ 100 ∧
  ∀ (H' : Hp) (D : Addr) (ms : List Int), ms.Perm ns → Fm d l H H' → Deck H' d l (n + ns.length) → H D = none → H' D = some (.lst (ms.map V.int)) → Q (.ref D) H'
theorem erase_perm {rs : List Int} {k : Nat} (h : k < rs.length) : (rs[k] :: rs.eraseIdx k).Perm rs := by
  induction rs generalizing k with
  | nil => exact absurd h (Nat.not_lt_zero _)
  | cons a r ih =>
    cases k with
    | zero => exact List.Perm.refl _
    | succ k =>
      have h' : k < r.length := by rw [List.length_cons] at h; omega
      exact (List.Perm.swap _ _ _).trans (List.Perm.cons a (ih h'))
theorem erase_map : ∀ (rs : List Int) (k : Nat), (rs.map V.int).eraseIdx k = (rs.eraseIdx k).map V.int
  | [], _ => rfl
  | a :: r, 0 => rfl
  | a :: r, k + 1 => congrArg (V.int a :: ·) (erase_map r k)
theorem Fm.put {d l a : Addr} {H H' : Hp} {o : HO} (h : Fm d l H H') (ha : H a = none) : Fm d l H (upd H' a o) := fun b u n1 n2 e => by
  rw [upd_ne (ne_of_none e ha)]
  exact h b u n1 n2 e
theorem ok_LMixed {f : Addr} {fd : FuncData} (F : Fun K "_law_mixed" "_law_mixed" sLMixed f fd) (m_list : mg "list" = none) (m_range : mg "range" = none) (m_len : mg "len" = none)
    (oLDraw : Own P w K mg base "_law_draw" 1 ["_law_deck_here", "_law_limit"] spLDraw) :
    FnOk P w K mg base CX0 2 f fd ["_law_deck_here", "_law_items"] (spLMixed K) := by
  refine F.ok scLMixed (fun vs H Q E h => ?_) (fun cdv A outer s H vs Q E hr h => ?_)
  · obtain ⟨d, l, a, n, ns, rfl, _⟩ := h
    rfl
  · obtain ⟨d, l, a, n, ns, rfl, hD, hn, hS, hl, q⟩ := h
    refine ⟨_, (pss_cons (ps_set (i := 2) scLMixed.nd rfl (.inr rfl) (pe_callTy (listK K) (by rfl) m_list (by decide +kernel) (pa_cons (pv 1) pa_nil)))
    (pss_one (ps_ret (pe_lc (own := [("_law_k", 3)]) (g := (gName 3)) (tt := tYes) rfl scLMixed.nd (pi_range1 (by rfl) m_range (pa_cons (pe_callB (lenK K) (by rfl) m_len (by decide +kernel) (pa_cons (pv 2) pa_nil)) pa_nil))
      (blkOk_by (own := [("_law_k", 3)]) (N := nLMixed) (sc := (defScope sLMixed)) (by decide +kernel))
      (fun _ _ _ _ _ => (pg_name (i := 3) scLMixed.nd rfl (Or.inl rfl))) (fun _ _ _ _ _ => pts_nil)
      (fun _ _ _ _ _ => (bmK K PySem.F.plainAttrs_list PySem.F.slot_list_pop PySem.F.type_list_pop mt_popAt (pv 2) (pa_cons (pe_own oLDraw (hr.mono (by decide)) (by rfl) (pa_cons (pv 0) (pa_cons (pe_callB (lenK K) (by rfl) m_len (by decide +kernel) (pa_cons (pv 2) pa_nil)) pa_nil))) pa_nil))))))), ?_⟩
    refine ⟨.ref a, rfl, a, ns.map V.int, rfl, .inl hS, fun L nL => ?_⟩
    have s1 := same_upd (o := .lst (ns.map V.int)) nL
    refine ⟨.ref L, rfl, L, _, rfl, .inl (SqL.of upd_same), (((ns.map V.int).length : Nat) : Int), rfl, by omega, by rw [List.length_map]; omega, fun D nD => ?_⟩
    have nHD : H D = none := s1.free nD
    have nLD : L ≠ D := ne_of_none upd_same nD
    have offL := hD.off nL
    have offD := hD.off nHD
    refine lc_range (lo := 0) (n := (((ns.map V.int).length : Nat) : Int).toNat) (fun i H' => ∃ (ms rs : List Int), (ms ++ rs).Perm ns ∧ ms.length = i ∧ Fm d l H H' ∧ Deck H' d l (n + i) ∧
      H' L = some (.lst (rs.map V.int)) ∧ H' D = some (.lst (ms.map V.int))) ?_ ?_ ?_
    · exact ⟨[], ns, List.Perm.refl _, rfl, (Same.fm s1).put nHD, (hD.same s1).put offD.1 offD.2, by rw [upd_ne nLD, upd_same], upd_same⟩
    · rintro i H2 hi ⟨ms, rs, pm, el, f2, d2, eL, eD⟩
      rw [Int.toNat_natCast, List.length_map] at hi
      have er : rs.length = ns.length - i := by
        have := pm.length_eq
        rw [List.length_append] at this
        omega
      refine ⟨rfl, yesI (iteT ?_)⟩
      refine ⟨.ref L, rfl, .inl ⟨rfl, _, SqL.of eL⟩, .ref d, rfl, .ref L, rfl, L, _, rfl, .inl (SqL.of eL), d, l, _, _, rfl, by rw [List.length_map]; omega, by rw [List.length_map]; omega, d2, by omega, fun H3 r r0 r1 f3 d3 => ?_⟩
      rw [List.length_map] at r1
      have eL3 := f3 _ _ offL.1 offL.2 eL
      have eD3 := f3 _ _ offD.1 offD.2 eD
      have hk : r.toNat < rs.length := by omega
      refine ⟨L, _, r, r.toNat, .int rs[r.toNat], rfl, rfl, eL3, by omega, by omega, ?_, ?_, ms.map V.int, ?_, ?_, ms ++ [rs[r.toNat]], rs.eraseIdx r.toNat, ?_, ?_, ?_, ?_, ?_, ?_⟩
      · unfold seqIndex?
        rw [List.length_map]
        simp
        omega
      · rw [List.getElem?_map, List.getElem?_eq_getElem hk]
        rfl
      · rw [upd_ne nLD.symm]
        exact eD3
      · rw [List.length_map]
        exact small1000 (by omega)
      · rw [List.append_assoc]
        refine List.Perm.trans ?_ pm
        exact List.Perm.append_left ms (erase_perm hk)
      · rw [List.length_append, el]
        rfl
      · exact ((f2.trans f3).put nL).put nHD
      · exact ((d3.le (m := n + (i + 1)) (by omega)).put offL.1 offL.2).put offD.1 offD.2
      · rw [upd_ne nLD, upd_same]
        exact congrArg (fun z => some (HO.lst z)) (erase_map rs r.toNat)
      · rw [upd_same, List.map_append]
        rfl
    · rintro H2 ⟨ms, rs, pm, el, f2, d2, eL, eD⟩
      rw [Int.toNat_natCast, List.length_map] at el d2
      have er : rs = [] := by
        have := pm.length_eq
        rw [List.length_append] at this
        exact List.length_eq_zero_iff.mp (by omega)
      subst er
      rw [List.append_nil] at pm
      exact q _ D ms pm f2 d2 nHD eD
/-! ### forest -/
theorem rgV_rng (m : Nat) : rgV 0 (m : Int) = (rng m).map V.int := by
  unfold rgV rng
  rw [List.map_map]
  have e : ((m : Int) - 0).toNat = m := by omega
  rw [e]
  refine List.map_congr_left fun i _ => ?_
  show V.int (0 + (i : Int)) = V.int (Int.ofNat i)
  rw [Int.zero_add]
  rfl
def spLForest (K : PySem.W.Frag) : Sp := fun vs H Q _ => ∃ (d l : Addr) (n most : Nat), vs = [.ref d, .int (most : Int)] ∧ most ≤ 12 ∧ Deck H d l n ∧ n < 800000 ∧
  ∀ (H' : Hp) (x : V) (m : Nat) (es : List (Int × Int)), Fm d l H H' → Deck H' d l (n + 60) → m ≤ most → IsFor m es → Dp K H' x (forD m es) → Q x H'
theorem ok_LForest {f : Addr} {fd : FuncData} (F : Fun K "_law_forest" "_law_forest" sLForest f fd) (m_list : mg "list" = none) (m_range : mg "range" = none) (m_len : mg "len" = none)
    (m_max : mg "max" = none) (m_tuple : mg "tuple" = none) (m_sorted : mg "sorted" = none)
    (oLDraw : Own P w K mg base "_law_draw" 1 ["_law_deck_here", "_law_limit"] spLDraw) (oLMixed : Own P w K mg base "_law_mixed" 2 ["_law_deck_here", "_law_items"] (spLMixed K)) :
    FnOk P w K mg base CX0 3 f fd ["_law_deck_here", "_law_most"] (spLForest K) := by
  refine F.ok scLForest (fun vs H Q E h => ?_) (fun cdv A outer s H vs Q E hr h => ?_)
  · obtain ⟨d, l, n, most, rfl, _⟩ := h
    rfl
  · obtain ⟨d, l, n, most, rfl, hm, hD, hn, q⟩ := h
    refine ⟨_, (pss_cons (ps_set (i := 2) scLForest.nd rfl (.inl rfl) (pe_own oLDraw (hr.mono (by decide)) (by rfl) (pa_cons (pv 0) (pa_cons (pe_op op_add (pv 1) pe_int) pa_nil))))
    (pss_cons (ps_set (i := 3) scLForest.nd rfl (.inl rfl) (pe_own oLMixed (hr.mono (by decide)) (by rfl) (pa_cons (pv 0) (pa_cons (pe_listRg rfl (by rfl) m_list (prg_1 (by rfl) m_range (pv 2))) pa_nil))))
    (pss_cons (ps_par (by rfl) scLForest.nd (i := 4) (j := 5) rfl rfl (by decide) rfl rfl (pa_cons (pe_own oLDraw (hr.mono (by decide)) (by rfl) (pa_cons (pv 0) (pa_cons pe_int pa_nil))) (pa_cons (pe_own oLDraw (hr.mono (by decide)) (by rfl) (pa_cons (pv 0) (pa_cons pe_int pa_nil))) pa_nil)) (by rfl))
    (pss_cons (ps_set (i := 6) scLForest.nd rfl (.inl rfl) (pe_lst pa_nil))
    (pss_cons (ps_for PassesOwn.never rfl (pi_range2 (by rfl) m_range (pa_cons pe_int (pa_cons (pv 2) pa_nil))) (pg_name (i := 7) scLForest.nd rfl (Or.inl rfl))
    (pss_cons (ps_set (i := 8) scLForest.nd rfl (.inl rfl) (pe_ix (ixLK K) (pe_lst (pa_cons (pe_op op_sub (pv 7) pe_int) (pa_cons pe_int (pa_cons (pe_own oLDraw (hr.mono (by decide)) (by rfl) (pa_cons (pv 0) (pa_cons (pv 7) pa_nil))) (pa_cons (pe_callB (call_max2 rfl) (by rfl) m_max (by decide +kernel) (pa_cons pe_int (pa_cons (pe_op op_sub (pv 7) pe_int) pa_nil))) pa_nil))))) (pv 4) (fun _ _ => rfl)))
    (pss_one (ps_if (PW.pt (pw_or (pt_cmpR op_gt (pv 5) pe_int (nomark _)) (pw_or1 (pt_cmpR op_gt (pe_own oLDraw (hr.mono (by decide)) (by rfl) (pa_cons (pv 0) (pa_cons pe_int pa_nil))) pe_int (nomark _))))) (pss_one (ps_expr (bmK K PySem.F.plainAttrs_list PySem.F.slot_list_append PySem.F.type_list_append mt_append (pv 6) (pa_cons (pe_callTy (tupleK K) (by rfl) m_tuple (by decide +kernel) (pa_cons (pe_callB (sortK K hr.units) (by rfl) m_sorted (by decide +kernel) (pa_cons (pe_lst (pa_cons (pe_ix (ixLK K) (pv 3) (pv 7) (fun _ _ => rfl)) (pa_cons (pe_ix (ixLK K) (pv 3) (pv 8) (fun _ _ => rfl)) pa_nil))) pa_nil)) pa_nil)) pa_nil)))) pss_nil))))
    (pss_one (ps_ret (pe_tup (pa_cons (pv 2) (pa_cons (pe_callTy (tupleK K) (by rfl) m_tuple (by decide +kernel) (pa_cons (pe_callB (sortK K hr.units) (by rfl) m_sorted (by decide +kernel) (pa_cons (pv 6) pa_nil)) pa_nil)) pa_nil)))))))))), ?_⟩
    -- n
    refine ⟨.ref d, rfl, .int (most : Int), rfl, (most : Int), 1, rfl, rfl, d, l, n, _, rfl, by omega, by omega, hD, by omega, fun H1 r r0 r1 f1 d1 => ?_⟩
    obtain ⟨m, rfl⟩ : ∃ m : Nat, r = (m : Int) := ⟨r.toNat, by omega⟩
    have hmm : m ≤ most := by omega
    -- names
    refine ⟨.ref d, rfl, .int (m : Int), rfl, (m : Int), rfl, RgOk.of_le (by omega) (by omega) (by omega) (by omega), fun z nz => ?_⟩
    rw [rgV_rng]
    have sz := same_upd (o := .lst ((rng m).map V.int)) nz
    refine ⟨d, l, z, _, rng m, rfl, d1.same sz, by omega, SqL.of upd_same, by rw [rng_length]; omega, fun H2 D nm pm f2 d2 nD eD => ?_⟩
    rw [rng_length] at d2
    have f12 : Fm d l H H2 := (f1.trans (Same.fm sz)).trans f2
    have offD := (d1.same sz).off nD
    -- way, rare
    refine ⟨.ref d, rfl, d, l, _, 4, rfl, by decide, by decide, d2, by omega, fun H3 w3 w0 w1 f3 d3 => ?_⟩
    refine ⟨.ref d, rfl, d, l, _, 3, rfl, by decide, by decide, d3, by omega, fun H4 t t0 t1 f4 d4 => ⟨.int w3, .int t, rfl, ?_⟩⟩
    have eD4 := f4 _ _ offD.1 offD.2 (f3 _ _ offD.1 offD.2 eD)
    have f14 := (f12.trans f3).trans f4
    -- edges = []
    refine ⟨Nat.zero_le _, fun E nE => ?_⟩
    have offE := d4.off nE
    have nDE : D ≠ E := ne_of_none eD4 nE
    have sE := same_upd (o := .lst []) nE
    refine ⟨.int (m : Int), rfl, 1, (m : Int), rfl, ⟨by omega, by omega, by omega, by omega⟩, for_range (lo := 1) (n := ((m : Int) - 1).toNat) (fun i σ H' => ∃ (y7 y8 : Option V) (ks : List (Nat × Nat)) (xs : List V),
      σ = [some (.ref d), some (.int (most : Int)), some (.int (m : Int)), some (.ref D), some (.int w3), some (.int t), some (.ref E), y7, y8] ∧ Fm d l H4 H' ∧ Deck H' d l (n + 16 + 2 * i) ∧
      H' D = some (.lst (nm.map V.int)) ∧ H' E = some (.lst xs) ∧ DpAll K H' xs ((ks.map (edgeOf nm)).map prD) ∧ ks.Pairwise (fun a b => a.1 < b.1) ∧ (∀ q ∈ ks, q.2 < q.1 ∧ q.1 < i + 1) ∧ ks.length ≤ i) ?_ ?_ ?_⟩
    · exact ⟨none, none, [], [], rfl, Same.fm sE, (d4.same sE).le (by omega), by rw [upd_ne nDE]; exact eD4, upd_same, .nil, .nil, (fun _ z => nomatch z), Nat.le_refl _⟩
    · rintro i σ H5 hi ⟨y7, y8, ks, xs, rfl, f5, d5, eD5, eE5, a5, up, down, cnt⟩
      have hi' : i + 1 < m := by omega
      -- other
      refine ⟨.int (1 + (i : Int)), rfl, _, _, rfl, rfl, .ref d, rfl, .int (1 + (i : Int)), rfl, d, l, _, _, rfl, by omega, by omega, d5, by omega, fun H6 x x0 x1 f6 d6 => ?_⟩
      refine ⟨.int (1 + (i : Int)), rfl, _, _, rfl, rfl, 0, _, rfl, by show 4 ≤ sizeLine; decide, fun p np => ?_⟩
      have sp6 := same_upd (o := .lst [.int (1 + (i : Int) - 1), .int 0, .int x, .int (if 1 + (i : Int) - 2 > 0 then 1 + (i : Int) - 2 else 0)]) np
      obtain ⟨o, ho, lo⟩ : ∃ o : Nat, atI [V.int (1 + (i : Int) - 1), V.int 0, V.int x, V.int (if 1 + (i : Int) - 2 > 0 then 1 + (i : Int) - 2 else 0)] w3 = some (V.int (o : Int)) ∧ o < i + 1 := by
        have h4 : w3 = 0 ∨ w3 = 1 ∨ w3 = 2 ∨ w3 = 3 := by omega
        rcases h4 with rfl | rfl | rfl | rfl
        · exact ⟨i, by show some (V.int (1 + (i : Int) - 1)) = _; congr 2; omega, by omega⟩
        · exact ⟨0, rfl, by omega⟩
        · exact ⟨x.toNat, by show some (V.int x) = _; congr 2; omega, by omega⟩
        · refine ⟨(1 + (i : Int) - 2).toNat, ?_, by omega⟩
          show some (V.int (if 1 + (i : Int) - 2 > 0 then 1 + (i : Int) - 2 else 0)) = _
          congr 2
          split <;> omega
      refine ⟨.int w3, rfl, p, _, _, _, rfl, rfl, SqL.of upd_same, ho, ?_⟩
      have eD6 := sp6 _ _ (f6 _ _ offD.1 offD.2 eD5)
      have eE6 := sp6 _ _ (f6 _ _ offE.1 offE.2 eE5)
      have d6' := d6.same sp6
      have f6' : Fm d l H4 _ := (f5.trans f6).trans (Same.fm sp6)
      have k6 : KT K H5 _ := (f6.kt d5).trans (Same.kt sp6)
      have a6 := DpAll.kt k6 a5 (only_prs _)
      generalize upd H6 p (.lst [.int (1 + (i : Int) - 1), .int 0, .int x, .int (if 1 + (i : Int) - 2 > 0 then 1 + (i : Int) - 2 else 0)]) = H7 at eD6 eE6 d6' f6' a6 ⊢
      -- if
      dsimp only [gName]
      refine ifJ (R := fun b H8 => Fm d l H7 H8 ∧ Deck H8 d l (n + 16 + 2 * (i + 1))) (fun R hR => ?_) (fun H8 hR => ?_) (fun H8 hR => ?_)
      · refine ⟨.int t, rfl, _, _, rfl, rfl, _, rfl, ite2 (fun _ => hR _ _ ⟨Fm.refl, d6'.le (by omega)⟩) (fun _ => ?_)⟩
        refine ⟨.ref d, rfl, d, l, _, 4, rfl, by decide, by decide, d6', by omega, fun H8 y y0 y1 f8 d8 => ⟨_, _, rfl, rfl, _, rfl, hR _ _ ⟨f8, d8.le (by omega)⟩⟩⟩
      · obtain ⟨f8, d8⟩ := hR
        have eD8 := f8 _ _ offD.1 offD.2 eD6
        have eE8 := f8 _ _ offE.1 offE.2 eE6
        have a8 := DpAll.kt (f8.kt d6') a6 (only_prs _)
        have lnm : nm.length = m := by rw [pm.length_eq, rng_length]
        have gk : (nm.map V.int)[i + 1]? = some (.int (nm.getD (i + 1) 0)) := by
          rw [List.getElem?_map, List.getD_eq_getElem?_getD, List.getElem?_eq_getElem (by omega)]
          rfl
        have go : (nm.map V.int)[o]? = some (.int (nm.getD o 0)) := by
          rw [List.getElem?_map, List.getD_eq_getElem?_getD, List.getElem?_eq_getElem (by omega)]
          rfl
        refine ⟨.ref E, rfl, .inl ⟨rfl, _, SqL.of eE8⟩, .ref D, rfl, .int (1 + (i : Int)), rfl, D, _, _, _, rfl, rfl, SqL.of eD8, at_of (j := i + 1) (by omega) gk,
          .ref D, rfl, .int (o : Int), rfl, D, _, _, _, rfl, rfl, SqL.of eD8, at_of (j := o) rfl go, by show 2 ≤ sizeLine; decide, fun p1 np1 => ?_⟩
        have s1 := same_upd (o := .lst [V.int (nm.getD (i + 1) 0), V.int (nm.getD o 0)]) np1
        refine sortInts (ns := [nm.getD (i + 1) 0, nm.getD o 0]) (SqL.of upd_same) fun p2 np2 => ?_
        rw [srt2]
        have s2 := same_upd (o := .lst ([(ordP (nm.getD (i + 1) 0) (nm.getD o 0)).1, (ordP (nm.getD (i + 1) 0) (nm.getD o 0)).2].map V.int)) np2
        refine ⟨p2, _, rfl, .inl ⟨SqL.of upd_same, fun p3 np3 => ?_⟩⟩
        have s3 := same_upd (o := .tup ([(ordP (nm.getD (i + 1) 0) (nm.getD o 0)).1, (ordP (nm.getD (i + 1) 0) (nm.getD o 0)).2].map V.int)) np3
        have s13 := (s1.trans s2).trans s3
        have eE9 := s13 _ _ eE8
        have eD9 := s13 _ _ eD8
        have a9 := DpAll.same s13 a8
        have d9 := d8.same s13
        have f9 := (f6'.trans f8).trans (Same.fm s13)
        have hp : SqT K _ p3 [.int (edgeOf nm (i + 1, o)).1, .int (edgeOf nm (i + 1, o)).2] := SqT.of (K := K) (same_at (o := .tup ([(ordP (nm.getD (i + 1) 0) (nm.getD o 0)).1, (ordP (nm.getD (i + 1) 0) (nm.getD o 0)).2].map V.int)) np3)
        generalize upd _ p3 (.tup ([(ordP (nm.getD (i + 1) 0) (nm.getD o 0)).1, (ordP (nm.getD (i + 1) 0) (nm.getD o 0)).2].map V.int)) = H9 at eE9 eD9 a9 d9 f9 hp ⊢
        have kt : KT K H9 (upd H9 E (.lst (xs ++ [.ref p3]))) := kt_lst eE9
        refine ⟨E, xs, .ref p3, rfl, rfl, eE9, ?_, _, _, ks ++ [(i + 1, o)], xs ++ [.ref p3], rfl, ?_, d9.put offE.1 offE.2, by rw [upd_ne nDE]; exact eD9, upd_same, ?_, ?_, ?_, ?_⟩
        · have := DpAll.length a9
          rw [List.length_map, List.length_map] at this
          exact small1000 (by omega)
        · exact f9.put nE
        · rw [List.map_append, List.map_append]
          exact DpAll.append (DpAll.kt kt a9 (only_prs _)) (.cons (Dp.kt kt (Dp.pr hp) (only_pr _)) .nil)
        · refine List.pairwise_append.mpr ⟨up, List.pairwise_singleton _ _, fun a ha b hb => ?_⟩
          obtain rfl := List.mem_singleton.mp hb
          have := (down a ha).2
          exact this
        · intro z hz
          rcases List.mem_append.mp hz with hz | hz
          · have := down z hz
            omega
          · obtain rfl := List.mem_singleton.mp hz
            exact ⟨lo, Nat.lt_succ_self _⟩
        · rw [List.length_append, List.length_singleton]
          omega
      · obtain ⟨f8, d8⟩ := hR
        exact ⟨_, _, ks, xs, rfl, f6'.trans f8, d8, f8 _ _ offD.1 offD.2 eD6, f8 _ _ offE.1 offE.2 eE6, DpAll.kt (f8.kt d6') a6 (only_prs _), up, fun z hz => by have := down z hz; omega, by omega⟩
    · rintro σ H5 ⟨y7, y8, ks, xs, rfl, f5, d5, eD5, eE5, a5, up, down, cnt⟩
      have g : Grow m nm ks := ⟨pm, up, fun z hz => by have := down z hz; omega⟩
      refine ⟨.int (m : Int), rfl, .ref E, rfl, sortPairs (SqL.of eE5) a5 fun p ys np dy => ?_⟩
      have s1 := same_upd (o := .lst ys) np
      refine ⟨p, ys, rfl, .inl ⟨SqL.of upd_same, fun t nt => ?_⟩⟩
      have s2 := same_upd (o := .tup ys) nt
      refine ⟨by show 2 ≤ sizeLine; decide, fun z nz => ?_⟩
      have s3 := same_upd (o := .tup [.int (m : Int), .ref t]) nz
      have s13 := (s1.trans s2).trans s3
      refine q _ _ m _ ((f14.trans f5).trans (Same.fm s13)) ((d5.same s13).le (by omega)) hmm g.isFor ?_
      exact .tup (SqT.of upd_same) (.cons (.int _) (.cons (Dp.same s3 (.tup (SqT.of upd_same) (DpAll.same (s1.trans s2) dy))) .nil))
/-! ### near -/
def spLNear (K : PySem.W.Frag) : Sp := fun vs H Q _ => ∃ (x : V) (m : Nat) (es : List (Int × Int)) (v : Int), vs = [x, .int v] ∧ m ≤ 12 ∧ Dp K H x (forD m es) ∧
  ∀ (H' : Hp) (D : Addr), Same H H' → H D = none → H' D = some (.lst ((nearL m es v).map V.int)) → Q (.ref D) H'
theorem ok_LNear {f : Addr} {fd : FuncData} {k : Nat} (F : Fun K "_law_near" "_law_near" sLNear f fd) (m_range : mg "range" = none) (m_tuple : mg "tuple" = none) (m_sorted : mg "sorted" = none) :
    FnOk P w K mg base CX0 (k + 1) f fd ["_law_forest_here", "_law_vertex"] (spLNear K) := by
  refine F.ok scLNear (fun vs H Q E h => ?_) (fun cdv A outer s H vs Q E hr h => ?_)
  · obtain ⟨x, m, es, v, rfl, _⟩ := h
    rfl
  · obtain ⟨x, m, es, v, rfl, hm, hx, q⟩ := h
    obtain ⟨a, b, xs, rfl, ha, hb, hA⟩ := Dp.forI hx
    refine ⟨_, (pss_one (ps_ret (pe_lc (own := [("_law_other", 2)]) (g := (gName 2)) rfl scLNear.nd (pi_range1 (by rfl) m_range (pa_cons (pe_ix (ixTK K) (pv 0) pe_int (fun _ _ => rfl)) pa_nil))
      (blkOk_by (own := [("_law_other", 2)]) (N := nLNear) (sc := (defScope sLNear)) (by decide +kernel))
      (fun _ _ _ _ _ => (pg_name (i := 2) scLNear.nd rfl (Or.inl rfl))) (fun _ _ _ _ _ => (pts_one (pt_cmpR (inDK K hr.units) (pe_callTy (tupleK K) (by rfl) m_tuple (by decide +kernel) (pa_cons (pe_callB (sortK K hr.units) (by rfl) m_sorted (by decide +kernel) (pa_cons (pe_lst (pa_cons (pv 2) (pa_cons (pv 1) pa_nil))) pa_nil)) pa_nil)) (pe_ix (ixTK K) (pv 0) pe_int (fun _ _ => rfl)) (by rfl))))
      (fun _ _ _ _ _ => (pv 2))))), ?_⟩
    refine ⟨.ref a, rfl, a, _, 0, .int (m : Int), rfl, rfl, ha, atI_nat (j := 0) rfl, (m : Int), rfl, by omega, by omega, fun D nD => ?_⟩
    refine lc_rng (K := K) (m := m) (fun o => decide (ordP o v ∈ es)) .int nD (fun _ => rfl) (fun o _ H' R s1 hR => ?_) (fun o _ _ H' R s1 hR => ?_) only_int (by omega) (fun H' ys s1 eD dy => ?_)
    · refine ⟨.int o, rfl, .int v, rfl, by show 2 ≤ sizeLine; decide, fun p1 n1 => ?_⟩
      have t1 := same_upd (o := .lst [V.int o, V.int v]) n1
      refine sortInts (ns := [o, v]) (SqL.of upd_same) fun p2 n2 => ?_
      rw [srt2]
      have t2 := same_upd (o := .lst ([(ordP o v).1, (ordP o v).2].map V.int)) n2
      refine ⟨p2, _, rfl, .inl ⟨SqL.of upd_same, fun p3 n3 => ?_⟩⟩
      have t3 := same_upd (o := .tup ([(ordP o v).1, (ordP o v).2].map V.int)) n3
      have s2 := (t1.trans t2).trans t3
      have s3 := s1.trans s2
      refine ⟨.ref a, rfl, a, _, 1, .ref b, rfl, rfl, Same.tup s3 ha, atI_nat (j := 1) rfl, prD (ordP o v), es.map prD, Dp.pr (SqT.of upd_same), .inr (.tup (Same.tup s3 hb) (DpAll.same s3 hA)),
        lay_prs es, lay_pr _, dep_pr _, _, rfl, ?_⟩
      have h2 := hR _ s2
      rw [← any_pr] at h2
      exact h2
    · exact ⟨.int o, rfl, hR H' _ (Same.refl _) (.int o)⟩
    · rw [lst_ints dy] at eD
      exact q H' D s1 nD eD
/-! ### same -/
def spLSame (K : PySem.W.Frag) : Sp := fun vs H Q _ => ∃ (x y : V) (d : PyData), vs = [x, y] ∧ Dp K H x d ∧ Dp K H y d ∧ Shows d ∧ Q (.bl true) H
/-! ### setting -/
def spLSetting (K : PySem.W.Frag) : Sp := fun vs H Q _ => ∃ (d l : Addr) (n : Nat) (x : V) (m : Nat) (es : List (Int × Int)), vs = [.ref d, x] ∧ Deck H d l n ∧ n < 800000 ∧ m ≤ 12 ∧ IsFor m es ∧ Dp K H x (forD m es) ∧
  ∀ (H' : Hp) (y : V) (S : List Int), Fm d l H H' → Deck H' d l (n + 30) → IsSet m es S → Dp K H' y (intsD S) → Q y H'
theorem set_grow {m : Nat} {es : List (Int × Int)} (f : IsFor m es) {S : List Int} {v : Int} (hS : ∀ u ∈ S, ∀ z ∈ S, ordP u z ∉ es) (hr : ∀ u ∈ S, 0 ≤ u ∧ u < m)
    (hv : (nearL m es v).filter (fun o => decide (o ∈ S)) = []) : ∀ u ∈ S ++ [v], ∀ z ∈ S ++ [v], ordP u z ∉ es := by
  have key : ∀ u ∈ S, ordP u v ∉ es := fun u hu h => by
    have : u ∈ (nearL m es v).filter (fun o => decide (o ∈ S)) := List.mem_filter.mpr ⟨mem_nearL.mpr ⟨hr u hu, h⟩, decide_eq_true hu⟩
    rw [hv] at this
    cases this
  intro u hu z hz
  rcases List.mem_append.mp hu with h1 | h1
  · rcases List.mem_append.mp hz with h2 | h2
    · exact hS u h1 z h2
    · rw [List.mem_singleton.mp h2]
      exact key u h1
  · rw [List.mem_singleton.mp h1]
    rcases List.mem_append.mp hz with h2 | h2
    · rw [ordP_comm]
      exact key z h2
    · rw [List.mem_singleton.mp h2]
      intro h
      have := f.rng _ h
      unfold ordP at this
      rw [if_pos (Int.le_refl _)] at this
      simp only at this
      omega
theorem ok_LSetting {f : Addr} {fd : FuncData} (F : Fun K "_law_setting" "_law_setting" sLSetting f fd) (m_list : mg "list" = none) (m_range : mg "range" = none) (m_tuple : mg "tuple" = none) (m_sorted : mg "sorted" = none)
    (oLDraw : Own P w K mg base "_law_draw" 1 ["_law_deck_here", "_law_limit"] spLDraw) (oLMixed : Own P w K mg base "_law_mixed" 2 ["_law_deck_here", "_law_items"] (spLMixed K))
    (oLNear : Own P w K mg base "_law_near" 1 ["_law_forest_here", "_law_vertex"] (spLNear K)) :
    FnOk P w K mg base CX0 3 f fd ["_law_deck_here", "_law_forest_here"] (spLSetting K) := by
  refine F.ok scLSetting (fun vs H Q E h => ?_) (fun cdv A outer s H vs Q E hr h => ?_)
  · obtain ⟨d, l, n, x, m, es, rfl, _⟩ := h
    rfl
  · obtain ⟨d, l, n, x, m, es, rfl, hD, hn, hm, isf, hx, q⟩ := h
    refine ⟨_, (pss_cons (ps_asg (pe_tup (pa_cons (pe_lst pa_nil) (pa_cons (pe_op op_add pe_int (pe_own oLDraw (hr.mono (by decide)) (by rfl) (pa_cons (pv 0) (pa_cons pe_int pa_nil)))) pa_nil))) (pgTK K (pgs_cons (pg_name (i := 2) scLSetting.nd rfl (Or.inr rfl)) (pgs_cons (pg_name (i := 3) scLSetting.nd rfl (Or.inl rfl)) pgs_nil))))
    (pss_cons (ps_for PassesOwn.never rfl (piLK K (pe_own oLMixed (hr.mono (by decide)) (by rfl) (pa_cons (pv 0) (pa_cons (pe_listRg rfl (by rfl) m_list (prg_1 (by rfl) m_range (pe_ix (ixTK K) (pv 1) pe_int (fun _ _ => rfl)))) pa_nil)))) (pg_name (i := 4) scLSetting.nd rfl (Or.inl rfl))
    (pss_one (ps_if (PW.pt (pw_and (pt_cmpR (eqDK K hr.units) (pe_lc (own := [("_law_one", 5)]) (g := (gName 5)) rfl scLSetting.nd (piLK K (pe_own oLNear (hr.mono (by decide)) (by rfl) (pa_cons (pv 1) (pa_cons (pv 4) pa_nil))))
      (blkOk_by (own := [("_law_one", 5)]) (N := nLSetting) (sc := (defScope sLSetting)) (by decide +kernel))
      (fun _ _ _ _ _ => (pg_name (i := 5) scLSetting.nd rfl (Or.inl rfl))) (fun _ _ _ _ _ => (pts_one (pt_cmpR (inK K) (pv 5) (pv 2) (by rfl))))
      (fun _ _ _ _ _ => (pv 5))) (pe_lst pa_nil) (nomark _)) (pw_and1 (pt_cmpR op_lt (pe_own oLDraw (hr.mono (by decide)) (by rfl) (pa_cons (pv 0) (pa_cons pe_int pa_nil))) (pv 3) (nomark _))))) (pss_one (ps_expr (bmK K PySem.F.plainAttrs_list PySem.F.slot_list_append PySem.F.type_list_append mt_append (pv 2) (pa_cons (pv 4) pa_nil)))) pss_nil)))
    (pss_one (ps_ret (pe_callTy (tupleK K) (by rfl) m_tuple (by decide +kernel) (pa_cons (pe_callB (sortK K hr.units) (by rfl) m_sorted (by decide +kernel) (pa_cons (pv 2) pa_nil)) pa_nil)))))), ?_⟩
    -- lamps, share
    refine ⟨Nat.zero_le _, fun L nL => ?_⟩
    have s1 := same_upd (o := .lst []) nL
    have offL := hD.off nL
    refine ⟨.ref d, rfl, d, l, _, 4, rfl, by decide, by decide, hD.same s1, by omega, fun H1 r r0 r1 f1 d1 => ?_⟩
    have eL1 : H1 L = some (.lst []) := f1 _ _ offL.1 offL.2 upd_same
    refine ⟨1, r, rfl, rfl, by show 2 ≤ sizeLine; decide, fun t nt => ⟨t, _, rfl, SqT.of upd_same, rfl, .ref L, [.int (1 + r)], rfl, .int (1 + r), [], rfl, rfl, ?_⟩⟩
    have st := same_upd (o := .tup [.ref L, .int (1 + r)]) nt
    have f2 : Fm d l H (upd H1 t (.tup [.ref L, .int (1 + r)])) := ((Same.fm s1).trans f1).trans (Same.fm st)
    have eL2 := st _ _ eL1
    have d2 := d1.same st
    generalize upd H1 t (.tup [.ref L, .int (1 + r)]) = H2 at f2 eL2 d2 ⊢
    have hx2 := Dp.kt (f2.kt hD) hx (only_forD _ _)
    obtain ⟨a, b, xs, rfl, ha, hb, hA⟩ := Dp.forI hx2
    -- the vertices
    refine ⟨.ref d, rfl, .ref a, rfl, a, _, 0, .int (m : Int), rfl, rfl, ha, atI_nat (j := 0) rfl, (m : Int), rfl, RgOk.of_le (by omega) (by omega) (by omega) (by omega), fun z nz => ?_⟩
    rw [rgV_rng]
    have sz := same_upd (o := .lst ((rng m).map V.int)) nz
    refine ⟨d, l, z, _, rng m, rfl, d2.same sz, by omega, SqL.of upd_same, by rw [rng_length]; omega, fun H3 D nm pm f3 d3 nD eD => ?_⟩
    rw [rng_length] at d3
    have offD := (d2.same sz).off nD
    have f3' : Fm d l H H3 := (f2.trans (Same.fm sz)).trans f3
    have eL3 := f3 _ _ offL.1 offL.2 (sz _ _ eL2)
    have nHD : H D = none := by
      cases e : H D with
      | none => rfl
      | some o =>
        have := sz _ _ (f2 _ _ offD.1 offD.2 e)
        rw [nD] at this
        cases this
    have nLD : L ≠ D := ne_of_none (sz _ _ eL2) nD
    have lnm : nm.length = m := by rw [pm.length_eq, rng_length]
    refine ⟨D, rfl, ⟨_, SqL.of eD⟩, for_list (K := K) (a := D) (xs := nm.map V.int) (fun i σ H' => ∃ (y4 y5 : Option V) (S : List Int), σ = [some (.ref d), some (.ref a), some (.ref L), some (.int (1 + r)), y4, y5] ∧
      Fm d l H H' ∧ Deck H' d l (n + 14 + i) ∧ H' D = some (.lst (nm.map V.int)) ∧ H' L = some (.lst (S.map V.int)) ∧ S.Sublist (nm.take i) ∧ (∀ u ∈ S, ∀ z ∈ S, ordP u z ∉ es)) ?_ ?_ ?_ ?_⟩
    · exact ⟨none, none, [], rfl, f3', d3.le (by omega), eD, eL3, List.nil_sublist _, (fun _ z => nomatch z)⟩
    · rintro i σ H' _ ⟨y4, y5, S, rfl, _, _, e, _⟩
      exact SqL.of e
    · rintro i v σ H4 hv ⟨y4, y5, S, rfl, f4, d4, eD4, eL4, sub, free⟩
      rw [List.getElem?_map] at hv
      obtain ⟨v, hv', rfl⟩ := Option.map_eq_some_iff.mp hv
      obtain ⟨hi, _⟩ := List.getElem?_eq_some_iff.mp hv'
      have inS : ∀ u ∈ S, 0 ≤ u ∧ u < m := fun u hu => mem_rng.mp (pm.mem_iff.mp (List.mem_of_mem_take (sub.subset hu)))
      have lS : S.length ≤ i := by
        have := sub.length_le
        rw [List.length_take] at this
        omega
      have hx4 := Dp.kt (f4.kt hD) hx (only_forD _ _)
      dsimp only [gName]
      refine ifJ (R := fun b H8 => Fm d l H H8 ∧ Deck H8 d l (n + 14 + (i + 1)) ∧ H8 D = some (.lst (nm.map V.int)) ∧ H8 L = some (.lst (S.map V.int)) ∧ (b = true → (nearL m es v).filter (fun o => decide (o ∈ S)) = [])) (fun R hR => ?_) (fun H8 hR => ?_) (fun H8 hR => ?_)
      · refine ⟨.ref a, rfl, .int v, rfl, _, m, es, v, rfl, hm, hx4, fun H5 N s5 nN eN => ⟨N, rfl, ⟨_, SqL.of eN⟩, fun C nC => ?_⟩⟩
        have nl12 : (nearL m es v).length ≤ 1000 := by
          have : (nearL m es v).length ≤ (rng m).length := List.length_filter_le _ _
          rw [rng_length] at this
          omega
        refine lc_listI (K := K) (fun o => decide (o ∈ S)) .int nC (SqL.of eN) (fun _ => rfl) (fun o _ H' R' s1 hR' => ?_) (fun o _ _ H' R' s1 hR' => ?_) only_int nl12 (fun H6 ys s6 eC dy => ?_)
        · refine ⟨.int o, rfl, .ref L, rfl, L, S.map V.int, rfl, .inl (SqL.of (s1 _ _ (s5 _ _ eL4))), rfl, flat_ints S, _, rfl, ?_⟩
          have h2 := hR' H' (Same.refl _)
          rw [← inV_ints] at h2
          exact h2
        · exact ⟨.int o, rfl, hR' H' _ (Same.refl _) (.int o)⟩
        · rw [lst_ints dy] at eC
          refine ⟨Nat.zero_le _, fun B nB => ?_⟩
          have s7 := same_upd (o := .lst []) nB
          have s47 := (s5.trans s6).trans s7
          refine ⟨_, .list [], .lst (SqL.of (s7 _ _ eC)) (DpAll.of_ints _), .lst (SqL.of upd_same) .nil, shaped_ints _, shaped_ints [], _, rfl, ?_⟩
          rw [eqv_nil]
          refine ite2 (fun hc => ?_) (fun hc => ?_)
          · have hc := of_decide_eq_true hc
            refine ⟨.ref d, rfl, d, l, _, 5, rfl, by decide, by decide, d4.same s47, by omega, fun H8 y y0 y1 f8 d8 => ⟨.int (1 + r), rfl, _, _, rfl, rfl, _, rfl, hR _ _ ⟨?_, d8.le (by omega), f8 _ _ offD.1 offD.2 (s47 _ _ eD4), f8 _ _ offL.1 offL.2 (s47 _ _ eL4), fun _ => hc⟩⟩⟩
            exact (f4.trans (Same.fm s47)).trans f8
          · exact hR _ _ ⟨f4.trans (Same.fm s47), (d4.same s47).le (by omega), s47 _ _ eD4, s47 _ _ eL4, fun z => nomatch z⟩
      · obtain ⟨f8, d8, eD8, eL8, nb⟩ := hR
        refine ⟨.ref L, rfl, .inl ⟨rfl, _, SqL.of eL8⟩, .int v, rfl, L, _, _, rfl, rfl, eL8, ?_, _, _, S ++ [v], rfl, f8.put nL, d8.put offL.1 offL.2, by rw [upd_ne nLD.symm]; exact eD8, ?_, ?_, set_grow isf free inS (nb rfl)⟩
        · rw [List.length_map]
          exact small1000 (by omega)
        · rw [upd_same, List.map_append]
          rfl
        · rw [List.take_add_one, hv']
          exact sub.append (List.Sublist.refl _)
      · obtain ⟨f8, d8, eD8, eL8, nb⟩ := hR
        refine ⟨_, _, S, rfl, f8, d8, eD8, eL8, ?_, free⟩
        rw [List.take_add_one, hv']
        exact sub.trans (List.sublist_append_left _ _)
    · rintro σ H4 ⟨y4, y5, S, rfl, f4, d4, eD4, eL4, sub, free⟩
      rw [List.length_map, lnm] at d4
      refine ⟨.ref L, rfl, sortInts (SqL.of eL4) fun p np => ?_⟩
      have t1 := same_upd (o := .lst ((srtI S).map V.int)) np
      refine ⟨p, _, rfl, .inl ⟨SqL.of upd_same, fun t nt => ?_⟩⟩
      have t2 := same_upd (o := .tup ((srtI S).map V.int)) nt
      have t12 := t1.trans t2
      have sub' : S.Sublist nm := sub.trans (List.take_sublist _ _)
      have nd : S.Nodup := sub'.nodup (pm.nodup_iff.mpr (rng_asc m).nodup)
      refine q _ _ (srtI S) (f4.trans (Same.fm t12)) ((d4.same t12).le (by omega)) ⟨srtI_asc nd, fun v hv => mem_rng.mp (pm.mem_iff.mp (sub'.subset (mem_srtI.mp hv))), fun u hu z hz => free u (mem_srtI.mp hu) z (mem_srtI.mp hz)⟩ (Dp.ints (SqT.of upd_same))
end
end TL
namespace TL
open PySem PySem.Spec PyProof.Rows L2
section
variable {P : Program} {w : World} {K : PySem.W.Frag} {mg : Str → Option Value} {base : Heap}
/-! ### the program: neighbours, lamps in the way -/
def spNeighboursOf (K : PySem.W.Frag) : Sp := fun vs H Q _ => ∃ (x : V) (m : Nat) (es : List (Int × Int)) (v : Int), vs = [x, .int v] ∧ m ≤ 12 ∧ IsFor m es ∧ Dp K H x (forD m es) ∧
  ∀ (H' : Hp) (y : V), Same H H' → Dp K H' y (intsD (nearL m es v)) → Q y H'
theorem dec_int (a b : Int) : decide (V.int a = V.int b) = decide (a = b) := by
  by_cases h : a = b
  · subst h; simp
  · have : ¬ V.int a = V.int b := fun z => h (V.int.inj z)
    rw [decide_eq_false h, decide_eq_false this]
theorem ok_NeighboursOf {f : Addr} {fd : FuncData} {k : Nat} (F : Fun K "neighbours_of" "neighbours_of" sNeighboursOf f fd) (m_tuple : mg "tuple" = none) :
    FnOk P w K mg base CX0 (k + 1) f fd ["forest", "vertex"] (spNeighboursOf K) := by
  refine F.ok scNeighboursOf (fun vs H Q E h => ?_) (fun cdv A outer s H vs Q E hr h => ?_)
  · obtain ⟨x, m, es, v, rfl, _⟩ := h
    rfl
  · obtain ⟨x, m, es, v, rfl, hm, isf, hx, q⟩ := h
    obtain ⟨a, b, xs, rfl, ha, hb, hA⟩ := Dp.forI hx
    have ec := isf.count
    refine ⟨_, (pss_cons (ps_asg (pv 0) (pgTK K (pgs_cons (pg_name (i := 2) scNeighboursOf.nd rfl (Or.inl rfl)) (pgs_cons (pg_name (i := 3) scNeighboursOf.nd rfl (Or.inl rfl)) pgs_nil))))
    (pss_cons (ps_setLc (i := 4) (own := [("a", 6), ("b", 7)]) (g := (gTup K 2 (gCons (gName 6) (gCons (gName 7) gNil)))) (by rfl) scNeighboursOf.nd rfl rfl (sw_true rfl rfl rfl (by decide +kernel)) (piTK K (pv 3))
      (blkOk_by (own := [("a", 6), ("b", 7)]) (N := nNeighboursOf) (sc := (defScope sNeighboursOf)) (by decide +kernel))
      (fun _ _ _ _ _ => (pgTK K (pgs_cons (pg_name (i := 6) scNeighboursOf.nd rfl (Or.inl rfl)) (pgs_cons (pg_name (i := 7) scNeighboursOf.nd rfl (Or.inl rfl)) pgs_nil)))) (fun _ _ _ _ _ => (pts_one (pt_cmpR op_eq (pv 7) (pv 1) (nomark _))))
      (fun _ _ _ _ _ => (pv 6)))
    (pss_cons (ps_setLc (i := 5) (own := [("a", 6), ("b", 7)]) (g := (gTup K 2 (gCons (gName 6) (gCons (gName 7) gNil)))) (by rfl) scNeighboursOf.nd rfl rfl (sw_true rfl rfl rfl (by decide +kernel)) (piTK K (pv 3))
      (blkOk_by (own := [("a", 6), ("b", 7)]) (N := nNeighboursOf) (sc := (defScope sNeighboursOf)) (by decide +kernel))
      (fun _ _ _ _ _ => (pgTK K (pgs_cons (pg_name (i := 6) scNeighboursOf.nd rfl (Or.inl rfl)) (pgs_cons (pg_name (i := 7) scNeighboursOf.nd rfl (Or.inl rfl)) pgs_nil)))) (fun _ _ _ _ _ => (pts_one (pt_cmpR op_eq (pv 6) (pv 1) (nomark _))))
      (fun _ _ _ _ _ => (pv 7)))
    (pss_one (ps_ret (pe_callTy (tupleK K) (by rfl) m_tuple (by decide +kernel) (pa_cons (pe_op op_cat (pv 4) (pv 5)) pa_nil))))))), ?_⟩
    refine ⟨.ref a, rfl, a, _, rfl, ha, rfl, _, _, rfl, _, _, rfl, rfl, ?_⟩
    refine ⟨.ref b, rfl, b, rfl, ⟨_, hb⟩, fun D nD => ?_⟩
    refine lc_tupP (K := K) (fun p => decide (p.2 = v)) (fun p => .int p.1) nD hb hA (fun _ _ => rfl) (fun o _ H' R s1 hR => ?_) (fun o _ _ H' R s1 hR => ?_) (fun o => only_int _) (by omega) (fun H2 ys s2 eD dy => ?_)
    · refine ⟨.int o.2, rfl, .int v, rfl, rfl, _, rfl, ?_⟩
      rw [dec_int]
      exact hR H' (Same.refl _)
    · exact ⟨.int o.1, rfl, hR H' _ (Same.refl _) (.int _)⟩
    refine ⟨.ref b, rfl, b, rfl, ⟨_, Same.tup s2 hb⟩, fun D2 nD2 => ?_⟩
    refine lc_tupP (K := K) (fun p => decide (p.1 = v)) (fun p => .int p.2) nD2 (Same.tup s2 hb) (DpAll.same s2 hA) (fun _ _ => rfl) (fun o _ H' R s1 hR => ?_) (fun o _ _ H' R s1 hR => ?_) (fun o => only_int _) (by omega) (fun H3 zs s3 eD3 dz => ?_)
    · refine ⟨.int o.1, rfl, .int v, rfl, rfl, _, rfl, ?_⟩
      rw [dec_int]
      exact hR H' (Same.refl _)
    · exact ⟨.int o.2, rfl, hR H' _ (Same.refl _) (.int _)⟩
    have e1 : ys = ((es.filter fun p => decide (p.2 = v)).map (·.1)).map V.int := DpAll.ints (by rw [List.map_map]; exact dy)
    have e2 : zs = ((es.filter fun p => decide (p.1 = v)).map (·.2)).map V.int := DpAll.ints (by rw [List.map_map]; exact dz)
    subst e1 e2
    have l1 := List.length_filter_le (fun p => decide (p.2 = v)) es
    have l2 := List.length_filter_le (fun p => decide (p.1 = v)) es
    refine ⟨.ref D, rfl, .ref D2, rfl, D, D2, _, _, rfl, rfl, s3 _ _ eD, eD3, Nat.le_of_lt (small1000 (by rw [List.length_map, List.length_map, List.length_map, List.length_map]; omega)), fun p np => ?_⟩
    rw [← List.map_append]
    have t1 := same_upd (o := .lst ((nbL es v).map V.int)) np
    refine ⟨p, _, rfl, .inl ⟨SqL.of upd_same, fun t nt => ?_⟩⟩
    have t2 := same_upd (o := .tup ((nbL es v).map V.int)) nt
    refine q _ _ (((s2.trans s3).trans t1).trans t2) ?_
    rw [← isf.nb v]
    exact Dp.ints (SqT.of upd_same)
def spBlockingLamps (K : PySem.W.Frag) : Sp := fun vs H Q _ => ∃ (x y : V) (m : Nat) (es : List (Int × Int)) (S : List Int) (u v : Int), vs = [x, y, .int u, .int v] ∧ m ≤ 12 ∧ IsFor m es ∧ Dp K H x (forD m es) ∧ Dp K H y (intsD S) ∧
  ∀ (H' : Hp) (z : V), Same H H' → Dp K H' z (intsD (oth m es S u v)) → Q z H'
theorem ok_BlockingLamps {f : Addr} {fd : FuncData} {k : Nat} (F : Fun K "blocking_lamps" "blocking_lamps" sBlockingLamps f fd) (m_tuple : mg "tuple" = none)
    (oNeighboursOf : Own P w K mg base "neighbours_of" 1 ["forest", "vertex"] (spNeighboursOf K)) :
    FnOk P w K mg base CX0 2 f fd ["forest", "setting", "u", "v"] (spBlockingLamps K) := by
  refine F.ok scBlockingLamps (fun vs H Q E h => ?_) (fun cdv A outer s H vs Q E hr h => ?_)
  · obtain ⟨x, y, m, es, S, u, v, rfl, _⟩ := h
    rfl
  · obtain ⟨x, y, m, es, S, u, v, rfl, hm, isf, hx, hy, q⟩ := h
    obtain ⟨b, rfl, hb⟩ := Dp.intsI hy
    refine ⟨_, (pss_one (ps_ret (pe_callTy (tupleK K) (by rfl) m_tuple (by decide +kernel) (pa_cons (pe_lc (own := [("vertex", 4)]) (g := (gName 4)) rfl scBlockingLamps.nd (piTK K (pe_own oNeighboursOf (hr.mono (by decide)) (by rfl) (pa_cons (pv 0) (pa_cons (pv 3) pa_nil))))
      (blkOk_by (own := [("vertex", 4)]) (N := nBlockingLamps) (sc := (defScope sBlockingLamps)) (by decide +kernel))
      (fun _ _ _ _ _ => (pg_name (i := 4) scBlockingLamps.nd rfl (Or.inl rfl))) (fun _ _ _ _ _ => (pts_one (PW.pt (pw_and (pt_cmpR (inK K) (pv 4) (pv 1) (by rfl)) (pw_and1 (pt_cmpR op_ne (pv 4) (pv 2) (nomark _)))))))
      (fun _ _ _ _ _ => (pv 4))) pa_nil)))), ?_⟩
    refine ⟨x, rfl, .int v, rfl, x, m, es, v, rfl, hm, isf, hx, fun H1 n s1 dn => ?_⟩
    obtain ⟨a, rfl, ha⟩ := Dp.intsI dn
    refine ⟨a, rfl, ⟨_, ha⟩, fun D nD => ?_⟩
    have nl := nearL_len m es v
    refine lc_tupI (K := K) (fun o => decide (o ∈ S) && !decide (o = u)) .int nD ha (fun _ => rfl) (fun o _ H' R s2 hR => ?_) (fun o _ _ H' R s2 hR => ?_) only_int (by omega) (fun H2 ys s2 eD dy => ?_)
    · refine ⟨.int o, rfl, .ref b, rfl, b, S.map V.int, rfl, .inr (Same.tup (s1.trans s2) hb), rfl, flat_ints S, _, rfl, ?_⟩
      have hR' := hR H' (Same.refl _)
      show if (if false = true then _ else inV (V.int o) (S.map V.int)) = true then _ else _
      rw [if_neg Bool.false_ne_true, inV_ints]
      refine ite2 (fun h => ?_) (fun h => ?_)
      · refine ⟨.int o, rfl, .int u, rfl, rfl, _, rfl, ?_⟩
        rw [dec_int]
        rw [h, Bool.true_and] at hR'
        exact hR'
      · rw [Bool.not_eq_true] at h
        rw [h, Bool.false_and] at hR'
        exact hR'
    · exact ⟨.int o, rfl, hR H' _ (Same.refl _) (.int o)⟩
    rw [lst_ints dy] at eD
    refine ⟨D, _, rfl, .inl ⟨SqL.of eD, fun t nt => ?_⟩⟩
    exact q _ _ ((s1.trans s2).trans (same_upd nt)) (Dp.ints (SqT.of upd_same))
/-! ### values of any kind: what isinstance says -/
def isN : V → Bool
  | .int _ => true
  | _ => false
/-- what isinstance says of it -/
def Kd (K : PySem.W.Frag) (H : Hp) (v : V) : Prop := ∃ (t : Value) (a b : Bool), TyX K H v t ∧ PySem.W.kitOne K t (.type "int") = some a ∧ PySem.W.kitOne K t (.type "bool") = some b ∧ (a && !b) = isN v
theorem Kd.int {H : Hp} (i : Int) : Kd K H (.int i) := ⟨_, true, false, .base (.int i), kit_ty (by decide +kernel), kit_ty (by decide +kernel), rfl⟩
theorem tyOf_same {H H' : Hp} (s : Same H H') {v : V} {t : Value} (h : TyOf K H v t) : TyOf K H' v t := by
  cases h with
  | non => exact .non
  | bl x => exact .bl x
  | int i => exact .int i
  | str x => exact .str x
  | flt x => exact .flt x
  | lst e => exact .lst (s _ _ e)
  | frz e => exact .frz (s _ _ e)
  | tup e => exact .tup (s _ _ e)
  | dK e => exact .dK (s _ _ e)
  | dT e => exact .dT (s _ _ e)
  | ins e c1 c2 c3 c4 c5 => exact .ins (s _ _ e) c1 c2 c3 c4 c5
theorem tyX_same {H H' : Hp} (s : Same H H') {v : V} {t : Value} (h : TyX K H v t) : TyX K H' v t := by
  cases h with
  | base b => exact .base (tyOf_same s b)
  | byt b => exact .byt b
  | set e => exact .set (s _ _ e)
  | kList e c => exact .kList e c
  | kTuple e c => exact .kTuple e c
  | kDict e c => exact .kDict e c
  | fTuple e => exact .fTuple (s _ _ e)
  | fDict e => exact .fDict (s _ _ e)
theorem Kd.same {H H' : Hp} {v : V} (s : Same H H') (h : Kd K H v) : Kd K H' v := by
  obtain ⟨t, a, b, ty, r⟩ := h
  exact ⟨t, a, b, tyX_same s ty, r⟩
/-- an error with one field that flies -/
def Fl (E : XK) (H : Hp) (C : Addr) (f : Str) (y : V) : Prop := ∀ (H' : Hp) (dd : Addr), Same H H' → H' dd = some (.xd [(f, y)]) → E (.ref C) (some dd) H'
def spIsNumber (K : PySem.W.Frag) : Sp := fun vs H Q _ => ∃ v : V, vs = [v] ∧ Kd K H v ∧ Q (.bl (isN v)) H
theorem ok_IsNumber {f : Addr} {fd : FuncData} {k : Nat} (F : Fun K "is_number" "is_number" sIsNumber f fd) (m_isinstance : mg "isinstance" = none) (m_int : mg "int" = none) (m_bool : mg "bool" = none) :
    FnOk P w K mg base CX0 (k + 1) f fd ["value"] (spIsNumber K) := by
  refine F.ok scIsNumber (fun vs H Q E h => ?_) (fun cdv A outer s H vs Q E hr h => ?_)
  · obtain ⟨v, rfl, _⟩ := h
    rfl
  · obtain ⟨v, rfl, ⟨t, a, b, ty, k1, k2, e⟩, q⟩ := h
    refine ⟨_, (pss_one (ps_ret (pe_and (pe_callB (isiK K) (by rfl) m_isinstance (by decide +kernel) (pa_cons (pv 0) (pa_cons (pe_bltn (v := .ty "int") (by rfl) m_int (by decide +kernel) rfl) pa_nil))) (pe_one (pe_not (pe_callB (isiK K) (by rfl) m_isinstance (by decide +kernel) (pa_cons (pv 0) (pa_cons (pe_bltn (v := .ty "bool") (by rfl) m_bool (by decide +kernel) rfl) pa_nil)))))))), ?_⟩
    refine ⟨v, rfl, _, _, _, _, a, rfl, .ty "int", ty, k1, a, rfl, ?_⟩
    rw [← e] at q
    cases a with
    | false => exact iteF q
    | true => exact iteT ⟨v, rfl, _, _, _, _, b, rfl, .ty "bool", ty, k2, b, rfl, q⟩
/-! ### a slide, or its error -/
theorem ok_NolampInit {f : Addr} {fd : FuncData} {C : Addr} (F : Fun K "__init__" "NoLamp.__init__" sNolampInit f fd) (T : IniC K C "value") :
    FnOk P w K mg base CX0 1 f fd ["self", "value"] (spInit C "value") := by
  refine F.ok scNolampInit (fun vs H Q E h => ?_) (fun cdv A outer s H vs Q E hr h => ?_)
  · obtain ⟨a, y, rfl, _⟩ := h
    rfl
  · obtain ⟨a, y, rfl, ea, q⟩ := h
    refine ⟨_, pss_one (ps_ost (pv 0) (pv 1)), ?_⟩
    exact ⟨y, rfl, .ref a, rfl, a, C, rfl, T.oex, T.nof, .inl ⟨ea, fun dx nd ne => q dx nd ne⟩⟩
theorem ok_NotadjacentInit {f : Addr} {fd : FuncData} {C : Addr} (F : Fun K "__init__" "NotAdjacent.__init__" sNotadjacentInit f fd) (T : IniC K C "value") :
    FnOk P w K mg base CX0 1 f fd ["self", "value"] (spInit C "value") := by
  refine F.ok scNotadjacentInit (fun vs H Q E h => ?_) (fun cdv A outer s H vs Q E hr h => ?_)
  · obtain ⟨a, y, rfl, _⟩ := h
    rfl
  · obtain ⟨a, y, rfl, ea, q⟩ := h
    refine ⟨_, pss_one (ps_ost (pv 0) (pv 1)), ?_⟩
    exact ⟨y, rfl, .ref a, rfl, a, C, rfl, T.oex, T.nof, .inl ⟨ea, fun dx nd ne => q dx nd ne⟩⟩
theorem ok_BlockedInit {f : Addr} {fd : FuncData} {C : Addr} (F : Fun K "__init__" "Blocked.__init__" sBlockedInit f fd) (T : IniC K C "vertex") :
    FnOk P w K mg base CX0 1 f fd ["self", "vertex"] (spInit C "vertex") := by
  refine F.ok scBlockedInit (fun vs H Q E h => ?_) (fun cdv A outer s H vs Q E hr h => ?_)
  · obtain ⟨a, y, rfl, _⟩ := h
    rfl
  · obtain ⟨a, y, rfl, ea, q⟩ := h
    refine ⟨_, pss_one (ps_ost (pv 0) (pv 1)), ?_⟩
    exact ⟨y, rfl, .ref a, rfl, a, C, rfl, T.oex, T.nof, .inl ⟨ea, fun dx nd ne => q dx nd ne⟩⟩
/-- the value is an int of the list -/
def isIn (S : List Int) : V → Bool
  | .int i => decide (i ∈ S)
  | _ => false
theorem isIn_int {S : List Int} {v : V} (h : isIn S v = true) : ∃ i : Int, v = .int i ∧ i ∈ S := by
  cases v with
  | int i => exact ⟨i, rfl, of_decide_eq_true h⟩
  | _ => cases h
def spCheckLamp (K : PySem.W.Frag) (cNL : Addr) : Sp := fun vs H Q E => ∃ (y : V) (S : List Int) (u : V), vs = [y, u] ∧ Dp K H y (intsD S) ∧ Kd K H u ∧ (isIn S u = true → Q .non H) ∧ (isIn S u = false → Fl E H cNL "value" u)
theorem ok_CheckLamp {f : Addr} {fd : FuncData} {cNoLamp : Addr} (F : Fun K "check_lamp" "check_lamp" sCheckLamp f fd) (eNoLamp : ErrC P w K mg base "NoLamp" "value" cNoLamp) (oIsNumber : Own P w K mg base "is_number" 1 ["value"] (spIsNumber K)) :
    FnOk P w K mg base (L2.CX P w) 3 f fd ["setting", "value"] (spCheckLamp K cNoLamp) := by
  refine F.okX scCheckLamp (fun vs H Q E h => ?_) (fun cdv A outer s H vs Q E hr h => ?_)
  · obtain ⟨y, S, u, rfl, _⟩ := h
    rfl
  · obtain ⟨y, S, u, rfl, hy, ku, q1, q2⟩ := h
    obtain ⟨b, rfl, hb⟩ := Dp.intsI hy
    refine ⟨_, (pss_one (ps_if (PW.pt (pw_or (pt_not (pt_val (pe_own oIsNumber (hr.mono (by decide)) (by rfl) (pa_cons (pv 1) pa_nil)))) (pw_or1 (pt_cmpR (notInK K) (pv 1) (pv 0) (by rfl))))) (pss_one (ps_err eNoLamp (hr.mono (by decide)) (takes_of rfl rfl rfl rfl) (by rfl) (pa_cons (pv 1) pa_nil))) pss_nil)), ?_⟩
    refine ⟨u, rfl, u, rfl, ku, isN u, rfl, ?_⟩
    cases u with
    | int u =>
      refine iteF ⟨.int u, rfl, .ref b, rfl, b, S.map V.int, rfl, .inr hb, rfl, flat_ints S, _, rfl, ?_⟩
      show if (if true = true then !inV (V.int u) (S.map V.int) else _) = true then _ else _
      rw [if_pos rfl, inV_ints]
      by_cases hu : u ∈ S
      · rw [decide_eq_true hu]
        exact iteF (q1 (decide_eq_true hu))
      · rw [decide_eq_false hu]
        exact iteT ⟨.int u, rfl, errI fun H' d s e => q2 (decide_eq_false hu) H' d s e⟩
    | _ => exact iteT (iteT ⟨_, rfl, errI fun H' d s e => q2 rfl H' d s e⟩)
def spSlideLamp (K : PySem.W.Frag) (cNL cNA cB : Addr) : Sp := fun vs H Q E => ∃ (x y : V) (m : Nat) (es : List (Int × Int)) (S : List Int) (u v : V), vs = [x, y, u, v] ∧ m ≤ 12 ∧ IsFor m es ∧ Dp K H x (forD m es) ∧ Dp K H y (intsD S) ∧ IsSet m es S ∧ Kd K H u ∧ Kd K H v ∧
  (isIn S u = false → Fl E H cNL "value" u) ∧ (∀ a : Int, u = .int a → a ∈ S → (isIn (nearL m es a) v = false → Fl E H cNA "value" v) ∧ ∀ b : Int, v = .int b → b ∈ nearL m es a →
    (∀ (w : Int) (l : List Int), oth m es S a b = w :: l → Fl E H cB "vertex" (.int w)) ∧ (oth m es S a b = [] → ∀ (H' : Hp) (z : V), Same H H' → Dp K H' z (intsD (after S a b)) → Q z H'))
theorem ok_SlideLamp {f : Addr} {fd : FuncData} {cNoLamp cNotAdjacent cBlocked : Addr} (F : Fun K "slide_lamp" "slide_lamp" sSlideLamp f fd) (m_tuple : mg "tuple" = none) (m_sorted : mg "sorted" = none) (eNotAdjacent : ErrC P w K mg base "NotAdjacent" "value" cNotAdjacent) (eBlocked : ErrC P w K mg base "Blocked" "vertex" cBlocked)
    (oIsNumber : Own P w K mg base "is_number" 1 ["value"] (spIsNumber K)) (xCheckLamp : OwnX P w K mg base "check_lamp" 3 ["setting", "value"] (spCheckLamp K cNoLamp)) (oNeighboursOf : Own P w K mg base "neighbours_of" 1 ["forest", "vertex"] (spNeighboursOf K))
    (oBlockingLamps : Own P w K mg base "blocking_lamps" 2 ["forest", "setting", "u", "v"] (spBlockingLamps K)) :
    FnOk P w K mg base (L2.CX P w) 4 f fd ["forest", "setting", "u", "v"] (spSlideLamp K cNoLamp cNotAdjacent cBlocked) := by
  refine F.okX scSlideLamp (fun vs H Q E h => ?_) (fun cdv A outer s H vs Q E hr h => ?_)
  · obtain ⟨x, y, m, es, S, u, v, rfl, _⟩ := h
    rfl
  · obtain ⟨x, y, m, es, S, u, v, rfl, hm, isf, hx, hy, iss, ku, kv, q1, q2⟩ := h
    obtain ⟨b, rfl, hb⟩ := Dp.intsI hy
    have ls := iss.len
    refine ⟨_, (pss_cons (ps_expr (pe_ownX xCheckLamp (hr.mono (by decide)) (takes_of rfl rfl rfl rfl) (by rfl) (pa_cons (pv 1) (pa_cons (pv 2) pa_nil))))
    (pss_cons (ps_if (PW.pt (pw_or (pt_not (pt_val (pe_own oIsNumber (hr.mono (by decide)) (by rfl) (pa_cons (pv 3) pa_nil)))) (pw_or1 (pt_cmpR (notInK K) (pv 3) (pe_own oNeighboursOf (hr.mono (by decide)) (by rfl) (pa_cons (pv 0) (pa_cons (pv 2) pa_nil))) (by rfl))))) (pss_one (ps_err eNotAdjacent (hr.mono (by decide)) (takes_of rfl rfl rfl rfl) (by rfl) (pa_cons (pv 3) pa_nil))) pss_nil)
    (pss_cons (ps_set (i := 4) scSlideLamp.nd rfl (.inl rfl) (pe_own oBlockingLamps (hr.mono (by decide)) (by rfl) (pa_cons (pv 0) (pa_cons (pv 1) (pa_cons (pv 2) (pa_cons (pv 3) pa_nil))))))
    (pss_cons (ps_if (truthK K (pv 4) (by intro _; rfl)) (pss_one (ps_err eBlocked (hr.mono (by decide)) (takes_of rfl rfl rfl rfl) (by rfl) (pa_cons (pe_ix (ixTK K) (pv 4) pe_int (fun _ _ => rfl)) pa_nil))) pss_nil)
    (pss_one (ps_ret (pe_callTy (tupleK K) (by rfl) m_tuple (by decide +kernel) (pa_cons (pe_callB (sortK K hr.units) (by rfl) m_sorted (by decide +kernel) (pa_cons (pe_lc (own := [("lamp", 5)]) (g := (gName 5)) (tt := tYes) rfl scSlideLamp.nd (piTK K (pv 1))
      (blkOk_by (own := [("lamp", 5)]) (N := nSlideLamp) (sc := (defScope sSlideLamp)) (by decide +kernel))
      (fun _ _ _ _ _ => (pg_name (i := 5) scSlideLamp.nd rfl (Or.inl rfl))) (fun _ _ _ _ _ => pts_nil)
      (fun _ _ _ _ _ => (pe_ifExp (pt_cmpR op_eq (pv 5) (pv 2) (nomark _)) (pv 3) (pv 5)))) pa_nil)) pa_nil)))))))), ?_⟩
    -- u
    refine ⟨.ref b, rfl, u, rfl, .ref b, S, u, rfl, hy, ku, fun hu => ?_, fun hu H' dd s e => q1 hu H' dd s e⟩
    obtain ⟨u, rfl, hu'⟩ := isIn_int hu
    have hu : u ∈ S := hu'
    obtain ⟨q3, q4⟩ := q2 u rfl hu
    -- v
    refine ⟨v, rfl, v, rfl, kv, isN v, rfl, ?_⟩
    cases v with
    | int v =>
      refine iteF ⟨.int v, rfl, x, rfl, .int u, rfl, x, m, es, u, rfl, hm, isf, hx, fun H1 n s1 dn => ?_⟩
      obtain ⟨a, rfl, ha⟩ := Dp.intsI dn
      refine ⟨a, _, rfl, .inr ha, rfl, flat_ints _, _, rfl, ?_⟩
      show if (if true = true then !inV (V.int v) ((nearL m es u).map V.int) else _) = true then _ else _
      rw [if_pos rfl, inV_ints]
      by_cases hv : v ∈ nearL m es u
      rotate_left
      · rw [decide_eq_false hv]
        exact iteT ⟨.int v, rfl, errI fun H' d s e => q3 (decide_eq_false hv) H' d (s1.trans s) e⟩
      rw [decide_eq_true hv]
      refine iteF ?_
      obtain ⟨q5, q6⟩ := q4 v rfl hv
      -- blocking
      refine ⟨x, rfl, .ref b, rfl, .int u, rfl, .int v, rfl, x, _, m, es, S, u, v, rfl, hm, isf, Dp.same s1 hx, Dp.same s1 hy, fun H2 z s2 dz => ?_⟩
      have s12 := s1.trans s2
      obtain ⟨c, rfl, hc⟩ := Dp.intsI dz
      cases ho : oth m es S u v with
      | cons w l =>
        rw [ho] at hc
        refine ⟨.ref c, rfl, true, .inr (.inl ⟨_, hc, rfl⟩), iteT ?_⟩
        exact ⟨.ref c, rfl, c, _, 0, .int w, rfl, rfl, hc, atI_nat (j := 0) rfl, errI fun H' d s e => q5 w l ho H' d (s12.trans s) e⟩
      | nil =>
        rw [ho] at hc
        refine ⟨.ref c, rfl, false, .inr (.inl ⟨_, hc, rfl⟩), iteF ?_⟩
        -- the setting
        refine ⟨.ref b, rfl, b, rfl, ⟨_, Same.tup s12 hb⟩, fun D nD => ?_⟩
        refine lc_tupI (K := K) (fun _ => true) (fun l => .int (if l = u then v else l)) nD (Same.tup s12 hb) (fun _ => rfl) (fun o _ H' R s3 hR => ?_) (fun o _ _ H' R s3 hR => ?_) (fun o => only_int _) (by omega) (fun H3 ys s3 eD dy => ?_)
        · exact hR H' (Same.refl _)
        · refine ⟨.int o, rfl, .int u, rfl, rfl, _, rfl, ?_⟩
          rw [dec_int]
          have h2 := hR H' (.int (if o = u then v else o)) (Same.refl _) (.int _)
          refine ite2 (fun h => ?_) (fun h => ?_)
          · rw [if_pos (of_decide_eq_true h)] at h2
            exact ⟨.int v, rfl, h2⟩
          · rw [if_neg fun z => h (decide_eq_true z)] at h2
            exact ⟨.int o, rfl, h2⟩
        have e1 : ys = (S.map fun l => if l = u then v else l).map V.int := DpAll.ints (by
          rw [List.map_map]
          have e : (S.filter fun _ => true) = S := List.filter_eq_self.mpr fun _ _ => rfl
          rw [e] at dy
          exact dy)
        subst e1
        refine sortInts (SqL.of eD) fun p np => ?_
        rw [after_eq iss.asc.nodup hu]
        have t1 := same_upd (o := .lst ((after S u v).map V.int)) np
        refine ⟨p, _, rfl, .inl ⟨SqL.of upd_same, fun t nt => ?_⟩⟩
        exact q6 ho _ _ (((s12.trans s3).trans t1).trans (same_upd nt)) (Dp.ints (SqT.of upd_same))
    | _ => exact iteT (iteT ⟨_, rfl, errI fun H' d s e => q3 rfl H' d s e⟩)
/-! ### the possible slides -/
def spPossibleSlides (K : PySem.W.Frag) : Sp := fun vs H Q _ => ∃ (x y : V) (m : Nat) (es : List (Int × Int)) (S : List Int), vs = [x, y] ∧ m ≤ 12 ∧ IsFor m es ∧ Dp K H x (forD m es) ∧ Dp K H y (intsD S) ∧
  IsSet m es S ∧ ∀ (H' : Hp) (z : V), Same H H' → Dp K H' z (prsD (slidesP m es S)) → Q z H'
theorem ok_PossibleSlides {f : Addr} {fd : FuncData} (F : Fun K "possible_slides" "possible_slides" sPossibleSlides f fd) (m_tuple : mg "tuple" = none)
    (oNeighboursOf : Own P w K mg base "neighbours_of" 1 ["forest", "vertex"] (spNeighboursOf K))
    (oBlockingLamps : Own P w K mg base "blocking_lamps" 2 ["forest", "setting", "u", "v"] (spBlockingLamps K)) :
    FnOk P w K mg base CX0 3 f fd ["forest", "setting"] (spPossibleSlides K) := by
  refine F.ok scPossibleSlides (fun vs H Q E h => ?_) (fun cdv A outer s H vs Q E hr h => ?_)
  · obtain ⟨x, y, m, es, S, rfl, _⟩ := h
    rfl
  · obtain ⟨x, y, m, es, S, rfl, hm, isf, hx, hy, iss, q⟩ := h
    obtain ⟨b, rfl, hb⟩ := Dp.intsI hy
    have ls := iss.len
    refine ⟨_, (pss_cons (ps_setLc2 (i := 2) (own := [("u", 3), ("v", 4)]) (vs1 := [4]) (g := (gName 3)) (g1 := (gName 4)) (tt := tYes) (tt1 := tYes) (by rfl) scPossibleSlides.nd rfl rfl (sw_true rfl rfl rfl (by decide +kernel)) (piTK K (pv 1))
      (blkOk_by (own := [("u", 3), ("v", 4)]) (N := nPossibleSlides) (sc := (defScope sPossibleSlides)) (by decide +kernel)) (by decide)
      (fun _ _ _ _ _ => (pg_name (i := 3) scPossibleSlides.nd rfl (Or.inl rfl)))
      (fun _ _ _ _ _ => pts_nil)
      (fun _ _ _ _ _ => (piTK K (pe_own oNeighboursOf (hr.mono (by decide)) (by rfl) (pa_cons (pv 0) (pa_cons (pv 3) pa_nil)))))
      (fun _ _ _ _ _ => (pg_name (i := 4) scPossibleSlides.nd rfl (Or.inl rfl)))
      (fun _ _ _ _ _ => pts_nil)
      (fun _ _ _ _ _ => (pe_tup (pa_cons (pv 3) (pa_cons (pv 4) pa_nil)))))
    (pss_one (ps_ret (pe_callTy (tupleK K) (by rfl) m_tuple (by decide +kernel) (pa_cons (pe_lc (own := [("u", 3), ("v", 4)]) (g := (gTup K 2 (gCons (gName 3) (gCons (gName 4) gNil)))) rfl scPossibleSlides.nd (piLK K (pv 2))
      (blkOk_by (own := [("u", 3), ("v", 4)]) (N := nPossibleSlides) (sc := (defScope sPossibleSlides)) (by decide +kernel))
      (fun _ _ _ _ _ => (pgTK K (pgs_cons (pg_name (i := 3) scPossibleSlides.nd rfl (Or.inl rfl)) (pgs_cons (pg_name (i := 4) scPossibleSlides.nd rfl (Or.inl rfl)) pgs_nil)))) (fun _ _ _ _ _ => (pts_one (pt_not (truthK K (pe_own oBlockingLamps (hr.mono (by decide)) (by rfl) (pa_cons (pv 0) (pa_cons (pv 1) (pa_cons (pv 3) (pa_cons (pv 4) pa_nil))))) (by intro _; rfl)))))
      (fun _ _ _ _ _ => (pe_tup (pa_cons (pv 3) (pa_cons (pv 4) pa_nil))))) pa_nil))))), ?_⟩
    refine ⟨.ref b, rfl, b, rfl, ⟨_, hb⟩, fun D nD => ?_⟩
    refine lc2_tup (K := K) (S := S) (nearL m es) (fun u v => prD (u, v)) nD hb (fun _ => rfl) (fun _ _ => rfl) (fun u _ H' R s1 hR => ?_) (fun u _ v _ H' R s1 hR => ?_) (fun u v => only_pr _) (by omega) (fun u _ => by have := nearL_len m es u; omega) (fun H2 ys s2 eD dy => ?_)
    · refine ⟨x, rfl, .int u, rfl, x, m, es, u, rfl, hm, isf, Dp.same s1 hx, fun H2 n s2 dn => ?_⟩
      obtain ⟨a, rfl, ha⟩ := Dp.intsI dn
      exact ⟨a, rfl, ⟨_, ha⟩, hR H2 a s2 ha⟩
    · refine ⟨.int u, rfl, .int v, rfl, by show 2 ≤ sizeLine; decide, fun t nt => hR _ _ (same_upd nt) (Dp.pr (SqT.of upd_same))⟩
    have e1 : (S.flatMap fun u => (nearL m es u).map fun v => prD (u, v)) = (stepsL m es S).map prD := by
      unfold stepsL
      rw [List.map_flatMap]
      congr 1
      funext u
      rw [List.map_map]
      rfl
    rw [e1] at dy
    have sl := steps_len m es S
    have sl2 : S.length * m ≤ 12 * 12 := Nat.mul_le_mul (by omega) hm
    refine ⟨.ref D, rfl, D, rfl, ⟨_, SqL.of eD⟩, fun C nC => ?_⟩
    refine lc_listP (K := K) (fun p => decide (oth m es S p.1 p.2 = [])) prD nC (SqL.of eD) dy (fun _ _ => rfl) (fun o _ H' R s3 hR => ?_) (fun o _ _ H' R s3 hR => ?_) only_pr (by omega) (fun H3 zs s3 eC dz => ?_)
    · have s23 := s2.trans s3
      refine ⟨x, rfl, .ref b, rfl, .int o.1, rfl, .int o.2, rfl, x, _, m, es, S, o.1, o.2, rfl, hm, isf, Dp.same s23 hx, Dp.same s23 hy, fun H4 z s4 dz => ?_⟩
      obtain ⟨c, rfl, hc⟩ := Dp.intsI dz
      refine ⟨_, .inr (.inl ⟨_, hc, rfl⟩), ?_⟩
      have h2 := hR H4 s4
      cases e : oth m es S o.1 o.2 with
      | nil =>
        rw [decide_eq_true e] at h2
        exact h2
      | cons z r =>
        rw [decide_eq_false (by rw [e]; exact fun z => nomatch z)] at h2
        exact h2
    · refine ⟨.int o.1, rfl, .int o.2, rfl, by show 2 ≤ sizeLine; decide, fun t nt => hR _ _ (same_upd nt) (Dp.pr (SqT.of upd_same))⟩
    refine ⟨C, zs, rfl, .inl ⟨SqL.of eC, fun t nt => ?_⟩⟩
    have st := same_upd (o := .tup zs) nt
    exact q _ _ ((s2.trans s3).trans st) (.tup (SqT.of upd_same) (DpAll.same st dz))
end
end TL
namespace TL
open PySem PySem.Spec PyProof.Rows L2
section
variable {P : Program} {w : World} {K : PySem.W.Frag} {mg : Str → Option Value} {base : Heap}
/-! ### odd values -/
inductive Ob : HO → PyData → Prop
  | l0 : Ob (.lst []) (.list [])
  | l2 : Ob (.lst [.int 0, .int 1]) (.list [.int 0, .int 1])
  | d0 : Ob (.dK []) (.dict [])
  | d1 : Ob (.dK [(.inr "a", .int 1)]) (.dict [(.str "a", .int 1)])
inductive Ov (K : PySem.W.Frag) (d l : Addr) (H : Hp) : V → PyData → Prop
  | dat {v : V} {x : PyData} (h : Dp K H v x) (o : only x = true) (sh : Sw x 300 3) : Ov K d l H v x
  | obj {a : Addr} {o : HO} {x : PyData} (e : H a = some o) (h : Ob o x) (h1 : a ≠ d) (h2 : a ≠ l) : Ov K d l H (.ref a) x
theorem Ov.fm {d l : Addr} {n : Nat} {H H' : Hp} (f : Fm d l H H') (D : Deck H d l n) {v : V} {x : PyData} (h : Ov K d l H v x) : Ov K d l H' v x := by
  cases h with
  | dat h o sh => exact .dat (Dp.kt (f.kt D) h o) o sh
  | obj e h h1 h2 => exact .obj (f _ _ h1 h2 e) h h1 h2
theorem Ov.same {d l : Addr} {H H' : Hp} (s : Same H H') {v : V} {x : PyData} (h : Ov K d l H v x) : Ov K d l H' v x := by
  cases h with
  | dat h o sh => exact .dat (Dp.same s h) o sh
  | obj e h h1 h2 => exact .obj (s _ _ e) h h1 h2
theorem Ov.rep {d l : Addr} {H : Hp} {v : V} {x : PyData} (h : Ov K d l H v x) : (Dp K H v x ∧ Shows x) ∨ (Dq K H v x ∧ ShowsQ x) := by
  cases h with
  | dat h o sh => exact .inl ⟨h, sh.shows (nod_of_only _ o) (by decide) (by decide)⟩
  | obj e h h1 h2 =>
    have z : ∀ d ∈ [PyData.int 0, PyData.int 1], Sm d 10 0 := fun d hd => by
      rcases List.mem_cons.mp hd with rfl | hd
      · exact Sm.int (by unfold sm; omega)
      · rw [List.mem_singleton.mp hd]
        exact Sm.int (by unfold sm; omega)
    have n : ∀ d ∈ ([] : List PyData), Sm d 10 0 := fun d hd => nomatch hd
    cases h with
    | l0 => exact .inl ⟨.lst (SqL.of e) .nil, (Sm.lst (m := 1) n (by decide)).shows (by decide) (by decide)⟩
    | l2 => exact .inl ⟨.lst (SqL.of e) (.cons (.int 0) (.cons (.int 1) .nil)), (Sm.lst (m := 2) z (by decide)).shows (by decide) (by decide)⟩
    | d0 => exact .inr ⟨.dct (ps := []) e rfl .nil, by decide +kernel, by decide +kernel, by decide +kernel⟩
    | d1 => exact .inr ⟨.dct (ps := [(.str "a", .int 1)]) e rfl (.cons (.int 1) .nil), by decide +kernel, by decide +kernel, by decide +kernel⟩
theorem kd_tup {H : Hp} {a : Addr} {xs : List V} (h : SqT K H a xs) : Kd K H (.ref a) := by
  rcases h with (h | ⟨o, h⟩) | h
  · exact ⟨_, false, false, .base (.tup h), kit_ty (by decide +kernel), kit_ty (by decide +kernel), rfl⟩
  · exact ⟨_, false, false, .fTuple h, kit_ty (by decide +kernel), kit_ty (by decide +kernel), rfl⟩
  · obtain ⟨o, its, n, hk, hc, _⟩ := h
    exact ⟨_, false, false, .kTuple hk hc, kit_ty (by decide +kernel), kit_ty (by decide +kernel), rfl⟩
theorem Ov.kd {d l : Addr} {H : Hp} {v : V} {x : PyData} (h : Ov K d l H v x) : Kd K H v := by
  cases h with
  | dat h o sh =>
    cases h with
    | non => exact ⟨_, false, false, .base .non, kit_ty (by decide +kernel), kit_ty (by decide +kernel), rfl⟩
    | bl b => exact ⟨_, true, true, .base (.bl b), kit_ty (by decide +kernel), kit_ty (by decide +kernel), rfl⟩
    | int i => exact Kd.int _
    | str x => exact ⟨_, false, false, .base (.str _), kit_ty (by decide +kernel), kit_ty (by decide +kernel), rfl⟩
    | lst h a => simp [only] at o
    | tup h a => exact kd_tup h
  | obj e h h1 h2 =>
    cases h with
    | l0 => exact ⟨_, false, false, .base (.lst e), kit_ty (by decide +kernel), kit_ty (by decide +kernel), rfl⟩
    | l2 => exact ⟨_, false, false, .base (.lst e), kit_ty (by decide +kernel), kit_ty (by decide +kernel), rfl⟩
    | d0 => exact ⟨_, false, false, .base (.dK e), kit_ty (by decide +kernel), kit_ty (by decide +kernel), rfl⟩
    | d1 => exact ⟨_, false, false, .base (.dK e), kit_ty (by decide +kernel), kit_ty (by decide +kernel), rfl⟩
theorem Ov.sw {d l : Addr} {H : Hp} {v : V} {x : PyData} (h : Ov K d l H v x) : Sw x 300 3 := by
  cases h with
  | dat h o sh => exact sh
  | obj e h h1 h2 => cases h <;> exact ⟨by decide +kernel, by decide +kernel, by decide +kernel, by decide +kernel⟩
theorem Same.put {H H' : Hp} {a : Addr} {o : HO} (s : Same H H') (n : H a = none) : Same H (upd H' a o) := fun b u e => by
  rw [upd_ne (ne_of_none e n)]
  exact s b u e
theorem Same.none {H H' : Hp} {a : Addr} (s : Same H H') (n : H' a = none) : H a = none := by
  cases e : H a with
  | none => rfl
  | some o => rw [s _ _ e] at n; cases n
def spLOdd (K : PySem.W.Frag) : Sp := fun vs H Q _ => ∃ (d l : Addr) (n : Nat), vs = [.ref d] ∧ Deck H d l n ∧ n < 900000 ∧
  ∀ H' v x, Fm d l H H' → Deck H' d l (n + 1) → Ov K d l H' v x → (∀ a, v = .ref a → H a = none) → Q v H'
theorem ok_LOdd {f : Addr} {fd : FuncData} (F : Fun K "_law_odd" "_law_odd" sLOdd f fd) (oLDraw : Own P w K mg base "_law_draw" 1 ["_law_deck_here", "_law_limit"] spLDraw) :
    FnOk P w K mg base CX0 2 f fd ["_law_deck_here"] (spLOdd K) := by
  refine F.ok scLOdd (fun vs H Q E h => ?_) (fun cdv A outer s H vs Q E hr h => ?_)
  · obtain ⟨d, l, n, rfl, _⟩ := h
    rfl
  · obtain ⟨d, l, n, rfl, hD, hn, q⟩ := h
    refine ⟨_, (pss_cons (ps_set (i := 1) scLOdd.nd rfl (.inl rfl) (pe_lst (pa_cons pe_non (pa_cons pe_bl (pa_cons pe_bl (pa_cons (pe_un un_neg pe_int) (pa_cons pe_int (pa_cons pe_int (pa_cons pe_int (pa_cons pe_int (pa_cons (pe_op op_pow pe_int pe_int) (pa_cons pe_str (pa_cons pe_str (pa_cons (pe_tup pa_nil) (pa_cons (pe_tup (pa_cons pe_int pa_nil)) (pa_cons (pe_lst pa_nil) (pa_cons (pe_lst (pa_cons pe_int (pa_cons pe_int pa_nil))) (pa_cons pe_dnewK (pa_cons (pe_disp (pps_cons pe_str pe_int pps_nil) (by rfl) (by rfl) (fun z => by cases z) (by decide)) pa_nil)))))))))))))))))))
    (pss_cons (ps_set (i := 1) scLOdd.nd rfl (.inl rfl) (pe_op op_cat (pv 1) (pe_lst (pa_cons (pe_tup (pa_cons pe_int (pa_cons pe_bl pa_nil))) (pa_cons (pe_tup (pa_cons pe_bl (pa_cons pe_int pa_nil))) (pa_cons (pe_tup (pa_cons pe_int (pa_cons pe_int pa_nil))) (pa_cons (pe_tup (pa_cons pe_int (pa_cons pe_int pa_nil))) (pa_cons (pe_tup (pa_cons pe_int (pa_cons pe_int (pa_cons pe_int pa_nil)))) (pa_cons (pe_tup (pa_cons (pe_tup (pa_cons pe_int (pa_cons pe_int pa_nil))) pa_nil)) (pa_cons (pe_tup (pa_cons pe_non (pa_cons pe_int pa_nil))) (pa_cons (pe_tup (pa_cons pe_str (pa_cons pe_str pa_nil))) (pa_cons (pe_tup (pa_cons pe_int (pa_cons pe_int pa_nil))) pa_nil))))))))))))
    (pss_one (ps_ret (pe_ix (ixLK K) (pv 1) (pe_own oLDraw (hr.mono (by decide)) (by rfl) (pa_cons (pv 0) (pa_cons pe_int pa_nil))) (fun _ _ => rfl)))))), ?_⟩
    refine ⟨_, rfl, 10, 29, rfl, rfl, ⟨by decide, by decide, by decide⟩, ?_⟩
    refine ⟨Nat.zero_le _, fun a1 n1 => ?_⟩
    have s1 := same_upd (o := .tup []) n1
    have e1 := same_at (o := .tup []) n1
    have o1 := hD.off n1
    have D1 := hD.same s1
    generalize upd H a1 (.tup []) = J1 at s1 e1 D1 ⊢
    refine ⟨by show 1 ≤ sizeLine; decide, fun a2 n2 => ?_⟩
    have s2 := same_upd (o := .tup [V.int 0]) n2
    have e2 := same_at (o := .tup [V.int 0]) n2
    have o2 := D1.off n2
    have D2 := D1.same s2
    generalize upd J1 a2 (.tup [V.int 0]) = J2 at s2 e2 D2 ⊢
    refine ⟨Nat.zero_le _, fun a3 n3 => ?_⟩
    have s3 := same_upd (o := .lst []) n3
    have e3 := same_at (o := .lst []) n3
    have o3 := D2.off n3
    have D3 := D2.same s3
    generalize upd J2 a3 (.lst []) = J3 at s3 e3 D3 ⊢
    refine ⟨by show 2 ≤ sizeLine; decide, fun a4 n4 => ?_⟩
    have s4 := same_upd (o := .lst [V.int 0, V.int 1]) n4
    have e4 := same_at (o := .lst [V.int 0, V.int 1]) n4
    have o4 := D3.off n4
    have D4 := D3.same s4
    generalize upd J3 a4 (.lst [V.int 0, V.int 1]) = J4 at s4 e4 D4 ⊢
    intro a5 n5
    have s5 := same_upd (o := .dK []) n5
    have e5 := same_at (o := .dK []) n5
    have o5 := D4.off n5
    have D5 := D4.same s5
    generalize upd J4 a5 (.dK []) = J5 at s5 e5 D5 ⊢
    intro a6 n6
    have o6 := D5.off n6
    have s6 : Same J5 (upd (upd J5 a6 (.dK [])) a6 (.dK [(.inr "a", V.int 1)])) := Same.put (same_upd n6) n6
    refine ⟨upd_same, [(.inr "a", V.int 1)], rfl, by show 1 ≤ 15; decide, ?_⟩
    show tNil _ (upd (upd J5 a6 (.dK [])) a6 (.dK [(.inr "a", V.int 1)])) _
    have e6 : upd (upd J5 a6 (.dK [])) a6 (.dK [(.inr "a", V.int 1)]) a6 = some (.dK [(.inr "a", V.int 1)]) := upd_same
    have D6 := D5.same s6
    generalize upd (upd J5 a6 (.dK [])) a6 (.dK [(.inr "a", V.int 1)]) = J6 at s6 e6 D6 ⊢
    refine ⟨by show 17 ≤ sizeLine; decide, fun a7 n7 => ?_⟩
    have s7 := same_upd (o := .lst [V.non, V.bl true, V.bl false, V.int (-1), V.int 0, V.int 1, V.int 12, V.int 13, V.int ((10 : Int) ^ (29 : Int).toNat), V.str "", V.str "0-1", V.ref a1, V.ref a2, V.ref a3, V.ref a4, V.ref a5, V.ref a6]) n7
    have e7 := same_at (o := .lst [V.non, V.bl true, V.bl false, V.int (-1), V.int 0, V.int 1, V.int 12, V.int 13, V.int ((10 : Int) ^ (29 : Int).toNat), V.str "", V.str "0-1", V.ref a1, V.ref a2, V.ref a3, V.ref a4, V.ref a5, V.ref a6]) n7
    have o7 := D6.off n7
    have D7 := D6.same s7
    generalize upd J6 a7 (.lst [V.non, V.bl true, V.bl false, V.int (-1), V.int 0, V.int 1, V.int 12, V.int 13, V.int ((10 : Int) ^ (29 : Int).toNat), V.str "", V.str "0-1", V.ref a1, V.ref a2, V.ref a3, V.ref a4, V.ref a5, V.ref a6]) = J7 at s7 e7 D7 ⊢
    refine ⟨.ref a7, rfl, ?_⟩
    refine ⟨by show 2 ≤ sizeLine; decide, fun a8 n8 => ?_⟩
    have s8 := same_upd (o := .tup [V.int 0, V.bl true]) n8
    have e8 := same_at (o := .tup [V.int 0, V.bl true]) n8
    have o8 := D7.off n8
    have D8 := D7.same s8
    generalize upd J7 a8 (.tup [V.int 0, V.bl true]) = J8 at s8 e8 D8 ⊢
    refine ⟨by show 2 ≤ sizeLine; decide, fun a9 n9 => ?_⟩
    have s9 := same_upd (o := .tup [V.bl false, V.int 1]) n9
    have e9 := same_at (o := .tup [V.bl false, V.int 1]) n9
    have o9 := D8.off n9
    have D9 := D8.same s9
    generalize upd J8 a9 (.tup [V.bl false, V.int 1]) = J9 at s9 e9 D9 ⊢
    refine ⟨by show 2 ≤ sizeLine; decide, fun a10 n10 => ?_⟩
    have s10 := same_upd (o := .tup [V.int 1, V.int 0]) n10
    have e10 := same_at (o := .tup [V.int 1, V.int 0]) n10
    have o10 := D9.off n10
    have D10 := D9.same s10
    generalize upd J9 a10 (.tup [V.int 1, V.int 0]) = J10 at s10 e10 D10 ⊢
    refine ⟨by show 2 ≤ sizeLine; decide, fun a11 n11 => ?_⟩
    have s11 := same_upd (o := .tup [V.int 0, V.int 0]) n11
    have e11 := same_at (o := .tup [V.int 0, V.int 0]) n11
    have o11 := D10.off n11
    have D11 := D10.same s11
    generalize upd J10 a11 (.tup [V.int 0, V.int 0]) = J11 at s11 e11 D11 ⊢
    refine ⟨by show 3 ≤ sizeLine; decide, fun a12 n12 => ?_⟩
    have s12 := same_upd (o := .tup [V.int 0, V.int 1, V.int 2]) n12
    have e12 := same_at (o := .tup [V.int 0, V.int 1, V.int 2]) n12
    have o12 := D11.off n12
    have D12 := D11.same s12
    generalize upd J11 a12 (.tup [V.int 0, V.int 1, V.int 2]) = J12 at s12 e12 D12 ⊢
    refine ⟨by show 2 ≤ sizeLine; decide, fun a13 n13 => ?_⟩
    have s13 := same_upd (o := .tup [V.int 0, V.int 1]) n13
    have e13 := same_at (o := .tup [V.int 0, V.int 1]) n13
    have o13 := D12.off n13
    have D13 := D12.same s13
    generalize upd J12 a13 (.tup [V.int 0, V.int 1]) = J13 at s13 e13 D13 ⊢
    refine ⟨by show 1 ≤ sizeLine; decide, fun a14 n14 => ?_⟩
    have s14 := same_upd (o := .tup [V.ref a13]) n14
    have e14 := same_at (o := .tup [V.ref a13]) n14
    have o14 := D13.off n14
    have D14 := D13.same s14
    generalize upd J13 a14 (.tup [V.ref a13]) = J14 at s14 e14 D14 ⊢
    refine ⟨by show 2 ≤ sizeLine; decide, fun a15 n15 => ?_⟩
    have s15 := same_upd (o := .tup [V.non, V.int 1]) n15
    have e15 := same_at (o := .tup [V.non, V.int 1]) n15
    have o15 := D14.off n15
    have D15 := D14.same s15
    generalize upd J14 a15 (.tup [V.non, V.int 1]) = J15 at s15 e15 D15 ⊢
    refine ⟨by show 2 ≤ sizeLine; decide, fun a16 n16 => ?_⟩
    have s16 := same_upd (o := .tup [V.str "0", V.str "1"]) n16
    have e16 := same_at (o := .tup [V.str "0", V.str "1"]) n16
    have o16 := D15.off n16
    have D16 := D15.same s16
    generalize upd J15 a16 (.tup [V.str "0", V.str "1"]) = J16 at s16 e16 D16 ⊢
    refine ⟨by show 2 ≤ sizeLine; decide, fun a17 n17 => ?_⟩
    have s17 := same_upd (o := .tup [V.int 0, V.int 12]) n17
    have e17 := same_at (o := .tup [V.int 0, V.int 12]) n17
    have o17 := D16.off n17
    have D17 := D16.same s17
    generalize upd J16 a17 (.tup [V.int 0, V.int 12]) = J17 at s17 e17 D17 ⊢
    refine ⟨by show 9 ≤ sizeLine; decide, fun a18 n18 => ?_⟩
    have s18 := same_upd (o := .lst [V.ref a8, V.ref a9, V.ref a10, V.ref a11, V.ref a12, V.ref a14, V.ref a15, V.ref a16, V.ref a17]) n18
    have e18 := same_at (o := .lst [V.ref a8, V.ref a9, V.ref a10, V.ref a11, V.ref a12, V.ref a14, V.ref a15, V.ref a16, V.ref a17]) n18
    have o18 := D17.off n18
    have D18 := D17.same s18
    generalize upd J17 a18 (.lst [V.ref a8, V.ref a9, V.ref a10, V.ref a11, V.ref a12, V.ref a14, V.ref a15, V.ref a16, V.ref a17]) = J18 at s18 e18 D18 ⊢
    refine ⟨a7, a18, _, _, rfl, rfl, ((((((((((s8.trans s9).trans s10).trans s11).trans s12).trans s13).trans s14).trans s15).trans s16).trans s17).trans s18) _ _ e7, e18, by show 17 + 9 ≤ sizeLine; decide, fun L nL => ?_⟩
    have sL := same_upd (o := .lst ([V.non, V.bl true, V.bl false, V.int (-1), V.int 0, V.int 1, V.int 12, V.int 13, V.int ((10 : Int) ^ (29 : Int).toNat), V.str "", V.str "0-1", V.ref a1, V.ref a2, V.ref a3, V.ref a4, V.ref a5, V.ref a6] ++ [V.ref a8, V.ref a9, V.ref a10, V.ref a11, V.ref a12, V.ref a14, V.ref a15, V.ref a16, V.ref a17])) nL
    have eL := same_at (o := .lst ([V.non, V.bl true, V.bl false, V.int (-1), V.int 0, V.int 1, V.int 12, V.int 13, V.int ((10 : Int) ^ (29 : Int).toNat), V.str "", V.str "0-1", V.ref a1, V.ref a2, V.ref a3, V.ref a4, V.ref a5, V.ref a6] ++ [V.ref a8, V.ref a9, V.ref a10, V.ref a11, V.ref a12, V.ref a14, V.ref a15, V.ref a16, V.ref a17])) nL
    have oL := D18.off nL
    have all : ∀ v ∈ [V.non, V.bl true, V.bl false, V.int (-1), V.int 0, V.int 1, V.int 12, V.int 13, V.int ((10 : Int) ^ (29 : Int).toNat), V.str "", V.str "0-1", V.ref a1, V.ref a2, V.ref a3, V.ref a4, V.ref a5, V.ref a6] ++ [V.ref a8, V.ref a9, V.ref a10, V.ref a11, V.ref a12, V.ref a14, V.ref a15, V.ref a16, V.ref a17], ∃ x, Ov K d l J18 v x ∧ ∀ a, v = .ref a → H a = none := by
      intro v hv
      rcases List.mem_append.mp hv with hv | hv
      · rcases List.mem_cons.mp hv with rfl | hv
        · exact ⟨_, .dat .non (by decide) (Sm.none.sw.le (by decide) (by decide)), (fun a z => nomatch z)⟩
        rcases List.mem_cons.mp hv with rfl | hv
        · exact ⟨_, .dat (.bl _) (by decide) ((Sm.bool _).sw.le (by decide) (by decide)), (fun a z => nomatch z)⟩
        rcases List.mem_cons.mp hv with rfl | hv
        · exact ⟨_, .dat (.bl _) (by decide) ((Sm.bool _).sw.le (by decide) (by decide)), (fun a z => nomatch z)⟩
        rcases List.mem_cons.mp hv with rfl | hv
        · exact ⟨_, .dat (.int _) (by decide) ((sw_big (by decide)).le (by decide) (by decide)), (fun a z => nomatch z)⟩
        rcases List.mem_cons.mp hv with rfl | hv
        · exact ⟨_, .dat (.int _) (by decide) ((sw_big (by decide)).le (by decide) (by decide)), (fun a z => nomatch z)⟩
        rcases List.mem_cons.mp hv with rfl | hv
        · exact ⟨_, .dat (.int _) (by decide) ((sw_big (by decide)).le (by decide) (by decide)), (fun a z => nomatch z)⟩
        rcases List.mem_cons.mp hv with rfl | hv
        · exact ⟨_, .dat (.int _) (by decide) ((sw_big (by decide)).le (by decide) (by decide)), (fun a z => nomatch z)⟩
        rcases List.mem_cons.mp hv with rfl | hv
        · exact ⟨_, .dat (.int _) (by decide) ((sw_big (by decide)).le (by decide) (by decide)), (fun a z => nomatch z)⟩
        rcases List.mem_cons.mp hv with rfl | hv
        · exact ⟨_, .dat (.int _) (by simp [only]) ((sw_big (by decide +kernel)).le (by decide) (by decide)), (fun a z => nomatch z)⟩
        rcases List.mem_cons.mp hv with rfl | hv
        · exact ⟨_, .dat (.str _) (by decide) ⟨by decide +kernel, by decide +kernel, by decide +kernel, by decide +kernel⟩, (fun a z => nomatch z)⟩
        rcases List.mem_cons.mp hv with rfl | hv
        · exact ⟨_, .dat (.str _) (by decide) ⟨by decide +kernel, by decide +kernel, by decide +kernel, by decide +kernel⟩, (fun a z => nomatch z)⟩
        rcases List.mem_cons.mp hv with rfl | hv
        · exact ⟨_, .dat (.tup (SqT.of (((((((((((((((((s2.trans s3).trans s4).trans s5).trans s6).trans s7).trans s8).trans s9).trans s10).trans s11).trans s12).trans s13).trans s14).trans s15).trans s16).trans s17).trans s18) _ _ e1)) .nil) (by decide) ⟨by decide +kernel, by decide +kernel, by decide +kernel, by decide +kernel⟩, fun a z => by cases z; exact n1⟩
        rcases List.mem_cons.mp hv with rfl | hv
        · exact ⟨_, .dat (.tup (SqT.of ((((((((((((((((s3.trans s4).trans s5).trans s6).trans s7).trans s8).trans s9).trans s10).trans s11).trans s12).trans s13).trans s14).trans s15).trans s16).trans s17).trans s18) _ _ e2)) (.cons (.int 0) .nil)) (by decide) ⟨by decide +kernel, by decide +kernel, by decide +kernel, by decide +kernel⟩, fun a z => by cases z; exact Same.none s1 n2⟩
        rcases List.mem_cons.mp hv with rfl | hv
        · exact ⟨_, .obj (((((((((((((((s4.trans s5).trans s6).trans s7).trans s8).trans s9).trans s10).trans s11).trans s12).trans s13).trans s14).trans s15).trans s16).trans s17).trans s18) _ _ e3) .l0 o3.1 o3.2, fun a z => by cases z; exact Same.none (s1.trans s2) n3⟩
        rcases List.mem_cons.mp hv with rfl | hv
        · exact ⟨_, .obj ((((((((((((((s5.trans s6).trans s7).trans s8).trans s9).trans s10).trans s11).trans s12).trans s13).trans s14).trans s15).trans s16).trans s17).trans s18) _ _ e4) .l2 o4.1 o4.2, fun a z => by cases z; exact Same.none ((s1.trans s2).trans s3) n4⟩
        rcases List.mem_cons.mp hv with rfl | hv
        · exact ⟨_, .obj (((((((((((((s6.trans s7).trans s8).trans s9).trans s10).trans s11).trans s12).trans s13).trans s14).trans s15).trans s16).trans s17).trans s18) _ _ e5) .d0 o5.1 o5.2, fun a z => by cases z; exact Same.none (((s1.trans s2).trans s3).trans s4) n5⟩
        · rw [List.mem_singleton.mp hv]
          exact ⟨_, .obj ((((((((((((s7.trans s8).trans s9).trans s10).trans s11).trans s12).trans s13).trans s14).trans s15).trans s16).trans s17).trans s18) _ _ e6) .d1 o6.1 o6.2, fun a z => by cases z; exact Same.none ((((s1.trans s2).trans s3).trans s4).trans s5) n6⟩
      · rcases List.mem_cons.mp hv with rfl | hv
        · exact ⟨_, .dat (.tup (SqT.of ((((((((((s9.trans s10).trans s11).trans s12).trans s13).trans s14).trans s15).trans s16).trans s17).trans s18) _ _ e8)) (.cons (.int 0) (.cons (.bl true) .nil))) (by decide) ⟨by decide +kernel, by decide +kernel, by decide +kernel, by decide +kernel⟩, fun a z => by cases z; exact Same.none ((((((s1.trans s2).trans s3).trans s4).trans s5).trans s6).trans s7) n8⟩
        rcases List.mem_cons.mp hv with rfl | hv
        · exact ⟨_, .dat (.tup (SqT.of (((((((((s10.trans s11).trans s12).trans s13).trans s14).trans s15).trans s16).trans s17).trans s18) _ _ e9)) (.cons (.bl false) (.cons (.int 1) .nil))) (by decide) ⟨by decide +kernel, by decide +kernel, by decide +kernel, by decide +kernel⟩, fun a z => by cases z; exact Same.none (((((((s1.trans s2).trans s3).trans s4).trans s5).trans s6).trans s7).trans s8) n9⟩
        rcases List.mem_cons.mp hv with rfl | hv
        · exact ⟨_, .dat (.tup (SqT.of ((((((((s11.trans s12).trans s13).trans s14).trans s15).trans s16).trans s17).trans s18) _ _ e10)) (.cons (.int 1) (.cons (.int 0) .nil))) (by decide) ⟨by decide +kernel, by decide +kernel, by decide +kernel, by decide +kernel⟩, fun a z => by cases z; exact Same.none ((((((((s1.trans s2).trans s3).trans s4).trans s5).trans s6).trans s7).trans s8).trans s9) n10⟩
        rcases List.mem_cons.mp hv with rfl | hv
        · exact ⟨_, .dat (.tup (SqT.of (((((((s12.trans s13).trans s14).trans s15).trans s16).trans s17).trans s18) _ _ e11)) (.cons (.int 0) (.cons (.int 0) .nil))) (by decide) ⟨by decide +kernel, by decide +kernel, by decide +kernel, by decide +kernel⟩, fun a z => by cases z; exact Same.none (((((((((s1.trans s2).trans s3).trans s4).trans s5).trans s6).trans s7).trans s8).trans s9).trans s10) n11⟩
        rcases List.mem_cons.mp hv with rfl | hv
        · exact ⟨_, .dat (.tup (SqT.of ((((((s13.trans s14).trans s15).trans s16).trans s17).trans s18) _ _ e12)) (.cons (.int 0) (.cons (.int 1) (.cons (.int 2) .nil)))) (by decide) ⟨by decide +kernel, by decide +kernel, by decide +kernel, by decide +kernel⟩, fun a z => by cases z; exact Same.none ((((((((((s1.trans s2).trans s3).trans s4).trans s5).trans s6).trans s7).trans s8).trans s9).trans s10).trans s11) n12⟩
        rcases List.mem_cons.mp hv with rfl | hv
        · exact ⟨_, .dat (.tup (SqT.of ((((s15.trans s16).trans s17).trans s18) _ _ e14)) (.cons (.tup (SqT.of (((((s14.trans s15).trans s16).trans s17).trans s18) _ _ e13)) (.cons (.int 0) (.cons (.int 1) .nil))) .nil)) (by decide) ⟨by decide +kernel, by decide +kernel, by decide +kernel, by decide +kernel⟩, fun a z => by cases z; exact Same.none ((((((((((((s1.trans s2).trans s3).trans s4).trans s5).trans s6).trans s7).trans s8).trans s9).trans s10).trans s11).trans s12).trans s13) n14⟩
        rcases List.mem_cons.mp hv with rfl | hv
        · exact ⟨_, .dat (.tup (SqT.of (((s16.trans s17).trans s18) _ _ e15)) (.cons .non (.cons (.int 1) .nil))) (by decide) ⟨by decide +kernel, by decide +kernel, by decide +kernel, by decide +kernel⟩, fun a z => by cases z; exact Same.none (((((((((((((s1.trans s2).trans s3).trans s4).trans s5).trans s6).trans s7).trans s8).trans s9).trans s10).trans s11).trans s12).trans s13).trans s14) n15⟩
        rcases List.mem_cons.mp hv with rfl | hv
        · exact ⟨_, .dat (.tup (SqT.of ((s17.trans s18) _ _ e16)) (.cons (.str _) (.cons (.str _) .nil))) (by decide) ⟨by decide +kernel, by decide +kernel, by decide +kernel, by decide +kernel⟩, fun a z => by cases z; exact Same.none ((((((((((((((s1.trans s2).trans s3).trans s4).trans s5).trans s6).trans s7).trans s8).trans s9).trans s10).trans s11).trans s12).trans s13).trans s14).trans s15) n16⟩
        · rw [List.mem_singleton.mp hv]
          exact ⟨_, .dat (.tup (SqT.of (s18 _ _ e17)) (.cons (.int 0) (.cons (.int 12) .nil))) (by decide) ⟨by decide +kernel, by decide +kernel, by decide +kernel, by decide +kernel⟩, fun a z => by cases z; exact Same.none (((((((((((((((s1.trans s2).trans s3).trans s4).trans s5).trans s6).trans s7).trans s8).trans s9).trans s10).trans s11).trans s12).trans s13).trans s14).trans s15).trans s16) n17⟩
    have sH : Same H J18 := (((((((((((((((((s1.trans s2).trans s3).trans s4).trans s5).trans s6).trans s7).trans s8).trans s9).trans s10).trans s11).trans s12).trans s13).trans s14).trans s15).trans s16).trans s17).trans s18)
    have lL : ([V.non, V.bl true, V.bl false, V.int (-1), V.int 0, V.int 1, V.int 12, V.int 13, V.int ((10 : Int) ^ (29 : Int).toNat), V.str "", V.str "0-1", V.ref a1, V.ref a2, V.ref a3, V.ref a4, V.ref a5, V.ref a6] ++ [V.ref a8, V.ref a9, V.ref a10, V.ref a11, V.ref a12, V.ref a14, V.ref a15, V.ref a16, V.ref a17]).length = 26 := rfl
    have D19 := D18.same sL
    generalize [V.non, V.bl true, V.bl false, V.int (-1), V.int 0, V.int 1, V.int 12, V.int 13, V.int ((10 : Int) ^ (29 : Int).toNat), V.str "", V.str "0-1", V.ref a1, V.ref a2, V.ref a3, V.ref a4, V.ref a5, V.ref a6] ++ [V.ref a8, V.ref a9, V.ref a10, V.ref a11, V.ref a12, V.ref a14, V.ref a15, V.ref a16, V.ref a17] = xs at sL eL all lL D19 ⊢
    generalize upd J18 L (.lst xs) = J19 at sL eL D19 ⊢
    refine ⟨.ref L, rfl, .ref d, rfl, d, l, n, 26, rfl, by decide, by decide, D19, by omega, fun H8 x x0 x1 f8 D8 => ?_⟩
    have hx : x.toNat < xs.length := by omega
    obtain ⟨y, oy, fr⟩ := all _ (List.getElem_mem hx)
    exact ⟨L, xs, x, xs[x.toNat], rfl, rfl, SqL.of (f8 _ _ oL.1 oL.2 eL), at_of (j := x.toNat) (by omega) (List.getElem?_eq_getElem hx), q _ _ y ((Same.fm (sH.trans sL)).trans f8) D8 ((oy.same sL).fm f8 D19) fr⟩
end
end TL
namespace TL
open PySem PySem.Spec PyProof.Rows L2
section
variable {P : Program} {w : World} {K : PySem.W.Frag} {mg : Str → Option Value} {base : Heap}
/-! ### slides of any kind followed -/
theorem ok_BadslidesInit {f : Addr} {fd : FuncData} {C : Addr} (F : Fun K "__init__" "BadSlides.__init__" sBadslidesInit f fd) (T : IniC K C "index") :
    FnOk P w K mg base CX0 1 f fd ["self", "index"] (spInit C "index") := by
  refine F.ok scBadslidesInit (fun vs H Q E h => ?_) (fun cdv A outer s H vs Q E hr h => ?_)
  · obtain ⟨a, y, rfl, _⟩ := h
    rfl
  · obtain ⟨a, y, rfl, ea, q⟩ := h
    refine ⟨_, pss_one (ps_ost (pv 0) (pv 1)), ?_⟩
    exact ⟨y, rfl, .ref a, rfl, a, C, rfl, T.oex, T.nof, .inl ⟨ea, fun dx nd ne => q dx nd ne⟩⟩
/-- how an item looks -/
inductive Iw (K : PySem.W.Frag) (H : Hp) : V → Option (V × V) → Prop
  | no {v : V} {t : Value} (h : TyX K H v t) (k : PySem.W.kitOne K t (.type "tuple") = some false) : Iw K H v none
  | len {a : Addr} {xs : List V} (h : SqT K H a xs) (l : xs.length ≠ 2) : Iw K H (.ref a) none
  | two {a : Addr} {u v : V} (h : SqT K H a [u, v]) (ku : Kd K H u) (kv : Kd K H v) : Iw K H (.ref a) (some (u, v))
theorem Iw.same {H H' : Hp} (s : Same H H') {v : V} {o : Option (V × V)} (h : Iw K H v o) : Iw K H' v o := by
  cases h with
  | no h k => exact .no (tyX_same s h) k
  | len h l => exact .len (Same.tup s h) l
  | two h ku kv => exact .two (Same.tup s h) (ku.same s) (kv.same s)
def prO : Option (V × V) → Option (Int × Int)
  | some (.int a, .int b) => some (a, b)
  | _ => none
theorem prO_some {o : Option (V × V)} {p : Int × Int} (h : prO o = some p) : o = some (.int p.1, .int p.2) := by
  unfold prO at h
  split at h
  · cases h; rfl
  · cases h
def posB (m : Nat) (es : List (Int × Int)) (S : List Int) (o : Option (V × V)) : Bool := match prO o with
  | some p => decide (p ∈ slidesP m es S)
  | none => false
theorem posB_true {m : Nat} {es : List (Int × Int)} {S : List Int} {o : Option (V × V)} (h : posB m es S o = true) : ∃ p : Int × Int, o = some (.int p.1, .int p.2) ∧ p ∈ slidesP m es S := by
  unfold posB at h
  split at h
  · rename_i p e
    exact ⟨p, prO_some e, of_decide_eq_true h⟩
  · cases h
def spIsPair (K : PySem.W.Frag) : Sp := fun vs H Q _ => ∃ (z : V) (o : Option (V × V)), vs = [z] ∧ Iw K H z o ∧ Q (.bl o.isSome) H
theorem ok_IsPair {f : Addr} {fd : FuncData} {k : Nat} (F : Fun K "is_pair" "is_pair" sIsPair f fd) (m_isinstance : mg "isinstance" = none) (m_tuple : mg "tuple" = none) (m_len : mg "len" = none) :
    FnOk P w K mg base CX0 (k + 1) f fd ["value"] (spIsPair K) := by
  refine F.ok scIsPair (fun vs H Q E h => ?_) (fun cdv A outer s H vs Q E hr h => ?_)
  · obtain ⟨z, o, rfl, _⟩ := h
    rfl
  · obtain ⟨z, o, rfl, hz, q⟩ := h
    refine ⟨_, (pss_one (ps_ret (pe_and (pe_callB (isiK K) (by rfl) m_isinstance (by decide +kernel) (pa_cons (pv 0) (pa_cons (pe_bltn (v := .ty "tuple") (by rfl) m_tuple (by decide +kernel) rfl) pa_nil))) (pe_one (pe_cmpR op_eq (pe_callB (lenK K) (by rfl) m_len (by decide +kernel) (pa_cons (pv 0) pa_nil)) pe_int (nomark _)))))), ?_⟩
    cases hz with
    | no h k => exact ⟨z, rfl, _, _, _, _, false, rfl, .ty "tuple", h, k, false, rfl, iteF q⟩
    | @len a xs h l =>
      refine ⟨.ref a, rfl, _, _, _, _, true, rfl, .ty "tuple", ty_tup h, kit_ty (by decide +kernel), true, rfl, iteT ?_⟩
      refine ⟨.ref a, rfl, a, _, rfl, .inr h, rfl, ?_⟩
      rw [decide_eq_false (by intro z; exact l (by injection z with z; omega))]
      exact q
    | @two a u v h ku kv =>
      refine ⟨.ref a, rfl, _, _, _, _, true, rfl, .ty "tuple", ty_tup h, kit_ty (by decide +kernel), true, rfl, iteT ?_⟩
      exact ⟨.ref a, rfl, a, _, rfl, .inr h, rfl, q⟩
def spIsPossible (K : PySem.W.Frag) : Sp := fun vs H Q _ => ∃ (x y z : V) (m : Nat) (es : List (Int × Int)) (S : List Int) (o : Option (V × V)), vs = [x, y, z] ∧ m ≤ 12 ∧ IsFor m es ∧ Dp K H x (forD m es) ∧ Dp K H y (intsD S) ∧ IsSet m es S ∧ Iw K H z o ∧
  ∀ H', Same H H' → Q (.bl (posB m es S o)) H'
theorem ok_IsPossible {f : Addr} {fd : FuncData} (F : Fun K "is_possible" "is_possible" sIsPossible f fd) (oIsPair : Own P w K mg base "is_pair" 1 ["value"] (spIsPair K)) (oIsNumber : Own P w K mg base "is_number" 1 ["value"] (spIsNumber K))
    (oPossibleSlides : Own P w K mg base "possible_slides" 3 ["forest", "setting"] (spPossibleSlides K)) :
    FnOk P w K mg base CX0 4 f fd ["forest", "setting", "value"] (spIsPossible K) := by
  refine F.ok scIsPossible (fun vs H Q E h => ?_) (fun cdv A outer s H vs Q E hr h => ?_)
  · obtain ⟨x, y, z, m, es, S, o, rfl, _⟩ := h
    rfl
  · obtain ⟨x, y, z, m, es, S, o, rfl, hm, isf, hx, hy, iss, hz, q⟩ := h
    refine ⟨_, (pss_cons (ps_if (pt_not (pt_val (pe_own oIsPair (hr.mono (by decide)) (by rfl) (pa_cons (pv 2) pa_nil)))) (pss_one (ps_ret pe_bl)) pss_nil)
    (pss_cons (ps_asg (pv 2) (pgTK K (pgs_cons (pg_name (i := 3) scIsPossible.nd rfl (Or.inl rfl)) (pgs_cons (pg_name (i := 4) scIsPossible.nd rfl (Or.inl rfl)) pgs_nil))))
    (pss_one (ps_ret (pe_and (pe_own oIsNumber (hr.mono (by decide)) (by rfl) (pa_cons (pv 3) pa_nil)) (pe_and (pe_own oIsNumber (hr.mono (by decide)) (by rfl) (pa_cons (pv 4) pa_nil)) (pe_one (pe_cmpR (inDK K hr.units) (pv 2) (pe_own oPossibleSlides (hr.mono (by decide)) (by rfl) (pa_cons (pv 0) (pa_cons (pv 1) pa_nil))) (by rfl))))))))), ?_⟩
    refine ⟨z, rfl, z, o, rfl, hz, o.isSome, rfl, ?_⟩
    cases hz with
    | no h k => exact iteT (q H (Same.refl H))
    | len h l => exact iteT (q H (Same.refl H))
    | @two a u v h ku kv =>
      refine iteF ?_
      refine ⟨.ref a, rfl, a, _, rfl, h, rfl, _, _, rfl, _, _, rfl, rfl, ?_⟩
      refine ⟨u, rfl, u, rfl, ku, isN u, rfl, ?_⟩
      cases u with
      | int a1 =>
        refine iteT ⟨v, rfl, v, rfl, kv, isN v, rfl, ?_⟩
        cases v with
        | int b1 =>
          refine iteT ?_
          refine ⟨.ref a, rfl, x, rfl, y, rfl, x, y, m, es, S, rfl, hm, isf, hx, hy, iss, fun H' r s1 dr => ?_⟩
          refine ⟨prD (a1, b1), (slidesP m es S).map prD, Dp.same s1 (Dp.pr h), .inr dr, lay_prs _, lay_pr _, dep_pr _, ?_⟩
          have h2 : Q (.bl (decide ((a1, b1) ∈ slidesP m es S))) H' := q H' s1
          rw [← any_pr] at h2
          exact h2
        | _ => exact iteF (q H (Same.refl H))
      | _ => exact iteF (q H (Same.refl H))
/-- the slides followed: where they go wrong, or the setting at the end -/
def follB (m : Nat) (es : List (Int × Int)) : List Int → List (Option (V × V)) → Nat → V ⊕ List Int
  | S, [], _ => .inr S
  | S, o :: os, k => match prO o with
    | some p => if p ∈ slidesP m es S then follB m es (after S p.1 p.2) os (k + 1) else .inl (.int (k : Int))
    | none => .inl (.int (k : Int))
theorem follB_no {m : Nat} {es : List (Int × Int)} {S : List Int} {o : Option (V × V)} {os : List (Option (V × V))} {k : Nat} (h : posB m es S o = false) : follB m es S (o :: os) k = .inl (.int (k : Int)) := by
  unfold posB at h
  show (match prO o with | some p => if p ∈ slidesP m es S then follB m es (after S p.1 p.2) os (k + 1) else .inl (.int (k : Int)) | none => .inl (.int (k : Int))) = _
  cases e : prO o with
  | none => rfl
  | some p =>
    rw [e] at h
    exact if_neg (of_decide_eq_false h)
theorem follB_yes {m : Nat} {es : List (Int × Int)} {S : List Int} {p : Int × Int} {os : List (Option (V × V))} {k : Nat} (h : p ∈ slidesP m es S) : follB m es S (some (.int p.1, .int p.2) :: os) k = follB m es (after S p.1 p.2) os (k + 1) := if_pos h
/-- a list of items -/
inductive Iws (K : PySem.W.Frag) (H : Hp) : List V → List (Option (V × V)) → Prop
  | nil : Iws K H [] []
  | cons {v : V} {vs : List V} {o : Option (V × V)} {os : List (Option (V × V))} (h : Iw K H v o) (t : Iws K H vs os) : Iws K H (v :: vs) (o :: os)
theorem Iws.same {H H' : Hp} (s : Same H H') : ∀ {vs : List V} {os : List (Option (V × V))}, Iws K H vs os → Iws K H' vs os
  | _, _, .nil => .nil
  | _, _, .cons h t => .cons (h.same s) (t.same s)
theorem Iws.drop {H : Hp} : ∀ {vs : List V} {os : List (Option (V × V))} (i : Nat) {v : V}, Iws K H vs os → vs[i]? = some v → ∃ o, os.drop i = o :: os.drop (i + 1) ∧ Iw K H v o
  | _, _, i, _, .nil, h => by cases i <;> cases h
  | _, _, 0, _, .cons h t, e => by cases e; exact ⟨_, rfl, h⟩
  | _, _, i + 1, _, .cons h t, e => by
    obtain ⟨o, h1, h2⟩ := Iws.drop i t e
    exact ⟨o, h1, h2⟩
theorem Iws.len {H : Hp} : ∀ {vs : List V} {os : List (Option (V × V))}, Iws K H vs os → vs.length = os.length
  | _, _, .nil => rfl
  | _, _, .cons _ t => congrArg (· + 1) t.len
/-- how the slides look -/
inductive Sv (K : PySem.W.Frag) (H : Hp) : V → Option (List (Option (V × V))) → Prop
  | no {v : V} {t : Value} (h : TyX K H v t) (k : PySem.W.kitOne K t (.type "tuple") = some false) : Sv K H v none
  | yes {a : Addr} {xs : List V} {os : List (Option (V × V))} (h : SqT K H a xs) (i : Iws K H xs os) (l : xs.length ≤ 400) : Sv K H (.ref a) (some os)
theorem Sv.same {H H' : Hp} (s : Same H H') {v : V} {o : Option (List (Option (V × V)))} (h : Sv K H v o) : Sv K H' v o := by
  cases h with
  | no h k => exact .no (tyX_same s h) k
  | yes h i l => exact .yes (Same.tup s h) (i.same s) l
def follO (m : Nat) (es : List (Int × Int)) (S : List Int) : Option (List (Option (V × V))) → V ⊕ List Int
  | none => .inl .non
  | some os => follB m es S os 0
def spFollow (K : PySem.W.Frag) (cBS : Addr) : Sp := fun vs H Q E => ∃ (x y z : V) (m : Nat) (es : List (Int × Int)) (S : List Int) (so : Option (List (Option (V × V)))), vs = [x, y, z] ∧ m ≤ 12 ∧ IsFor m es ∧ Dp K H x (forD m es) ∧ Dp K H y (intsD S) ∧ IsSet m es S ∧ Sv K H z so ∧
  (∀ v, follO m es S so = .inl v → Fl E H cBS "index" v) ∧ (∀ T, follO m es S so = .inr T → IsSet m es T → ∀ (H' : Hp) (r : V), Same H H' → Dp K H' r (intsD T) → Q r H')
theorem ok_Follow {f : Addr} {fd : FuncData} {cNoLamp cNotAdjacent cBlocked cBadSlides : Addr} (F : Fun K "follow" "follow" sFollow f fd) (m_isinstance : mg "isinstance" = none) (m_tuple : mg "tuple" = none) (m_enumerate : mg "enumerate" = none) (eBadSlides : ErrC P w K mg base "BadSlides" "index" cBadSlides)
    (oIsPossible : Own P w K mg base "is_possible" 4 ["forest", "setting", "value"] (spIsPossible K)) (xSlideLamp : OwnX P w K mg base "slide_lamp" 4 ["forest", "setting", "u", "v"] (spSlideLamp K cNoLamp cNotAdjacent cBlocked)) :
    FnOk P w K mg base (L2.CX P w) 5 f fd ["forest", "setting", "slides"] (spFollow K cBadSlides) := by
  refine F.okX scFollow (fun vs H Q E h => ?_) (fun cdv A outer s H vs Q E hr h => ?_)
  · obtain ⟨x, y, z, m, es, S, so, rfl, _⟩ := h
    rfl
  · obtain ⟨x, y, z, m, es, S, so, rfl, hm, isf, hx, hy, iss, hz, q1, q2⟩ := h
    refine ⟨_, (pss_cons (ps_if (pt_not (pt_val (pe_callB (isiK K) (by rfl) m_isinstance (by decide +kernel) (pa_cons (pv 2) (pa_cons (pe_bltn (v := .ty "tuple") (by rfl) m_tuple (by decide +kernel) rfl) pa_nil))))) (pss_one (ps_err eBadSlides (hr.mono (by decide)) (takes_of rfl rfl rfl rfl) (by rfl) (pa_cons pe_non pa_nil))) pss_nil)
    (pss_cons (ps_set (i := 3) scFollow.nd rfl (.inl rfl) (pv 1))
    (pss_cons (ps_for (passes_of rfl) rfl (pi_enumT K (by rfl) m_enumerate (pa_cons (pv 2) pa_nil)) (pgTK K (pgs_cons (pg_name (i := 4) scFollow.nd rfl (Or.inl rfl)) (pgs_cons (pg_name (i := 5) scFollow.nd rfl (Or.inl rfl)) pgs_nil)))
    (pss_cons (ps_if (pt_not (pt_val (pe_own oIsPossible (hr.mono (by decide)) (by rfl) (pa_cons (pv 0) (pa_cons (pv 3) (pa_cons (pv 5) pa_nil)))))) (pss_one (ps_err eBadSlides (hr.mono (by decide)) (takes_of rfl rfl rfl rfl) (by rfl) (pa_cons (pv 4) pa_nil))) pss_nil)
    (pss_cons (ps_asg (pv 5) (pgTK K (pgs_cons (pg_name (i := 6) scFollow.nd rfl (Or.inl rfl)) (pgs_cons (pg_name (i := 7) scFollow.nd rfl (Or.inl rfl)) pgs_nil))))
    (pss_one (ps_set (i := 3) scFollow.nd rfl (.inl rfl) (pe_ownX xSlideLamp (hr.mono (by decide)) (takes_of rfl rfl rfl rfl) (by rfl) (pa_cons (pv 0) (pa_cons (pv 3) (pa_cons (pv 6) (pa_cons (pv 7) pa_nil))))))))))
    (pss_one (ps_ret (pv 3)))))), ?_⟩
    cases hz with
    | no h k => exact ⟨z, rfl, _, _, _, _, false, rfl, .ty "tuple", h, k, false, rfl, iteT (errI fun H' d s e => q1 _ rfl H' d s e)⟩
    | @yes a xs os ha hi lx =>
    refine ⟨.ref a, rfl, _, _, _, _, true, rfl, .ty "tuple", ty_tup ha, kit_ty (by decide +kernel), true, rfl, iteF ?_⟩
    refine ⟨y, rfl, .ref a, rfl, a, xs, rfl, ha, for_enumT (K := K) (a := a) (xs := xs) (fun i σ H' => ∃ (y4 y5 y6 y7 : Option V) (r : V) (R : List Int), σ = [some x, some y, some (.ref a), some r, y4, y5, y6, y7] ∧ Same H H' ∧
      Dp K H' r (intsD R) ∧ IsSet m es R ∧ follB m es S os 0 = follB m es R (os.drop i) i) ?_ ?_ ?_ ?_⟩
    · exact ⟨none, none, none, none, y, S, rfl, Same.refl _, hy, iss, rfl⟩
    · rintro i σ H' ⟨y4, y5, y6, y7, r, R, rfl, s1, _⟩
      exact Same.tup s1 ha
    · rintro i v t σ H1 hv nt ⟨y4, y5, y6, y7, r, R, rfl, s1, dr, isr, hwr⟩
      have st := same_upd (o := .tup [.int (i : Nat), v]) nt
      obtain ⟨o, ho, hio⟩ := hi.drop i hv
      rw [ho] at hwr
      have s2 := s1.trans st
      have hx2 := Dp.same s2 hx
      have dr2 := Dp.same st dr
      refine ⟨t, _, rfl, SqT.of upd_same, rfl, _, _, rfl, _, _, rfl, rfl, ?_⟩
      refine ⟨x, rfl, r, rfl, v, rfl, x, r, v, m, es, R, o, rfl, hm, isf, hx2, dr2, isr, hio.same s2, fun H2 s3 => ⟨posB m es R o, rfl, ?_⟩⟩
      cases hp : posB m es R o with
      | false =>
        rw [follB_no hp] at hwr
        exact iteT ⟨.int (i : Int), rfl, errI fun H' d s e => q1 _ hwr H' d ((s2.trans s3).trans s) e⟩
      | true =>
        refine iteF ?_
        obtain ⟨p, rfl, pin⟩ := posB_true hp
        rw [follB_yes pin] at hwr
        obtain ⟨b, rfl, hb⟩ : ∃ b, v = .ref b ∧ SqT K H b [.int p.1, .int p.2] := by
          cases hio with
          | two h _ _ => exact ⟨_, rfl, h⟩
        refine ⟨.ref b, rfl, b, _, rfl, Same.tup (s2.trans s3) hb, rfl, _, _, rfl, _, _, rfl, rfl, ?_⟩
        obtain ⟨hu, hv2, hoo⟩ := mem_slidesP.mp (show (p.1, p.2) ∈ slidesP m es R from pin)
        refine ⟨x, rfl, r, rfl, .int p.1, rfl, .int p.2, rfl, x, r, m, es, R, .int p.1, .int p.2, rfl, hm, isf, Dp.same s3 hx2, Dp.same s3 dr2, isr, Kd.int _, Kd.int _, fun z => ?_, fun a' ea ha' => ⟨fun z => ?_, fun b' eb hb' => ⟨fun w l z => ?_, fun _ H3 r' s4 dr' => ?_⟩⟩⟩
        · exact absurd z (by show ¬ decide (p.1 ∈ R) = false; rw [decide_eq_true hu]; decide)
        · cases ea
          exact absurd z (by show ¬ decide (p.2 ∈ nearL m es p.1) = false; rw [decide_eq_true hv2]; decide)
        · cases ea
          cases eb
          rw [hoo] at z
          cases z
        · cases ea
          cases eb
          exact ⟨_, _, _, _, r', after R p.1 p.2, rfl, (s2.trans s3).trans s4, dr', IsSet.slide isf isr pin, hwr⟩
    · rintro σ H1 ⟨y4, y5, y6, y7, r, R, rfl, s1, dr, isr, hwr⟩
      rw [hi.len, List.drop_length] at hwr
      exact ⟨r, rfl, q2 R hwr isr H1 r s1 dr⟩
end
end TL
namespace TL
open PySem PySem.Spec PyProof.Rows L2
section
variable {P : Program} {w : World} {K : PySem.W.Frag} {mg : Str → Option Value} {base : Heap}
/-! ### the law's own slides -/
def spLOthers (K : PySem.W.Frag) : Sp := fun vs H Q _ => ∃ (x y : V) (m : Nat) (es : List (Int × Int)) (S : List Int) (u v : Int), vs = [x, y, .int u, .int v] ∧ m ≤ 12 ∧ Dp K H x (forD m es) ∧ Dp K H y (intsD S) ∧
  ∀ (H' : Hp) (D : Addr), Same H H' → H D = none → H' D = some (.lst ((oth m es S u v).map V.int)) → Q (.ref D) H'
theorem ok_LOthers {f : Addr} {fd : FuncData} (F : Fun K "_law_others" "_law_others" sLOthers f fd) (oLNear : Own P w K mg base "_law_near" 1 ["_law_forest_here", "_law_vertex"] (spLNear K)) :
    FnOk P w K mg base CX0 2 f fd ["_law_forest_here", "_law_setting_here", "_law_u", "_law_v"] (spLOthers K) := by
  refine F.ok scLOthers (fun vs H Q E h => ?_) (fun cdv A outer s H vs Q E hr h => ?_)
  · obtain ⟨x, y, m, es, S, u, v, rfl, _⟩ := h
    rfl
  · obtain ⟨x, y, m, es, S, u, v, rfl, hm, hx, hy, q⟩ := h
    obtain ⟨b, rfl, hb⟩ := Dp.intsI hy
    refine ⟨_, (pss_one (ps_ret (pe_lc (own := [("_law_one", 4)]) (g := (gName 4)) rfl scLOthers.nd (piLK K (pe_own oLNear (hr.mono (by decide)) (by rfl) (pa_cons (pv 0) (pa_cons (pv 3) pa_nil))))
      (blkOk_by (own := [("_law_one", 4)]) (N := nLOthers) (sc := (defScope sLOthers)) (by decide +kernel))
      (fun _ _ _ _ _ => (pg_name (i := 4) scLOthers.nd rfl (Or.inl rfl))) (fun _ _ _ _ _ => (pts_one (PW.pt (pw_and (pt_cmpR (inK K) (pv 4) (pv 1) (by rfl)) (pw_and1 (pt_cmpR op_ne (pv 4) (pv 2) (nomark _)))))))
      (fun _ _ _ _ _ => (pv 4))))), ?_⟩
    refine ⟨x, rfl, .int v, rfl, x, m, es, v, rfl, hm, hx, fun H1 N s1 nN eN => ⟨N, rfl, ⟨_, SqL.of eN⟩, fun D nD => ?_⟩⟩
    have nl := nearL_len m es v
    refine lc_listI (K := K) (fun o => decide (o ∈ S) && !decide (o = u)) .int nD (SqL.of eN) (fun _ => rfl) (fun o _ H' R s2 hR => ?_) (fun o _ _ H' R s2 hR => ?_) only_int (by omega) (fun H2 ys s2 eD dy => ?_)
    · refine ⟨.int o, rfl, .ref b, rfl, b, S.map V.int, rfl, .inr (Same.tup (s1.trans s2) hb), rfl, flat_ints S, _, rfl, ?_⟩
      have hR' := hR H' (Same.refl _)
      show if (if false = true then _ else inV (V.int o) (S.map V.int)) = true then _ else _
      rw [if_neg Bool.false_ne_true, inV_ints]
      refine ite2 (fun h => ?_) (fun h => ?_)
      · refine ⟨.int o, rfl, .int u, rfl, rfl, _, rfl, ?_⟩
        rw [dec_int]
        rw [h, Bool.true_and] at hR'
        exact hR'
      · rw [Bool.not_eq_true] at h
        rw [h, Bool.false_and] at hR'
        exact hR'
    · exact ⟨.int o, rfl, hR H' _ (Same.refl _) (.int o)⟩
    rw [lst_ints dy] at eD
    exact q _ D (s1.trans s2) (s1.free nD) eD
def spLSlides (K : PySem.W.Frag) : Sp := fun vs H Q _ => ∃ (x y : V) (m : Nat) (es : List (Int × Int)) (S : List Int), vs = [x, y] ∧ m ≤ 12 ∧ Dp K H x (forD m es) ∧ Dp K H y (intsD S) ∧ S.length ≤ 12 ∧
  ∀ (H' : Hp) (D : Addr) (zs : List V), Same H H' → H' D = some (.lst zs) → DpAll K H' zs ((slidesT m es S S).map prD) → Q (.ref D) H'
theorem slidesT_snoc (m : Nat) (es : List (Int × Int)) (S T : List Int) (u : Int) : slidesT m es S (T ++ [u]) = slidesT m es S T ++ ((nearL m es u).filter fun v => decide (oth m es S u v = [])).map fun v => (u, v) := by
  unfold slidesT
  rw [List.flatMap_append, List.flatMap_cons, List.flatMap_nil, List.append_nil]
theorem ok_LSlides {f : Addr} {fd : FuncData} (F : Fun K "_law_slides" "_law_slides" sLSlides f fd) (oLNear : Own P w K mg base "_law_near" 1 ["_law_forest_here", "_law_vertex"] (spLNear K))
    (oLOthers : Own P w K mg base "_law_others" 2 ["_law_forest_here", "_law_setting_here", "_law_u", "_law_v"] (spLOthers K)) :
    FnOk P w K mg base CX0 3 f fd ["_law_forest_here", "_law_setting_here"] (spLSlides K) := by
  refine F.ok scLSlides (fun vs H Q E h => ?_) (fun cdv A outer s H vs Q E hr h => ?_)
  · obtain ⟨x, y, m, es, S, rfl, _⟩ := h
    rfl
  · obtain ⟨x, y, m, es, S, rfl, hm, hx, hy, ls, q⟩ := h
    obtain ⟨b, rfl, hb⟩ := Dp.intsI hy
    refine ⟨_, (pss_cons (ps_set (i := 2) scLSlides.nd rfl (.inl rfl) (pe_lst pa_nil))
    (pss_cons (ps_for PassesOwn.never rfl (piTK K (pv 1)) (pg_name (i := 3) scLSlides.nd rfl (Or.inr rfl))
    (pss_one (ps_set (i := 2) scLSlides.nd rfl (.inl rfl) (pe_op op_cat (pv 2) (pe_lc (own := [("_law_v", 4)]) (g := (gName 4)) rfl scLSlides.nd (piLK K (pe_own oLNear (hr.mono (by decide)) (by rfl) (pa_cons (pv 0) (pa_cons (pv 3) pa_nil))))
      (blkOk_by (own := [("_law_v", 4)]) (N := nLSlides) (sc := (defScope sLSlides)) (by decide +kernel))
      (fun _ _ _ _ _ => (pg_name (i := 4) scLSlides.nd rfl (Or.inl rfl))) (fun _ _ _ _ _ => (pts_one (pt_cmpR (eqDK K hr.units) (pe_own oLOthers (hr.mono (by decide)) (by rfl) (pa_cons (pv 0) (pa_cons (pv 1) (pa_cons (pv 3) (pa_cons (pv 4) pa_nil))))) (pe_lst pa_nil) (nomark _))))
      (fun _ _ _ _ _ => (pe_tup (pa_cons (pv 3) (pa_cons (pv 4) pa_nil)))))))))
    (pss_one (ps_ret (pv 2))))), ?_⟩
    refine ⟨Nat.zero_le _, fun F0 n0 => ?_⟩
    refine ⟨.ref b, rfl, b, rfl, ⟨_, Same.tup (same_upd n0) hb⟩, for_tup (K := K) (a := b) (xs := S.map V.int) (fun i σ H' => ∃ (y3 y4 : Option V) (F1 : Addr) (zs : List V), σ = [some x, some (.ref b), some (.ref F1), y3, y4] ∧
      Same H H' ∧ H' F1 = some (.lst zs) ∧ DpAll K H' zs ((slidesT m es S (S.take i)).map prD) ∧ zs.length ≤ 12 * i) ?_ ?_ ?_ ?_⟩
    · exact ⟨none, none, F0, [], rfl, same_upd n0, upd_same, .nil, Nat.le_refl _⟩
    · rintro i σ H' _ ⟨y3, y4, F1, zs, rfl, s1, _⟩
      exact Same.tup s1 hb
    · rintro i u σ H1 hu ⟨y3, y4, F1, zs, rfl, s1, e1, a1, l1⟩
      rw [List.getElem?_map] at hu
      obtain ⟨u, hu', rfl⟩ := Option.map_eq_some_iff.mp hu
      obtain ⟨hi, _⟩ := List.getElem?_eq_some_iff.mp hu'
      refine ⟨.ref F1, rfl, x, rfl, .int u, rfl, x, m, es, u, rfl, hm, Dp.same s1 hx, fun H2 N s2 nN eN => ⟨N, rfl, ⟨_, SqL.of eN⟩, fun C nC => ?_⟩⟩
      have nl := nearL_len m es u
      refine lc_listI (K := K) (fun v => decide (oth m es S u v = [])) (fun v => prD (u, v)) nC (SqL.of eN) (fun _ => rfl) (fun o _ H' R s3 hR => ?_) (fun o _ _ H' R s3 hR => ?_) (fun o => only_pr _) (by omega) (fun H3 ys s3 eC dy => ?_)
      · have s13 := (s1.trans s2).trans s3
        refine ⟨x, rfl, .ref b, rfl, .int u, rfl, .int o, rfl, x, _, m, es, S, u, o, rfl, hm, Dp.same s13 hx, Dp.same s13 hy, fun H4 O s4 nO eO => ⟨Nat.zero_le _, fun B nB => ?_⟩⟩
        have s5 := same_upd (o := .lst []) nB
        refine ⟨_, .list [], .lst (SqL.of (s5 _ _ eO)) (DpAll.of_ints _), .lst (SqL.of upd_same) .nil, shaped_ints _, shaped_ints [], _, rfl, ?_⟩
        rw [eqv_nil]
        exact hR _ (s4.trans s5)
      · refine ⟨.int u, rfl, .int o, rfl, by show 2 ≤ sizeLine; decide, fun t nt => hR _ _ (same_upd nt) (Dp.pr (SqT.of upd_same))⟩
      have s23 := s2.trans s3
      have ly : ys.length ≤ 12 := by
        have h1 := DpAll.length dy
        have h2 := List.length_filter_le (fun v => decide (oth m es S u v = [])) (nearL m es u)
        rw [List.length_map] at h1
        omega
      refine ⟨F1, C, zs, ys, rfl, rfl, s23 _ _ e1, eC, Nat.le_of_lt (small1000 (by omega)), fun p np => ?_⟩
      have s4 := same_upd (o := .lst (zs ++ ys)) np
      refine ⟨_, _, p, zs ++ ys, rfl, ((s1.trans s23).trans s4), upd_same, ?_, by rw [List.length_append]; omega⟩
      rw [List.take_add_one, hu']
      show DpAll K _ _ ((slidesT m es S (S.take i ++ [u])).map prD)
      rw [slidesT_snoc, List.map_append, List.map_map]
      exact DpAll.same s4 (DpAll.append (DpAll.same s23 a1) dy)
    · rintro σ H1 ⟨y3, y4, F1, zs, rfl, s1, e1, a1, l1⟩
      rw [List.length_map, List.take_length] at a1
      exact ⟨.ref F1, rfl, q _ F1 zs s1 e1 a1⟩
def spLAfter (K : PySem.W.Frag) : Sp := fun vs H Q _ => ∃ (y z : V) (S : List Int) (u v : Int), vs = [y, z] ∧ Dp K H y (intsD S) ∧ Dp K H z (prD (u, v)) ∧ S.length ≤ 12 ∧
  ∀ (H' : Hp) (r : V), Same H H' → Dp K H' r (intsD (after S u v)) → Q r H'
theorem ok_LAfter {f : Addr} {fd : FuncData} {k : Nat} (F : Fun K "_law_after" "_law_after" sLAfter f fd) (m_tuple : mg "tuple" = none) (m_sorted : mg "sorted" = none) :
    FnOk P w K mg base CX0 (k + 1) f fd ["_law_setting_here", "_law_slide"] (spLAfter K) := by
  refine F.ok scLAfter (fun vs H Q E h => ?_) (fun cdv A outer s H vs Q E hr h => ?_)
  · obtain ⟨y, z, S, u, v, rfl, _⟩ := h
    rfl
  · obtain ⟨y, z, S, u, v, rfl, hy, hz, ls, q⟩ := h
    obtain ⟨b, rfl, hb⟩ := Dp.intsI hy
    obtain ⟨c, rfl, hc⟩ := Dp.prI hz
    refine ⟨_, (pss_one (ps_ret (pe_callTy (tupleK K) (by rfl) m_tuple (by decide +kernel) (pa_cons (pe_callB (sortK K hr.units) (by rfl) m_sorted (by decide +kernel) (pa_cons (pe_op op_cat (pe_lc (own := [("_law_lamp", 2)]) (g := (gName 2)) rfl scLAfter.nd (piTK K (pv 0))
      (blkOk_by (own := [("_law_lamp", 2)]) (N := nLAfter) (sc := (defScope sLAfter)) (by decide +kernel))
      (fun _ _ _ _ _ => (pg_name (i := 2) scLAfter.nd rfl (Or.inl rfl))) (fun _ _ _ _ _ => (pts_one (pt_cmpR op_ne (pv 2) (pe_ix (ixTK K) (pv 1) pe_int (fun _ _ => rfl)) (nomark _))))
      (fun _ _ _ _ _ => (pv 2))) (pe_lst (pa_cons (pe_ix (ixTK K) (pv 1) pe_int (fun _ _ => rfl)) pa_nil))) pa_nil)) pa_nil)))), ?_⟩
    refine ⟨.ref b, rfl, b, rfl, ⟨_, hb⟩, fun D nD => ?_⟩
    refine lc_tupI (K := K) (fun l => !decide (l = u)) .int nD hb (fun _ => rfl) (fun o _ H' R s3 hR => ?_) (fun o _ _ H' R s3 hR => ?_) only_int (by omega) (fun H3 ys s3 eD dy => ?_)
    · refine ⟨.int o, rfl, .ref c, rfl, c, _, 0, .int u, rfl, rfl, Same.tup s3 hc, atI_nat (j := 0) rfl, rfl, _, rfl, ?_⟩
      rw [dec_int]
      exact hR H' (Same.refl _)
    · exact ⟨.int o, rfl, hR H' _ (Same.refl _) (.int o)⟩
    rw [lst_ints dy] at eD
    refine ⟨.ref c, rfl, c, _, 1, .int v, rfl, rfl, Same.tup s3 hc, atI_nat (j := 1) rfl, by show 1 ≤ sizeLine; decide, fun B nB => ?_⟩
    have s4 := same_upd (o := .lst [V.int v]) nB
    have lf := List.length_filter_le (fun l => !decide (l = u)) S
    refine ⟨D, B, _, _, rfl, rfl, s4 _ _ eD, upd_same, Nat.le_of_lt (small1000 (by rw [List.length_map, List.length_singleton]; omega)), fun p np => ?_⟩
    have s5 := same_upd (o := .lst ((S.filter fun l => !decide (l = u)).map V.int ++ [V.int v])) np
    refine sortInts (ns := (S.filter fun l => !decide (l = u)) ++ [v]) (SqL.of (by rw [upd_same, List.map_append]; rfl)) fun p2 np2 => ?_
    have s6 := same_upd (o := .lst ((after S u v).map V.int)) np2
    refine ⟨p2, _, rfl, .inl ⟨SqL.of upd_same, fun t nt => ?_⟩⟩
    exact q _ _ ((((s3.trans s4).trans s5).trans s6).trans (same_upd nt)) (Dp.ints (SqT.of upd_same))
end
end TL
namespace TL
open PySem PySem.Spec PyProof.Rows L2
section
variable {P : Program} {w : World} {K : PySem.W.Frag} {mg : Str → Option Value} {base : Heap}
/-! ### what is due -/
def numB (lo hi : Int) : V → Bool
  | .int i => decide (lo ≤ i ∧ i ≤ hi)
  | _ => false
def spLIsNumber (K : PySem.W.Frag) : Sp := fun vs H Q _ => ∃ (v : V) (lo hi : Int), vs = [v, .int lo, .int hi] ∧ Kd K H v ∧ Q (.bl (numB lo hi v)) H
theorem ok_LIsNumber {f : Addr} {fd : FuncData} {k : Nat} (F : Fun K "_law_is_number" "_law_is_number" sLIsNumber f fd) (m_isinstance : mg "isinstance" = none) (m_int : mg "int" = none) (m_bool : mg "bool" = none) :
    FnOk P w K mg base CX0 (k + 1) f fd ["_law_value", "_law_low", "_law_high"] (spLIsNumber K) := by
  refine F.ok scLIsNumber (fun vs H Q E h => ?_) (fun cdv A outer s H vs Q E hr h => ?_)
  · obtain ⟨v, lo, hi, rfl, _⟩ := h
    rfl
  · obtain ⟨v, lo, hi, rfl, ⟨t, a, b, ty, k1, k2, e⟩, q⟩ := h
    refine ⟨_, (pss_one (ps_ret (pe_and (pe_callB (isiK K) (by rfl) m_isinstance (by decide +kernel) (pa_cons (pv 0) (pa_cons (pe_bltn (v := .ty "int") (by rfl) m_int (by decide +kernel) rfl) pa_nil))) (pe_and (pe_not (pe_callB (isiK K) (by rfl) m_isinstance (by decide +kernel) (pa_cons (pv 0) (pa_cons (pe_bltn (v := .ty "bool") (by rfl) m_bool (by decide +kernel) rfl) pa_nil)))) (pe_one (pe_chain op_le op_le (pv 1) (pv 0) (pv 2))))))), ?_⟩
    refine ⟨v, rfl, _, _, _, _, a, rfl, .ty "int", ty, k1, a, rfl, ?_⟩
    cases v with
    | int i =>
      have e : (a && !b) = true := e
      obtain ⟨ha, hb⟩ := Bool.and_eq_true_iff.mp e
      subst ha
      have hb : b = false := by cases b; rfl; cases hb
      subst hb
      refine iteT ⟨.int i, rfl, _, _, _, _, false, rfl, .ty "bool", ty, k2, false, rfl, ?_⟩
      refine ⟨true, rfl, iteT ?_⟩
      refine ⟨.int lo, rfl, .int i, rfl, _, _, rfl, rfl, _, rfl, ite2 (fun h => ?_) (fun h => ?_)⟩
      · have h := of_decide_eq_true h
        refine ⟨.int hi, rfl, _, _, rfl, rfl, ?_⟩
        have e : numB lo hi (.int i) = decide (i ≤ hi) := by
          show decide (lo ≤ i ∧ i ≤ hi) = _
          exact decide_eq_decide.mpr ⟨fun z => z.2, fun z => ⟨h, z⟩⟩
        rw [e] at q
        exact q
      · have h : ¬ lo ≤ i := fun z => h (decide_eq_true z)
        have e : numB lo hi (.int i) = false := decide_eq_false fun z => h z.1
        rw [e] at q
        exact q
    | _ =>
      have e : (a && !b) = false := e
      cases a with
      | false => exact iteF q
      | true =>
        have hb : b = true := by cases b; cases e; rfl
        subst hb
        refine iteT ⟨_, rfl, _, _, _, _, true, rfl, .ty "bool", ty, k2, true, rfl, ?_⟩
        exact ⟨false, rfl, iteF q⟩
/-! ### what comes of slides of any kind -/
def Rz (K : PySem.W.Frag) (m : Nat) (es : List (Int × Int)) (H : Hp) (r : V ⊕ List Int) (t : Str) (w : V) : Prop :=
  (r = .inl w ∧ t = "bad" ∧ (w = .non ∨ ∃ k : Nat, w = .int (k : Int) ∧ k ≤ 400)) ∨ (∃ T, r = .inr T ∧ t = "setting" ∧ IsSet m es T ∧ Dp K H w (intsD T))
def dR : V ⊕ List Int → PyData
  | .inl (.int k) => .list [.str "bad", .int k]
  | .inl _ => .list [.str "bad", .none]
  | .inr T => .list [.str "setting", intsD T]
theorem sm_strB : Sm (.str "bad") 300 1 := ⟨by decide +kernel, by decide +kernel, by decide +kernel, by decide +kernel, by decide +kernel⟩
theorem sm_strS : Sm (.str "setting") 300 1 := ⟨by decide +kernel, by decide +kernel, by decide +kernel, by decide +kernel, by decide +kernel⟩
theorem Rz.dp {m : Nat} {es : List (Int × Int)} {H : Hp} {r : V ⊕ List Int} {t : Str} {w : V} {p : Addr} (h : Rz K m es H r t w) (hm : m ≤ 12) (hp : H p = some (.lst [.str t, w])) : Dp K H (.ref p) (dR r) ∧ Shows (dR r) := by
  rcases h with ⟨rfl, rfl, h⟩ | ⟨T, rfl, rfl, ist, dt⟩
  · rcases h with rfl | ⟨k, rfl, hk⟩
    · exact ⟨.lst (SqL.of hp) (.cons (.str _) (.cons .non .nil)), (Sm.two sm_strB (Sm.none.le (by decide) (by decide))).shows (by decide) (by decide)⟩
    · exact ⟨.lst (SqL.of hp) (.cons (.str _) (.cons (.int _) .nil)), (Sm.two sm_strB ((Sm.int (by unfold sm; omega)).le (by decide) (by decide))).shows (by decide) (by decide)⟩
  · exact ⟨.lst (SqL.of hp) (.cons (.str _) (.cons dt .nil)), (Sm.two sm_strS ((ist.shows hm).le (by decide) (by decide))).shows (by decide) (by decide)⟩
theorem follB_inl {m : Nat} {es : List (Int × Int)} : ∀ {os : List (Option (V × V))} {S : List Int} {k : Nat} {w : V}, follB m es S os k = .inl w → ∃ j : Nat, w = .int (j : Int) ∧ j ≤ k + os.length
  | [], _, _, _, h => nomatch h
  | o :: os, S, k, w, h => by
    cases hp : posB m es S o with
    | false =>
      rw [follB_no hp] at h
      cases h
      exact ⟨k, rfl, by omega⟩
    | true =>
      obtain ⟨p, rfl, pin⟩ := posB_true hp
      rw [follB_yes pin] at h
      obtain ⟨j, e, hj⟩ := follB_inl h
      exact ⟨j, e, by rw [List.length_cons]; omega⟩
theorem posB_num {m : Nat} {es : List (Int × Int)} {R : List Int} {u v : V} (hm : m ≤ 12) (isf : IsFor m es) (isr : IsSet m es R) (h : posB m es R (some (u, v)) = true) : ∃ a b : Int, u = .int a ∧ v = .int b ∧ numB 0 12 u = true ∧ numB 0 12 v = true ∧ (a, b) ∈ slidesP m es R := by
  obtain ⟨p, e, pin⟩ := posB_true h
  injection e with e
  injection e with e1 e2
  subst e1 e2
  obtain ⟨hu, hv, _⟩ := mem_slidesP.mp (show (p.1, p.2) ∈ slidesP m es R from pin)
  have h1 := isr.rng _ hu
  have h2 := (mem_nearL.mp hv).1
  exact ⟨_, _, rfl, rfl, decide_eq_true (by omega), decide_eq_true (by omega), pin⟩
def spLDue (K : PySem.W.Frag) : Sp := fun vs H Q _ => ∃ (x y z : V) (m : Nat) (es : List (Int × Int)) (S : List Int) (so : Option (List (Option (V × V)))), vs = [x, y, z] ∧ m ≤ 12 ∧ IsFor m es ∧ Dp K H x (forD m es) ∧ Dp K H y (intsD S) ∧ IsSet m es S ∧ Sv K H z so ∧
  ∀ (H' : Hp) (p : Addr) (t : Str) (w : V), Same H H' → H' p = some (.lst [.str t, w]) → Rz K m es H' (follO m es S so) t w → Q (.ref p) H'
theorem ok_LDue {f : Addr} {fd : FuncData} (F : Fun K "_law_due" "_law_due" sLDue f fd) (m_isinstance : mg "isinstance" = none) (m_tuple : mg "tuple" = none) (m_enumerate : mg "enumerate" = none) (m_len : mg "len" = none)
    (oLIsNumber : Own P w K mg base "_law_is_number" 1 ["_law_value", "_law_low", "_law_high"] (spLIsNumber K)) (oLSlides : Own P w K mg base "_law_slides" 3 ["_law_forest_here", "_law_setting_here"] (spLSlides K))
    (oLAfter : Own P w K mg base "_law_after" 1 ["_law_setting_here", "_law_slide"] (spLAfter K)) :
    FnOk P w K mg base CX0 4 f fd ["_law_forest_here", "_law_setting_here", "_law_value"] (spLDue K) := by
  refine F.ok scLDue (fun vs H Q E h => ?_) (fun cdv A outer s H vs Q E hr h => ?_)
  · obtain ⟨x, y, z, m, es, S, so, rfl, _⟩ := h
    rfl
  · obtain ⟨x, y, z, m, es, S, so, rfl, hm, isf, hx, hy, iss, hz, q⟩ := h
    refine ⟨_, (pss_cons (ps_if (pt_not (pt_val (pe_callB (isiK K) (by rfl) m_isinstance (by decide +kernel) (pa_cons (pv 2) (pa_cons (pe_bltn (v := .ty "tuple") (by rfl) m_tuple (by decide +kernel) rfl) pa_nil))))) (pss_one (ps_ret (pe_lstS (pa_cons pe_str (pa_cons pe_non pa_nil))))) pss_nil)
    (pss_cons (ps_for PassesOwn.never rfl (pi_enumT K (by rfl) m_enumerate (pa_cons (pv 2) pa_nil)) (pgTK K (pgs_cons (pg_name (i := 3) scLDue.nd rfl (Or.inl rfl)) (pgs_cons (pg_name (i := 4) scLDue.nd rfl (Or.inl rfl)) pgs_nil)))
    (pss_cons (ps_if (PW.pt (pw_or (pt_not (pt_val (pe_callB (isiK K) (by rfl) m_isinstance (by decide +kernel) (pa_cons (pv 4) (pa_cons (pe_bltn (v := .ty "tuple") (by rfl) m_tuple (by decide +kernel) rfl) pa_nil))))) (pw_or1 (pt_cmpR op_ne (pe_callB (lenK K) (by rfl) m_len (by decide +kernel) (pa_cons (pv 4) pa_nil)) pe_int (nomark _))))) (pss_one (ps_ret (pe_lstS (pa_cons pe_str (pa_cons (pv 3) pa_nil))))) pss_nil)
    (pss_cons (ps_if (pt_cmpR (neEK K hr.units) (pe_lc (own := [("_law_one", 5)]) (g := (gName 5)) rfl scLDue.nd (piTK K (pv 4))
      (blkOk_by (own := [("_law_one", 5)]) (N := nLDue) (sc := (defScope sLDue)) (by decide +kernel))
      (fun _ _ _ _ _ => (pg_name (i := 5) scLDue.nd rfl (Or.inl rfl))) (fun _ _ _ _ _ => (pts_one (pt_not (pt_val (pe_own oLIsNumber (hr.mono (by decide)) (by rfl) (pa_cons (pv 5) (pa_cons pe_int (pa_cons pe_int pa_nil))))))))
      (fun _ _ _ _ _ => (pv 5))) (pe_lst pa_nil) (nomark _)) (pss_one (ps_ret (pe_lstS (pa_cons pe_str (pa_cons (pv 3) pa_nil))))) pss_nil)
    (pss_cons (ps_if (pt_cmpR (notInDK K hr.units) (pv 4) (pe_own oLSlides (hr.mono (by decide)) (by rfl) (pa_cons (pv 0) (pa_cons (pv 1) pa_nil))) (by rfl)) (pss_one (ps_ret (pe_lstS (pa_cons pe_str (pa_cons (pv 3) pa_nil))))) pss_nil)
    (pss_one (ps_set (i := 1) scLDue.nd rfl (.inl rfl) (pe_own oLAfter (hr.mono (by decide)) (by rfl) (pa_cons (pv 1) (pa_cons (pv 4) pa_nil)))))))))
    (pss_one (ps_ret (pe_lstS (pa_cons pe_str (pa_cons (pv 1) pa_nil))))))), ?_⟩
    cases hz with
    | no h k =>
      refine ⟨z, rfl, _, _, _, _, false, rfl, .ty "tuple", h, k, false, rfl, iteT ⟨by show 2 ≤ sizeLine; decide, fun p np hp => ?_⟩⟩
      exact q _ p _ _ (same_upd np) upd_same (.inl ⟨rfl, rfl, .inl rfl⟩)
    | @yes a xs os ha hi lx =>
    refine ⟨.ref a, rfl, _, _, _, _, true, rfl, .ty "tuple", ty_tup ha, kit_ty (by decide +kernel), true, rfl, iteF ?_⟩
    refine ⟨.ref a, rfl, a, xs, rfl, ha, for_enumT (K := K) (a := a) (xs := xs) (fun i σ H' => ∃ (y4 y5 : Option V) (r : V) (R : List Int), σ = [some x, some r, some (.ref a), y4, y5, none] ∧ Same H H' ∧
      Dp K H' r (intsD R) ∧ IsSet m es R ∧ follB m es S os 0 = follB m es R (os.drop i) i) ?_ ?_ ?_ ?_⟩
    · exact ⟨none, none, y, S, rfl, Same.refl _, hy, iss, rfl⟩
    · rintro i σ H' ⟨y4, y5, r, R, rfl, s1, _⟩
      exact Same.tup s1 ha
    · rintro i v t σ H1 hv nt ⟨y4, y5, r, R, rfl, s1, dr, isr, hwr⟩
      have st := same_upd (o := .tup [.int (i : Nat), v]) nt
      have et := same_at (o := .tup [.int (i : Nat), v]) nt
      obtain ⟨o, ho, hio⟩ := hi.drop i hv
      have hi400 : i < xs.length := (List.getElem?_eq_some_iff.mp hv).1
      rw [ho] at hwr
      have s2 := s1.trans st
      have hx2 := Dp.same s2 hx
      have dr2 := Dp.same st dr
      have hio2 := hio.same s2
      generalize upd H1 t _ = H2 at st et s2 hx2 dr2 hio2 ⊢
      refine ⟨t, _, rfl, SqT.of et, rfl, _, _, rfl, _, _, rfl, rfl, ?_⟩
      have bad : ∀ {H3 : Hp} {p : Addr}, Same H H3 → posB m es R o = false → H3 p = none → Q (.ref p) (upd H3 p (.lst [.str "bad", .int (i : Int)])) := fun {H3 p} s hp np =>
        q _ p _ _ (s.trans (same_upd np)) upd_same (.inl ⟨hwr.trans (follB_no hp), rfl, .inr ⟨i, rfl, by omega⟩⟩)
      clear st et ho
      cases hio2 with
      | no h k =>
        refine ⟨v, rfl, _, _, _, _, false, rfl, .ty "tuple", h, k, false, rfl, iteT ⟨.int (i : Int), rfl, by show 2 ≤ sizeLine; decide, fun p np hp => ?_⟩⟩
        exact bad s2 rfl np
      | @len b ys h l =>
        refine ⟨.ref b, rfl, _, _, _, _, true, rfl, .ty "tuple", ty_tup h, kit_ty (by decide +kernel), true, rfl, iteF ?_⟩
        refine ⟨.ref b, rfl, b, _, rfl, .inr h, rfl, true, ?_, iteT ⟨.int (i : Int), rfl, by show 2 ≤ sizeLine; decide, fun p np hp => bad s2 rfl np⟩⟩
        rw [decide_eq_false (by intro z; injection z with z; exact l (by omega))]
        rfl
      | @two b u v h ku kv =>
        refine ⟨.ref b, rfl, _, _, _, _, true, rfl, .ty "tuple", ty_tup h, kit_ty (by decide +kernel), true, rfl, iteF ?_⟩
        refine ⟨.ref b, rfl, b, _, rfl, .inr h, rfl, false, rfl, iteF ?_⟩
        refine ⟨.ref b, rfl, b, rfl, ⟨_, h⟩, fun D nD => ?_⟩
        have sD := same_upd (o := .lst []) nD
        refine lc_tup (K := K) (a := b) (xs := [u, v]) (fun j H' => Same H2 H' ∧ H' D = some (.lst (([u, v].take j).filter fun v => !numB 0 12 v))) ?_ ?_ ?_ ?_
        · exact ⟨sD, upd_same⟩
        · exact fun j H' _ p => Same.tup p.1 h
        · rintro j one H' hone ⟨s', eD⟩
          have kd : Kd K H2 one := by
            rcases List.mem_cons.mp (List.mem_of_getElem? hone) with e | e
            · rw [e]; exact ku
            · rw [List.mem_singleton.mp e]; exact kv
          refine ⟨rfl, ?_⟩
          refine ⟨one, rfl, one, 0, 12, rfl, kd.same s', numB 0 12 one, rfl, ?_⟩
          have tk : [u, v].take (j + 1) = [u, v].take j ++ [one] := by rw [List.take_add_one, hone]; rfl
          have ll : (([u, v].take j).filter fun v => !numB 0 12 v).length ≤ 2 := Nat.le_trans (List.length_filter_le _ _) (by rw [List.length_take]; show min j 2 ≤ 2; omega)
          cases hb : numB 0 12 one with
          | true =>
            refine iteF ⟨s', ?_⟩
            rw [tk, List.filter_append, List.filter_cons_of_neg (by rw [hb]; decide), List.filter_nil, List.append_nil]
            exact eD
          | false =>
            refine iteT ⟨one, rfl, _, eD, small1000 (by omega), fun h u eh => ?_, ?_⟩
            · rw [upd_ne (ne_of_none eh nD)]
              exact s' _ _ eh
            · rw [tk, List.filter_append, List.filter_cons_of_pos (by rw [hb]; decide), List.filter_nil]
              exact upd_same
        · rintro H3 ⟨s3, eD⟩
          rw [List.take_length] at eD
          refine ⟨Nat.zero_le _, fun Z nZ => ?_⟩
          have sZ := same_upd (o := .lst []) nZ
          refine ⟨D, Z, _, rfl, rfl, SqL.of (sZ _ _ eD), SqL.of upd_same, _, rfl, ?_⟩
          have s4 := s3.trans sZ
          have s24 := s2.trans s4
          generalize upd H3 Z _ = H4 at s4 s24 ⊢
          clear sZ nZ eD s3
          by_cases hn : numB 0 12 u = true ∧ numB 0 12 v = true
          rotate_left
          · have hp : posB m es R (some (u, v)) = false := by
              cases e : posB m es R (some (u, v)) with
              | false => rfl
              | true =>
                obtain ⟨_, _, _, _, h1, h2, _⟩ := posB_num hm isf isr e
                exact absurd ⟨h1, h2⟩ hn
            rw [show ([u, v].filter fun v => !numB 0 12 v).isEmpty = false by
              cases e1 : numB 0 12 u <;> cases e2 : numB 0 12 v <;> simp [e1, e2] at hn ⊢]
            exact iteT ⟨.int (i : Int), rfl, by show 2 ≤ sizeLine; decide, fun p np hp' => bad s24 hp np⟩
          rw [show ([u, v].filter fun v => !numB 0 12 v).isEmpty = true by simp [hn.1, hn.2]]
          refine iteF ?_
          obtain ⟨a1, b1, rfl, rfl⟩ : ∃ a b : Int, u = .int a ∧ v = .int b := by
            cases u <;> cases v <;> simp [numB] at hn ⊢
          have lR := isr.len
          have hb4 := Same.tup s4 h
          refine ⟨.ref b, rfl, x, rfl, r, rfl, x, r, m, es, R, rfl, hm, Dp.same s4 hx2, Dp.same s4 dr2, by omega, fun H5 G zs s5 eG dG => ?_⟩
          rw [← slides_eq] at dG
          refine ⟨prD (a1, b1), (slidesP m es R).map prD, Dp.same s5 (Dp.pr hb4), .inl (.lst (SqL.of eG) dG), lay_prs _, lay_pr _, dep_pr _, ?_⟩
          have hp0 : posB m es R (some (.int a1, .int b1)) = decide ((a1, b1) ∈ slidesP m es R) := rfl
          rw [if_pos rfl, any_pr]
          by_cases pin : (a1, b1) ∈ slidesP m es R
          rotate_left
          · rw [decide_eq_false pin]
            refine ⟨true, rfl, iteT ⟨.int (i : Int), rfl, by show 2 ≤ sizeLine; decide, fun p np hp' => bad (s24.trans s5) (by rw [hp0]; exact decide_eq_false pin) np⟩⟩
          rw [decide_eq_true pin]
          refine ⟨false, rfl, iteF ?_⟩
          refine ⟨r, rfl, .ref b, rfl, r, .ref b, R, a1, b1, rfl, Dp.same (s4.trans s5) dr2, Dp.same s5 (Dp.pr hb4), by omega, fun H6 r' s6 dr' => ?_⟩
          rw [follB_yes (p := (a1, b1)) pin] at hwr
          exact ⟨_, _, r', after R a1 b1, rfl, (s24.trans s5).trans s6, dr', IsSet.slide isf isr pin, hwr⟩
    · rintro σ H1 ⟨y4, y5, r, R, rfl, s1, dr, isr, hwr⟩
      rw [hi.len, List.drop_length] at hwr
      refine ⟨r, rfl, by show 2 ≤ sizeLine; decide, fun p np hp => ?_⟩
      exact q _ p _ _ (s1.trans (same_upd np)) upd_same (.inr ⟨R, hwr, rfl, isr, Dp.same (same_upd np) dr⟩)
end
end TL
namespace TL
open PySem PySem.Spec PyProof.Rows L2
section
variable {P : Program} {w : World} {K : PySem.W.Frag} {mg : Str → Option Value} {base : Heap}
/-! ### what is found -/
structure CkB (K : PySem.W.Frag) (cNL cNA cB cLE C : Addr) : Prop where
  exc : ExcC K C
  cls : (PySem.W.clsIn K C).isSome = true
  xf : XfC K C
  exm : PySem.W.exmOne K (.ref C) (.ref C) = some true
  k0 : PySem.W.kitOne K (.ref C) (.ref cLE) = some true
  k1 : PySem.W.kitOne K (.ref C) (.ref cNL) = some false
  k2 : PySem.W.kitOne K (.ref C) (.ref cNA) = some false
  k3 : PySem.W.kitOne K (.ref C) (.ref cB) = some false
def spLFound (K : PySem.W.Frag) : Sp := fun vs H Q _ => ∃ (x y z : V) (m : Nat) (es : List (Int × Int)) (S : List Int) (so : Option (List (Option (V × V)))), vs = [x, y, z] ∧ m ≤ 12 ∧ IsFor m es ∧ Dp K H x (forD m es) ∧ Dp K H y (intsD S) ∧ IsSet m es S ∧ Sv K H z so ∧
  ∀ (H' : Hp) (p : Addr) (t : Str) (w : V), Same H H' → H' p = some (.lst [.str t, w]) → Rz K m es H' (follO m es S so) t w → Q (.ref p) H'
theorem follO_inl {m : Nat} {es : List (Int × Int)} {S : List Int} {so : Option (List (Option (V × V)))} {w : V} (hl : ∀ os, so = some os → os.length ≤ 400) (h : follO m es S so = .inl w) : w = .non ∨ ∃ k : Nat, w = .int (k : Int) ∧ k ≤ 400 := by
  cases so with
  | none => cases h; exact .inl rfl
  | some os =>
    obtain ⟨j, e, hj⟩ := follB_inl (show follB m es S os 0 = .inl w from h)
    have := hl os rfl
    exact .inr ⟨j, e, by omega⟩
theorem Sv.len {H : Hp} {z : V} {so : Option (List (Option (V × V)))} (h : Sv K H z so) : ∀ os, so = some os → os.length ≤ 400 := fun os e => by
  cases h with
  | no _ _ => cases e
  | yes h i l => cases e; rw [← i.len]; exact l
theorem ok_LFound {f : Addr} {fd : FuncData} {cNoLamp cNotAdjacent cBlocked cBadSlides cLampError : Addr} (F : Fun K "_law_found" "_law_found" sLFound f fd) (m_isinstance : mg "isinstance" = none)
    (m_NoLamp : mg "NoLamp" = some (.ref cNoLamp)) (m_NotAdjacent : mg "NotAdjacent" = some (.ref cNotAdjacent)) (m_Blocked : mg "Blocked" = some (.ref cBlocked)) (m_BadSlides : mg "BadSlides" = some (.ref cBadSlides)) (m_LampError : mg "LampError" = some (.ref cLampError))
    (kB : CkB K cNoLamp cNotAdjacent cBlocked cLampError cBadSlides) (nB : PySem.W.findIn K (.ref cBadSlides) "index" = some none)
    (xFollow : OwnX P w K mg base "follow" 5 ["forest", "setting", "slides"] (spFollow K cBadSlides)) :
    FnOk P w K mg base CX0 6 f fd ["_law_forest_here", "_law_setting_here", "_law_value"] (spLFound K) := by
  refine F.ok scLFound (fun vs H Q E h => ?_) (fun cdv A outer s H vs Q E hr h => ?_)
  · obtain ⟨x, y, z, m, es, S, so, rfl, _⟩ := h
    rfl
  · obtain ⟨x, y, z, m, es, S, so, rfl, hm, isf, hx, hy, iss, hz, q⟩ := h
    have hl := hz.len
    refine ⟨_, (pss_cons (ps_set (i := 3) scLFound.nd rfl (.inl rfl) (pe_lstS (pa_cons pe_str (pa_cons pe_non pa_nil))))
    (pss_cons (ps_try_as (i := 4) (Wout := fun _ _ _ _ => False) rfl rfl scLFound.nd rfl rfl ⟨by rfl, by decide, .inl m_BadSlides⟩ takes0
    (fun W pn xe tk pw => (pss_one (ps_asg (pe_ownX xFollow (hr.mono (by decide)) tk (by rfl) (pa_cons (pv 0) (pa_cons (pv 1) (pa_cons (pv 2) pa_nil)))) (pg_sub (pv 3) pe_int set_list))))
    (fun a0 oe cls d0 pn hz hf => (pss_cons (ps_set (i := 5) scLFound.nd rfl (.inl rfl) (pe_and (pe_callB (isAK K hz hf) (by rfl) m_isinstance (by decide +kernel) (pa_cons (pv 4) (pa_cons (pe_glob (v := V.ref cLampError) (by rfl) m_LampError rfl) pa_nil))) (pe_one (pe_not (pe_callB (isAK K hz hf) (by rfl) m_isinstance (by decide +kernel) (pa_cons (pv 4) (pa_cons (pe_tup (pa_cons (pe_glob (v := V.ref cNoLamp) (by rfl) m_NoLamp rfl) (pa_cons (pe_glob (v := V.ref cNotAdjacent) (by rfl) m_NotAdjacent rfl) (pa_cons (pe_glob (v := V.ref cBlocked) (by rfl) m_Blocked rfl) pa_nil)))) pa_nil)))))))
    (pss_one (ps_ret (pe_ifExp (truthK K (pv 5) (by intro _; rfl)) (pe_lstS (pa_cons pe_str (pa_cons (xfA K hz hf (pv 4)) pa_nil))) (pe_lstS (pa_cons pe_str pa_nil))))))))
    (pss_one (ps_ret (pv 3))))), ?_⟩
    refine ⟨by show 2 ≤ sizeLine; decide, fun p np hp => ?_⟩
    have sp := same_upd (o := .lst [V.str "setting", V.non]) np
    have ep := same_at (o := .lst [V.str "setting", V.non]) np
    generalize upd H p (.lst [V.str "setting", V.non]) = H1 at sp ep ⊢
    refine ⟨x, rfl, y, rfl, z, rfl, x, y, z, m, es, S, so, rfl, hm, isf, Dp.same sp hx, Dp.same sp hy, iss, hz.same sp, fun w hw H' dd s1 e1 => ?_, fun T hT ist H' r s1 dr => ?_⟩
    · have s1 := sp.trans s1
      refine ⟨true, kB.exm, fun _ a0 na => ?_, fun z => nomatch z⟩
      refine ⟨.ref a0, rfl, cBadSlides, kB.exc, kB.cls, .ref cLampError, true, rfl, rfl, ⟨dd, _, rfl, e1⟩, .inl ⟨.ref cLampError, fun u h => h, kB.k0⟩, ?_⟩
      refine ⟨true, rfl, ?_⟩
      rw [if_pos rfl]
      refine ⟨.ref a0, rfl, by show 3 ≤ sizeLine; decide, fun tp ntp => ?_⟩
      have st := same_upd (o := .tup [V.ref cNoLamp, V.ref cNotAdjacent, V.ref cBlocked]) ntp
      have et := same_at (o := .tup [V.ref cNoLamp, V.ref cNotAdjacent, V.ref cBlocked]) ntp
      have e2 := st _ _ e1
      have s2 := s1.trans st
      generalize upd H' tp _ = H2 at st et e2 s2 ⊢
      refine ⟨cBadSlides, kB.exc, kB.cls, .ref tp, false, rfl, rfl, ⟨dd, _, rfl, e2⟩, .inr ⟨tp, [cNoLamp, cNotAdjacent, cBlocked], rfl, et, kitAny_no fun c hc => ?_⟩, ?_⟩
      · rcases List.mem_cons.mp hc with rfl | hc
        · exact kB.k1
        rcases List.mem_cons.mp hc with rfl | hc
        · exact kB.k2
        · rw [List.mem_singleton.mp hc]; exact kB.k3
      refine ⟨false, rfl, .bl true, rfl, true, ?_, iteT ?_⟩
      · rfl
      refine ⟨cBadSlides, kB.xf, nB, .ref a0, rfl, rfl, rfl, dd, _, _, rfl, e2, rfl, by show 2 ≤ sizeLine; decide, fun p2 n2 h2 => ?_⟩
      exact q _ p2 _ _ (s2.trans (same_upd n2)) upd_same (.inl ⟨hw, rfl, follO_inl hl hw⟩)
    · have ep1 := s1 _ _ ep
      refine ⟨.ref p, rfl, p, _, 1, 1, rfl, rfl, ep1, rfl, ?_⟩
      have s3 : Same H (upd H' p (.lst ([V.str "setting", V.non].set 1 r))) := fun b u eb => by
        rw [upd_ne (ne_of_none eb np)]
        exact s1 _ _ (sp _ _ eb)
      have dr3 : Dp K (upd H' p (.lst ([V.str "setting", V.non].set 1 r))) r (intsD T) := Dp.kt (kt_lst ep1) dr (only_intsD _)
      exact ⟨.ref p, rfl, q _ p "setting" r s3 upd_same (.inr ⟨T, hT, rfl, ist, dr3⟩)⟩
end
end TL
namespace TL
open PySem PySem.Spec PyProof.Rows L2
section
variable {P : Program} {w : World} {K : PySem.W.Frag} {mg : Str → Option Value} {base : Heap}
/-! ### a walk -/
theorem atI_last {xs : List V} {v : V} {n : Nat} (hn : xs.length = n + 1) (h : xs[n]? = some v) : atI xs (-1) = some v := by
  unfold atI ixN
  rw [if_neg (by decide), if_pos (by omega)]
  have e : ((-1 : Int) + (xs.length : Int)).toNat = n := by omega
  rw [e]
  exact h
theorem eqv_edges (es : List (Int × Int)) : PyData.eqv (.list (es.map prD)) (.list []) = decide (es = []) := by
  cases es with
  | nil => rfl
  | cons _ _ => rfl
theorem shaped_edges (es : List (Int × Int)) : SeqAt.shaped (.list (es.map prD)) = true := by
  have h1 : PyData.depthAll (es.map prD) ≤ 1 := by
    induction es with
    | nil => simp [PyData.depthAll]
    | cons p l ih =>
      simp only [List.map_cons, PyData.depthAll]
      exact Nat.max_le.mpr ⟨by simp [prD, PyData.depth, PyData.depthAll], ih⟩
  unfold SeqAt.shaped
  rw [show (PyData.list (es.map prD)).canLay0 = true from lay_prs es, Bool.true_and]
  refine decide_eq_true ?_
  simp only [PyData.depth]
  omega
theorem offG {H : Hp} {d l G : Addr} {n : Nat} {zs : List V} {ps : List (Int × Int)} (D : Deck H d l n) (e : H G = some (.lst zs)) (a : DpAll K H zs (ps.map prD)) (h : ps ≠ []) : G ≠ d ∧ G ≠ l := by
  obtain ⟨c, ns, _, h1, h2, _⟩ := D
  have el : ∀ (i : Nat) (v : V), zs[i]? = some v → ∀ k : Int, v ≠ .int k := fun i v hv k z => by
    obtain ⟨w, hw, dw⟩ := DpAll.get a hv
    rw [List.getElem?_map] at hw
    obtain ⟨p, _, rfl⟩ := Option.map_eq_some_iff.mp hw
    obtain ⟨t, ez, _⟩ := Dp.prI dw
    rw [ez] at z
    cases z
  refine ⟨fun z => ?_, fun z => ?_⟩
  · rw [z, h1] at e
    cases e
    exact el 1 _ rfl _ rfl
  · rw [z, h2] at e
    cases e
    have := DpAll.length a
    rw [List.length_map, List.length_map] at this
    have hp := List.length_pos_iff.mpr h
    cases ns with
    | nil => rw [List.length_nil] at this; omega
    | cons k ns => exact el 0 _ rfl k rfl
def okP (m : Nat) (p : Int × Int) : Prop := (0 ≤ p.1 ∧ p.1 < (m : Int)) ∧ 0 ≤ p.2 ∧ p.2 < (m : Int)
def spLWalk (K : PySem.W.Frag) : Sp := fun vs H Q _ => ∃ (d l : Addr) (n : Nat) (x y : V) (m : Nat) (es : List (Int × Int)) (S : List Int), vs = [.ref d, x, y] ∧ Deck H d l n ∧ n < 800000 ∧ m ≤ 12 ∧ IsFor m es ∧ Dp K H x (forD m es) ∧ Dp K H y (intsD S) ∧ IsSet m es S ∧
  ∀ (H' : Hp) (z : V) (ps : List (Int × Int)), Fm d l H H' → Deck H' d l (n + 12) → Dp K H' z (prsD ps) → ps.length ≤ 9 → (∀ p ∈ ps, okP m p) → Q z H'
theorem ok_LWalk {f : Addr} {fd : FuncData} (F : Fun K "_law_walk" "_law_walk" sLWalk f fd) (m_range : mg "range" = none) (m_len : mg "len" = none) (m_tuple : mg "tuple" = none)
    (oLDraw : Own P w K mg base "_law_draw" 1 ["_law_deck_here", "_law_limit"] spLDraw) (oLSlides : Own P w K mg base "_law_slides" 3 ["_law_forest_here", "_law_setting_here"] (spLSlides K))
    (oLAfter : Own P w K mg base "_law_after" 1 ["_law_setting_here", "_law_slide"] (spLAfter K)) :
    FnOk P w K mg base CX0 4 f fd ["_law_deck_here", "_law_forest_here", "_law_setting_here"] (spLWalk K) := by
  refine F.ok scLWalk (fun vs H Q E h => ?_) (fun cdv A outer s H vs Q E hr h => ?_)
  · obtain ⟨d, l, n, x, y, m, es, S, rfl, _⟩ := h
    rfl
  · obtain ⟨d, l, n, x, y, m, es, S, rfl, hD, hn, hm, isf, hx, hy, iss, q⟩ := h
    refine ⟨_, (pss_cons (ps_set (i := 3) scLWalk.nd rfl (.inl rfl) (pe_lst pa_nil))
    (pss_cons (ps_for PassesOwn.never rfl (pi_range1 (by rfl) m_range (pa_cons (pe_own oLDraw (hr.mono (by decide)) (by rfl) (pa_cons (pv 0) (pa_cons pe_int pa_nil))) pa_nil)) (pg_name (i := 4) scLWalk.nd rfl (Or.inl rfl))
    (pss_cons (ps_set (i := 5) scLWalk.nd rfl (.inl rfl) (pe_own oLSlides (hr.mono (by decide)) (by rfl) (pa_cons (pv 1) (pa_cons (pv 2) pa_nil))))
    (pss_one (ps_if (pt_cmpR (neDK K hr.units) (pv 5) (pe_lst pa_nil) (nomark _)) (pss_cons (ps_expr (bmK K PySem.F.plainAttrs_list PySem.F.slot_list_append PySem.F.type_list_append mt_append (pv 3) (pa_cons (pe_ix (ixLK K) (pv 5) (pe_own oLDraw (hr.mono (by decide)) (by rfl) (pa_cons (pv 0) (pa_cons (pe_callB (lenK K) (by rfl) m_len (by decide +kernel) (pa_cons (pv 5) pa_nil)) pa_nil))) (fun _ _ => rfl)) pa_nil)))
    (pss_one (ps_set (i := 2) scLWalk.nd rfl (.inl rfl) (pe_own oLAfter (hr.mono (by decide)) (by rfl) (pa_cons (pv 2) (pa_cons (pe_ix (ixLK K) (pv 3) (pe_un un_neg pe_int) (fun _ _ => rfl)) pa_nil)))))) pss_nil))))
    (pss_one (ps_ret (pe_callTy (tupleK K) (by rfl) m_tuple (by decide +kernel) (pa_cons (pv 3) pa_nil)))))), ?_⟩
    refine ⟨Nat.zero_le _, fun L nL => ?_⟩
    have sL := same_upd (o := .lst []) nL
    have offL := hD.off nL
    refine ⟨.ref d, rfl, d, l, _, 10, rfl, by decide, by decide, hD.same sL, by omega, fun H1 r r0 r1 f1 d1 => ?_⟩
    have eL1 := f1 _ _ offL.1 offL.2 (same_at (o := .lst []) nL)
    have f01 : Fm d l H H1 := (Same.fm sL).trans f1
    have k01 : KT K H H1 := f01.kt hD
    refine ⟨r, rfl, by omega, by omega, for_range (lo := 0) (n := r.toNat) (fun j σ H' => ∃ (y4 y5 : Option V) (r : V) (R : List Int) (zs : List V) (ps : List (Int × Int)), σ = [some (.ref d), some x, some r, some (.ref L), y4, y5] ∧
      Fm d l H H' ∧ Deck H' d l (n + 1 + j) ∧ Dp K H' x (forD m es) ∧ Dp K H' r (intsD R) ∧ IsSet m es R ∧ H' L = some (.lst zs) ∧ DpAll K H' zs (ps.map prD) ∧ ps.length ≤ j ∧ ∀ p ∈ ps, okP m p) ?_ ?_ ?_⟩
    · exact ⟨none, none, y, S, [], [], rfl, f01, d1, Dp.kt k01 hx (only_forD _ _), Dp.kt k01 hy (only_intsD _), iss, eL1, .nil, Nat.le_refl _, fun _ h => nomatch h⟩
    · rintro j σ H2 hj ⟨y4, y5, rr, R, zs, ps, rfl, f2, d2, hx2, dr, isr, eL2, aL, lp, rp⟩
      have lR := isr.len
      have hsl := slides_len isr hm
      refine ⟨x, rfl, rr, rfl, x, rr, m, es, R, rfl, hm, hx2, dr, by omega, fun H3 G gs s3 eG dG => ?_⟩
      rw [← slides_eq] at dG
      refine ⟨.ref G, rfl, Nat.zero_le _, fun e2 ne2 => ?_⟩
      have se := same_upd (o := .lst []) ne2
      have s4 := s3.trans se
      refine ⟨.list ((slidesP m es R).map prD), .list [], .lst (SqL.of (se _ _ eG)) (DpAll.same se dG), .lst (SqL.of upd_same) .nil, shaped_edges _, shaped_ints [], _, rfl, ?_⟩
      rw [eqv_edges]
      have d4 := d2.same s4
      have eG4 := se _ _ eG
      have dG4 := DpAll.same se dG
      have eL4 := s4 _ _ eL2
      have f4 := f2.trans (Same.fm s4)
      have hx4 := Dp.same s4 hx2
      have dr4 := Dp.same s4 dr
      have aL4 := DpAll.same s4 aL
      generalize upd H3 e2 _ = H4 at d4 eG4 dG4 eL4 f4 hx4 dr4 aL4 ⊢
      clear se s4 s3 ne2 eG dG d2 eL2 f2 hx2 dr aL
      refine ite2 (fun h => ?_) (fun h => ?_)
      · have hne : slidesP m es R ≠ [] := fun e => by
          rw [decide_eq_true e] at h
          cases h
        have oG := offG d4 eG4 dG4 hne
        have gl : gs.length = (slidesP m es R).length := by rw [DpAll.length dG4, List.length_map]
        have hl0 : 0 < (slidesP m es R).length := List.length_pos_iff.mpr hne
        refine ⟨.ref L, rfl, .inl ⟨rfl, _, SqL.of eL4⟩, .ref G, rfl, .ref d, rfl, .ref G, rfl, G, _, rfl, .inl (SqL.of eG4), d, l, _, _, rfl, by omega, by omega, d4, by omega, fun H5 k k0 k1 f5 d5 => ?_⟩
        have hk : k.toNat < gs.length := by omega
        have kt5 : KT K H4 H5 := f5.kt d4
        have hg : gs[k.toNat]? = some gs[k.toNat] := List.getElem?_eq_getElem hk
        obtain ⟨w3, hw3, dw3⟩ := DpAll.get (DpAll.kt kt5 dG4 (only_prs _)) hg
        rw [List.getElem?_map] at hw3
        obtain ⟨⟨u, v⟩, hp3, rfl⟩ := Option.map_eq_some_iff.mp hw3
        have hpin := List.mem_of_getElem? hp3
        obtain ⟨hu, hv, ho⟩ := mem_slidesP.mp hpin
        have eL5 := f5 _ _ offL.1 offL.2 eL4
        have zl := DpAll.length aL4
        rw [List.length_map] at zl
        refine ⟨G, gs, _, _, rfl, rfl, SqL.of (f5 _ _ oG.1 oG.2 eG4), at_of (j := k.toNat) (by omega) hg, L, _, _, rfl, rfl, eL5, small1000 (by omega), ?_⟩
        have k6 : KT K H5 (upd H5 L (.lst (zs ++ [gs[k.toNat]]))) := kt_lst eL5
        have eL6 : upd H5 L (.lst (zs ++ [gs[k.toNat]])) L = some (.lst (zs ++ [gs[k.toNat]])) := upd_same
        have k46 := kt5.trans k6
        have f6 : Fm d l H (upd H5 L (.lst (zs ++ [gs[k.toNat]]))) := (f4.trans f5).put nL
        have d6 := d5.put (o := .lst (zs ++ [gs[k.toNat]])) offL.1 offL.2
        have dw6 := Dp.kt k6 dw3 (only_pr _)
        have aL6 : DpAll K (upd H5 L (.lst (zs ++ [gs[k.toNat]]))) (zs ++ [gs[k.toNat]]) ((ps ++ [(u, v)]).map prD) := by
          rw [List.map_append]
          exact DpAll.append (DpAll.kt k46 aL4 (only_prs _)) (.cons dw6 .nil)
        generalize upd H5 L _ = H6 at k46 k6 f6 d6 dw6 aL6 eL6 ⊢
        have hat : atI (zs ++ [gs[k.toNat]]) (-1) = some gs[k.toNat] := atI_last (by rw [List.length_append]; rfl) (by rw [List.getElem?_append_right (Nat.le_refl _), Nat.sub_self]; rfl)
        refine ⟨rr, rfl, .ref L, rfl, 1, rfl, L, _, _, gs[k.toNat], rfl, rfl, SqL.of eL6, hat, rr, _, R, u, v, rfl, Dp.kt k46 dr4 (only_intsD _), dw6, by omega, fun H7 r' s7 dr' => ?_⟩
        refine ⟨_, _, r', after R u v, zs ++ [gs[k.toNat]], ps ++ [(u, v)], rfl, f6.trans (Same.fm s7), (d6.same s7).le (by omega), Dp.same s7 (Dp.kt k46 hx4 (only_forD _ _)), dr', IsSet.slide isf isr hpin, s7 _ _ eL6, DpAll.same s7 aL6, by rw [List.length_append, List.length_singleton]; omega, fun p hp => ?_⟩
        rcases List.mem_append.mp hp with hp | hp
        · exact rp p hp
        · rw [List.mem_singleton.mp hp]
          exact ⟨isr.rng _ hu, (mem_nearL.mp hv).1⟩
      · exact ⟨_, _, rr, R, zs, ps, rfl, f4, d4.le (by omega), hx4, dr4, isr, eL4, aL4, by omega, rp⟩
    · rintro σ H2 ⟨y4, y5, rr, R, zs, ps, rfl, f2, d2, hx2, dr, isr, eL2, aL, lp, rp⟩
      refine ⟨.ref L, rfl, L, _, rfl, .inl ⟨SqL.of eL2, fun t nt => ?_⟩⟩
      have st := same_upd (o := .tup zs) nt
      exact q _ _ ps (f2.trans (Same.fm st)) ((d2.same st).le (by omega)) (.tup (SqT.of upd_same) (DpAll.same st aL)) (by omega) rp
end
end TL
namespace TL
open PySem PySem.Spec PyProof.Rows L2
section
variable {P : Program} {w : World} {K : PySem.W.Frag} {mg : Str → Option Value} {base : Heap}
/-! ### values that are followed -/
theorem wlen : ∀ ds : List PyData, ds.length ≤ PyData.weightAll ds
  | [] => Nat.zero_le _
  | d :: ds => by
    have := wlen ds
    simp only [PyData.weightAll, List.length_cons]
    omega
theorem kd_only {H : Hp} {v : V} {x : PyData} (h : Dp K H v x) (o : only x = true) : Kd K H v := by
  cases h with
  | non => exact ⟨_, false, false, .base .non, kit_ty (by decide +kernel), kit_ty (by decide +kernel), rfl⟩
  | bl b => exact ⟨_, true, true, .base (.bl b), kit_ty (by decide +kernel), kit_ty (by decide +kernel), rfl⟩
  | int i => exact Kd.int _
  | str x => exact ⟨_, false, false, .base (.str _), kit_ty (by decide +kernel), kit_ty (by decide +kernel), rfl⟩
  | lst h a => simp [only] at o
  | tup h a => exact kd_tup h
theorem kd_all {H : Hp} : ∀ {xs : List V} {ds : List PyData}, DpAll K H xs ds → onlyAll ds = true → ∀ y ∈ xs, Kd K H y
  | _, _, .nil, _, y, hy => nomatch hy
  | _, _, .cons h a, o, y, hy => by
    simp only [onlyAll, Bool.and_eq_true] at o
    rcases List.mem_cons.mp hy with rfl | hy
    · exact kd_only h o.1
    · exact kd_all a o.2 y hy
def Fe (e : Addr) (v : V) (x : PyData) : Prop := only x = true ∨ v ≠ .ref e
theorem Ov.put {d l e : Addr} {H : Hp} {ys zs : List V} {v : V} {x : PyData} (he : H e = some (.lst ys)) (h : Ov K d l H v x) (fr : Fe e v x) : Ov K d l (upd H e (.lst zs)) v x := by
  cases h with
  | dat h o sh => exact .dat (Dp.kt (kt_lst he) h o) o sh
  | @obj a ob x h0 h h1 h2 =>
    refine .obj (o := ob) ?_ h h1 h2
    have : a ≠ e := by
      rcases fr with fr | fr
      · cases h <;> simp [only] at fr
      · exact fun z => fr (by rw [z])
    rw [upd_ne this]
    exact h0
def Rp (K : PySem.W.Frag) (H : Hp) (y : V) (d : PyData) : Prop := (Dp K H y d ∧ Shows d) ∨ (Dq K H y d ∧ ShowsQ d)
mutual
theorem dq_of {H : Hp} : ∀ {v : V} {x : PyData}, Dp K H v x → only x = true → Dq K H v x
  | _, _, .non, _ => .non
  | _, _, .bl b, _ => .bl b
  | _, _, .int i, _ => .int i
  | _, _, .str x, _ => .str x
  | _, _, .lst _ _, q => by simp [only] at q
  | _, _, .tup h a, q => .tup h (dqA_of a (by simpa only [only] using q))
theorem dqA_of {H : Hp} : ∀ {vs : List V} {xs : List PyData}, DpAll K H vs xs → onlyAll xs = true → DqAll K H vs xs
  | _, _, .nil, _ => .nil
  | _, _, .cons h a, q => by
    simp only [onlyAll, Bool.and_eq_true] at q
    exact .cons (dq_of h q.1) (dqA_of a q.2)
end
theorem DqAll.append {H : Hp} : ∀ {xs ys : List V} {ds es : List PyData}, DqAll K H xs ds → DqAll K H ys es → DqAll K H (xs ++ ys) (ds ++ es)
  | _, _, _, _, .nil, h => h
  | _, _, _, _, .cons a h, h' => .cons a (DqAll.append h h')
theorem nodAll : ∀ {ds : List PyData}, (∀ d ∈ ds, d.hasDict = false) → PyData.hasDictAll ds = false
  | [], _ => rfl
  | d :: ds, h => by
    simp only [PyData.hasDictAll, h d List.mem_cons_self, nodAll fun e he => h e (List.mem_cons_of_mem _ he), Bool.or_self]
def Vdat (K : PySem.W.Frag) (H : Hp) (v : V) (D : PyData) : Prop := Sw D 8000 4 ∧ ∀ H', Same H H' → (Dp K H' v D ∧ D.hasDict = false) ∨ Dq K H' v D
theorem Ov.side {d l : Addr} {H : Hp} {v : V} {x : PyData} (h : Ov K d l H v x) : (Dp K H v x ∧ x.hasDict = false) ∨ Dq K H v x := by
  rcases h.rep with ⟨a, b⟩ | ⟨a, b⟩
  · exact .inl ⟨a, b.nod⟩
  · exact .inr a
theorem smP_of {m : Nat} {p : Int × Int} (hm : m ≤ 12) (h : okP m p) : smP p := ⟨by have := h.1; unfold sm; omega, by have := h.2; unfold sm; omega⟩
theorem iw_only {H : Hp} {v : V} {x : PyData} (h : Dp K H v x) (o : only x = true) : ∃ o, Iw K H v o := by
  cases h with
  | non => exact ⟨_, .no (.base .non) (kit_ty (by decide +kernel))⟩
  | bl b => exact ⟨_, .no (.base (.bl b)) (kit_ty (by decide +kernel))⟩
  | int i => exact ⟨_, .no (.base (.int _)) (kit_ty (by decide +kernel))⟩
  | str x => exact ⟨_, .no (.base (.str _)) (kit_ty (by decide +kernel))⟩
  | lst h a => simp [only] at o
  | @tup _ xs ds h a =>
    have kd := kd_all a (by simpa only [only] using o)
    match xs, h, kd with
    | [], h, _ => exact ⟨_, .len h (by decide)⟩
    | [_], h, _ => exact ⟨_, .len h (by simp)⟩
    | [u, v], h, kd => exact ⟨_, .two h (kd u (by simp)) (kd v (by simp))⟩
    | _ :: _ :: _ :: _, h, _ => exact ⟨_, .len h (by simp)⟩
theorem iws_only {H : Hp} : ∀ {xs : List V} {ds : List PyData}, DpAll K H xs ds → onlyAll ds = true → ∃ os, Iws K H xs os
  | _, _, .nil, _ => ⟨[], .nil⟩
  | _, _, .cons h a, o => by
    simp only [onlyAll, Bool.and_eq_true] at o
    obtain ⟨o1, h1⟩ := iw_only h o.1
    obtain ⟨os, h2⟩ := iws_only a o.2
    exact ⟨o1 :: os, .cons h1 h2⟩
theorem Iws.append {H : Hp} : ∀ {xs ys : List V} {os ps : List (Option (V × V))}, Iws K H xs os → Iws K H ys ps → Iws K H (xs ++ ys) (os ++ ps)
  | _, _, _, _, .nil, h => h
  | _, _, _, _, .cons a h, h' => .cons a (Iws.append h h')
theorem Ov.iw {d l : Addr} {H : Hp} {v : V} {x : PyData} (h : Ov K d l H v x) : ∃ o, Iw K H v o := by
  cases h with
  | dat h o sh => exact iw_only h o
  | obj e h h1 h2 =>
    cases h with
    | l0 => exact ⟨_, .no (.base (.lst e)) (kit_ty (by decide +kernel))⟩
    | l2 => exact ⟨_, .no (.base (.lst e)) (kit_ty (by decide +kernel))⟩
    | d0 => exact ⟨_, .no (.base (.dK e)) (kit_ty (by decide +kernel))⟩
    | d1 => exact ⟨_, .no (.base (.dK e)) (kit_ty (by decide +kernel))⟩
theorem Ov.sv {d l : Addr} {H : Hp} {v : V} {x : PyData} (h : Ov K d l H v x) : ∃ o, Sv K H v o := by
  cases h with
  | dat h o sh =>
    cases h with
    | non => exact ⟨_, .no (.base .non) (kit_ty (by decide +kernel))⟩
    | bl b => exact ⟨_, .no (.base (.bl b)) (kit_ty (by decide +kernel))⟩
    | int i => exact ⟨_, .no (.base (.int _)) (kit_ty (by decide +kernel))⟩
    | str x => exact ⟨_, .no (.base (.str _)) (kit_ty (by decide +kernel))⟩
    | lst h a => simp [only] at o
    | tup h a =>
      rename_i ds
      have l := DpAll.length a
      have w := sh.light
      simp only [PyData.weight] at w
      have := wlen ds
      obtain ⟨os, hi⟩ := iws_only a (by simpa only [only] using o)
      exact ⟨_, .yes h hi (by omega)⟩
  | obj e h h1 h2 =>
    cases h with
    | l0 => exact ⟨_, .no (.base (.lst e)) (kit_ty (by decide +kernel))⟩
    | l2 => exact ⟨_, .no (.base (.lst e)) (kit_ty (by decide +kernel))⟩
    | d0 => exact ⟨_, .no (.base (.dK e)) (kit_ty (by decide +kernel))⟩
    | d1 => exact ⟨_, .no (.base (.dK e)) (kit_ty (by decide +kernel))⟩
inductive Vc (K : PySem.W.Frag) (d l e : Addr) (H : Hp) : V → Prop
  | one {v : V} {x : PyData} (o : Ov K d l H v x) (fr : Fe e v x) : Vc K d l e H v
  | mid {a : Addr} {xs ys : List V} {p q : List (Int × Int)} {v : V} {x : PyData} (h : SqT K H a (xs ++ v :: ys)) (hx : DpAll K H xs (p.map prD)) (hy : DpAll K H ys (q.map prD)) (o : Ov K d l H v x) (fr : Fe e v x) (sp : ∀ i ∈ p, smP i) (sq : ∀ i ∈ q, smP i) (lp : p.length ≤ 12) (lq : q.length ≤ 12) : Vc K d l e H (.ref a)
  | prs {v : V} {p : List (Int × Int)} (h : Dp K H v (prsD p)) (sp : ∀ i ∈ p, smP i) (lp : p.length ≤ 40) : Vc K d l e H v
  | lst {a : Addr} {xs : List V} {p : List (Int × Int)} (h : H a = some (.lst xs)) (hx : DpAll K H xs (p.map prD)) (h1 : a ≠ d) (h2 : a ≠ l) (h3 : a ≠ e) (sp : ∀ i ∈ p, smP i) (lp : p.length ≤ 12) : Vc K d l e H (.ref a)
theorem Vc.fm {d l e : Addr} {n : Nat} {H H' : Hp} (f : Fm d l H H') (D : Deck H d l n) {v : V} (h : Vc K d l e H v) : Vc K d l e H' v := by
  have k : KT K H H' := f.kt D
  cases h with
  | one o fr => exact .one (o.fm f D) fr
  | mid h hx hy o fr sp sq lp lq => exact .mid (k _ _ h) (DpAll.kt k hx (only_prs _)) (DpAll.kt k hy (only_prs _)) (o.fm f D) fr sp sq lp lq
  | prs h sp lp => exact .prs (Dp.kt k h (only_prsD _)) sp lp
  | lst h hx h1 h2 h3 sp lp => exact .lst (f _ _ h1 h2 h) (DpAll.kt k hx (only_prs _)) h1 h2 h3 sp lp
theorem Vc.same {d l e : Addr} {H H' : Hp} (s : Same H H') {v : V} (h : Vc K d l e H v) : Vc K d l e H' v := by
  cases h with
  | one o fr => exact .one (o.same s) fr
  | mid h hx hy o fr sp sq lp lq => exact .mid (Same.tup s h) (DpAll.same s hx) (DpAll.same s hy) (o.same s) fr sp sq lp lq
  | prs h sp lp => exact .prs (Dp.same s h) sp lp
  | lst h hx h1 h2 h3 sp lp => exact .lst (s _ _ h) (DpAll.same s hx) h1 h2 h3 sp lp
theorem Vc.put {d l e : Addr} {H : Hp} {us zs : List V} {v : V} (he : H e = some (.lst us)) (h : Vc K d l e H v) : Vc K d l e (upd H e (.lst zs)) v := by
  have k : KT K H (upd H e (.lst zs)) := kt_lst he
  cases h with
  | one o fr => exact .one (o.put he fr) fr
  | mid h hx hy o fr sp sq lp lq => exact .mid (k _ _ h) (DpAll.kt k hx (only_prs _)) (DpAll.kt k hy (only_prs _)) (o.put he fr) fr sp sq lp lq
  | prs h sp lp => exact .prs (Dp.kt k h (only_prsD _)) sp lp
  | @lst a xs p h hx h1 h2 h3 sp lp => exact .lst (by rw [upd_ne h3]; exact h) (DpAll.kt k hx (only_prs _)) h1 h2 h3 sp lp
theorem Vc.sv {d l e : Addr} {H : Hp} {v : V} (h : Vc K d l e H v) : ∃ o, Sv K H v o := by
  cases h with
  | one o fr => exact o.sv
  | mid h hx hy o fr sp sq lp lq =>
    obtain ⟨o1, h1⟩ := iws_only hx (only_prs _)
    obtain ⟨o2, h2⟩ := iws_only hy (only_prs _)
    obtain ⟨o3, h3⟩ := o.iw
    have l1 := DpAll.length hx
    have l2 := DpAll.length hy
    rw [List.length_map] at l1 l2
    exact ⟨_, .yes h (h1.append (.cons h3 h2)) (by rw [List.length_append, List.length_cons]; omega)⟩
  | prs h sp lp =>
    obtain ⟨a, xs, rfl, ha, hA⟩ := Dp.tupI h
    obtain ⟨o1, h1⟩ := iws_only hA (only_prs _)
    have l1 := DpAll.length hA
    rw [List.length_map] at l1
    exact ⟨_, .yes ha h1 (by omega)⟩
  | lst h hx h1 h2 h3 sp lp => exact ⟨_, .no (.base (.lst h)) (kit_ty (by decide +kernel))⟩
theorem Vc.vdat {d l e : Addr} {H : Hp} {v : V} (h : Vc K d l e H v) : ∃ D, Vdat K H v D := by
  have nop : ∀ {p : List (Int × Int)} (z : PyData), z ∈ p.map prD → z.hasDict = false := fun z hz => by
    obtain ⟨i, _, rfl⟩ := List.mem_map.mp hz
    exact nod_of_only _ (only_pr _)
  cases h with
  | one o fr => exact ⟨_, o.sw.le (by decide) (by decide), fun H' s => (o.same s).side⟩
  | @mid a xs ys p q v x h hx hy o fr sp sq lp lq =>
    refine ⟨.tuple (p.map prD ++ x :: q.map prD), (Sw.tup (n := 300) (k := 3) (m := 25) (fun z hz => ?_) (by rw [List.length_append, List.length_cons, List.length_map, List.length_map]; omega)).le (by decide) (by decide), fun H' s => ?_⟩
    · rcases List.mem_append.mp hz with hz | hz
      · obtain ⟨i, hi, rfl⟩ := List.mem_map.mp hz
        exact (Sm.pr (sp i hi)).sw.le (by decide) (by decide)
      rcases List.mem_cons.mp hz with rfl | hz
      · exact o.sw
      · obtain ⟨i, hi, rfl⟩ := List.mem_map.mp hz
        exact (Sm.pr (sq i hi)).sw.le (by decide) (by decide)
    · have h' := Same.tup s h
      have hx' := DpAll.same s hx
      have hy' := DpAll.same s hy
      rcases (o.same s).side with ⟨a, b⟩ | a
      · refine .inl ⟨.tup h' (DpAll.append hx' (.cons a hy')), ?_⟩
        simp only [PyData.hasDict]
        refine nodAll fun z hz => ?_
        rcases List.mem_append.mp hz with hz | hz
        · exact nop z hz
        rcases List.mem_cons.mp hz with rfl | hz
        · exact b
        · exact nop z hz
      · exact .inr (.tup h' (DqAll.append (dqA_of hx' (only_prs _)) (.cons a (dqA_of hy' (only_prs _)))))
  | @prs v p h sp lp => exact ⟨prsD p, (Sm.prs sp lp).sw.le (by decide) (by decide), fun H' s => .inl ⟨Dp.same s h, nod_of_only _ (only_prsD _)⟩⟩
  | @lst a xs p h hx h1 h2 h3 sp lp =>
    refine ⟨.list (p.map prD), (Sw.lst (n := 22) (k := 1) (m := 12) (fun z hz => ?_) (by rw [List.length_map]; exact lp)).le (by decide) (by decide), fun H' s => .inl ⟨.lst (SqL.of (s _ _ h)) (DpAll.same s hx), ?_⟩⟩
    · obtain ⟨i, hi, rfl⟩ := List.mem_map.mp hz
      exact (Sm.pr (sp i hi)).sw
    · simp only [PyData.hasDict]
      exact nodAll fun z hz => nop z hz
theorem Vdat.rp {H H' : Hp} {x y v : V} {D : PyData} {m : Nat} {es : List (Int × Int)} {S : List Int} (h : Vdat K H v D) (s : Same H H') (hx : Dp K H' x (forD m es)) (hy : Dp K H' y (intsD S)) (isf : IsFor m es) (iss : IsSet m es S) (hm : m ≤ 12) {p : Addr} (hp : H' p = some (.lst [x, y, v])) (np : p ≠ sysModules) : Rp K H' (.ref p) (.list [forD m es, intsD S, D]) := by
  have s2 : Sw (.list [forD m es, intsD S, D]) (3 * (8000 + 1)) (4 + 1) := Sw.lst (m := 3) (fun z hz => by
    rcases List.mem_cons.mp hz with rfl | hz
    · exact (isf.shows hm).sw.le (by decide) (by decide)
    rcases List.mem_cons.mp hz with rfl | hz
    · exact (iss.shows hm).sw.le (by decide) (by decide)
    · rw [List.mem_singleton.mp hz]
      exact h.1) (Nat.le_refl _)
  rcases h.2 H' s with ⟨a, b⟩ | a
  · refine .inl ⟨.lst (SqL.of hp) (.cons hx (.cons hy (.cons a .nil))), s2.shows ?_ (by decide) (by decide)⟩
    simp only [PyData.hasDict]
    refine nodAll fun z hz => ?_
    rcases List.mem_cons.mp hz with rfl | hz
    · exact nod_of_only _ (only_forD _ _)
    rcases List.mem_cons.mp hz with rfl | hz
    · exact nod_of_only _ (only_intsD _)
    · rw [List.mem_singleton.mp hz]
      exact b
  · exact .inr ⟨.lst np hp (.cons (dq_of hx (only_forD _ _)) (.cons (dq_of hy (only_intsD _)) (.cons a .nil))), s2.showsQ (by decide) (by decide)⟩
end
end TL
namespace TL
open PySem PySem.Spec PyProof.Rows L2
section
variable {P : Program} {w : World} {K : PySem.W.Frag} {mg : Str → Option Value} {base : Heap}
/-! ### one changed walk -/
theorem dpAll_drop {H : Hp} : ∀ (n : Nat) {xs : List V} {ds : List PyData}, DpAll K H xs ds → DpAll K H (xs.drop n) (ds.drop n)
  | 0, _, _, h => h
  | n + 1, [], [], h => h
  | n + 1, _ :: _, _ :: _, .cons a h => dpAll_drop n h
theorem dpAll_take {H : Hp} : ∀ (n : Nat) {xs : List V} {ds : List PyData}, DpAll K H xs ds → DpAll K H (xs.take n) (ds.take n)
  | 0, _, _, _ => .nil
  | n + 1, [], [], h => h
  | n + 1, _ :: _, _ :: _, .cons a h => .cons a (dpAll_take n h)
theorem dpAll_rev {H : Hp} : ∀ {xs : List V} {ds : List PyData}, DpAll K H xs ds → DpAll K H xs.reverse ds.reverse
  | _, _, .nil => .nil
  | _, _, .cons a h => by
    rw [List.reverse_cons, List.reverse_cons]
    exact DpAll.append (dpAll_rev h) (.cons a .nil)
theorem catS {H : Hp} {a b : Addr} {xs ys : List V} {Q : VK} (hx : SqT K H a xs) (hy : SqT K H b ys) (hl : xs.length + ys.length ≤ 900) (q : ∀ H' z, Same H H' → SqT K H' z (xs ++ ys) → Q (.ref z) H') : rCatA K (.ref a) (.ref b) H Q := by
  refine ⟨a, b, xs, ys, rfl, rfl, hx, hy, Nat.le_of_lt (small1000 (by omega)), fun e => ?_, fun _ e => ?_, fun _ _ p np => ?_⟩
  · subst e
    exact q H b (Same.refl H) hy
  · subst e
    rw [List.append_nil] at q
    exact q H a (Same.refl H) hx
  · exact q _ p (same_upd np) (SqT.of upd_same)
/-- a tuple of pairs -/
structure Pt (K : PySem.W.Frag) (H : Hp) (a : Addr) (xs : List V) (ps : List (Int × Int)) (n : Nat) : Prop where
  st : SqT K H a xs
  da : DpAll K H xs (ps.map prD)
  sm : ∀ i ∈ ps, smP i
  le : ps.length ≤ n
theorem Pt.same {H H' : Hp} (s : Same H H') {a : Addr} {xs : List V} {ps : List (Int × Int)} {n : Nat} (h : Pt K H a xs ps n) : Pt K H' a xs ps n := ⟨Same.tup s h.st, DpAll.same s h.da, h.sm, h.le⟩
theorem Pt.xl {H : Hp} {a : Addr} {xs : List V} {ps : List (Int × Int)} {n : Nat} (h : Pt K H a xs ps n) : xs.length ≤ n := by
  have := DpAll.length h.da
  rw [List.length_map] at this
  have := h.le
  omega
theorem Pt.dp {H : Hp} {a : Addr} {xs : List V} {ps : List (Int × Int)} {n : Nat} (h : Pt K H a xs ps n) : Dp K H (.ref a) (prsD ps) := .tup h.st h.da
theorem Pt.cat {H : Hp} {a b : Addr} {xs ys : List V} {ps qs : List (Int × Int)} {n k : Nat} {Q : VK} (h1 : Pt K H a xs ps n) (h2 : Pt K H b ys qs k) (hl : n + k ≤ 900) (q : ∀ H' z, Same H H' → Pt K H' z (xs ++ ys) (ps ++ qs) (n + k) → Q (.ref z) H') : rCatA K (.ref a) (.ref b) H Q := by
  have x1 := h1.xl
  have x2 := h2.xl
  refine catS h1.st h2.st (by omega) fun H' z s hz => q H' z s ⟨hz, ?_, fun i hi => ?_, ?_⟩
  · rw [List.map_append]
    exact DpAll.append (DpAll.same s h1.da) (DpAll.same s h2.da)
  · rcases List.mem_append.mp hi with hi | hi
    · exact h1.sm i hi
    · exact h2.sm i hi
  · have := h1.le
    have := h2.le
    rw [List.length_append]
    omega
theorem Pt.sl {H : Hp} {a : Addr} {xs : List V} {ps : List (Int × Int)} {n : Nat} {lo hi : Option Int} {Q : VK} (h : Pt K H a xs ps n) (q : ∀ H' z ys qs, Same H H' → Pt K H' z ys qs n → Q (.ref z) H') : rSlA K (.ref a) lo hi H Q := by
  refine ⟨a, _, rfl, h.st, fun _ => q _ a xs ps (Same.refl _) h, fun _ p np => ?_⟩
  have s := same_upd (o := .tup (cutV xs lo hi)) np
  refine q _ p (cutV xs lo hi) ((ps.drop (HT.sIx xs.length 0 lo)).take (HT.sIx xs.length xs.length hi - HT.sIx xs.length 0 lo)) s ⟨SqT.of upd_same, ?_, fun i hi => h.sm i (List.mem_of_mem_drop (List.mem_of_mem_take hi)), ?_⟩
  · rw [List.map_take, List.map_drop]
    exact dpAll_take _ (dpAll_drop _ (DpAll.same s h.da))
  · have := h.le
    rw [List.length_take, List.length_drop]
    omega
theorem Pt.vc {H : Hp} {a d l e : Addr} {xs : List V} {ps : List (Int × Int)} {n : Nat} (h : Pt K H a xs ps n) (hn : n ≤ 40) : Vc K d l e H (.ref a) := .prs h.dp h.sm (Nat.le_trans h.le hn)
def swp (p : Int × Int) : Int × Int := (p.2, p.1)
def spLBack (K : PySem.W.Frag) : Sp := fun vs H Q _ => ∃ (a : Addr) (xs : List V) (ps : List (Int × Int)) (n : Nat), vs = [.ref a] ∧ Pt K H a xs ps n ∧ n ≤ 40 ∧ ∀ H' z ys qs, Same H H' → Pt K H' z ys qs n → Q (.ref z) H'
theorem ok_LBack {f : Addr} {fd : FuncData} {k : Nat} (F : Fun K "_law_back" "_law_back" sLBack f fd) (m_tuple : mg "tuple" = none) :
    FnOk P w K mg base CX0 (k + 1) f fd ["_law_walk_here"] (spLBack K) := by
  refine F.ok scLBack (fun vs H Q E h => ?_) (fun cdv A outer s H vs Q E hr h => ?_)
  · obtain ⟨a, xs, ps, n, rfl, _⟩ := h
    rfl
  · obtain ⟨a, xs, ps, n, rfl, h, hn, q⟩ := h
    refine ⟨_, (pss_one (ps_ret (pe_callTy (tupleK K) (by rfl) m_tuple (by decide +kernel) (pa_cons (pe_lc (own := [("_law_u", 1), ("_law_v", 2)]) (g := (gTup K 2 (gCons (gName 1) (gCons (gName 2) gNil)))) (tt := tYes) rfl scLBack.nd (piTK K (revTK K (pv 0)))
      (blkOk_by (own := [("_law_u", 1), ("_law_v", 2)]) (N := nLBack) (sc := (defScope sLBack)) (by decide +kernel))
      (fun _ _ _ _ _ => (pgTK K (pgs_cons (pg_name (i := 1) scLBack.nd rfl (Or.inl rfl)) (pgs_cons (pg_name (i := 2) scLBack.nd rfl (Or.inl rfl)) pgs_nil)))) (fun _ _ _ _ _ => pts_nil)
      (fun _ _ _ _ _ => (pe_tup (pa_cons (pv 2) (pa_cons (pv 1) pa_nil))))) pa_nil)))), ?_⟩
    refine ⟨.ref a, rfl, a, _, rfl, h.st, fun p np => ?_⟩
    have sp := same_upd (o := .tup xs.reverse) np
    have hr : DpAll K (upd H p (.tup xs.reverse)) xs.reverse (ps.reverse.map prD) := by
      rw [List.map_reverse]
      exact dpAll_rev (DpAll.same sp h.da)
    have hle := h.le
    refine ⟨p, rfl, ⟨_, SqT.of (same_at (o := .tup xs.reverse) np)⟩, fun D nD => ?_⟩
    refine lc_tupP (K := K) (fun _ => true) (fun o => prD (swp o)) nD (SqT.of (same_at (o := .tup xs.reverse) np)) hr (fun _ _ => rfl) (fun o _ H' R s1 hR => hR H' (Same.refl _)) (fun o _ _ H' R s1 hR => ⟨.int o.2, rfl, .int o.1, rfl, by show 2 ≤ sizeLine; decide, fun t nt => hR _ _ (same_upd nt) (Dp.pr (SqT.of upd_same))⟩) (fun o => only_pr _) (by rw [List.length_reverse]; omega) (fun H2 ys s2 eD dy => ?_)
    refine ⟨D, _, rfl, .inl ⟨SqL.of eD, fun t nt => ?_⟩⟩
    have st := same_upd (o := .tup ys) nt
    refine q _ t ys (ps.reverse.map swp) ((sp.trans s2).trans st) ⟨SqT.of upd_same, ?_, fun i hi => ?_, by rw [List.length_map, List.length_reverse]; exact hle⟩
    · have e : (ps.reverse.filter fun _ => true) = ps.reverse := List.filter_eq_self.mpr fun _ _ => rfl
      rw [e] at dy
      rw [List.map_map]
      exact DpAll.same st dy
    · obtain ⟨j, hj, rfl⟩ := List.mem_map.mp hi
      have := h.sm j (List.mem_reverse.mp hj)
      exact ⟨this.2, this.1⟩
end
end TL
namespace TL
open PySem PySem.Spec PyProof.Rows L2
section
variable {P : Program} {w : World} {K : PySem.W.Frag} {mg : Str → Option Value} {base : Heap}
/-- what stays while the values are made -/
structure En (K : PySem.W.Frag) (d l e : Addr) (n : Nat) (t : Addr) (ws : List V) (ps : List (Int × Int)) (one : V) (ox : PyData) (H0 H : Hp) (vs : List V) : Prop where
  pt : Pt K H t ws ps 9
  dk : Deck H d l n
  on : Ov K d l H one ox
  fr : Fe e one ox
  he : ∃ o, H e = some o
  f0 : Fm d l H0 H
  al : ∀ v ∈ vs, Vc K d l e H v
section
variable {d l e : Addr} {n : Nat} {t : Addr} {ws : List V} {ps : List (Int × Int)} {one : V} {ox : PyData} {H0 H H' : Hp} {vs : List V}
theorem En.same (h : En K d l e n t ws ps one ox H0 H vs) (s : Same H H') : En K d l e n t ws ps one ox H0 H' vs :=
  ⟨h.pt.same s, h.dk.same s, h.on.same s, h.fr, h.he.imp fun _ z => s _ _ z, h.f0.trans (Same.fm s), fun v hv => (h.al v hv).same s⟩
theorem En.add {v : V} (h : En K d l e n t ws ps one ox H0 H vs) (c : Vc K d l e H v) : En K d l e n t ws ps one ox H0 H (vs ++ [v]) :=
  ⟨h.pt, h.dk, h.on, h.fr, h.he, h.f0, fun v hv => by
    rcases List.mem_append.mp hv with hv | hv
    · exact h.al v hv
    · rw [List.mem_singleton.mp hv]; exact c⟩
end
def spLChanged (K : PySem.W.Frag) : Sp := fun vs H Q _ => ∃ (d l e : Addr) (n : Nat) (t : Addr) (ws : List V) (ps : List (Int × Int)) (oe : HO), vs = [.ref d, .ref t] ∧ Deck H d l n ∧ n < 800000 ∧ Pt K H t ws ps 9 ∧ H e = some oe ∧ e ≠ d ∧ e ≠ l ∧
  ∀ H' v, Fm d l H H' → Deck H' d l (n + 6) → Vc K d l e H' v → Q v H'
theorem ok_LChanged {f : Addr} {fd : FuncData} (F : Fun K "_law_changed" "_law_changed" sLChanged f fd) (m_len : mg "len" = none) (m_list : mg "list" = none)
    (oLDraw : Own P w K mg base "_law_draw" 1 ["_law_deck_here", "_law_limit"] spLDraw) (oLOdd : Own P w K mg base "_law_odd" 2 ["_law_deck_here"] (spLOdd K)) (oLBack : Own P w K mg base "_law_back" 1 ["_law_walk_here"] (spLBack K)) :
    FnOk P w K mg base CX0 3 f fd ["_law_deck_here", "_law_walk_here"] (spLChanged K) := by
  refine F.ok scLChanged (fun vs H Q E h => ?_) (fun cdv A outer s H vs Q E hr h => ?_)
  · obtain ⟨d, l, e, n, t, ws, ps, oe, rfl, _⟩ := h
    rfl
  · obtain ⟨d, l, e, n, t, ws, ps, oe, rfl, hD, hn, ht, he, hed, hel, q⟩ := h
    have smm : ∀ {z : Int}, 0 ≤ z → z ≤ 13 → sm z := fun h1 h2 => by unfold sm; omega
    have wl := ht.xl
    refine ⟨_, (pss_cons (ps_set (i := 2) scLChanged.nd rfl (.inl rfl) (pe_own oLDraw (hr.mono (by decide)) (by rfl) (pa_cons (pv 0) (pa_cons (pe_op op_add (pe_callB (lenK K) (by rfl) m_len (by decide +kernel) (pa_cons (pv 1) pa_nil)) pe_int) pa_nil))))
    (pss_cons (ps_set (i := 3) scLChanged.nd rfl (.inl rfl) (pe_ix (ixLK K) (pe_lst (pa_cons (pe_own oLOdd (hr.mono (by decide)) (by rfl) (pa_cons (pv 0) pa_nil)) (pa_cons (pe_tup (pa_cons (pe_own oLDraw (hr.mono (by decide)) (by rfl) (pa_cons (pv 0) (pa_cons pe_int pa_nil))) (pa_cons (pe_own oLDraw (hr.mono (by decide)) (by rfl) (pa_cons (pv 0) (pa_cons pe_int pa_nil))) pa_nil))) (pa_cons (pe_tup (pa_cons pe_bl (pa_cons pe_int pa_nil))) (pa_cons (pe_tup (pa_cons pe_int (pa_cons pe_bl pa_nil))) pa_nil))))) (pe_own oLDraw (hr.mono (by decide)) (by rfl) (pa_cons (pv 0) (pa_cons pe_int pa_nil))) (fun _ _ => rfl)))
    (pss_cons (ps_par (by rfl) scLChanged.nd (i := 4) (j := 5) rfl rfl (by decide) rfl rfl (pa_cons (pe_slice (slTK K) (pv 1) po_none (po_some (pv 2))) (pa_cons (pe_slice (slTK K) (pv 1) (po_some (pe_op op_add (pv 2) pe_int)) po_none) pa_nil)) (by rfl))
    (pss_cons (ps_set (i := 6) scLChanged.nd rfl (.inl rfl) (pe_lst (pa_cons (pe_op (catAK K) (pe_op (catAK K) (pv 4) (pe_tup (pa_cons (pv 3) pa_nil))) (pe_slice (slTK K) (pv 1) (po_some (pv 2)) po_none)) (pa_cons (pe_op (catAK K) (pe_op (catAK K) (pv 4) (pe_tup (pa_cons (pv 3) pa_nil))) (pv 5)) (pa_cons (pe_op (catAK K) (pv 4) (pv 5)) (pa_cons (revTK K (pv 1)) (pa_cons (pe_callTy (listK K) (by rfl) m_list (by decide +kernel) (pa_cons (pv 1) pa_nil)) (pa_cons (pv 3) (pa_cons (pe_tup (pa_cons (pv 1) pa_nil)) pa_nil)))))))))
    (pss_cons (ps_set (i := 6) scLChanged.nd rfl (.inl rfl) (pe_op op_cat (pv 6) (pe_lst (pa_cons (pe_op (catAK K) (pe_op (catAK K) (pv 4) (pe_own oLBack (hr.mono (by decide)) (by rfl) (pa_cons (pe_slice (slTK K) (pv 1) (po_some (pv 2)) (po_some (pe_op op_add (pv 2) pe_int))) pa_nil))) (pe_slice (slTK K) (pv 1) (po_some (pv 2)) po_none)) (pa_cons (pe_op (catAK K) (pe_op (catAK K) (pv 4) (pe_slice (slTK K) (pv 1) (po_some (pv 2)) (po_some (pe_op op_add (pv 2) pe_int)))) (pe_slice (slTK K) (pv 1) (po_some (pv 2)) po_none)) pa_nil)))))
    (pss_cons (ps_expr (bmK K PySem.F.plainAttrs_list PySem.F.slot_list_append PySem.F.type_list_append mt_append (pv 6) (pa_cons (pe_op (catAK K) (pv 1) (pe_own oLBack (hr.mono (by decide)) (by rfl) (pa_cons (pv 1) pa_nil))) pa_nil)))
    (pss_one (ps_ret (pe_ix (ixLK K) (pv 6) (pe_own oLDraw (hr.mono (by decide)) (by rfl) (pa_cons (pv 0) (pa_cons pe_int pa_nil))) (fun _ _ => rfl)))))))))), ?_⟩
    -- at
    refine ⟨.ref d, rfl, .ref t, rfl, t, _, rfl, .inr ht.st, ?_⟩
    refine ⟨_, _, rfl, rfl, d, l, n, _, rfl, by omega, by omega, hD, by omega, fun H1 at' a0 a1 f1 d1 => ?_⟩
    -- pair
    refine ⟨.ref d, rfl, d, l, _, rfl, d1, by omega, fun H2 v xo f2 d2 ov fr => ?_⟩
    have he1 := f1 _ _ hed hel he
    have ne2 : Fe e v xo := .inr fun z => by
      have := fr e z
      rw [he1] at this
      cases this
    refine ⟨.ref d, rfl, d, l, _, 10, rfl, by decide, by decide, d2, by omega, fun H3 c c0 c1 f3 d3 => ?_⟩
    refine ⟨.ref d, rfl, d, l, _, 10, rfl, by decide, by decide, d3, by omega, fun H4 g g0 g1 f4 d4 => ?_⟩
    have ov4 := (ov.fm f3 d2).fm f4 d3
    refine ⟨by show 2 ≤ sizeLine; decide, fun t1 n1 => ⟨by show 2 ≤ sizeLine; decide, fun t2 n2 => ⟨by show 2 ≤ sizeLine; decide, fun t3 n3 => ⟨by show 4 ≤ sizeLine; decide, fun L nL => ?_⟩⟩⟩⟩
    have s1 := same_upd (o := .tup [V.int c, V.int g]) n1
    have s2 := same_upd (o := .tup [V.bl true, V.int 0]) n2
    have s3 := same_upd (o := .tup [V.int 0, V.bl true]) n3
    have sL := same_upd (o := .lst [v, V.ref t1, V.ref t2, V.ref t3]) nL
    have e1 := (s2.trans (s3.trans sL)) _ _ (same_at (o := .tup [V.int c, V.int g]) n1)
    have e2 := (s3.trans sL) _ _ (same_at (o := .tup [V.bl true, V.int 0]) n2)
    have e3 := sL _ _ (same_at (o := .tup [V.int 0, V.bl true]) n3)
    have eL := same_at (o := .lst [v, V.ref t1, V.ref t2, V.ref t3]) nL
    have sA := ((s1.trans s2).trans s3).trans sL
    have oL := (d4.same ((s1.trans s2).trans s3)).off nL
    have d5 := d4.same sA
    have ov5 := ov4.same sA
    have f05 : Fm d l H _ := (((f1.trans f2).trans f3).trans f4).trans (Same.fm sA)
    generalize upd _ L _ = H5 at e1 e2 e3 eL d5 ov5 f05 ⊢
    clear s1 s2 s3 sL sA n1 n2 n3 nL d4 d3 d2 ov ov4
    refine ⟨.ref d, rfl, d, l, _, 4, rfl, by decide, by decide, d5, by omega, fun H6 i i0 i1 f6 d6 => ?_⟩
    have k6 : KT K H5 H6 := f6.kt d5
    have eL6 := f6 _ _ oL.1 oL.2 eL
    have ov6 := ov5.fm f6 d5
    have sw2 : ∀ {x y : PyData}, Sm x 10 0 → Sm y 10 0 → Sw (.tuple [x, y]) 300 3 := fun hx hy => (Sm.tup (m := 2) (fun z hz => by
      rcases List.mem_cons.mp hz with rfl | hz
      · exact hx
      · rw [List.mem_singleton.mp hz]; exact hy) (Nat.le_refl _)).sw.le (by decide) (by decide)
    have b0 : ∀ b : Bool, Sm (.bool b) 10 0 := fun b => (Sm.bool b).le (by decide) (by decide)
    obtain ⟨one, ox, h1, o6, fe⟩ : ∃ one ox, atI [v, V.ref t1, V.ref t2, V.ref t3] i = some one ∧ Ov K d l H6 one ox ∧ Fe e one ox := by
      have h4 : i = 0 ∨ i = 1 ∨ i = 2 ∨ i = 3 := by omega
      rcases h4 with rfl | rfl | rfl | rfl
      · exact ⟨v, xo, rfl, ov6, ne2⟩
      · exact ⟨.ref t1, .tuple [.int c, .int g], rfl, .dat (.tup (k6 _ _ (SqT.of e1)) (.cons (.int c) (.cons (.int g) .nil))) (by simp [only, onlyAll]) (sw2 (Sm.int (smm c0 (by omega))) (Sm.int (smm g0 (by omega)))), .inl (by simp [only, onlyAll])⟩
      · exact ⟨.ref t2, .tuple [.bool true, .int 0], rfl, .dat (.tup (k6 _ _ (SqT.of e2)) (.cons (.bl true) (.cons (.int 0) .nil))) (by simp [only, onlyAll]) (sw2 (b0 true) (Sm.int (smm (by decide) (by decide)))), .inl (by simp [only, onlyAll])⟩
      · exact ⟨.ref t3, .tuple [.int 0, .bool true], rfl, .dat (.tup (k6 _ _ (SqT.of e3)) (.cons (.int 0) (.cons (.bl true) .nil))) (by simp [only, onlyAll]) (sw2 (Sm.int (smm (by decide) (by decide))) (b0 true)), .inl (by simp [only, onlyAll])⟩
    refine ⟨L, _, i, one, rfl, rfl, SqL.of eL6, h1, ?_⟩
    have f06 : Fm d l H H6 := f05.trans f6
    have k06 : KT K H H6 := f06.kt hD
    have en : En K d l e (n + 5) t ws ps one ox H H6 [] := ⟨⟨k06 _ _ ht.st, DpAll.kt k06 ht.da (only_prs _), ht.sm, ht.le⟩, d6.le (by omega), o6, fe, ⟨_, f06 _ _ hed hel he⟩, f06, fun _ h => nomatch h⟩
    clear k6 k06 f05 f06 o6 f6 d5 d6 d1 f1 f2 f3 f4 fr e1 e2 e3 eL eL6 oL ov5 ov6 h1 ne2
    -- head, tail
    refine ⟨.ref t, rfl, ?_⟩
    dsimp only [tNoPart]
    refine ⟨.int at', rfl, at', rfl, en.pt.sl fun H7 hd hs hps s7 hh => ?_⟩
    have en := en.same s7
    refine ⟨.ref t, rfl, ?_⟩
    dsimp only [tNoPart]
    refine ⟨.int at', rfl, _, _, rfl, rfl, at' + 1, rfl, en.pt.sl fun H8 tl ts tps s8 hl => ?_⟩
    have en := en.same s8
    have hh := hh.same s8
    clear s7 s8
    refine ⟨.ref hd, .ref tl, rfl, ?_⟩
    -- the first
    refine ⟨.ref hd, rfl, one, rfl, by show 1 ≤ sizeLine; decide, fun o1 no1 => ?_⟩
    have so1 := same_upd (o := .tup [one]) no1
    have hh1 := hh.xl
    refine catS (Same.tup so1 hh.st) (SqT.of (same_at (o := .tup [one]) no1)) (by show hs.length + 1 ≤ 900; omega) fun H9 q1 s9 hq1 => ?_
    have en := en.same (so1.trans s9)
    have hh := hh.same (so1.trans s9)
    have hl := hl.same (so1.trans s9)
    clear so1 no1 s9
    refine ⟨.ref t, rfl, ?_⟩
    dsimp only [tNoPart]
    refine ⟨.int at', rfl, at', rfl, en.pt.sl fun H10 p2 ys2 ps2 s10 h2 => ?_⟩
    have h2x := h2.xl
    refine catS (Same.tup s10 hq1) h2.st (by rw [List.length_append]; show hs.length + 1 + ys2.length ≤ 900; omega) fun H11 v1 s11 hv1 => ?_
    rw [List.append_assoc] at hv1
    have en := en.same (s10.trans s11)
    have hh := hh.same (s10.trans s11)
    have hl := hl.same (s10.trans s11)
    have h2 := h2.same s11
    have en := en.add (.mid hv1 hh.da h2.da en.on fe hh.sm h2.sm (Nat.le_trans hh.le (by decide)) (Nat.le_trans h2.le (by decide)))
    clear hq1 h2 hv1 s10 s11 h2x
    -- the second
    refine ⟨.ref hd, rfl, one, rfl, by show 1 ≤ sizeLine; decide, fun o1 no1 => ?_⟩
    have so1 := same_upd (o := .tup [one]) no1
    refine catS (Same.tup so1 hh.st) (SqT.of (same_at (o := .tup [one]) no1)) (by show hs.length + 1 ≤ 900; omega) fun H12 q1 s9 hq1 => ?_
    have en := en.same (so1.trans s9)
    have hh := hh.same (so1.trans s9)
    have hl := hl.same (so1.trans s9)
    have hlx := hl.xl
    clear so1 no1 s9
    refine ⟨.ref tl, rfl, catS hq1 hl.st (by rw [List.length_append]; show hs.length + 1 + ts.length ≤ 900; omega) fun H13 v2 s11 hv1 => ?_⟩
    rw [List.append_assoc] at hv1
    have en := en.same s11
    have hh := hh.same s11
    have hl := hl.same s11
    have en := en.add (.mid hv1 hh.da hl.da en.on fe hh.sm hl.sm (Nat.le_trans hh.le (by decide)) (Nat.le_trans hl.le (by decide)))
    clear hq1 hv1 s11
    -- the third
    refine ⟨.ref hd, rfl, .ref tl, rfl, hh.cat hl (by decide) fun H14 v3 s11 hv => ?_⟩
    have en := (en.same s11).add (hv.vc (by decide))
    have hh := hh.same s11
    clear hv s11 hl
    -- the fourth, the fifth
    refine ⟨.ref t, rfl, t, _, rfl, en.pt.st, fun v4 n4 => ?_⟩
    have s4 := same_upd (o := .tup ws.reverse) n4
    have e4 := same_at (o := .tup ws.reverse) n4
    have en := en.same s4
    have en := en.add (v := .ref v4) (.prs (p := ps.reverse) (.tup (SqT.of e4) (by rw [List.map_reverse]; exact dpAll_rev en.pt.da)) (fun i hi => ht.sm i (List.mem_reverse.mp hi)) (by rw [List.length_reverse]; have := ht.le; omega))
    have hh := hh.same s4
    generalize upd H14 v4 _ = H15 at en hh ⊢
    clear s4 e4 n4
    refine ⟨.ref t, rfl, t, _, rfl, .inr en.pt.st, fun v5 n5 => ?_⟩
    have s5 := same_upd (o := .lst ws) n5
    have e5 := same_at (o := .lst ws) n5
    have o5 := en.dk.off n5
    have ne5 : v5 ≠ e := by
      obtain ⟨o, ho⟩ := en.he
      exact fun z => by rw [z, ho] at n5; cases n5
    have en := en.same s5
    have en := en.add (.lst e5 en.pt.da o5.1 o5.2 ne5 ht.sm (Nat.le_trans ht.le (by decide)))
    have hh := hh.same s5
    generalize upd H15 v5 _ = H16 at en hh ⊢
    clear s5 e5 n5 o5 ne5
    -- the sixth, the seventh
    have en := en.add (.one en.on fe)
    refine ⟨one, rfl, .ref t, rfl, by show 1 ≤ sizeLine; decide, fun v7 n7 => ?_⟩
    have s7 := same_upd (o := .tup [V.ref t]) n7
    have e7 := same_at (o := .tup [V.ref t]) n7
    have en := en.same s7
    have en := en.add (v := .ref v7) (.one (x := .tuple [prsD ps]) (.dat (.tup (SqT.of e7) (.cons en.pt.dp .nil)) (by simp [only, onlyAll, only_prsD]) ((Sw.tup (n := 9 * 23) (k := 2) (m := 1) (fun z hz => by rw [List.mem_singleton.mp hz]; exact (Sm.prs ht.sm ht.le).sw) (Nat.le_refl _)).le (by decide) (by decide))) (.inl (by simp [only, onlyAll, only_prsD])))
    have hh := hh.same s7
    generalize upd H16 v7 _ = H17 at en hh ⊢
    clear s7 e7 n7
    refine ⟨by show 7 ≤ sizeLine; decide, fun L1 nL1 => ?_⟩
    have sL1 := same_upd (o := .lst [V.ref v1, V.ref v2, V.ref v3, V.ref v4, V.ref v5, one, V.ref v7]) nL1
    have eL1 := same_at (o := .lst [V.ref v1, V.ref v2, V.ref v3, V.ref v4, V.ref v5, one, V.ref v7]) nL1
    have en := en.same sL1
    have hh := hh.same sL1
    generalize upd H17 L1 _ = H18 at en hh eL1 ⊢
    clear sL1 nL1
    -- two more
    refine ⟨.ref L1, rfl, .ref hd, rfl, .ref t, rfl, ?_⟩
    dsimp only [tNoPart]
    refine ⟨.int at', rfl, at', rfl, .int at', rfl, _, _, rfl, rfl, at' + 1, rfl, en.pt.sl fun H19 p1 ys1 ps1 s1 h1 => ?_⟩
    have en := en.same s1
    have hh := hh.same s1
    have eL1 := s1 _ _ eL1
    clear s1
    refine ⟨p1, ys1, ps1, 9, rfl, h1, by decide, fun H20 p2 ys2 ps2 s1 h2 => ?_⟩
    have en := en.same s1
    have hh := hh.same s1
    have eL1 := s1 _ _ eL1
    clear s1 h1
    refine hh.cat h2 (by decide) fun H21 p3 s1 h3 => ?_
    have en := en.same s1
    have hh := hh.same s1
    have eL1 := s1 _ _ eL1
    clear s1 h2
    refine ⟨.ref t, rfl, ?_⟩
    dsimp only [tNoPart]
    refine ⟨.int at', rfl, at', rfl, en.pt.sl fun H22 p4 ys4 ps4 s1 h4 => ?_⟩
    have en := en.same s1
    have hh := hh.same s1
    have eL1 := s1 _ _ eL1
    have h3 := h3.same s1
    clear s1
    refine h3.cat h4 (by decide) fun H23 v8 s1 h5 => ?_
    have en := (en.same s1).add (h5.vc (by decide))
    have hh := hh.same s1
    have eL1 := s1 _ _ eL1
    clear s1 h3 h4 h5
    refine ⟨.ref hd, rfl, .ref t, rfl, ?_⟩
    dsimp only [tNoPart]
    refine ⟨.int at', rfl, at', rfl, .int at', rfl, _, _, rfl, rfl, at' + 1, rfl, en.pt.sl fun H24 p1 ys1 ps1 s1 h1 => ?_⟩
    have en := en.same s1
    have hh := hh.same s1
    have eL1 := s1 _ _ eL1
    clear s1
    refine hh.cat h1 (by decide) fun H25 p3 s1 h3 => ?_
    have en := en.same s1
    have eL1 := s1 _ _ eL1
    clear s1 h1 hh
    refine ⟨.ref t, rfl, ?_⟩
    dsimp only [tNoPart]
    refine ⟨.int at', rfl, at', rfl, en.pt.sl fun H26 p4 ys4 ps4 s1 h4 => ?_⟩
    have en := en.same s1
    have eL1 := s1 _ _ eL1
    have h3 := h3.same s1
    clear s1
    refine h3.cat h4 (by decide) fun H27 v9 s1 h5 => ?_
    have en := (en.same s1).add (h5.vc (by decide))
    have eL1 := s1 _ _ eL1
    clear s1 h3 h4 h5
    refine ⟨by show 2 ≤ sizeLine; decide, fun L2 nL2 => ?_⟩
    have sL2 := same_upd (o := .lst [V.ref v8, V.ref v9]) nL2
    have eL2 := same_at (o := .lst [V.ref v8, V.ref v9]) nL2
    have en := en.same sL2
    have eL1 := sL2 _ _ eL1
    generalize upd H27 L2 _ = H28 at en eL1 eL2 ⊢
    clear sL2 nL2
    refine ⟨L1, L2, _, _, rfl, rfl, eL1, eL2, by show 7 + 2 ≤ sizeLine; decide, fun P nP => ?_⟩
    have sP := same_upd (o := .lst ([V.ref v1, V.ref v2, V.ref v3, V.ref v4, V.ref v5, one, V.ref v7] ++ [V.ref v8, V.ref v9])) nP
    have eP := same_at (o := .lst ([V.ref v1, V.ref v2, V.ref v3, V.ref v4, V.ref v5, one, V.ref v7] ++ [V.ref v8, V.ref v9])) nP
    have oP := en.dk.off nP
    have all : ∀ v ∈ [V.ref v1, V.ref v2, V.ref v3, V.ref v4, V.ref v5, one, V.ref v7] ++ [V.ref v8, V.ref v9], Vc K d l e H28 v := fun v hv => en.al v hv
    have lv : ([V.ref v1, V.ref v2, V.ref v3, V.ref v4, V.ref v5, one, V.ref v7] ++ [V.ref v8, V.ref v9]).length = 9 := rfl
    generalize [V.ref v1, V.ref v2, V.ref v3, V.ref v4, V.ref v5, one, V.ref v7] ++ [V.ref v8, V.ref v9] = vs at sP eP all lv ⊢
    generalize upd H28 P _ = H29 at sP eP ⊢
    clear eL1 eL2
    have pt3 := en.pt.same sP
    -- the tenth
    refine ⟨.ref P, rfl, .inl ⟨rfl, _, SqL.of eP⟩, .ref t, rfl, .ref t, rfl, t, ws, ps, 9, rfl, pt3, by decide, fun H30 p1 ys1 ps1 s1 h1 => ?_⟩
    have s3 := sP.trans s1
    have eP := s1 _ _ eP
    have pt3 := pt3.same s1
    clear s1 sP
    refine pt3.cat h1 (by decide) fun H31 v10 s1 h5 => ?_
    have s3 := s3.trans s1
    have eP := s1 _ _ eP
    clear s1 h1 pt3
    refine ⟨P, _, _, rfl, rfl, eP, small1000 (by omega), ?_⟩
    have sU : Same H28 (upd H31 P (.lst (vs ++ [V.ref v10]))) := fun h u eh => by
      rw [upd_ne (ne_of_none eh nP)]
      exact s3 _ _ eh
    have hdp : Dp K (upd H31 P (.lst (vs ++ [V.ref v10]))) (.ref v10) (prsD _) := Dp.kt (kt_lst eP) h5.dp (only_prsD _)
    have en := (en.same sU).add (v := .ref v10) (.prs hdp h5.sm (Nat.le_trans h5.le (by decide)))
    have eU : upd H31 P (.lst (vs ++ [V.ref v10])) P = some (.lst (vs ++ [V.ref v10])) := upd_same
    have all10 : ∀ v ∈ vs ++ [V.ref v10], Vc K d l e (upd H31 P (.lst (vs ++ [V.ref v10]))) v := fun v hv => by
      rcases List.mem_append.mp hv with hv | hv
      · exact (all v hv).same sU
      · exact en.al v (List.mem_append.mpr (.inr hv))
    have l10 : (vs ++ [V.ref v10]).length = 10 := by rw [List.length_append, lv]; rfl
    generalize vs ++ [V.ref v10] = us at en eU all10 l10 ⊢
    generalize upd H31 P _ = H32 at en eU all10 ⊢
    refine ⟨.ref P, rfl, .ref d, rfl, d, l, _, 10, rfl, by decide, by decide, en.dk, by omega, fun H33 r r0 r1 ff df => ?_⟩
    have hx' : r.toNat < us.length := by omega
    refine ⟨P, us, r, us[r.toNat], rfl, rfl, SqL.of (ff _ _ oP.1 oP.2 eU), at_of (j := r.toNat) (by omega) (List.getElem?_eq_getElem hx'), ?_⟩
    exact q _ _ (en.f0.trans ff) df ((all10 _ (List.getElem_mem hx')).fm ff en.dk)
end
end TL
namespace TL
open PySem PySem.Spec PyProof.Rows L2
section
variable {P : Program} {w : World} {K : PySem.W.Frag} {mg : Str → Option Value} {base : Heap}
/-! ### the law -/
theorem Ov.fe {d l D : Addr} {H : Hp} {v : V} {x : PyData} (h : Ov K d l H v x) (nD : H D = none) : Fe D v x := by
  cases h with
  | dat h o sh => exact .inl o
  | obj e h h1 h2 => exact .inr fun z => by cases z; rw [nD] at e; cases e
def spLSameO (K : PySem.W.Frag) : Sp := fun vs H Q _ => ∃ (x y : V) (d : PyData), vs = [x, y] ∧ Rp K H x d ∧ Rp K H y d ∧ Q (.bl true) H
theorem ok_LSame {f : Addr} {fd : FuncData} {k : Nat} (F : Fun K "_law_same" "_law_same" sLSame f fd) (m_repr : mg "repr" = none) :
    FnG P w K mg base (k + 1) f fd nLSame (spLSameO K) := by
  refine okG F scLSame (fun vs H Q E h => ?_) (fun cdv A outer s H vs Q E hr gd h => ?_)
  · obtain ⟨x, y, d, rfl, _⟩ := h
    rfl
  · obtain ⟨x, y, d, rfl, hx, hy, q⟩ := h
    refine ⟨_, (pss_one (ps_ret (pe_cmpR op_eq (pe_callB (reprO K gd hr.units) (by rfl) m_repr (by decide +kernel) (pa_cons (pv 0) pa_nil)) (pe_callB (reprO K gd hr.units) (by rfl) m_repr (by decide +kernel) (pa_cons (pv 1) pa_nil)) (nomark _)))), ?_⟩
    refine ⟨x, rfl, x, d, rfl, hx, y, rfl, y, d, rfl, hy, rfl, ?_⟩
    rw [decide_eq_true rfl]
    exact q
def spLaw (K : PySem.W.Frag) : Sp := fun vs H Q _ => ∃ (a : Addr) (ns : List Int), vs = [.ref a] ∧ SqL K H a (ns.map V.int) ∧ ns.length ≤ 63 ∧ ∀ H', Q (.bl true) H'
theorem ok_Law {f : Addr} {fd : FuncData} (F : Fun K "law" "law" sLaw f fd) (m_range : mg "range" = none) (m_repr : mg "repr" = none)
    (oLDeck : Own P w K mg base "_law_deck" 1 ["_law_script"] (spLDeck K)) (oLForest : Own P w K mg base "_law_forest" 3 ["_law_deck_here", "_law_most"] (spLForest K))
    (oLSetting : Own P w K mg base "_law_setting" 3 ["_law_deck_here", "_law_forest_here"] (spLSetting K)) (oLWalk : Own P w K mg base "_law_walk" 4 ["_law_deck_here", "_law_forest_here", "_law_setting_here"] (spLWalk K))
    (oLOdd : Own P w K mg base "_law_odd" 2 ["_law_deck_here"] (spLOdd K)) (oLChanged : Own P w K mg base "_law_changed" 3 ["_law_deck_here", "_law_walk_here"] (spLChanged K))
    (oLSame : OwnG P w K mg base "_law_same" 1 ["_law_value", "_law_due_here"] (spLSameO K)) (oLFound : Own P w K mg base "_law_found" 6 ["_law_forest_here", "_law_setting_here", "_law_value"] (spLFound K))
    (oLDue : Own P w K mg base "_law_due" 4 ["_law_forest_here", "_law_setting_here", "_law_value"] (spLDue K)) :
    FnG P w K mg base 7 f fd ["_law_script"] (spLaw K) := by
  refine okG F scLaw (fun vs H Q E h => ?_) (fun cdv A outer s H vs Q E hr gd h => ?_)
  · obtain ⟨a, ns, rfl, _⟩ := h
    rfl
  · obtain ⟨a, ns, rfl, hS, hlen, q⟩ := h
    refine ⟨_, (pss_cons (ps_set (i := 1) scLaw.nd rfl (.inr rfl) (pe_own oLDeck (hr.mono (by decide)) (by rfl) (pa_cons (pv 0) pa_nil)))
    (pss_cons (ps_for PassesOwn.never rfl (pi_range1 (by rfl) m_range (pa_cons pe_int pa_nil)) (pg_name (i := 2) scLaw.nd rfl (Or.inl rfl))
    (pss_cons (ps_set (i := 3) scLaw.nd rfl (.inl rfl) (pe_own oLForest (hr.mono (by decide)) (by rfl) (pa_cons (pv 1) (pa_cons pe_int pa_nil))))
    (pss_cons (ps_set (i := 4) scLaw.nd rfl (.inl rfl) (pe_own oLSetting (hr.mono (by decide)) (by rfl) (pa_cons (pv 1) (pa_cons (pv 3) pa_nil))))
    (pss_cons (ps_set (i := 5) scLaw.nd rfl (.inr rfl) (pe_own oLWalk (hr.mono (by decide)) (by rfl) (pa_cons (pv 1) (pa_cons (pv 3) (pa_cons (pv 4) pa_nil)))))
    (pss_one (ps_for PassesOwn.never rfl (piLK K (pe_op op_cat (pe_lst (pa_cons (pv 5) (pa_cons (pe_tup pa_nil) (pa_cons (pe_own oLOdd (hr.mono (by decide)) (by rfl) (pa_cons (pv 1) pa_nil)) pa_nil)))) (pe_lc (own := [("_law_k", 8)]) (g := (gName 8)) (tt := tYes) rfl scLaw.nd (pi_range1 (by rfl) m_range (pa_cons pe_int pa_nil))
      (blkOk_by (own := [("_law_k", 8)]) (N := nLaw) (sc := (defScope sLaw)) (by decide +kernel))
      (fun _ _ _ _ _ => (pg_name (i := 8) scLaw.nd rfl (Or.inl rfl))) (fun _ _ _ _ _ => pts_nil)
      (fun _ _ _ _ _ => (pe_own oLChanged (hr.mono (by decide)) (by rfl) (pa_cons (pv 1) (pa_cons (pv 5) pa_nil))))))) (pg_name (i := 6) scLaw.nd rfl (Or.inl rfl))
    (pss_cons (ps_set (i := 7) scLaw.nd rfl (.inl rfl) (pe_callB (reprO K gd hr.units) (by rfl) m_repr (by decide +kernel) (pa_cons (pe_lstS (pa_cons (pv 3) (pa_cons (pv 4) (pa_cons (pv 6) pa_nil)))) pa_nil)))
    (pss_cons (ps_if (pt_not (pt_val (pe_ownG oLSame (hr.mono (by decide)) gd (by rfl) (pa_cons (pe_own oLFound (hr.mono (by decide)) (by rfl) (pa_cons (pv 3) (pa_cons (pv 4) (pa_cons (pv 6) pa_nil)))) (pa_cons (pe_own oLDue (hr.mono (by decide)) (by rfl) (pa_cons (pv 3) (pa_cons (pv 4) (pa_cons (pv 6) pa_nil)))) pa_nil))))) (pss_one (ps_ret pe_bl)) pss_nil)
    (pss_one (ps_if (pt_cmpR op_ne (pe_callB (reprO K gd hr.units) (by rfl) m_repr (by decide +kernel) (pa_cons (pe_lstS (pa_cons (pv 3) (pa_cons (pv 4) (pa_cons (pv 6) pa_nil)))) pa_nil)) (pv 7) (nomark _)) (pss_one (ps_ret pe_bl)) pss_nil))))))))))
    (pss_one (ps_ret pe_bl)))), ?_⟩
    refine ⟨.ref a, rfl, a, ns, rfl, hS, hlen, fun H1 d l s1 d1 => ?_⟩
    refine ⟨8, rfl, by decide, by decide, for_range (lo := 0) (n := 8) (fun i σ H' => ∃ y2 y3 y4 y5 y6 y7, σ = [some (.ref a), some (.ref d), y2, y3, y4, y5, y6, y7, none] ∧ Deck H' d l (200 * i)) ?_ ?_ ?_⟩
    · exact ⟨_, _, _, _, _, _, rfl, d1⟩
    · rintro i σ H2 hi ⟨y2, y3, y4, y5, y6, y7, rfl, d2⟩
      refine ⟨.ref d, rfl, d, l, _, 10, rfl, by decide, d2, by omega, fun H3 x m es f3 d3 hm' isf hx => ?_⟩
      have hm : m ≤ 12 := by omega
      refine ⟨.ref d, rfl, x, rfl, d, l, _, x, m, es, rfl, d3, by omega, hm, isf, hx, fun H4 y S f4 d4 iss hy => ?_⟩
      have hx4 := Dp.kt (f4.kt d3) hx (only_forD _ _)
      refine ⟨.ref d, rfl, x, rfl, y, rfl, d, l, _, x, y, m, es, S, rfl, d4, by omega, hm, isf, hx4, hy, iss, fun H5 wk ps f5 d5 hw lw rw => ?_⟩
      have hx5 := Dp.kt (f5.kt d4) hx4 (only_forD _ _)
      have hy5 := Dp.kt (f5.kt d4) hy (only_intsD _)
      obtain ⟨t, ws, rfl, ht, hA⟩ := Dp.tupI hw
      have pt : Pt K H5 t ws ps 9 := ⟨ht, hA, fun p hp => smP_of hm (rw p hp), lw⟩
      -- the values
      refine ⟨.ref t, rfl, Nat.zero_le _, fun u nu => ?_⟩
      have su := same_upd (o := .tup []) nu
      have eu := same_at (o := .tup []) nu
      have d6 := d5.same su
      have pt := pt.same su
      have hx6 := Dp.same su hx5
      have hy6 := Dp.same su hy5
      generalize upd H5 u _ = H6 at eu d6 pt hx6 hy6 ⊢
      clear su nu hx4 hx5 hy5 hw ht hA hx hy
      refine ⟨.ref d, rfl, d, l, _, rfl, d6, by omega, fun H7 v xo f7 d7 ov fr => ?_⟩
      have k7 : KT K H6 H7 := f7.kt d6
      refine ⟨by show 3 ≤ sizeLine; decide, fun L1 nL1 => ?_⟩
      have sL := same_upd (o := .lst [V.ref t, V.ref u, v]) nL1
      have eL := same_at (o := .lst [V.ref t, V.ref u, v]) nL1
      have oL := d7.off nL1
      have ov := ov.same sL
      have eu := Same.tup sL (k7 _ _ (SqT.of eu))
      have pt : Pt K _ t ws ps 9 := ⟨Same.tup sL (k7 _ _ pt.st), DpAll.same sL (DpAll.kt k7 pt.da (only_prs _)), pt.sm, pt.le⟩
      have hx8 := Dp.same sL (Dp.kt k7 hx6 (only_forD _ _))
      have hy8 := Dp.same sL (Dp.kt k7 hy6 (only_intsD _))
      have d8 := d7.same sL
      generalize upd H7 L1 _ = H8 at eL ov eu d8 hx8 hy8 pt ⊢
      clear sL nL1 k7 hx6 hy6
      refine ⟨5, rfl, by decide, by decide, fun D nD => ?_⟩
      have oD := d8.off nD
      refine lc_range (lo := 0) (n := (5 : Int).toNat) (fun j H' => ∃ (ys : List V), Fm d l H8 H' ∧ Deck H' d l (200 * i + 120 + 6 * j) ∧ H' D = some (.lst ys) ∧ ys.length = j ∧ ∀ v ∈ ys, Vc K d l D H' v) ?_ ?_ ?_
      · exact ⟨[], Fm.refl.put nD, (d8.put oD.1 oD.2).le (by omega), upd_same, rfl, fun _ h => nomatch h⟩
      · rintro j H9 hj ⟨ys, f9, d9, eD, ly, hv⟩
        have hj : j < 5 := hj
        have k9 : KT K H8 H9 := f9.kt d8
        refine ⟨rfl, yesI (iteT ?_)⟩
        refine ⟨.ref d, rfl, .ref t, rfl, d, l, D, _, t, ws, ps, _, rfl, d9, by omega, ⟨k9 _ _ pt.st, DpAll.kt k9 pt.da (only_prs _), pt.sm, pt.le⟩, eD, oD.1, oD.2, fun H10 z f10 d10 cz => ?_⟩
        have eD10 := f10 _ _ oD.1 oD.2 eD
        refine ⟨ys, eD10, small1000 (by omega), ys ++ [z], (f9.trans f10).put nD, (d10.put oD.1 oD.2).le (by omega), upd_same, by rw [List.length_append, List.length_singleton, ly], fun v hv' => ?_⟩
        rcases List.mem_append.mp hv' with h | h
        · exact ((hv v h).fm f10 d9).put eD10
        · rw [List.mem_singleton.mp h]
          exact cz.put eD10
      · rintro H9 ⟨ys, f9, d9, eD, ly, hv⟩
        have ly : ys.length = 5 := ly
        have k9 : KT K H8 H9 := f9.kt d8
        have eL9 := f9 _ _ oL.1 oL.2 eL
        refine ⟨L1, D, _, _, rfl, rfl, eL9, eD, Nat.le_of_lt (small1000 (by rw [ly]; show 3 + 5 ≤ 1000; decide)), fun P nP => ?_⟩
        have sP := same_upd (o := .lst ([V.ref t, V.ref u, v] ++ ys)) nP
        have eP := same_at (o := .lst ([V.ref t, V.ref u, v] ++ ys)) nP
        have d10 := d9.same sP
        have hx10 := Dp.same sP (Dp.kt k9 hx8 (only_forD _ _))
        have hy10 := Dp.same sP (Dp.kt k9 hy8 (only_intsD _))
        have all : ∀ z ∈ [V.ref t, V.ref u, v] ++ ys, Vc K d l D (upd H9 P (.lst ([V.ref t, V.ref u, v] ++ ys))) z := fun z hz => by
          refine Vc.same sP ?_
          rcases List.mem_append.mp hz with hz | hz
          · rcases List.mem_cons.mp hz with rfl | hz
            · exact .prs (Dp.kt k9 pt.dp (only_prsD _)) pt.sm (Nat.le_trans pt.le (by decide))
            rcases List.mem_cons.mp hz with rfl | hz
            · exact .prs (p := []) (.tup (k9 _ _ eu) .nil) (fun _ h => nomatch h) (Nat.zero_le _)
            · rw [List.mem_singleton.mp hz]
              exact .one (ov.fm f9 d8) (ov.fe nD)
          · exact hv z hz
        have l8 : ([V.ref t, V.ref u, v] ++ ys).length = 8 := by rw [List.length_append, ly]; rfl
        generalize [V.ref t, V.ref u, v] ++ ys = us at sP eP d10 hx10 hy10 all l8 ⊢
        generalize upd H9 P _ = H11 at sP eP d10 hx10 hy10 all ⊢
        clear sP k9 eL9 f9 d9 eD hv nP ov eu eL hx8 hy8 d8 nD pt
        refine ⟨P, rfl, ⟨_, SqL.of eP⟩, for_list (K := K) (a := P) (xs := us) (fun j σ H' => ∃ y6 y7, σ = [some (.ref a), some (.ref d), some (.int (0 + (i : Int))), some x, some y, some (.ref t), y6, y7, none] ∧ Same H11 H') ?_ ?_ ?_ ?_⟩
        · exact ⟨_, _, rfl, Same.refl _⟩
        · rintro j σ H' _ ⟨y6, y7, rfl, s'⟩
          exact SqL.of (s' _ _ eP)
        · rintro j z σ H12 hz ⟨y6, y7, rfl, s12⟩
          have cz := (all z (List.mem_of_getElem? hz)).same s12
          obtain ⟨D0, hD0⟩ := cz.vdat
          obtain ⟨o, ho⟩ := cz.sv
          refine ⟨x, rfl, y, rfl, z, rfl, by show 3 ≤ sizeLine; decide, fun c nc cs => ?_⟩
          have sc := same_upd (o := .lst [x, y, z]) nc
          have ec := same_at (o := .lst [x, y, z]) nc
          have hx13 := Dp.same (s12.trans sc) hx10
          have hy13 := Dp.same (s12.trans sc) hy10
          refine ⟨.ref c, _, rfl, hD0.rp sc hx13 hy13 isf iss hm ec cs, ?_⟩
          have s13 := s12.trans sc
          have hD0 : Vdat K _ z D0 := ⟨hD0.1, fun H' s => hD0.2 H' (sc.trans s)⟩
          have ho := ho.same sc
          generalize upd H12 c _ = H13 at s13 hD0 ho hx13 hy13 ⊢
          clear sc ec nc s12 cz
          refine ⟨x, rfl, y, rfl, z, rfl, x, y, z, m, es, S, o, rfl, hm, isf, hx13, hy13, iss, ho, fun H14 p1 t1 w1 s14 e1 z1 => ?_⟩
          refine ⟨x, rfl, y, rfl, z, rfl, x, y, z, m, es, S, o, rfl, hm, isf, Dp.same s14 hx13, Dp.same s14 hy13, iss, ho.same s14, fun H15 p2 t2 w2 s15 e2 z2 => ?_⟩
          have r1 := z1.dp hm e1
          have r2 := z2.dp hm e2
          refine ⟨.ref p1, .ref p2, dR (follO m es S o), rfl, .inl ⟨Dp.same s15 r1.1, r1.2⟩, .inl r2, true, rfl, iteF ?_⟩
          refine ⟨x, rfl, y, rfl, z, rfl, by show 3 ≤ sizeLine; decide, fun c2 nc2 cs2 => ?_⟩
          have sc2 := same_upd (o := .lst [x, y, z]) nc2
          have ec2 := same_at (o := .lst [x, y, z]) nc2
          have s16 := s14.trans (s15.trans sc2)
          refine ⟨.ref c2, _, rfl, hD0.rp s16 (Dp.same s16 hx13) (Dp.same s16 hy13) isf iss hm ec2 cs2, ?_⟩
          refine ⟨_, rfl, rfl, false, by rw [decide_eq_true rfl]; rfl, iteF ⟨_, _, rfl, s13.trans s16⟩⟩
        · rintro σ H12 ⟨y6, y7, rfl, s12⟩
          exact ⟨_, _, _, _, _, _, rfl, (d10.same s12).le (by omega)⟩
    · rintro σ H2 ⟨y2, y3, y4, y5, y6, y7, rfl, d2⟩
      exact q _
end
end TL
namespace TL
open PySem PySem.Spec PyProof.Rows L2
section
variable {P : Program} {w : World} {K : PySem.W.Frag} {mg : Str → Option Value} {base : Heap}
end
theorem all_mk {l : PySem.W.OpenLaw} {w : World} {K : PySem.W.Frag} {h : Heap} {mg : Str → Option Value} {fa f0 f1 f2 f3 f4 f5 f6 f7 f8 f9 f10 f11 f12 f13 f14 f15 f16 f17 f18 f19 f20 f21 f22 f23 f24 f25 f26 : Addr} (X : K.In h) (G : h.Ns mainGlobals mg) (hfa : mg "law" = some (.ref fa))
    {od0 an0 od1 an1 od2 an2 od3 an3 od4 an4 od5 an5 od6 an6 od7 an7 od8 an8 od9 an9 od10 an10 od11 an11 od12 an12 od13 an13 od14 an14 od15 an15 od16 an16 od17 an17 od18 an18 od19 an19 od20 an20 od21 an21 od22 an22 od23 an23 od24 an24 od25 an25 od26 an26 : Option Addr} {sl0 sl1 sl2 sl3 sl4 sl5 sl6 sl7 sl8 sl9 sl10 sl11 sl12 sl13 sl14 sl15 sl16 sl17 sl18 sl19 sl20 sl21 sl22 sl23 sl24 sl25 sl26 : Array (Option Value)} {oc0 kV0 dc0 pm0 cd0 ct0 oc1 kV1 dc1 pm1 cd1 ct1 oc2 kV2 dc2 pm2 cd2 ct2 oc3 kV3 dc3 pm3 cd3 ct3 oc4 kV4 dc4 pm4 cd4 ct4 oc5 kV5 dc5 pm5 cd5 ct5 oc6 kV6 dc6 pm6 cd6 ct6 oc7 kV7 dc7 pm7 cd7 ct7 oc8 kV8 dc8 pm8 cd8 ct8 oc9 kV9 dc9 pm9 cd9 ct9 oc10 kV10 dc10 pm10 cd10 ct10 oc11 kV11 dc11 pm11 cd11 ct11 oc12 kV12 dc12 pm12 cd12 ct12 oc13 kV13 dc13 pm13 cd13 ct13 oc14 kV14 dc14 pm14 cd14 ct14 oc15 kV15 dc15 pm15 cd15 ct15 oc16 kV16 dc16 pm16 cd16 ct16 oc17 kV17 dc17 pm17 cd17 ct17 oc18 kV18 dc18 pm18 cd18 ct18 oc19 kV19 dc19 pm19 cd19 ct19 oc20 kV20 dc20 pm20 cd20 ct20 oc21 kV21 dc21 pm21 cd21 ct21 oc22 kV22 dc22 pm22 cd22 ct22 oc23 kV23 dc23 pm23 cd23 ct23 oc24 kV24 dc24 pm24 cd24 ct24 oc25 kV25 dc25 pm25 cd25 ct25 oc26 kV26 dc26 pm26 cd26 ct26 : Value}
    (a0 : PySem.W.nsIn K mainGlobals "is_number" = some (some (.ref f0))) (l0 : K.lookup f0 = some ⟨oc0, od0, .func (PySem.W.fnOf "is_number" "is_number" (defArgs sIsNumber) (defBody sIsNumber) (defScope sIsNumber) .none kV0 dc0 pm0 an0 cd0 ct0), sl0⟩) (c0 : PySem.W.codeIn K cd0 "is_number" = true) (k0 : PySem.W.keepIn K (.ref f0) = true)
    (a1 : PySem.W.nsIn K mainGlobals "is_pair" = some (some (.ref f1))) (l1 : K.lookup f1 = some ⟨oc1, od1, .func (PySem.W.fnOf "is_pair" "is_pair" (defArgs sIsPair) (defBody sIsPair) (defScope sIsPair) .none kV1 dc1 pm1 an1 cd1 ct1), sl1⟩) (c1 : PySem.W.codeIn K cd1 "is_pair" = true) (k1 : PySem.W.keepIn K (.ref f1) = true)
    (a2 : PySem.W.nsIn K mainGlobals "neighbours_of" = some (some (.ref f2))) (l2 : K.lookup f2 = some ⟨oc2, od2, .func (PySem.W.fnOf "neighbours_of" "neighbours_of" (defArgs sNeighboursOf) (defBody sNeighboursOf) (defScope sNeighboursOf) .none kV2 dc2 pm2 an2 cd2 ct2), sl2⟩) (c2 : PySem.W.codeIn K cd2 "neighbours_of" = true) (k2 : PySem.W.keepIn K (.ref f2) = true)
    (a3 : PySem.W.nsIn K mainGlobals "blocking_lamps" = some (some (.ref f3))) (l3 : K.lookup f3 = some ⟨oc3, od3, .func (PySem.W.fnOf "blocking_lamps" "blocking_lamps" (defArgs sBlockingLamps) (defBody sBlockingLamps) (defScope sBlockingLamps) .none kV3 dc3 pm3 an3 cd3 ct3), sl3⟩) (c3 : PySem.W.codeIn K cd3 "blocking_lamps" = true) (k3 : PySem.W.keepIn K (.ref f3) = true)
    (a4 : PySem.W.nsIn K mainGlobals "check_lamp" = some (some (.ref f4))) (l4 : K.lookup f4 = some ⟨oc4, od4, .func (PySem.W.fnOf "check_lamp" "check_lamp" (defArgs sCheckLamp) (defBody sCheckLamp) (defScope sCheckLamp) .none kV4 dc4 pm4 an4 cd4 ct4), sl4⟩) (c4 : PySem.W.codeIn K cd4 "check_lamp" = true) (k4 : PySem.W.keepIn K (.ref f4) = true)
    (a5 : PySem.W.nsIn K mainGlobals "slide_lamp" = some (some (.ref f5))) (l5 : K.lookup f5 = some ⟨oc5, od5, .func (PySem.W.fnOf "slide_lamp" "slide_lamp" (defArgs sSlideLamp) (defBody sSlideLamp) (defScope sSlideLamp) .none kV5 dc5 pm5 an5 cd5 ct5), sl5⟩) (c5 : PySem.W.codeIn K cd5 "slide_lamp" = true) (k5 : PySem.W.keepIn K (.ref f5) = true)
    (a6 : PySem.W.nsIn K mainGlobals "possible_slides" = some (some (.ref f6))) (l6 : K.lookup f6 = some ⟨oc6, od6, .func (PySem.W.fnOf "possible_slides" "possible_slides" (defArgs sPossibleSlides) (defBody sPossibleSlides) (defScope sPossibleSlides) .none kV6 dc6 pm6 an6 cd6 ct6), sl6⟩) (c6 : PySem.W.codeIn K cd6 "possible_slides" = true) (k6 : PySem.W.keepIn K (.ref f6) = true)
    (a7 : PySem.W.nsIn K mainGlobals "is_possible" = some (some (.ref f7))) (l7 : K.lookup f7 = some ⟨oc7, od7, .func (PySem.W.fnOf "is_possible" "is_possible" (defArgs sIsPossible) (defBody sIsPossible) (defScope sIsPossible) .none kV7 dc7 pm7 an7 cd7 ct7), sl7⟩) (c7 : PySem.W.codeIn K cd7 "is_possible" = true) (k7 : PySem.W.keepIn K (.ref f7) = true)
    (a8 : PySem.W.nsIn K mainGlobals "follow" = some (some (.ref f8))) (l8 : K.lookup f8 = some ⟨oc8, od8, .func (PySem.W.fnOf "follow" "follow" (defArgs sFollow) (defBody sFollow) (defScope sFollow) .none kV8 dc8 pm8 an8 cd8 ct8), sl8⟩) (c8 : PySem.W.codeIn K cd8 "follow" = true) (k8 : PySem.W.keepIn K (.ref f8) = true)
    (a9 : PySem.W.nsIn K mainGlobals "_law_deck" = some (some (.ref f9))) (l9 : K.lookup f9 = some ⟨oc9, od9, .func (PySem.W.fnOf "_law_deck" "_law_deck" (defArgs sLDeck) (defBody sLDeck) (defScope sLDeck) .none kV9 dc9 pm9 an9 cd9 ct9), sl9⟩) (c9 : PySem.W.codeIn K cd9 "_law_deck" = true) (k9 : PySem.W.keepIn K (.ref f9) = true)
    (a10 : PySem.W.nsIn K mainGlobals "_law_draw" = some (some (.ref f10))) (l10 : K.lookup f10 = some ⟨oc10, od10, .func (PySem.W.fnOf "_law_draw" "_law_draw" (defArgs sLDraw) (defBody sLDraw) (defScope sLDraw) .none kV10 dc10 pm10 an10 cd10 ct10), sl10⟩) (c10 : PySem.W.codeIn K cd10 "_law_draw" = true) (k10 : PySem.W.keepIn K (.ref f10) = true)
    (a11 : PySem.W.nsIn K mainGlobals "_law_mixed" = some (some (.ref f11))) (l11 : K.lookup f11 = some ⟨oc11, od11, .func (PySem.W.fnOf "_law_mixed" "_law_mixed" (defArgs sLMixed) (defBody sLMixed) (defScope sLMixed) .none kV11 dc11 pm11 an11 cd11 ct11), sl11⟩) (c11 : PySem.W.codeIn K cd11 "_law_mixed" = true) (k11 : PySem.W.keepIn K (.ref f11) = true)
    (a12 : PySem.W.nsIn K mainGlobals "_law_forest" = some (some (.ref f12))) (l12 : K.lookup f12 = some ⟨oc12, od12, .func (PySem.W.fnOf "_law_forest" "_law_forest" (defArgs sLForest) (defBody sLForest) (defScope sLForest) .none kV12 dc12 pm12 an12 cd12 ct12), sl12⟩) (c12 : PySem.W.codeIn K cd12 "_law_forest" = true) (k12 : PySem.W.keepIn K (.ref f12) = true)
    (a13 : PySem.W.nsIn K mainGlobals "_law_same" = some (some (.ref f13))) (l13 : K.lookup f13 = some ⟨oc13, od13, .func (PySem.W.fnOf "_law_same" "_law_same" (defArgs sLSame) (defBody sLSame) (defScope sLSame) .none kV13 dc13 pm13 an13 cd13 ct13), sl13⟩) (c13 : PySem.W.codeIn K cd13 "_law_same" = true) (k13 : PySem.W.keepIn K (.ref f13) = true)
    (a14 : PySem.W.nsIn K mainGlobals "_law_near" = some (some (.ref f14))) (l14 : K.lookup f14 = some ⟨oc14, od14, .func (PySem.W.fnOf "_law_near" "_law_near" (defArgs sLNear) (defBody sLNear) (defScope sLNear) .none kV14 dc14 pm14 an14 cd14 ct14), sl14⟩) (c14 : PySem.W.codeIn K cd14 "_law_near" = true) (k14 : PySem.W.keepIn K (.ref f14) = true)
    (a15 : PySem.W.nsIn K mainGlobals "_law_setting" = some (some (.ref f15))) (l15 : K.lookup f15 = some ⟨oc15, od15, .func (PySem.W.fnOf "_law_setting" "_law_setting" (defArgs sLSetting) (defBody sLSetting) (defScope sLSetting) .none kV15 dc15 pm15 an15 cd15 ct15), sl15⟩) (c15 : PySem.W.codeIn K cd15 "_law_setting" = true) (k15 : PySem.W.keepIn K (.ref f15) = true)
    (a16 : PySem.W.nsIn K mainGlobals "_law_is_number" = some (some (.ref f16))) (l16 : K.lookup f16 = some ⟨oc16, od16, .func (PySem.W.fnOf "_law_is_number" "_law_is_number" (defArgs sLIsNumber) (defBody sLIsNumber) (defScope sLIsNumber) .none kV16 dc16 pm16 an16 cd16 ct16), sl16⟩) (c16 : PySem.W.codeIn K cd16 "_law_is_number" = true) (k16 : PySem.W.keepIn K (.ref f16) = true)
    (a17 : PySem.W.nsIn K mainGlobals "_law_odd" = some (some (.ref f17))) (l17 : K.lookup f17 = some ⟨oc17, od17, .func (PySem.W.fnOf "_law_odd" "_law_odd" (defArgs sLOdd) (defBody sLOdd) (defScope sLOdd) .none kV17 dc17 pm17 an17 cd17 ct17), sl17⟩) (c17 : PySem.W.codeIn K cd17 "_law_odd" = true) (k17 : PySem.W.keepIn K (.ref f17) = true)
    (a18 : PySem.W.nsIn K mainGlobals "_law_others" = some (some (.ref f18))) (l18 : K.lookup f18 = some ⟨oc18, od18, .func (PySem.W.fnOf "_law_others" "_law_others" (defArgs sLOthers) (defBody sLOthers) (defScope sLOthers) .none kV18 dc18 pm18 an18 cd18 ct18), sl18⟩) (c18 : PySem.W.codeIn K cd18 "_law_others" = true) (k18 : PySem.W.keepIn K (.ref f18) = true)
    (a19 : PySem.W.nsIn K mainGlobals "_law_slides" = some (some (.ref f19))) (l19 : K.lookup f19 = some ⟨oc19, od19, .func (PySem.W.fnOf "_law_slides" "_law_slides" (defArgs sLSlides) (defBody sLSlides) (defScope sLSlides) .none kV19 dc19 pm19 an19 cd19 ct19), sl19⟩) (c19 : PySem.W.codeIn K cd19 "_law_slides" = true) (k19 : PySem.W.keepIn K (.ref f19) = true)
    (a20 : PySem.W.nsIn K mainGlobals "_law_after" = some (some (.ref f20))) (l20 : K.lookup f20 = some ⟨oc20, od20, .func (PySem.W.fnOf "_law_after" "_law_after" (defArgs sLAfter) (defBody sLAfter) (defScope sLAfter) .none kV20 dc20 pm20 an20 cd20 ct20), sl20⟩) (c20 : PySem.W.codeIn K cd20 "_law_after" = true) (k20 : PySem.W.keepIn K (.ref f20) = true)
    (a21 : PySem.W.nsIn K mainGlobals "_law_walk" = some (some (.ref f21))) (l21 : K.lookup f21 = some ⟨oc21, od21, .func (PySem.W.fnOf "_law_walk" "_law_walk" (defArgs sLWalk) (defBody sLWalk) (defScope sLWalk) .none kV21 dc21 pm21 an21 cd21 ct21), sl21⟩) (c21 : PySem.W.codeIn K cd21 "_law_walk" = true) (k21 : PySem.W.keepIn K (.ref f21) = true)
    (a22 : PySem.W.nsIn K mainGlobals "_law_due" = some (some (.ref f22))) (l22 : K.lookup f22 = some ⟨oc22, od22, .func (PySem.W.fnOf "_law_due" "_law_due" (defArgs sLDue) (defBody sLDue) (defScope sLDue) .none kV22 dc22 pm22 an22 cd22 ct22), sl22⟩) (c22 : PySem.W.codeIn K cd22 "_law_due" = true) (k22 : PySem.W.keepIn K (.ref f22) = true)
    (a23 : PySem.W.nsIn K mainGlobals "_law_found" = some (some (.ref f23))) (l23 : K.lookup f23 = some ⟨oc23, od23, .func (PySem.W.fnOf "_law_found" "_law_found" (defArgs sLFound) (defBody sLFound) (defScope sLFound) .none kV23 dc23 pm23 an23 cd23 ct23), sl23⟩) (c23 : PySem.W.codeIn K cd23 "_law_found" = true) (k23 : PySem.W.keepIn K (.ref f23) = true)
    (a24 : PySem.W.nsIn K mainGlobals "_law_back" = some (some (.ref f24))) (l24 : K.lookup f24 = some ⟨oc24, od24, .func (PySem.W.fnOf "_law_back" "_law_back" (defArgs sLBack) (defBody sLBack) (defScope sLBack) .none kV24 dc24 pm24 an24 cd24 ct24), sl24⟩) (c24 : PySem.W.codeIn K cd24 "_law_back" = true) (k24 : PySem.W.keepIn K (.ref f24) = true)
    (a25 : PySem.W.nsIn K mainGlobals "_law_changed" = some (some (.ref f25))) (l25 : K.lookup f25 = some ⟨oc25, od25, .func (PySem.W.fnOf "_law_changed" "_law_changed" (defArgs sLChanged) (defBody sLChanged) (defScope sLChanged) .none kV25 dc25 pm25 an25 cd25 ct25), sl25⟩) (c25 : PySem.W.codeIn K cd25 "_law_changed" = true) (k25 : PySem.W.keepIn K (.ref f25) = true)
    (a26 : PySem.W.nsIn K mainGlobals "law" = some (some (.ref f26))) (l26 : K.lookup f26 = some ⟨oc26, od26, .func (PySem.W.fnOf "law" "law" (defArgs sLaw) (defBody sLaw) (defScope sLaw) .none kV26 dc26 pm26 an26 cd26 ct26), sl26⟩) (c26 : PySem.W.codeIn K cd26 "law" = true) (k26 : PySem.W.keepIn K (.ref f26) = true)
    {cNoLamp iNoLamp eN0 : Addr} {en0 eq0 : Str} {eb0 em0 eu0 : List Value} {es0 : List Str} {ea0 : Bool} {ec0 : Option Bool} {ed0 : Option Addr} {e00 e10 e20 e30 e50 : Option Value}
    {iod0 ian0 : Option Addr} {isl0 : Array (Option Value)} {ioc0 ikV0 idc0 ipm0 icd0 ict0 : Value}
    (eaNoLamp : PySem.W.nsIn K mainGlobals "NoLamp" = some (some (.ref cNoLamp))) (elNoLamp : K.lookup cNoLamp = some (excClassObj en0 eq0 cNoLamp eN0 eb0 em0 true es0 eu0 ea0 ec0 ed0 e00 e10 e20 e30 e50 "ValueError.__new__")) (erNoLamp : PySem.HandSPX.refsVE em0 = true)
    (e1NoLamp : PySem.W.findIn K (.ref cNoLamp) "__setattr__" = some (some (.builtin "object.__setattr__"))) (e2NoLamp : PySem.W.subIn K (.ref cNoLamp) (.type "BaseException") = some true) (e3NoLamp : PySem.W.typeIn K (.ref cNoLamp) = some (.type "type")) (e4NoLamp : PySem.W.keepIn K (.ref cNoLamp) = true)
    (e5NoLamp : PySem.W.findIn K (.ref cNoLamp) "__getattribute__" = some (some (.builtin "BaseException.__getattribute__"))) (e6NoLamp : PySem.W.findIn K (.ref cNoLamp) "__getattr__" = some none) (e7NoLamp : PySem.W.hasDictIn K cNoLamp = true)
    (e8NoLamp : PySem.W.findIn K (.ref cNoLamp) "__class__" = some (some (.builtin "object.__class__"))) (e9NoLamp : PySem.W.specialIn K (.builtin "object.__class__") "__get__" = some (some (.builtin "getset_descriptor.__get__"))) (eANoLamp : PySem.W.takesIn K (.builtin "object.__class__") = some true) (eBNoLamp : PySem.W.mroIn K cNoLamp (.type "object") = some true)
    (eCNoLamp : PySem.W.findIn K (.ref cNoLamp) "__init__" = some (some (.ref iNoLamp))) (eDNoLamp : PySem.W.typeIn K (.ref iNoLamp) = some (.type "function")) (eENoLamp : PySem.W.findIn K (.ref cNoLamp) "value" = some none) (eFNoLamp : PySem.W.subIn K (.ref cNoLamp) (.ref cNoLamp) = some true) (eGNoLamp : PySem.W.subIn K (.ref cNoLamp) (.type "ValueError") = some true)
    (eHNoLamp : K.lookup iNoLamp = some ⟨ioc0, iod0, .func (PySem.W.fnOf "__init__" "NoLamp.__init__" (defArgs sNolampInit) (defBody sNolampInit) (defScope sNolampInit) .none ikV0 idc0 ipm0 ian0 icd0 ict0), isl0⟩) (eINoLamp : PySem.W.codeIn K icd0 "NoLamp.__init__" = true) (eJNoLamp : PySem.W.keepIn K (.ref iNoLamp) = true)
    {cNotAdjacent iNotAdjacent eN1 : Addr} {en1 eq1 : Str} {eb1 em1 eu1 : List Value} {es1 : List Str} {ea1 : Bool} {ec1 : Option Bool} {ed1 : Option Addr} {e01 e11 e21 e31 e51 : Option Value}
    {iod1 ian1 : Option Addr} {isl1 : Array (Option Value)} {ioc1 ikV1 idc1 ipm1 icd1 ict1 : Value}
    (eaNotAdjacent : PySem.W.nsIn K mainGlobals "NotAdjacent" = some (some (.ref cNotAdjacent))) (elNotAdjacent : K.lookup cNotAdjacent = some (excClassObj en1 eq1 cNotAdjacent eN1 eb1 em1 true es1 eu1 ea1 ec1 ed1 e01 e11 e21 e31 e51 "ValueError.__new__")) (erNotAdjacent : PySem.HandSPX.refsVE em1 = true)
    (e1NotAdjacent : PySem.W.findIn K (.ref cNotAdjacent) "__setattr__" = some (some (.builtin "object.__setattr__"))) (e2NotAdjacent : PySem.W.subIn K (.ref cNotAdjacent) (.type "BaseException") = some true) (e3NotAdjacent : PySem.W.typeIn K (.ref cNotAdjacent) = some (.type "type")) (e4NotAdjacent : PySem.W.keepIn K (.ref cNotAdjacent) = true)
    (e5NotAdjacent : PySem.W.findIn K (.ref cNotAdjacent) "__getattribute__" = some (some (.builtin "BaseException.__getattribute__"))) (e6NotAdjacent : PySem.W.findIn K (.ref cNotAdjacent) "__getattr__" = some none) (e7NotAdjacent : PySem.W.hasDictIn K cNotAdjacent = true)
    (e8NotAdjacent : PySem.W.findIn K (.ref cNotAdjacent) "__class__" = some (some (.builtin "object.__class__"))) (e9NotAdjacent : PySem.W.specialIn K (.builtin "object.__class__") "__get__" = some (some (.builtin "getset_descriptor.__get__"))) (eANotAdjacent : PySem.W.takesIn K (.builtin "object.__class__") = some true) (eBNotAdjacent : PySem.W.mroIn K cNotAdjacent (.type "object") = some true)
    (eCNotAdjacent : PySem.W.findIn K (.ref cNotAdjacent) "__init__" = some (some (.ref iNotAdjacent))) (eDNotAdjacent : PySem.W.typeIn K (.ref iNotAdjacent) = some (.type "function")) (eENotAdjacent : PySem.W.findIn K (.ref cNotAdjacent) "value" = some none) (eFNotAdjacent : PySem.W.subIn K (.ref cNotAdjacent) (.ref cNotAdjacent) = some true) (eGNotAdjacent : PySem.W.subIn K (.ref cNotAdjacent) (.type "ValueError") = some true)
    (eHNotAdjacent : K.lookup iNotAdjacent = some ⟨ioc1, iod1, .func (PySem.W.fnOf "__init__" "NotAdjacent.__init__" (defArgs sNotadjacentInit) (defBody sNotadjacentInit) (defScope sNotadjacentInit) .none ikV1 idc1 ipm1 ian1 icd1 ict1), isl1⟩) (eINotAdjacent : PySem.W.codeIn K icd1 "NotAdjacent.__init__" = true) (eJNotAdjacent : PySem.W.keepIn K (.ref iNotAdjacent) = true)
    {cBlocked iBlocked eN2 : Addr} {en2 eq2 : Str} {eb2 em2 eu2 : List Value} {es2 : List Str} {ea2 : Bool} {ec2 : Option Bool} {ed2 : Option Addr} {e02 e12 e22 e32 e52 : Option Value}
    {iod2 ian2 : Option Addr} {isl2 : Array (Option Value)} {ioc2 ikV2 idc2 ipm2 icd2 ict2 : Value}
    (eaBlocked : PySem.W.nsIn K mainGlobals "Blocked" = some (some (.ref cBlocked))) (elBlocked : K.lookup cBlocked = some (excClassObj en2 eq2 cBlocked eN2 eb2 em2 true es2 eu2 ea2 ec2 ed2 e02 e12 e22 e32 e52 "ValueError.__new__")) (erBlocked : PySem.HandSPX.refsVE em2 = true)
    (e1Blocked : PySem.W.findIn K (.ref cBlocked) "__setattr__" = some (some (.builtin "object.__setattr__"))) (e2Blocked : PySem.W.subIn K (.ref cBlocked) (.type "BaseException") = some true) (e3Blocked : PySem.W.typeIn K (.ref cBlocked) = some (.type "type")) (e4Blocked : PySem.W.keepIn K (.ref cBlocked) = true)
    (e5Blocked : PySem.W.findIn K (.ref cBlocked) "__getattribute__" = some (some (.builtin "BaseException.__getattribute__"))) (e6Blocked : PySem.W.findIn K (.ref cBlocked) "__getattr__" = some none) (e7Blocked : PySem.W.hasDictIn K cBlocked = true)
    (e8Blocked : PySem.W.findIn K (.ref cBlocked) "__class__" = some (some (.builtin "object.__class__"))) (e9Blocked : PySem.W.specialIn K (.builtin "object.__class__") "__get__" = some (some (.builtin "getset_descriptor.__get__"))) (eABlocked : PySem.W.takesIn K (.builtin "object.__class__") = some true) (eBBlocked : PySem.W.mroIn K cBlocked (.type "object") = some true)
    (eCBlocked : PySem.W.findIn K (.ref cBlocked) "__init__" = some (some (.ref iBlocked))) (eDBlocked : PySem.W.typeIn K (.ref iBlocked) = some (.type "function")) (eEBlocked : PySem.W.findIn K (.ref cBlocked) "vertex" = some none) (eFBlocked : PySem.W.subIn K (.ref cBlocked) (.ref cBlocked) = some true) (eGBlocked : PySem.W.subIn K (.ref cBlocked) (.type "ValueError") = some true)
    (eHBlocked : K.lookup iBlocked = some ⟨ioc2, iod2, .func (PySem.W.fnOf "__init__" "Blocked.__init__" (defArgs sBlockedInit) (defBody sBlockedInit) (defScope sBlockedInit) .none ikV2 idc2 ipm2 ian2 icd2 ict2), isl2⟩) (eIBlocked : PySem.W.codeIn K icd2 "Blocked.__init__" = true) (eJBlocked : PySem.W.keepIn K (.ref iBlocked) = true)
    {cBadSlides iBadSlides eN3 : Addr} {en3 eq3 : Str} {eb3 em3 eu3 : List Value} {es3 : List Str} {ea3 : Bool} {ec3 : Option Bool} {ed3 : Option Addr} {e03 e13 e23 e33 e53 : Option Value}
    {iod3 ian3 : Option Addr} {isl3 : Array (Option Value)} {ioc3 ikV3 idc3 ipm3 icd3 ict3 : Value}
    (eaBadSlides : PySem.W.nsIn K mainGlobals "BadSlides" = some (some (.ref cBadSlides))) (elBadSlides : K.lookup cBadSlides = some (excClassObj en3 eq3 cBadSlides eN3 eb3 em3 true es3 eu3 ea3 ec3 ed3 e03 e13 e23 e33 e53 "ValueError.__new__")) (erBadSlides : PySem.HandSPX.refsVE em3 = true)
    (e1BadSlides : PySem.W.findIn K (.ref cBadSlides) "__setattr__" = some (some (.builtin "object.__setattr__"))) (e2BadSlides : PySem.W.subIn K (.ref cBadSlides) (.type "BaseException") = some true) (e3BadSlides : PySem.W.typeIn K (.ref cBadSlides) = some (.type "type")) (e4BadSlides : PySem.W.keepIn K (.ref cBadSlides) = true)
    (e5BadSlides : PySem.W.findIn K (.ref cBadSlides) "__getattribute__" = some (some (.builtin "BaseException.__getattribute__"))) (e6BadSlides : PySem.W.findIn K (.ref cBadSlides) "__getattr__" = some none) (e7BadSlides : PySem.W.hasDictIn K cBadSlides = true)
    (e8BadSlides : PySem.W.findIn K (.ref cBadSlides) "__class__" = some (some (.builtin "object.__class__"))) (e9BadSlides : PySem.W.specialIn K (.builtin "object.__class__") "__get__" = some (some (.builtin "getset_descriptor.__get__"))) (eABadSlides : PySem.W.takesIn K (.builtin "object.__class__") = some true) (eBBadSlides : PySem.W.mroIn K cBadSlides (.type "object") = some true)
    (eCBadSlides : PySem.W.findIn K (.ref cBadSlides) "__init__" = some (some (.ref iBadSlides))) (eDBadSlides : PySem.W.typeIn K (.ref iBadSlides) = some (.type "function")) (eEBadSlides : PySem.W.findIn K (.ref cBadSlides) "index" = some none) (eFBadSlides : PySem.W.subIn K (.ref cBadSlides) (.ref cBadSlides) = some true) (eGBadSlides : PySem.W.subIn K (.ref cBadSlides) (.type "ValueError") = some true)
    (eHBadSlides : K.lookup iBadSlides = some ⟨ioc3, iod3, .func (PySem.W.fnOf "__init__" "BadSlides.__init__" (defArgs sBadslidesInit) (defBody sBadslidesInit) (defScope sBadslidesInit) .none ikV3 idc3 ipm3 ian3 icd3 ict3), isl3⟩) (eIBadSlides : PySem.W.codeIn K icd3 "BadSlides.__init__" = true) (eJBadSlides : PySem.W.keepIn K (.ref iBadSlides) = true)




    {cLampError : Addr} (caLampError : PySem.W.nsIn K mainGlobals "LampError" = some (some (.ref cLampError))) (cdLampError : PySem.W.hasDictIn K cLampError = true) (ctLampError : PySem.W.typeIn K (.ref cLampError) = some (.type "type"))
    (suNoLampNotAdjacent : PySem.W.subIn K (.ref cNoLamp) (.ref cNotAdjacent) = some false)
    (suNoLampBlocked : PySem.W.subIn K (.ref cNoLamp) (.ref cBlocked) = some false)
    (suNoLampBadSlides : PySem.W.subIn K (.ref cNoLamp) (.ref cBadSlides) = some false)
    (suNoLampLampError : PySem.W.subIn K (.ref cNoLamp) (.ref cLampError) = some true)
    (suNotAdjacentNoLamp : PySem.W.subIn K (.ref cNotAdjacent) (.ref cNoLamp) = some false)
    (suNotAdjacentBlocked : PySem.W.subIn K (.ref cNotAdjacent) (.ref cBlocked) = some false)
    (suNotAdjacentBadSlides : PySem.W.subIn K (.ref cNotAdjacent) (.ref cBadSlides) = some false)
    (suNotAdjacentLampError : PySem.W.subIn K (.ref cNotAdjacent) (.ref cLampError) = some true)
    (suBlockedNoLamp : PySem.W.subIn K (.ref cBlocked) (.ref cNoLamp) = some false)
    (suBlockedNotAdjacent : PySem.W.subIn K (.ref cBlocked) (.ref cNotAdjacent) = some false)
    (suBlockedBadSlides : PySem.W.subIn K (.ref cBlocked) (.ref cBadSlides) = some false)
    (suBlockedLampError : PySem.W.subIn K (.ref cBlocked) (.ref cLampError) = some true)
    (suBadSlidesNoLamp : PySem.W.subIn K (.ref cBadSlides) (.ref cNoLamp) = some false)
    (suBadSlidesNotAdjacent : PySem.W.subIn K (.ref cBadSlides) (.ref cNotAdjacent) = some false)
    (suBadSlidesBlocked : PySem.W.subIn K (.ref cBadSlides) (.ref cBlocked) = some false)
    (suBadSlidesLampError : PySem.W.subIn K (.ref cBadSlides) (.ref cLampError) = some true)
    (z0 : PySem.W.nsIn K mainGlobals "abs" = some none) (z1 : PySem.W.nsIn K mainGlobals "len" = some none) (z2 : PySem.W.nsIn K mainGlobals "list" = some none) (z3 : PySem.W.nsIn K mainGlobals "range" = some none) (z4 : PySem.W.nsIn K mainGlobals "max" = some none) (z5 : PySem.W.nsIn K mainGlobals "tuple" = some none) (z6 : PySem.W.nsIn K mainGlobals "sorted" = some none) (z7 : PySem.W.nsIn K mainGlobals "isinstance" = some none) (z8 : PySem.W.nsIn K mainGlobals "int" = some none) (z9 : PySem.W.nsIn K mainGlobals "bool" = some none) (z10 : PySem.W.nsIn K mainGlobals "repr" = some none) (z11 : PySem.W.nsIn K mainGlobals "enumerate" = some none) :
    ∃ fd : FuncData, (∀ (s : Shared) (v : Value), BindsTo s fd ⟨[v], []⟩ [("_law_script", v)]) ∧ ∀ base : Heap, K.In base → base.Ns mainGlobals mg → FnG l.prog w K mg base 7 fa fd ["_law_script"] (spLaw K) := by
  cases hfa.symm.trans (PySem.W.mg_of X G a26)
  have FIsNumber := fun_mk (st := sIsNumber) l0 c0 k0
  have FIsPair := fun_mk (st := sIsPair) l1 c1 k1
  have FNeighboursOf := fun_mk (st := sNeighboursOf) l2 c2 k2
  have FBlockingLamps := fun_mk (st := sBlockingLamps) l3 c3 k3
  have FCheckLamp := fun_mk (st := sCheckLamp) l4 c4 k4
  have FSlideLamp := fun_mk (st := sSlideLamp) l5 c5 k5
  have FPossibleSlides := fun_mk (st := sPossibleSlides) l6 c6 k6
  have FIsPossible := fun_mk (st := sIsPossible) l7 c7 k7
  have FFollow := fun_mk (st := sFollow) l8 c8 k8
  have FLDeck := fun_mk (st := sLDeck) l9 c9 k9
  have FLDraw := fun_mk (st := sLDraw) l10 c10 k10
  have FLMixed := fun_mk (st := sLMixed) l11 c11 k11
  have FLForest := fun_mk (st := sLForest) l12 c12 k12
  have FLSame := fun_mk (st := sLSame) l13 c13 k13
  have FLNear := fun_mk (st := sLNear) l14 c14 k14
  have FLSetting := fun_mk (st := sLSetting) l15 c15 k15
  have FLIsNumber := fun_mk (st := sLIsNumber) l16 c16 k16
  have FLOdd := fun_mk (st := sLOdd) l17 c17 k17
  have FLOthers := fun_mk (st := sLOthers) l18 c18 k18
  have FLSlides := fun_mk (st := sLSlides) l19 c19 k19
  have FLAfter := fun_mk (st := sLAfter) l20 c20 k20
  have FLWalk := fun_mk (st := sLWalk) l21 c21 k21
  have FLDue := fun_mk (st := sLDue) l22 c22 k22
  have FLFound := fun_mk (st := sLFound) l23 c23 k23
  have FLBack := fun_mk (st := sLBack) l24 c24 k24
  have FLChanged := fun_mk (st := sLChanged) l25 c25 k25
  have FLaw := fun_mk (st := sLaw) l26 c26 k26
  have bIsNumber := FIsNumber.binds (ps := ["value"]) fun _ _ _ _ _ _ us hl => match us, hl with | [_], _ => rfl
  have bIsPair := FIsPair.binds (ps := ["value"]) fun _ _ _ _ _ _ us hl => match us, hl with | [_], _ => rfl
  have bNeighboursOf := FNeighboursOf.binds (ps := ["forest", "vertex"]) fun _ _ _ _ _ _ us hl => match us, hl with | [_, _], _ => rfl
  have bBlockingLamps := FBlockingLamps.binds (ps := ["forest", "setting", "u", "v"]) fun _ _ _ _ _ _ us hl => match us, hl with | [_, _, _, _], _ => rfl
  have bCheckLamp := FCheckLamp.binds (ps := ["setting", "value"]) fun _ _ _ _ _ _ us hl => match us, hl with | [_, _], _ => rfl
  have bSlideLamp := FSlideLamp.binds (ps := ["forest", "setting", "u", "v"]) fun _ _ _ _ _ _ us hl => match us, hl with | [_, _, _, _], _ => rfl
  have bPossibleSlides := FPossibleSlides.binds (ps := ["forest", "setting"]) fun _ _ _ _ _ _ us hl => match us, hl with | [_, _], _ => rfl
  have bIsPossible := FIsPossible.binds (ps := ["forest", "setting", "value"]) fun _ _ _ _ _ _ us hl => match us, hl with | [_, _, _], _ => rfl
  have bFollow := FFollow.binds (ps := ["forest", "setting", "slides"]) fun _ _ _ _ _ _ us hl => match us, hl with | [_, _, _], _ => rfl
  have bLDeck := FLDeck.binds (ps := ["_law_script"]) fun _ _ _ _ _ _ us hl => match us, hl with | [_], _ => rfl
  have bLDraw := FLDraw.binds (ps := ["_law_deck_here", "_law_limit"]) fun _ _ _ _ _ _ us hl => match us, hl with | [_, _], _ => rfl
  have bLMixed := FLMixed.binds (ps := ["_law_deck_here", "_law_items"]) fun _ _ _ _ _ _ us hl => match us, hl with | [_, _], _ => rfl
  have bLForest := FLForest.binds (ps := ["_law_deck_here", "_law_most"]) fun _ _ _ _ _ _ us hl => match us, hl with | [_, _], _ => rfl
  have bLSame := FLSame.binds (ps := ["_law_value", "_law_due_here"]) fun _ _ _ _ _ _ us hl => match us, hl with | [_, _], _ => rfl
  have bLNear := FLNear.binds (ps := ["_law_forest_here", "_law_vertex"]) fun _ _ _ _ _ _ us hl => match us, hl with | [_, _], _ => rfl
  have bLSetting := FLSetting.binds (ps := ["_law_deck_here", "_law_forest_here"]) fun _ _ _ _ _ _ us hl => match us, hl with | [_, _], _ => rfl
  have bLIsNumber := FLIsNumber.binds (ps := ["_law_value", "_law_low", "_law_high"]) fun _ _ _ _ _ _ us hl => match us, hl with | [_, _, _], _ => rfl
  have bLOdd := FLOdd.binds (ps := ["_law_deck_here"]) fun _ _ _ _ _ _ us hl => match us, hl with | [_], _ => rfl
  have bLOthers := FLOthers.binds (ps := ["_law_forest_here", "_law_setting_here", "_law_u", "_law_v"]) fun _ _ _ _ _ _ us hl => match us, hl with | [_, _, _, _], _ => rfl
  have bLSlides := FLSlides.binds (ps := ["_law_forest_here", "_law_setting_here"]) fun _ _ _ _ _ _ us hl => match us, hl with | [_, _], _ => rfl
  have bLAfter := FLAfter.binds (ps := ["_law_setting_here", "_law_slide"]) fun _ _ _ _ _ _ us hl => match us, hl with | [_, _], _ => rfl
  have bLWalk := FLWalk.binds (ps := ["_law_deck_here", "_law_forest_here", "_law_setting_here"]) fun _ _ _ _ _ _ us hl => match us, hl with | [_, _, _], _ => rfl
  have bLDue := FLDue.binds (ps := ["_law_forest_here", "_law_setting_here", "_law_value"]) fun _ _ _ _ _ _ us hl => match us, hl with | [_, _, _], _ => rfl
  have bLFound := FLFound.binds (ps := ["_law_forest_here", "_law_setting_here", "_law_value"]) fun _ _ _ _ _ _ us hl => match us, hl with | [_, _, _], _ => rfl
  have bLBack := FLBack.binds (ps := ["_law_walk_here"]) fun _ _ _ _ _ _ us hl => match us, hl with | [_], _ => rfl
  have bLChanged := FLChanged.binds (ps := ["_law_deck_here", "_law_walk_here"]) fun _ _ _ _ _ _ us hl => match us, hl with | [_, _], _ => rfl
  have m_abs := PySem.W.mg_none_of X G z0
  have m_len := PySem.W.mg_none_of X G z1
  have m_list := PySem.W.mg_none_of X G z2
  have m_range := PySem.W.mg_none_of X G z3
  have m_max := PySem.W.mg_none_of X G z4
  have m_tuple := PySem.W.mg_none_of X G z5
  have m_sorted := PySem.W.mg_none_of X G z6
  have m_isinstance := PySem.W.mg_none_of X G z7
  have m_int := PySem.W.mg_none_of X G z8
  have m_bool := PySem.W.mg_none_of X G z9
  have m_repr := PySem.W.mg_none_of X G z10
  have m_enumerate := PySem.W.mg_none_of X G z11
  have m_NoLamp := PySem.W.mg_of X G eaNoLamp
  have FNolampInit := fun_mk (st := sNolampInit) eHNoLamp eINoLamp eJNoLamp
  have bNolampInit := FNolampInit.binds (ps := ["self", "value"]) fun _ _ _ _ _ _ us hl => match us, hl with | [_, _], _ => rfl
  have m_NotAdjacent := PySem.W.mg_of X G eaNotAdjacent
  have FNotadjacentInit := fun_mk (st := sNotadjacentInit) eHNotAdjacent eINotAdjacent eJNotAdjacent
  have bNotadjacentInit := FNotadjacentInit.binds (ps := ["self", "value"]) fun _ _ _ _ _ _ us hl => match us, hl with | [_, _], _ => rfl
  have m_Blocked := PySem.W.mg_of X G eaBlocked
  have FBlockedInit := fun_mk (st := sBlockedInit) eHBlocked eIBlocked eJBlocked
  have bBlockedInit := FBlockedInit.binds (ps := ["self", "vertex"]) fun _ _ _ _ _ _ us hl => match us, hl with | [_, _], _ => rfl
  have m_BadSlides := PySem.W.mg_of X G eaBadSlides
  have FBadslidesInit := fun_mk (st := sBadslidesInit) eHBadSlides eIBadSlides eJBadSlides
  have bBadslidesInit := FBadslidesInit.binds (ps := ["self", "index"]) fun _ _ _ _ _ _ us hl => match us, hl with | [_, _], _ => rfl
  have m_LampError := PySem.W.mg_of X G caLampError
  refine ⟨PySem.W.fnOf "law" "law" (defArgs sLaw) (defBody sLaw) (defScope sLaw) .none kV26 dc26 pm26 an26 cd26 ct26, fun s v => .of_eq rfl, fun base _ _ => ?_⟩
  have eNoLamp : ErrC l.prog w K mg base "NoLamp" "value" cNoLamp := ⟨⟨⟨_, _, _, _, _, _, _, _, _, _, _, _, _, _, _, elNoLamp, erNoLamp⟩, e1NoLamp, e2NoLamp, e3NoLamp, e4NoLamp⟩, ⟨e5NoLamp, e6NoLamp, e2NoLamp, e7NoLamp⟩, ⟨e5NoLamp, e6NoLamp, e2NoLamp, e7NoLamp, e8NoLamp, e9NoLamp, eANoLamp, eBNoLamp⟩, cls_of e7NoLamp, eENoLamp, m_NoLamp, _, _, _, eCNoLamp, eDNoLamp, ok_NolampInit FNolampInit ⟨⟨⟨_, _, _, _, _, _, _, _, _, _, _, _, _, _, _, elNoLamp, erNoLamp⟩, e1NoLamp, e2NoLamp, e3NoLamp, e4NoLamp⟩, eENoLamp⟩, bNolampInit⟩
  have eNotAdjacent : ErrC l.prog w K mg base "NotAdjacent" "value" cNotAdjacent := ⟨⟨⟨_, _, _, _, _, _, _, _, _, _, _, _, _, _, _, elNotAdjacent, erNotAdjacent⟩, e1NotAdjacent, e2NotAdjacent, e3NotAdjacent, e4NotAdjacent⟩, ⟨e5NotAdjacent, e6NotAdjacent, e2NotAdjacent, e7NotAdjacent⟩, ⟨e5NotAdjacent, e6NotAdjacent, e2NotAdjacent, e7NotAdjacent, e8NotAdjacent, e9NotAdjacent, eANotAdjacent, eBNotAdjacent⟩, cls_of e7NotAdjacent, eENotAdjacent, m_NotAdjacent, _, _, _, eCNotAdjacent, eDNotAdjacent, ok_NotadjacentInit FNotadjacentInit ⟨⟨⟨_, _, _, _, _, _, _, _, _, _, _, _, _, _, _, elNotAdjacent, erNotAdjacent⟩, e1NotAdjacent, e2NotAdjacent, e3NotAdjacent, e4NotAdjacent⟩, eENotAdjacent⟩, bNotadjacentInit⟩
  have eBlocked : ErrC l.prog w K mg base "Blocked" "vertex" cBlocked := ⟨⟨⟨_, _, _, _, _, _, _, _, _, _, _, _, _, _, _, elBlocked, erBlocked⟩, e1Blocked, e2Blocked, e3Blocked, e4Blocked⟩, ⟨e5Blocked, e6Blocked, e2Blocked, e7Blocked⟩, ⟨e5Blocked, e6Blocked, e2Blocked, e7Blocked, e8Blocked, e9Blocked, eABlocked, eBBlocked⟩, cls_of e7Blocked, eEBlocked, m_Blocked, _, _, _, eCBlocked, eDBlocked, ok_BlockedInit FBlockedInit ⟨⟨⟨_, _, _, _, _, _, _, _, _, _, _, _, _, _, _, elBlocked, erBlocked⟩, e1Blocked, e2Blocked, e3Blocked, e4Blocked⟩, eEBlocked⟩, bBlockedInit⟩
  have eBadSlides : ErrC l.prog w K mg base "BadSlides" "index" cBadSlides := ⟨⟨⟨_, _, _, _, _, _, _, _, _, _, _, _, _, _, _, elBadSlides, erBadSlides⟩, e1BadSlides, e2BadSlides, e3BadSlides, e4BadSlides⟩, ⟨e5BadSlides, e6BadSlides, e2BadSlides, e7BadSlides⟩, ⟨e5BadSlides, e6BadSlides, e2BadSlides, e7BadSlides, e8BadSlides, e9BadSlides, eABadSlides, eBBadSlides⟩, cls_of e7BadSlides, eEBadSlides, m_BadSlides, _, _, _, eCBadSlides, eDBadSlides, ok_BadslidesInit FBadslidesInit ⟨⟨⟨_, _, _, _, _, _, _, _, _, _, _, _, _, _, _, elBadSlides, erBadSlides⟩, e1BadSlides, e2BadSlides, e3BadSlides, e4BadSlides⟩, eEBadSlides⟩, bBadslidesInit⟩
  have ownIsNumber := fun {k : Nat} {sp : Sp} (G0 : FnOk l.prog w K mg base CX0 k f0 _ _ sp) => (Own.mk ⟨f0, _, G0, PySem.W.mg_of X G a0, k0, bIsNumber⟩ : Own l.prog w K mg base "is_number" k ["value"] sp)
  have ownIsPair := fun {k : Nat} {sp : Sp} (G0 : FnOk l.prog w K mg base CX0 k f1 _ _ sp) => (Own.mk ⟨f1, _, G0, PySem.W.mg_of X G a1, k1, bIsPair⟩ : Own l.prog w K mg base "is_pair" k ["value"] sp)
  have ownNeighboursOf := fun {k : Nat} {sp : Sp} (G0 : FnOk l.prog w K mg base CX0 k f2 _ _ sp) => (Own.mk ⟨f2, _, G0, PySem.W.mg_of X G a2, k2, bNeighboursOf⟩ : Own l.prog w K mg base "neighbours_of" k ["forest", "vertex"] sp)
  have ownBlockingLamps := fun {k : Nat} {sp : Sp} (G0 : FnOk l.prog w K mg base CX0 k f3 _ _ sp) => (Own.mk ⟨f3, _, G0, PySem.W.mg_of X G a3, k3, bBlockingLamps⟩ : Own l.prog w K mg base "blocking_lamps" k ["forest", "setting", "u", "v"] sp)
  have wnxCheckLamp := fun {k : Nat} {sp : Sp} (G0 : FnOk l.prog w K mg base (L2.CX l.prog w) k f4 _ _ sp) => (OwnX.mk ⟨f4, _, G0, PySem.W.mg_of X G a4, k4, bCheckLamp⟩ : OwnX l.prog w K mg base "check_lamp" k ["setting", "value"] sp)
  have wnxSlideLamp := fun {k : Nat} {sp : Sp} (G0 : FnOk l.prog w K mg base (L2.CX l.prog w) k f5 _ _ sp) => (OwnX.mk ⟨f5, _, G0, PySem.W.mg_of X G a5, k5, bSlideLamp⟩ : OwnX l.prog w K mg base "slide_lamp" k ["forest", "setting", "u", "v"] sp)
  have ownPossibleSlides := fun {k : Nat} {sp : Sp} (G0 : FnOk l.prog w K mg base CX0 k f6 _ _ sp) => (Own.mk ⟨f6, _, G0, PySem.W.mg_of X G a6, k6, bPossibleSlides⟩ : Own l.prog w K mg base "possible_slides" k ["forest", "setting"] sp)
  have ownIsPossible := fun {k : Nat} {sp : Sp} (G0 : FnOk l.prog w K mg base CX0 k f7 _ _ sp) => (Own.mk ⟨f7, _, G0, PySem.W.mg_of X G a7, k7, bIsPossible⟩ : Own l.prog w K mg base "is_possible" k ["forest", "setting", "value"] sp)
  have wnxFollow := fun {k : Nat} {sp : Sp} (G0 : FnOk l.prog w K mg base (L2.CX l.prog w) k f8 _ _ sp) => (OwnX.mk ⟨f8, _, G0, PySem.W.mg_of X G a8, k8, bFollow⟩ : OwnX l.prog w K mg base "follow" k ["forest", "setting", "slides"] sp)
  have ownLDeck := fun {k : Nat} {sp : Sp} (G0 : FnOk l.prog w K mg base CX0 k f9 _ _ sp) => (Own.mk ⟨f9, _, G0, PySem.W.mg_of X G a9, k9, bLDeck⟩ : Own l.prog w K mg base "_law_deck" k ["_law_script"] sp)
  have ownLDraw := fun {k : Nat} {sp : Sp} (G0 : FnOk l.prog w K mg base CX0 k f10 _ _ sp) => (Own.mk ⟨f10, _, G0, PySem.W.mg_of X G a10, k10, bLDraw⟩ : Own l.prog w K mg base "_law_draw" k ["_law_deck_here", "_law_limit"] sp)
  have ownLMixed := fun {k : Nat} {sp : Sp} (G0 : FnOk l.prog w K mg base CX0 k f11 _ _ sp) => (Own.mk ⟨f11, _, G0, PySem.W.mg_of X G a11, k11, bLMixed⟩ : Own l.prog w K mg base "_law_mixed" k ["_law_deck_here", "_law_items"] sp)
  have ownLForest := fun {k : Nat} {sp : Sp} (G0 : FnOk l.prog w K mg base CX0 k f12 _ _ sp) => (Own.mk ⟨f12, _, G0, PySem.W.mg_of X G a12, k12, bLForest⟩ : Own l.prog w K mg base "_law_forest" k ["_law_deck_here", "_law_most"] sp)
  have wngLSame := fun {k : Nat} {sp : Sp} (G0 : FnG l.prog w K mg base k f13 _ _ sp) => (OwnG.mk ⟨f13, _, G0, PySem.W.mg_of X G a13, k13, bLSame⟩ : OwnG l.prog w K mg base "_law_same" k ["_law_value", "_law_due_here"] sp)
  have ownLNear := fun {k : Nat} {sp : Sp} (G0 : FnOk l.prog w K mg base CX0 k f14 _ _ sp) => (Own.mk ⟨f14, _, G0, PySem.W.mg_of X G a14, k14, bLNear⟩ : Own l.prog w K mg base "_law_near" k ["_law_forest_here", "_law_vertex"] sp)
  have ownLSetting := fun {k : Nat} {sp : Sp} (G0 : FnOk l.prog w K mg base CX0 k f15 _ _ sp) => (Own.mk ⟨f15, _, G0, PySem.W.mg_of X G a15, k15, bLSetting⟩ : Own l.prog w K mg base "_law_setting" k ["_law_deck_here", "_law_forest_here"] sp)
  have ownLIsNumber := fun {k : Nat} {sp : Sp} (G0 : FnOk l.prog w K mg base CX0 k f16 _ _ sp) => (Own.mk ⟨f16, _, G0, PySem.W.mg_of X G a16, k16, bLIsNumber⟩ : Own l.prog w K mg base "_law_is_number" k ["_law_value", "_law_low", "_law_high"] sp)
  have ownLOdd := fun {k : Nat} {sp : Sp} (G0 : FnOk l.prog w K mg base CX0 k f17 _ _ sp) => (Own.mk ⟨f17, _, G0, PySem.W.mg_of X G a17, k17, bLOdd⟩ : Own l.prog w K mg base "_law_odd" k ["_law_deck_here"] sp)
  have ownLOthers := fun {k : Nat} {sp : Sp} (G0 : FnOk l.prog w K mg base CX0 k f18 _ _ sp) => (Own.mk ⟨f18, _, G0, PySem.W.mg_of X G a18, k18, bLOthers⟩ : Own l.prog w K mg base "_law_others" k ["_law_forest_here", "_law_setting_here", "_law_u", "_law_v"] sp)
  have ownLSlides := fun {k : Nat} {sp : Sp} (G0 : FnOk l.prog w K mg base CX0 k f19 _ _ sp) => (Own.mk ⟨f19, _, G0, PySem.W.mg_of X G a19, k19, bLSlides⟩ : Own l.prog w K mg base "_law_slides" k ["_law_forest_here", "_law_setting_here"] sp)
  have ownLAfter := fun {k : Nat} {sp : Sp} (G0 : FnOk l.prog w K mg base CX0 k f20 _ _ sp) => (Own.mk ⟨f20, _, G0, PySem.W.mg_of X G a20, k20, bLAfter⟩ : Own l.prog w K mg base "_law_after" k ["_law_setting_here", "_law_slide"] sp)
  have ownLWalk := fun {k : Nat} {sp : Sp} (G0 : FnOk l.prog w K mg base CX0 k f21 _ _ sp) => (Own.mk ⟨f21, _, G0, PySem.W.mg_of X G a21, k21, bLWalk⟩ : Own l.prog w K mg base "_law_walk" k ["_law_deck_here", "_law_forest_here", "_law_setting_here"] sp)
  have ownLDue := fun {k : Nat} {sp : Sp} (G0 : FnOk l.prog w K mg base CX0 k f22 _ _ sp) => (Own.mk ⟨f22, _, G0, PySem.W.mg_of X G a22, k22, bLDue⟩ : Own l.prog w K mg base "_law_due" k ["_law_forest_here", "_law_setting_here", "_law_value"] sp)
  have ownLFound := fun {k : Nat} {sp : Sp} (G0 : FnOk l.prog w K mg base CX0 k f23 _ _ sp) => (Own.mk ⟨f23, _, G0, PySem.W.mg_of X G a23, k23, bLFound⟩ : Own l.prog w K mg base "_law_found" k ["_law_forest_here", "_law_setting_here", "_law_value"] sp)
  have ownLBack := fun {k : Nat} {sp : Sp} (G0 : FnOk l.prog w K mg base CX0 k f24 _ _ sp) => (Own.mk ⟨f24, _, G0, PySem.W.mg_of X G a24, k24, bLBack⟩ : Own l.prog w K mg base "_law_back" k ["_law_walk_here"] sp)
  have ownLChanged := fun {k : Nat} {sp : Sp} (G0 : FnOk l.prog w K mg base CX0 k f25 _ _ sp) => (Own.mk ⟨f25, _, G0, PySem.W.mg_of X G a25, k25, bLChanged⟩ : Own l.prog w K mg base "_law_changed" k ["_law_deck_here", "_law_walk_here"] sp)
  have oLDraw := ownLDraw (ok_LDraw (k := 0) FLDraw m_len)
  have oLDeck := ownLDeck (ok_LDeck (k := 0) FLDeck m_abs)
  have oLMixed := ownLMixed (ok_LMixed FLMixed m_list m_range m_len oLDraw)
  have oLForest := ownLForest (ok_LForest FLForest m_list m_range m_len m_max m_tuple m_sorted oLDraw oLMixed)
  have oLNear := ownLNear (ok_LNear (k := 0) FLNear m_range m_tuple m_sorted)
  have oLSetting := ownLSetting (ok_LSetting FLSetting m_list m_range m_tuple m_sorted oLDraw oLMixed oLNear)
  have oIsNumber := ownIsNumber (ok_IsNumber (k := 0) FIsNumber m_isinstance m_int m_bool)
  have oIsPair := ownIsPair (ok_IsPair (k := 0) FIsPair m_isinstance m_tuple m_len)
  have oNeighboursOf := ownNeighboursOf (ok_NeighboursOf (k := 0) FNeighboursOf m_tuple)
  have oBlockingLamps := ownBlockingLamps (ok_BlockingLamps (k := 0) FBlockingLamps m_tuple oNeighboursOf)
  have oPossibleSlides := ownPossibleSlides (ok_PossibleSlides FPossibleSlides m_tuple oNeighboursOf oBlockingLamps)
  have oIsPossible := ownIsPossible (ok_IsPossible FIsPossible oIsPair oIsNumber oPossibleSlides)
  have xCheckLamp := wnxCheckLamp (ok_CheckLamp FCheckLamp eNoLamp oIsNumber)
  have xSlideLamp := wnxSlideLamp (ok_SlideLamp FSlideLamp m_tuple m_sorted eNotAdjacent eBlocked oIsNumber xCheckLamp oNeighboursOf oBlockingLamps)
  have xFollow := wnxFollow (ok_Follow FFollow m_isinstance m_tuple m_enumerate eBadSlides oIsPossible xSlideLamp)
  have kB : CkB K cNoLamp cNotAdjacent cBlocked cLampError cBadSlides := ⟨eBadSlides.exc, eBadSlides.cls, eBadSlides.xf, exm_own e2BadSlides e7BadSlides e3BadSlides eFBadSlides,
    kit_own cdLampError ctLampError suBadSlidesLampError eFBadSlides, kit_own e7NoLamp e3NoLamp suBadSlidesNoLamp eFBadSlides, kit_own e7NotAdjacent e3NotAdjacent suBadSlidesNotAdjacent eFBadSlides, kit_own e7Blocked e3Blocked suBadSlidesBlocked eFBadSlides⟩
  have oLFound := ownLFound (ok_LFound FLFound m_isinstance m_NoLamp m_NotAdjacent m_Blocked m_BadSlides m_LampError kB eBadSlides.nof xFollow)
  have oLOdd := ownLOdd (ok_LOdd FLOdd oLDraw)
  have oLOthers := ownLOthers (ok_LOthers FLOthers oLNear)
  have oLSlides := ownLSlides (ok_LSlides FLSlides oLNear oLOthers)
  have oLAfter := ownLAfter (ok_LAfter (k := 0) FLAfter m_tuple m_sorted)
  have oLWalk := ownLWalk (ok_LWalk FLWalk m_range m_len m_tuple oLDraw oLSlides oLAfter)
  have oLIsNumber := ownLIsNumber (ok_LIsNumber (k := 0) FLIsNumber m_isinstance m_int m_bool)
  have oLDue := ownLDue (ok_LDue FLDue m_isinstance m_tuple m_enumerate m_len oLIsNumber oLSlides oLAfter)
  have oLBack := ownLBack (ok_LBack (k := 0) FLBack m_tuple)
  have oLChanged := ownLChanged (ok_LChanged FLChanged m_len m_list oLDraw oLOdd oLBack)
  have oLSame := wngLSame (ok_LSame (k := 0) FLSame m_repr)
  exact ok_Law FLaw m_range m_repr oLDeck oLForest oLSetting oLWalk oLOdd oLChanged oLSame oLFound oLDue
end TL
open PySem PySem.W PyProof.Rows
set_option maxHeartbeats 0 in
theorem PySem.Challenge.cw_treelamps_k07_slides_followed_holds : PySem.Challenge.rw_treelamps_k07_slides_followed.Holds := by
  w_on; o_law; k_head; (case hw => w_witness2)
  k_fill
  refine TL.walk_ofG (l := PySem.Challenge.rw_treelamps_k07_slides_followed) (n := 63) (k := 7) (x := "_law_script") (sp := fun w => TL.spLaw _) rfl (by decide) rfl ⟨rfl, by decide, by decide⟩
    (fun w h Y => PySem.W.kIn_of Y) ?F (fun _ _ a ns hl _ hS => ⟨a, ns, rfl, hS, hl, fun _ => rfl⟩)
  case F =>
    intro w mg fa h KX G hmg
    refine' TL.all_mk KX G hmg ?a0 ?l0 ?c0 ?k0 ?a1 ?l1 ?c1 ?k1 ?a2 ?l2 ?c2 ?k2 ?a3 ?l3 ?c3 ?k3 ?a4 ?l4 ?c4 ?k4 ?a5 ?l5 ?c5 ?k5 ?a6 ?l6 ?c6 ?k6 ?a7 ?l7 ?c7 ?k7 ?a8 ?l8 ?c8 ?k8 ?a9 ?l9 ?c9 ?k9 ?a10 ?l10 ?c10 ?k10 ?a11 ?l11 ?c11 ?k11 ?a12 ?l12 ?c12 ?k12 ?a13 ?l13 ?c13 ?k13 ?a14 ?l14 ?c14 ?k14 ?a15 ?l15 ?c15 ?k15 ?a16 ?l16 ?c16 ?k16 ?a17 ?l17 ?c17 ?k17 ?a18 ?l18 ?c18 ?k18 ?a19 ?l19 ?c19 ?k19 ?a20 ?l20 ?c20 ?k20 ?a21 ?l21 ?c21 ?k21 ?a22 ?l22 ?c22 ?k22 ?a23 ?l23 ?c23 ?k23 ?a24 ?l24 ?c24 ?k24 ?a25 ?l25 ?c25 ?k25 ?a26 ?l26 ?c26 ?k26 ?eaNoLamp ?elNoLamp ?erNoLamp ?e1NoLamp ?e2NoLamp ?e3NoLamp ?e4NoLamp ?e5NoLamp ?e6NoLamp ?e7NoLamp ?e8NoLamp ?e9NoLamp ?eANoLamp ?eBNoLamp ?eCNoLamp ?eDNoLamp ?eENoLamp ?eFNoLamp ?eGNoLamp ?eHNoLamp ?eINoLamp ?eJNoLamp ?eaNotAdjacent ?elNotAdjacent ?erNotAdjacent ?e1NotAdjacent ?e2NotAdjacent ?e3NotAdjacent ?e4NotAdjacent ?e5NotAdjacent ?e6NotAdjacent ?e7NotAdjacent ?e8NotAdjacent ?e9NotAdjacent ?eANotAdjacent ?eBNotAdjacent ?eCNotAdjacent ?eDNotAdjacent ?eENotAdjacent ?eFNotAdjacent ?eGNotAdjacent ?eHNotAdjacent ?eINotAdjacent ?eJNotAdjacent ?eaBlocked ?elBlocked ?erBlocked ?e1Blocked ?e2Blocked ?e3Blocked ?e4Blocked ?e5Blocked ?e6Blocked ?e7Blocked ?e8Blocked ?e9Blocked ?eABlocked ?eBBlocked ?eCBlocked ?eDBlocked ?eEBlocked ?eFBlocked ?eGBlocked ?eHBlocked ?eIBlocked ?eJBlocked ?eaBadSlides ?elBadSlides ?erBadSlides ?e1BadSlides ?e2BadSlides ?e3BadSlides ?e4BadSlides ?e5BadSlides ?e6BadSlides ?e7BadSlides ?e8BadSlides ?e9BadSlides ?eABadSlides ?eBBadSlides ?eCBadSlides ?eDBadSlides ?eEBadSlides ?eFBadSlides ?eGBadSlides ?eHBadSlides ?eIBadSlides ?eJBadSlides ?caLampError ?cdLampError ?ctLampError ?suNoLampNotAdjacent ?suNoLampBlocked ?suNoLampBadSlides ?suNoLampLampError ?suNotAdjacentNoLamp ?suNotAdjacentBlocked ?suNotAdjacentBadSlides ?suNotAdjacentLampError ?suBlockedNoLamp ?suBlockedNotAdjacent ?suBlockedBadSlides ?suBlockedLampError ?suBadSlidesNoLamp ?suBadSlidesNotAdjacent ?suBadSlidesBlocked ?suBadSlidesLampError ?z0 ?z1 ?z2 ?z3 ?z4 ?z5 ?z6 ?z7 ?z8 ?z9 ?z10 ?z11
    (case a0 => k_is); (case l0 => k_is); (case c0 => k_is); (case k0 => k_is); (case a1 => k_is); (case l1 => k_is); (case c1 => k_is); (case k1 => k_is); (case a2 => k_is); (case l2 => k_is); (case c2 => k_is); (case k2 => k_is); (case a3 => k_is); (case l3 => k_is); (case c3 => k_is); (case k3 => k_is); (case a4 => k_is); (case l4 => k_is); (case c4 => k_is); (case k4 => k_is); (case a5 => k_is); (case l5 => k_is); (case c5 => k_is); (case k5 => k_is); (case a6 => k_is); (case l6 => k_is); (case c6 => k_is); (case k6 => k_is); (case a7 => k_is); (case l7 => k_is); (case c7 => k_is); (case k7 => k_is); (case a8 => k_is); (case l8 => k_is); (case c8 => k_is); (case k8 => k_is); (case a9 => k_is); (case l9 => k_is); (case c9 => k_is); (case k9 => k_is); (case a10 => k_is); (case l10 => k_is); (case c10 => k_is); (case k10 => k_is); (case a11 => k_is); (case l11 => k_is); (case c11 => k_is); (case k11 => k_is); (case a12 => k_is); (case l12 => k_is); (case c12 => k_is); (case k12 => k_is); (case a13 => k_is); (case l13 => k_is); (case c13 => k_is); (case k13 => k_is); (case a14 => k_is); (case l14 => k_is); (case c14 => k_is); (case k14 => k_is); (case a15 => k_is); (case l15 => k_is); (case c15 => k_is); (case k15 => k_is); (case a16 => k_is); (case l16 => k_is); (case c16 => k_is); (case k16 => k_is); (case a17 => k_is); (case l17 => k_is); (case c17 => k_is); (case k17 => k_is); (case a18 => k_is); (case l18 => k_is); (case c18 => k_is); (case k18 => k_is); (case a19 => k_is); (case l19 => k_is); (case c19 => k_is); (case k19 => k_is); (case a20 => k_is); (case l20 => k_is); (case c20 => k_is); (case k20 => k_is); (case a21 => k_is); (case l21 => k_is); (case c21 => k_is); (case k21 => k_is); (case a22 => k_is); (case l22 => k_is); (case c22 => k_is); (case k22 => k_is); (case a23 => k_is); (case l23 => k_is); (case c23 => k_is); (case k23 => k_is); (case a24 => k_is); (case l24 => k_is); (case c24 => k_is); (case k24 => k_is); (case a25 => k_is); (case l25 => k_is); (case c25 => k_is); (case k25 => k_is); (case a26 => k_is); (case l26 => k_is); (case c26 => k_is); (case k26 => k_is); (case eaNoLamp => k_is); (case elNoLamp => k_is); (case erNoLamp => rfl); (case e1NoLamp => k_is); (case e2NoLamp => k_is); (case e3NoLamp => k_is); (case e4NoLamp => k_is); (case e5NoLamp => k_is); (case e6NoLamp => k_is); (case e7NoLamp => k_is); (case e8NoLamp => k_is); (case e9NoLamp => k_is); (case eANoLamp => k_is); (case eBNoLamp => k_is); (case eCNoLamp => k_is); (case eDNoLamp => k_is); (case eENoLamp => k_is); (case eFNoLamp => k_is); (case eGNoLamp => k_is); (case eHNoLamp => k_is); (case eINoLamp => k_is); (case eJNoLamp => k_is); (case eaNotAdjacent => k_is); (case elNotAdjacent => k_is); (case erNotAdjacent => rfl); (case e1NotAdjacent => k_is); (case e2NotAdjacent => k_is); (case e3NotAdjacent => k_is); (case e4NotAdjacent => k_is); (case e5NotAdjacent => k_is); (case e6NotAdjacent => k_is); (case e7NotAdjacent => k_is); (case e8NotAdjacent => k_is); (case e9NotAdjacent => k_is); (case eANotAdjacent => k_is); (case eBNotAdjacent => k_is); (case eCNotAdjacent => k_is); (case eDNotAdjacent => k_is); (case eENotAdjacent => k_is); (case eFNotAdjacent => k_is); (case eGNotAdjacent => k_is); (case eHNotAdjacent => k_is); (case eINotAdjacent => k_is); (case eJNotAdjacent => k_is); (case eaBlocked => k_is); (case elBlocked => k_is); (case erBlocked => rfl); (case e1Blocked => k_is); (case e2Blocked => k_is); (case e3Blocked => k_is); (case e4Blocked => k_is); (case e5Blocked => k_is); (case e6Blocked => k_is); (case e7Blocked => k_is); (case e8Blocked => k_is); (case e9Blocked => k_is); (case eABlocked => k_is); (case eBBlocked => k_is); (case eCBlocked => k_is); (case eDBlocked => k_is); (case eEBlocked => k_is); (case eFBlocked => k_is); (case eGBlocked => k_is); (case eHBlocked => k_is); (case eIBlocked => k_is); (case eJBlocked => k_is); (case eaBadSlides => k_is); (case elBadSlides => k_is); (case erBadSlides => rfl); (case e1BadSlides => k_is); (case e2BadSlides => k_is); (case e3BadSlides => k_is); (case e4BadSlides => k_is); (case e5BadSlides => k_is); (case e6BadSlides => k_is); (case e7BadSlides => k_is); (case e8BadSlides => k_is); (case e9BadSlides => k_is); (case eABadSlides => k_is); (case eBBadSlides => k_is); (case eCBadSlides => k_is); (case eDBadSlides => k_is); (case eEBadSlides => k_is); (case eFBadSlides => k_is); (case eGBadSlides => k_is); (case eHBadSlides => k_is); (case eIBadSlides => k_is); (case eJBadSlides => k_is); (case caLampError => k_is); (case cdLampError => k_is); (case ctLampError => k_is); (case suNoLampNotAdjacent => k_is); (case suNoLampBlocked => k_is); (case suNoLampBadSlides => k_is); (case suNoLampLampError => k_is); (case suNotAdjacentNoLamp => k_is); (case suNotAdjacentBlocked => k_is); (case suNotAdjacentBadSlides => k_is); (case suNotAdjacentLampError => k_is); (case suBlockedNoLamp => k_is); (case suBlockedNotAdjacent => k_is); (case suBlockedBadSlides => k_is); (case suBlockedLampError => k_is); (case suBadSlidesNoLamp => k_is); (case suBadSlidesNotAdjacent => k_is); (case suBadSlidesBlocked => k_is); (case suBadSlidesLampError => k_is); (case z0 => k_is); (case z1 => k_is); (case z2 => k_is); (case z3 => k_is); (case z4 => k_is); (case z5 => k_is); (case z6 => k_is); (case z7 => k_is); (case z8 => k_is); (case z9 => k_is); (case z10 => k_is); (case z11 => k_is)
