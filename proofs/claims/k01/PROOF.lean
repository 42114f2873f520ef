import PyProof.Rows.All
import Wide.All
import OpenK.AllK
import Wide.FinOn
import HandS.ForMost
import HandS.Rev
import HandS.TupAny
import HandS.Wide
import PyProof.ReprRoads
import KE.SortData
import HandS.Conv
import HandS.IsInst
import HandS.Style
import HandS.DictComp
import HandS.ExcInit
import HandS.ExcField
import HandS.WordsExc
import KE.KExcIs
import KE.KTryMore
import HandS.ExcIs
import HandS.SetFor
import HandS.Strs
import KE.DataMinMax
import HandS.TupLe
import KE.GoesMore
import HandS.TupSets
import PySem.Challenge.RW_treelamps_k01_first_error_of_forests
set_option Elab.async false
set_option linter.all false
set_option maxRecDepth 100000
set_option maxHeartbeats 4000000
namespace TL
open PySem PySem.Spec PyProof.Rows L2

/-! ### defs that show data: they run where no text is being made -/
/-- as the layer's promise of a def, for callers outside of any showing -/
structure FnG (P : Program) (w : World) (K : PySem.W.Frag) (mg : Str → Option Value)
    (base : Heap) (k : Nat) (f : Addr) (fd : FuncData) (ps : List Str) (sp : Sp) : Prop where
  wide : ∀ vs H Q E, sp vs H Q E → vs.length = ps.length
  goes : ∀ (A : Around) (out : List Env) (s : Shared) (H : Hp) (args : Args) (us : List Value)
    (vs : List V) (Q : VK) (E : XK), Room k A → A.guards = some [] →
    Env0 P w K mg base A out s H → BindsTo s fd args (ps.zip us) → Vals vs us → sp vs H Q E →
    codeAny (model P w) A (.call (.ref f) args) (CR CX0 out P w H s Q E) s
section
variable {P : Program} {w : World} {K : PySem.W.Frag} {mg : Str → Option Value} {base : Heap}
theorem FnG.of {k : Nat} {f : Addr} {fd : FuncData} {ps : List Str} {sp : Sp}
    (F : FnOk P w K mg base CX0 k f fd ps sp) : FnG P w K mg base k f fd ps sp :=
  ⟨F.len, fun A out s H args us vs Q E hr _ => F.run A out s H args us vs Q E hr⟩

theorem okG {x qual : Str} {st : Stmt} {f : Addr} {fd : FuncData} {N ps : List Str} {k : Nat} {sp : Sp}
    (F : Fun K x qual st f fd) (S : FnScope N ps (defScope st))
    (len : ∀ vs H Q E, sp vs H Q E → vs.length = ps.length)
    (hb : ∀ (cdv : Value) (A : Around) (out : List Env) (s : Shared) (H : Hp) (vs : List V) (Q : VK) (E : XK),
      Room k (A.deeper (envOfC qual (defScope st) s.heap.objs.size f cdv)) → A.guards = some [] → sp vs H Q E →
      ∃ t, PSs (cxOf CX0 P w K mg base N qual (defScope st) f cdv A out s H E).nox (defBody st) t ∧
        t { nx := fun _ H' => Q .non H', rt := Q } (start N vs) H) :
    FnG P w K mg base (k + 1) f fd ps sp := by
  obtain ⟨oc, od, kV, doc, pm, an, cdv, ct, osl, rfl, lk, hcd⟩ := F.ex
  refine ⟨len, fun A out s H args us vs Q E hr gd e0 bnd r hsp => ?_⟩
  have stays : ∀ b o, base.get? b = some o → s.heap.get? b = some o := fun b o e => (e0.bs b o e).1
  have KX : K.In s.heap := e0.mod.kin.keeps stays
  have nl : s.heap.NoLimit := e0.mod.nolimit.keeps stays
  have kinds : ∀ y ∈ ps.zip us, (defScope st).names.lookup y.1 = some .local ∨
      ((defScope st).names.lookup y.1 = some .cell ∧
        ((cellsFrom (s.heap.objs.size + 1) (defScope st).names []).lookup y.1).isSome = true) := by
    rintro ⟨n, v⟩ hy
    exact (S.par n (List.of_mem_zip hy).1).imp id fun q => ⟨q, PySem.W.cellsFrom_some _ _ _ (.inl q)⟩
  refine codeAny_call_function hr.depth (KX _ _ lk) rfl S.co S.gen rfl
    (PySem.W.codeRec_of KX hcd) (bnd _ _ _ _ ?_)
  refine wpAny_newFunctionEnv_cells S.kind kinds fun env he s1 ic => ?_
  subst he
  refine ⟨nl.keeps ic.toInCall.keep, codeAny_func ?_⟩
  obtain ⟨t, ht, hq⟩ := hb cdv A out s H vs Q E (hr.deeper _) gd hsp
  have J := inv_start (CX := CX0) (E := E) S hr.hd e0 (len _ _ _ _ hsp) r ic
  refine wpAny_mono (ht.nox.run [] s1 (start N vs) H _ J hq) (fun fl s' hs => ?_) fun e s' hs => hs
  match fl, hs with
  | .ret u, ⟨v, σ', H', J', rv, q⟩ => exact ⟨v, H', J'.os, J'.bare, J'.base, J'.hok, rv, q⟩
  | .next, ⟨σ', H', J', q⟩ => exact ⟨V.non, H', J'.os, J'.bare, J'.base, J'.hok, rfl, q⟩
  | .brk, ⟨_, _, _, q⟩ => exact False.elim q
  | .cont, ⟨_, _, _, q⟩ => exact False.elim q
end

section
variable {X : Cx} {k : Nat} {f : Addr} {fd : FuncData} {ps : List Str} {sp : Sp} {x : Str} {p pos : Pos}
  {e : Expr} {es : List Expr} {t : TA}
theorem pe_callG (F : FnG X.prog X.w X.K X.mg X.base k f fd ps sp) (hr : Room k X.A) (gd : X.A.guards = some [])
    (hg : Gl X x) (hm : X.mg x = some (.ref f)) (hk : PySem.W.keepIn X.K (.ref f) = true) (hb : Binds X.K fd ps [])
    (ha : PA X (e :: es) t) (hdb : (x == ("__debug__" : Str)) = false := by decide)
    (he : starEach (e :: es) X.env = (false, eval e X.env) :: starEach es X.env := by rfl)
    (hpl : (backTo pos (starEach es X.env)).any (·.1) = false := by rfl) :
    PE X (.Call (.Name x p) (e :: es) [] pos) (tCall sp [] E0 t) := by
  refine ⟨fun pins s σ H Q I h => wpAny_Call_Name_kw (ld_glob I hg hm ?_ hdb)⟩
  refine PySem.W.callWith_K (h₀ := X.base) I.ok.mod.kin hk
    (thn (ha.run pos pins s σ H _ I h) fun us s1 ⟨vs, H1, I1, r, q⟩ => ⟨I1.kIn, ?_⟩) he hpl
  have q1 : sp (vs ++ []) H1 Q E0 := q
  have q2 : sp vs H1 Q E0 := by rw [List.append_nil] at q1; exact q1
  have bd := hb s1 us I1.kIn (by rw [List.append_nil, ← r.length]; exact F.wide _ _ _ _ q2)
  rw [List.append_nil] at bd
  refine wpAny_call (codeAny_mono (F.goes X.A X.stack s1 H1 ⟨us, []⟩ us vs Q E0 hr gd I1.env0 bd r q2)
    fun res s' hq => ?_)
  match res, hq with
  | .ok (.ret u), hq => exact I1.after hq
  | .ok .next, hq => exact False.elim hq
  | .ok .brk, hq => exact False.elim hq
  | .ok .cont, hq => exact False.elim hq
  | .error e, hq => exact False.elim hq
end

/-! ### the law's own call -/
theorem law_callG {P : Program} {w : World} {K : PySem.W.Frag} {mg mb : Str → Option Value} {k : Nat}
    {fa a : Addr} {fd : FuncData} {x : Str} {sp : Sp} {s : Shared} {vs : List Value} {ns : List Int}
    (KX : K.In s.heap) (hns : s.heap.Ns mainGlobals mg) (hb : s.heap.Ns builtinsNs mb)
    (hbb : ∀ x : Str, x ≠ "__name__" → mb x = bootBuiltins x) (nl : s.heap.NoLimit) (hg : s.gens = #[])
    (ha : s.heap.get? a = some { cls := .type "list", data := .seq vs.toArray }) (hi : IntsAre vs ns)
    (hl : ns.length ≤ sizeLine) (hr : Room k callerA)
    (F : ∀ base : Heap, K.In base → base.Ns mainGlobals mg → FnG P w K mg base k fa fd [x] sp)
    (bnd : ∀ (s : Shared) (u : Value), BindsTo s fd ⟨[u], []⟩ [(x, u)])
    (hsp : ∀ H : Hp, Only H → SqL K H a (ns.map V.int) → sp [.ref a] H (fun v _ => v = .bl true) E0) :
    codeAny (model P w) callerA (.call (.ref fa) ⟨[.ref a], []⟩)
      (fun r s' => r = .ok (.ret (.bool true)) ∧ OldK s.heap s'.heap ∧ s'.os = s.os ∧ AllBare s'.gens) s := by
  have rv := vals_ints hi
  have core : ∀ H : Hp, Only H → SqL K H a (ns.map V.int) → HOk P w H s.heap →
      (∀ b u, H b = some u → b = a) → ((∃ u, H a = some u) → K.lookup a = none) →
      codeAny (model P w) callerA (.call (.ref fa) ⟨[.ref a], []⟩)
        (fun r s' => r = .ok (.ret (.bool true)) ∧ OldK s.heap s'.heap ∧ s'.os = s.os ∧ AllBare s'.gens) s := by
    intro H hO hS hok hA hK
    have dictFree : ∀ {b : Addr} {o : Obj} {es : Array DictEntry} {ep : Nat},
        s.heap.get? b = some o → o.data = .dict es ep → H b = none := by
      intro b o es ep e d
      cases q : H b with
      | none => rfl
      | some u =>
        rw [hA b u q, ha] at e
        cases e
        exact nomatch d
    have nsK : ∀ {b : Addr} {m : Str → Option Value}, s.heap.Ns b m → (hidT s.heap H).Ns b m := by
      rintro b m ⟨o, es, ep, e, d, r⟩
      exact ⟨o, es, ep, hidT_get e (dictFree e d), d, r⟩
    have hKb : K.In (hidT s.heap H) := by
      intro b o e
      refine hidT_get (KX b o e) ?_
      cases q : H b with
      | none => rfl
      | some u =>
        have eb := hA b u q
        rw [eb] at e q
        rw [hK ⟨u, q⟩] at e
        cases e
    have hM : Mod K mg (hidT s.heap H) :=
      ⟨hKb, nsK hns, ⟨mb, nsK hb, hbb⟩, let ⟨mc, h1, h2⟩ := nl; ⟨mc, nsK h1, h2⟩⟩
    have e0 : Env0 P w K mg (hidT s.heap H) callerA [] s H :=
      ⟨rfl, hM, fun b o e => of_hidT e, Nat.le_of_eq (hidT_size _ _), trivial, fun b z => (nomatch z), hok, .of_eq hg⟩
    refine codeAny_mono ((F _ hKb (nsK hns)).goes callerA [] s H ⟨[.ref a], []⟩ [.ref a] [.ref a] _ _ hr rfl
      e0 (bnd s (.ref a)) (.cons rfl .nil) (hsp H hO hS)) fun r s' h => ?_
    match r, h with
    | .error e, h => exact False.elim h
    | .ok .next, h => exact False.elim h
    | .ok .brk, h => exact False.elim h
    | .ok .cont, h => exact False.elim h
    | .ok (.ret u), h =>
      obtain ⟨v, H', os, bare, un, hok', r', q⟩ := h
      obtain rfl : v = .bl true := q
      obtain rfl : u = Value.bool true := r'
      refine ⟨rfl, OldK.of_keep fun b o e => ?_, os, bare⟩
      rcases hO b with z | ⟨ob, xs, z⟩
      · exact un.keep b o e z (fun m => (nomatch m)) (fun m => (nomatch m))
      · have z2 := un.frzs b ob _ z
        have e1 := (hok b _ z).1
        have e2 := (hok' b _ z2).1
        rw [e] at e1
        cases e1
        exact e2
  cases hk : K.lookup a with
  | some o =>
    have e := KX a o hk
    rw [ha] at e
    cases e
    refine core (fun _ => none) (fun _ => .inl rfl) (.inr ⟨_, vs.toArray, _, hk, rfl, rfl, rfl, ?_, by simpa using rv⟩)
      (fun b u z => (nomatch z)) (fun b u z => (nomatch z)) fun ⟨u, z⟩ => (nomatch z)
    rw [List.size_toArray, hi.length]
    exact hl
  | none =>
    let ob : Obj := { cls := .type "list", data := .seq vs.toArray }
    let G : Hp := fun b => if b = a then some (.frz ob (.lst (ns.map V.int))) else none
    have at_a : G a = some (.frz ob (.lst (ns.map V.int))) := if_pos rfl
    have off : ∀ b, b ≠ a → G b = none := fun b z => if_neg z
    refine core G (fun b => ?_) (.inl (.inr ⟨ob, at_a⟩)) (fun b u z => ?_) (fun b u z => ?_) fun _ => hk
    · by_cases hb : b = a
      · exact .inr ⟨ob, _, by rw [hb]; exact at_a⟩
      · exact .inl (off b hb)
    · by_cases hb : b = a
      · rw [hb, at_a] at z
        cases z
        rw [hb]
        exact ⟨ha, by rw [List.length_map]; exact hl, vs, _, rv, ha⟩
      · rw [off b hb] at z
        cases z
    · by_cases hb : b = a
      · exact hb
      · rw [off b hb] at z
        cases z

theorem walk_ofG {l : PySem.W.OpenLaw} {n k : Nat} {q : Program} {loose : List Str}
    {XP : (Str → Option Value) → Heap → Prop} {YP : World → Heap → Prop} {d : DefRec}
    {K : Params → PySem.W.Frag} {sp : World → Sp} {x : Str}
    (hn : l.most = some n) (hn2 : n ≤ sizeLine) (hdf : d.params.defaults = []) (hr : Room k callerA)
    (hY : ∀ (w : World) (h : Heap), YP w h → (K w.params).In h)
    (F : ∀ (w : World) (mg : Str → Option Value) (fa : Addr) (h : Heap), (K w.params).In h →
      h.Ns mainGlobals mg → mg d.name = some (.ref fa) →
      ∃ fd : FuncData, (∀ (s : Shared) (u : Value), BindsTo s fd ⟨[u], []⟩ [(x, u)]) ∧
        ∀ base : Heap, (K w.params).In base → base.Ns mainGlobals mg →
          FnG l.prog w (K w.params) mg base k fa fd [x] (sp w))
    (hsp : ∀ (w : World) (H : Hp) (a : Addr) (ns : List Int), ns.length ≤ n → Only H →
      SqL (K w.params) H a (ns.map V.int) → sp w [.ref a] H (fun v _ => v = .bl true) E0) :
    PySem.W.WalkO q loose XP YP l.row.toRowW d [] (fun f vs => PySem.call f vs) := by
  refine Att.attach_call hn hdf fun w s₀ s₁ mg mb fa o pm cd doc a vs ns G Y ho hd hcd hmg hobj hints hlen hg => ?_
  obtain ⟨fd, hb, hF⟩ := F w mg fa _ (hY w _ Y) G.T.g hmg
  exact law_callG (hY w _ Y) G.T.g G.T.b G.T.builtins G.T.nolimit hg hobj hints
    (Nat.le_trans hlen hn2) hr hF hb fun H hO hS => hsp w H a ns hlen hO hS
end TL
namespace TL
open PySem PySem.Spec PyProof.Rows L2

/-! ### repr of data -/
structure Shows (d : PyData) : Prop where
  can : d.showable = true
  nod : d.hasDict = false
  deep : d.depth ≤ 60
  fits : d.shown.length ≤ sizeLine
def rRepr (K : PySem.W.Frag) : List V → Hp → VK → Prop := fun xs H Q =>
  ∃ (y : V) (d : PyData), xs = [y] ∧ Dp K H y d ∧ Shows d ∧ Q (.str d.shown) H
section
variable {X : Cx}
theorem call_reprD (gd : X.A.guards = some []) (hu : X.A.units + 64 < cLine) :
    CallR X (.builtin "repr") (rRepr X.K) := by
  intro pins s σ H xs us Q I r h
  obtain ⟨y, d, rfl, hd, sh, q⟩ := h
  cases r with
  | cons r1 r2 =>
    rename_i u us'
    cases r2
    obtain ⟨as, rd⟩ := Dp.reads I d y u hd r1
    have big : ∀ a, u = Value.ref a → wpAny (model X.prog X.w) X.A (call (.builtin "repr") [u]) (EP X pins σ Q) X.xe s := by
      intro a e
      subst e
      refine repr_of_reads' rd sh.can (fun z => ?_) gd (by have := sh.deep; omega) (fun _ _ e => e) (fun h' u tk hk => ?_) sh.fits
      · rw [sh.nod] at z
        cases z
      · exact ⟨.str d.shown, H, I.kept (t' := tk) hk, ⟨u, rfl⟩, q⟩
    cases hd with
    | non =>
      obtain rfl : u = Value.none := r1
      rw [PyData.shown_none] at q
      exact PySem.P.repr_of_none ⟨.str _, H, I.tok _, ⟨_, rfl⟩, q⟩
    | bl b =>
      obtain rfl : u = Value.bool b := r1
      rw [PyData.shown_bool] at q
      exact PySem.P.repr_of_bool ⟨.str _, H, I.tok _, ⟨_, rfl⟩, q⟩
    | int i =>
      obtain ⟨t, rfl⟩ := r1
      rw [PyData.shown_int] at q
      exact PySem.P.repr_of_int (by have := sh.can; simpa [PyData.showable] using this) ⟨.str _, H, I.tok _, ⟨_, rfl⟩, q⟩
    | str x =>
      obtain ⟨t, rfl⟩ := r1
      have z := sh.fits
      rw [PyData.shown_str] at q z
      exact PySem.P.repr_of_str ⟨.str _, H, I.tok _, ⟨_, rfl⟩, q⟩ z
    | lst hs ha => exact big _ r1
    | tup hs ha => exact big _ r1
end

/-! ### t[::-1], t a tuple -/
section
variable {prog : Program} {w : World} {A : Around} {E : Value → Shared → Prop} {s : Shared}
theorem fm_congr {α β : Type} (f g : α → Option β) : ∀ l : List α, (∀ x ∈ l, f x = g x) → l.filterMap f = l.filterMap g
  | [], _ => rfl
  | a :: r, h => by
    rw [List.filterMap_cons, List.filterMap_cons, h a List.mem_cons_self, fm_congr f g r fun x hx => h x (List.mem_cons_of_mem _ hx)]
theorem places_back (n : Nat) : Builtin.Slice.slicePlaces ((n : Int) - 1) (-1) (-1) = n := by
  unfold Builtin.Slice.slicePlaces
  rw [if_neg (by decide)]
  by_cases h : (n : Int) - 1 > -1
  · rw [if_pos h]
    have e : ((n : Int) - 1 - -1 - 1) / (- -1) + 1 = (n : Int) := by
      rw [show (- -1 : Int) = 1 by decide, Int.ediv_one]
      omega
    rw [e]
    exact Int.toNat_natCast n
  · rw [if_neg h]
    show (0 : Nat) = n
    omega
theorem pick_back (xs : Array Value) :
    ((List.range xs.size).filterMap fun (m : Nat) => xs[((xs.size : Int) - 1 + (m : Int) * (-1)).toNat]?).toArray = xs.toList.reverse.toArray := by
  have e : (List.range xs.size).filterMap (fun (m : Nat) => xs[((xs.size : Int) - 1 + (m : Int) * (-1)).toNat]?)
      = ((List.range xs.size).map fun k => xs.size - 1 - k).filterMap (xs[·]?) := by
    rw [List.filterMap_map]
    refine fm_congr _ _ _ fun m hm => ?_
    have := List.mem_range.mp hm
    have q : ((xs.size : Int) - 1 + (m : Int) * (-1)).toNat = xs.size - 1 - m := by omega
    rw [q]
    rfl
  rw [e, PySem.W.krv_range, List.filterMap_reverse, PySem.W.krv_all]
theorem back_applied {sl : Addr} {vk : Value} {n : Nat} {Q : Int × Int × Nat → Shared → Prop}
    (hs : s.heap.IsSliceOf sl .none .none vk) (pk : IsPart vk (some (-1)))
    (h : Q ((n : Int) - 1, -1, n) s) : wpAny (model prog w) A (Builtin.Slice.sliceApplied (.ref sl) (pure (n : Int))) Q E s := by
  obtain ⟨os, hos, hcs, hds⟩ := id hs
  unfold Builtin.Slice.sliceApplied Builtin.Slice.sliceFields
  refine wpAny_bind (wpAny_bind (wpAny_field hos hds (x := .none) rfl (wpAny_bind (wpAny_field hos hds (x := .none) rfl
    (wpAny_bind (wpAny_field hos hds (x := vk) rfl (wpAny_pure ?_)))))))
  refine wpAny_bind (HT.slicePart_ pk ?_)
  show wpAny _ _ (if ((-1 : Int) == 0) = true then _ else _) _ _ s
  rw [if_neg (by decide)]
  refine wpAny_bind (slicePart_none (wpAny_bind (slicePart_none (wpAny_bind (wpAny_pure ?_)))))
  show wpAny _ _ (pure ((n : Int) - 1, (-1 : Int), Builtin.Slice.slicePlaces ((n : Int) - 1) (-1) (-1))) _ _ s
  rw [places_back]
  exact wpAny_pure h
theorem getItem_back {t sl : Addr} {items : Array Value} {vk : Value} {Q : Value → Shared → Prop}
    (ht : IsTup s.heap t items) (hs : s.heap.IsSliceOf sl .none .none vk) (pk : IsPart vk (some (-1)))
    (h : Q (.ref s.heap.objs.size) { s with heap := s.heap.push { cls := .type "tuple", data := .seq items.toList.reverse.toArray } })
    (hsz : items.size ≤ sizeLine) : wpAny (model prog w) A (getItem (.ref t) (.ref sl)) Q E s := by
  have hz : sizeOk (.seq items.toList.reverse.toArray) := by
    show items.toList.reverse.toArray.size ≤ sizeLine
    rw [List.size_toArray, List.length_reverse, Array.length_toList]
    exact hsz
  obtain ⟨os, hos, hcs, hds⟩ := id hs
  have hTs : s.TypeIs (.ref sl) "slice" := ⟨os, hos, hcs⟩
  unfold getItem
  try with_reducible refine wpAny_holding ?_
  first | refine wpAny_bind (wpAny_pure ?_) | skip
  refine wpAny_bind (wpAny_sequenceKey ht.typeIs (by decide) ?_)
  refine wpAny_bind (wpAny_callSpecial?_slot (name := Str.ofString "__getitem__") ht.typeIs
    PyProof.Rows.slot_tuple_getitem (wpAny_call_entry PyProof.Rows.slot_tuple_getitem ht.typeIs
      entry_tuple_getitem ?_ (args_tuple_getitem _ _)))
  show wpAny _ _ (Builtin.Tuple.tupleItemsOf (.ref t) >>= _) _ _ s
  refine wpAny_bind (tupleItemsOf_ ht (wpAny_bind (wpAny_typeOf hTs ?_)))
  rw [if_pos (by decide)]
  refine wpAny_bind (back_applied hs pk ?_)
  show wpAny _ _ (if (((items.size : Int) - 1 == 0) && ((-1 : Int) == 1) && (items.size == items.size)) = true then _ else _) _ _ s
  rw [if_neg (by rw [show ((-1 : Int) == 1) = false by decide, Bool.and_false, Bool.false_and]; decide), pick_back]
  first
    | exact wpAny_bind (m := Builtin.Tuple.tupleExact _) (wpAny_newObj_type (wpAny_pure ⟨_, rfl, wpAny_pure h⟩) hz)
    | exact wpAny_bind (m := Builtin.Tuple.tupleExact _) (wpAny_newObj_type (wpAny_bind (wpAny_pure (wpAny_pure ⟨_, rfl, wpAny_pure h⟩))) hz)
    | exact wpAny_bind (wpAny_bind (m := Builtin.Tuple.tupleExact _) (wpAny_newObj_type (wpAny_pure (wpAny_pure ⟨_, rfl, wpAny_pure h⟩)) hz))
    | exact wpAny_bind (wpAny_bind (m := Builtin.Tuple.tupleExact _) (wpAny_newObj_type (wpAny_pure ⟨_, rfl, wpAny_pure h⟩) hz))
end
section
variable {X : Cx}
def tRevT (K : PySem.W.Frag) (te : TE) : TE := fun σ H Q => te σ H fun x H1 =>
  ∃ a xs, x = .ref a ∧ SqT K H1 a xs ∧ ∀ p, H1 p = none → Q (.ref p) (upd H1 p (.tup xs.reverse))
theorem pe_revT {e : Expr} {te : TE} {k : Nat} {p1 p2 p3 pos : Pos} (he : PE X e te) :
    PE X (.Subscript e (.Slice none none (some (.UnaryOp .USub (.Constant (.int 1) k p1) p2)) p3) pos) (tRevT X.K te) := by
  refine ⟨fun pins s σ H Q I h => Subscript_ (thn (he.run pins s σ H _ I h) fun v s1 ⟨x, H1, I1, r1, q1⟩ => ?_)⟩
  obtain ⟨a, xs, ex, hx, q⟩ := q1
  subst ex
  cases r1
  have hst : PO X (some (.UnaryOp .USub (.Constant (.int 1) k p1) p2))
    (tPart (tUn (rU fun i => .int (-i)) (tC (.int 1)))) := po_some (pe_un un_neg pe_int)
  refine wpAny_Slice ?_
  rw [evalPart_none]
  refine wpAny_pure ?_
  refine wpAny_pure ?_
  refine thn (hst.run pins s1 σ H1 (fun o H4 => o = some (-1) ∧ H4 = H1) I1 ⟨1, rfl, -1, rfl, rfl, rfl⟩)
    fun vk s4 ⟨o, H4, I4, pk, eo, e4⟩ => ?_
  subst eo e4
  have I5 : Inv X pins σ H4 { s4 with heap := s4.heap.push { cls := .type "slice", data := .fields #[.none, .none, vk] } } :=
    I4.kept (t' := s4.toks) fun b ob q => Heap.get?_push_of_some _ q
  obtain ⟨its, r, ht, hz⟩ := I5.tuple hx
  have hlen := r.length
  refine tail_any (ops := [.ref a, .ref s4.heap.objs.size]) ht.typeIs PyProof.Rows.slot_tuple_getitem.lookup ?_ (by with_unfolding_all rfl)
  refine getItem_back ht (Heap.IsSliceOf.new _ .none .none vk) pk ?_ (by rw [List.size_toArray]; omega)
  refine ⟨.ref _, _, I5.laid (t' := s4.toks) (o := .tup xs.reverse) (fun b ob q => Heap.get?_push_of_some _ q) (Nat.le_refl _) ?_,
    rfl, q _ (I5.hok.fresh (Nat.le_refl _))⟩
  exact ⟨by rw [List.length_reverse]; exact hz, _, r.reverse, IsTup.new _ _⟩
end
/-! ### the rules with the written part as a letter of its own (within comprehensions) -/
section
variable {X : Cx}
theorem ixTK (K : PySem.W.Frag) (h : X.K = K := by rfl) : IxR X (rIxT K) := h ▸ ix_tup
theorem ixLK (K : PySem.W.Frag) (h : X.K = K := by rfl) : IxR X (rIxL K) := h ▸ ix_list
def rLenK (K : PySem.W.Frag) : List V → Hp → VK → Prop := fun xs H Q => ∃ p ys, xs = [.ref p] ∧ (SqL K H p ys ∨ SqT K H p ys) ∧ Q (.int ys.length) H
theorem lenK (K : PySem.W.Frag) (h : X.K = K := by rfl) : CallR X (.builtin "len") (rLenK K) := h ▸ call_len_seq
def rTupK (K : PySem.W.Frag) : List V → Hp → VK → Prop := fun xs H Q => ∃ p ys, xs = [.ref p] ∧
  ((SqL K H p ys ∧ ∀ l, H l = none → Q (.ref l) (upd H l (.tup ys))) ∨ (SqT K H p ys ∧ Q (.ref p) H))
theorem tupleK (K : PySem.W.Frag) (h : X.K = K := by rfl) : CallR X (.type "tuple") (rTupK K) := h ▸ call_tuple_of
theorem catAK (K : PySem.W.Frag) (h : X.K = K := by rfl) : OpR X (binaryOp .Add) (rCatA K) := h ▸ op_catA
theorem revTK (K : PySem.W.Frag) {e : Expr} {te : TE} {k : Nat} {p1 p2 p3 pos : Pos} (he : PE X e te) (h : X.K = K := by rfl) :
    PE X (.Subscript e (.Slice none none (some (.UnaryOp .USub (.Constant (.int 1) k p1) p2)) p3) pos) (tRevT K te) := h ▸ pe_revT he
theorem reprK (K : PySem.W.Frag) (gd : X.A.guards = some []) (hu : X.A.units + 64 < cLine) (h : X.K = K := by rfl) :
    CallR X (.builtin "repr") (rRepr K) := h ▸ call_reprD gd hu
end
end TL
namespace TL
open PySem PySem.Spec PyProof.Rows L2

/-! ### heaps -/
theorem same_upd {H : Hp} {p : Addr} {o : HO} (h : H p = none) : Same H (upd H p o) := fun b x e => by
  rw [upd_ne (ne_of_none e h)]
  exact e
theorem same_at {H : Hp} {p : Addr} {o : HO} (_ : H p = none) : upd H p o p = some o := upd_same
theorem Same.tup {K : PySem.W.Frag} {H H' : Hp} {a : Addr} {xs : List V} (e : Same H H') (h : SqT K H a xs) : SqT K H' a xs := by
  rcases h with (h | ⟨o, h⟩) | h
  · exact .inl (.inl (e _ _ h))
  · exact .inl (.inr ⟨o, e _ _ h⟩)
  · exact .inr h
/-- every tuple stays -/
def KT (K : PySem.W.Frag) (H H' : Hp) : Prop := ∀ a xs, SqT K H a xs → SqT K H' a xs
theorem KT.refl {K : PySem.W.Frag} {H : Hp} : KT K H H := fun _ _ h => h
theorem KT.trans {K : PySem.W.Frag} {H H1 H2 : Hp} (a : KT K H H1) (b : KT K H1 H2) : KT K H H2 := fun c o h => b c o (a c o h)
theorem Same.kt {K : PySem.W.Frag} {H H' : Hp} (e : Same H H') : KT K H H' := fun _ _ h => Same.tup e h
/-- all but what stands at d and l is as it was -/
def Fm (d l : Addr) (H H' : Hp) : Prop := ∀ b o, b ≠ d → b ≠ l → H b = some o → H' b = some o
theorem Fm.refl {d l : Addr} {H : Hp} : Fm d l H H := fun _ _ _ _ h => h
theorem Fm.trans {d l : Addr} {H H1 H2 : Hp} (a : Fm d l H H1) (b : Fm d l H1 H2) : Fm d l H H2 :=
  fun c o h1 h2 h => b c o h1 h2 (a c o h1 h2 h)
theorem Same.fm {d l : Addr} {H H' : Hp} (e : Same H H') : Fm d l H H' := fun b o _ _ h => e b o h

/-! ### the deck: a list of cells and a count -/
def Deck (H : Hp) (d l : Addr) (n : Nat) : Prop := ∃ (c : Nat) (ns : List Int), c ≤ n ∧
  H d = some (.lst [.ref l, .int (c : Int)]) ∧ H l = some (.lst (ns.map V.int)) ∧ (∀ z ∈ ns, 0 ≤ z) ∧ ns.length ≤ 63
theorem Deck.ne {H : Hp} {d l : Addr} {n : Nat} (h : Deck H d l n) : d ≠ l := by
  obtain ⟨c, ns, _, h1, h2, _⟩ := h
  intro e
  rw [e, h2] at h1
  cases ns with
  | nil => cases h1
  | cons z r => cases h1
theorem Deck.same {H H' : Hp} {d l : Addr} {n : Nat} (h : Deck H d l n) (e : Same H H') : Deck H' d l n := by
  obtain ⟨c, ns, hc, h1, h2, h3⟩ := h
  exact ⟨c, ns, hc, e _ _ h1, e _ _ h2, h3⟩
theorem Deck.le {H : Hp} {d l : Addr} {n m : Nat} (h : Deck H d l n) (e : n ≤ m) : Deck H d l m := by
  obtain ⟨c, ns, hc, h3⟩ := h
  exact ⟨c, ns, Nat.le_trans hc e, h3⟩
theorem Fm.kt {K : PySem.W.Frag} {H H' : Hp} {d l : Addr} {n : Nat} (e : Fm d l H H') (h : Deck H d l n) : KT K H H' := by
  obtain ⟨c, ns, hc, h1, h2, h3⟩ := h
  intro a xs q
  rcases q with (q | ⟨o, q⟩) | q
  · refine .inl (.inl (e _ _ (fun z => ?_) (fun z => ?_) q))
    · rw [z, h1] at q; cases q
    · rw [z, h2] at q; cases q
  · refine .inl (.inr ⟨o, e _ _ (fun z => ?_) (fun z => ?_) q⟩)
    · rw [z, h1] at q; cases q
    · rw [z, h2] at q; cases q
  · exact .inr q
/-- a tracked thing that is neither -/
theorem Deck.off {H : Hp} {d l a : Addr} {n : Nat} (h : Deck H d l n) (ha : H a = none) : a ≠ d ∧ a ≠ l := by
  obtain ⟨c, ns, hc, h1, h2, h3⟩ := h
  exact ⟨fun z => (by rw [z, h1] at ha; cases ha), fun z => (by rw [z, h2] at ha; cases ha)⟩

theorem Deck.put {H : Hp} {d l a : Addr} {n : Nat} {o : HO} (h : Deck H d l n) (h1 : a ≠ d) (h2 : a ≠ l) : Deck (upd H a o) d l n := by
  obtain ⟨c, ns, hc, e1, e2, h3⟩ := h
  exact ⟨c, ns, hc, by rw [upd_ne h1.symm]; exact e1, by rw [upd_ne h2.symm]; exact e2, h3⟩
theorem kt_lst {K : PySem.W.Frag} {H : Hp} {a : Addr} {xs ys : List V} (h : H a = some (.lst xs)) : KT K H (upd H a (.lst ys)) := by
  intro b zs q
  rcases q with (q | ⟨o, q⟩) | q
  · refine .inl (.inl ?_)
    rw [upd_ne fun z => by rw [z, h] at q; cases q]
    exact q
  · refine .inl (.inr ⟨o, ?_⟩)
    rw [upd_ne fun z => by rw [z, h] at q; cases q]
    exact q
  · exact .inr q

/-! ### data -/
mutual
def only : PyData → Bool
  | .none => true
  | .bool _ => true
  | .int _ => true
  | .str _ => true
  | .tuple xs => onlyAll xs
  | .list _ => false
  | .dict _ => false
def onlyAll : List PyData → Bool
  | [] => true
  | x :: xs => only x && onlyAll xs
end
section
variable {K : PySem.W.Frag} {H H' : Hp}
mutual
theorem Dp.kt (e : KT K H H') : ∀ {v : V} {d : PyData}, Dp K H v d → only d = true → Dp K H' v d
  | _, _, .non, _ => .non
  | _, _, .bl b, _ => .bl b
  | _, _, .int i, _ => .int i
  | _, _, .str x, _ => .str x
  | _, _, .lst h a, o => by
    unfold only at o
    cases o
  | _, _, .tup h a, o => .tup (e _ _ h) (DpAll.kt e a (by unfold only at o; exact o))
theorem DpAll.kt (e : KT K H H') : ∀ {v : List V} {d : List PyData}, DpAll K H v d → onlyAll d = true → DpAll K H' v d
  | _, _, .nil, _ => .nil
  | _, _, .cons h a, o => by
    unfold onlyAll at o
    rw [Bool.and_eq_true] at o
    exact .cons (Dp.kt e h o.1) (DpAll.kt e a o.2)
end
mutual
theorem Dp.same (e : Same H H') : ∀ {v : V} {d : PyData}, Dp K H v d → Dp K H' v d
  | _, _, .non => .non
  | _, _, .bl b => .bl b
  | _, _, .int i => .int i
  | _, _, .str x => .str x
  | _, _, .lst h a => .lst (e.seq h) (DpAll.same e a)
  | _, _, .tup h a => .tup (Same.tup e h) (DpAll.same e a)
theorem DpAll.same (e : Same H H') : ∀ {v : List V} {d : List PyData}, DpAll K H v d → DpAll K H' v d
  | _, _, .nil => .nil
  | _, _, .cons h a => .cons (Dp.same e h) (DpAll.same e a)
end
theorem DpAll.length : ∀ {v : List V} {d : List PyData}, DpAll K H v d → v.length = d.length
  | _, _, .nil => rfl
  | _, _, .cons _ a => congrArg (· + 1) (DpAll.length a)
theorem DpAll.append : ∀ {v u : List V} {d e : List PyData}, DpAll K H v d → DpAll K H u e → DpAll K H (v ++ u) (d ++ e)
  | _, _, _, _, .nil, b => b
  | _, _, _, _, .cons h a, b => .cons h (DpAll.append a b)
theorem DpAll.reverse : ∀ {v : List V} {d : List PyData}, DpAll K H v d → DpAll K H v.reverse d.reverse
  | _, _, .nil => .nil
  | _, _, .cons h a => by
    rw [List.reverse_cons, List.reverse_cons]
    exact DpAll.append (DpAll.reverse a) (.cons h .nil)
theorem DpAll.get : ∀ {v : List V} {d : List PyData} {i : Nat} {x : V}, DpAll K H v d → v[i]? = some x → ∃ z, d[i]? = some z ∧ Dp K H x z
  | _, _, _, _, .nil, q => by simp at q
  | _, _, 0, _, .cons h a, q => by
    rw [List.getElem?_cons_zero] at q
    cases q
    exact ⟨_, List.getElem?_cons_zero, h⟩
  | _, _, i + 1, _, .cons h a, q => by
    rw [List.getElem?_cons_succ] at q
    obtain ⟨z, e, r⟩ := DpAll.get a q
    exact ⟨z, by rw [List.getElem?_cons_succ]; exact e, r⟩
theorem Dp.tupI {v : V} {ds : List PyData} (h : Dp K H v (.tuple ds)) : ∃ a xs, v = .ref a ∧ SqT K H a xs ∧ DpAll K H xs ds := by
  cases h with
  | tup h a => exact ⟨_, _, rfl, h, a⟩
theorem Dp.lstI {v : V} {ds : List PyData} (h : Dp K H v (.list ds)) : ∃ a xs, v = .ref a ∧ SqL K H a xs ∧ DpAll K H xs ds := by
  cases h with
  | lst h a => exact ⟨_, _, rfl, h, a⟩
theorem Dp.intI {v : V} {i : Int} (h : Dp K H v (.int i)) : v = .int i := by
  cases h
  rfl
theorem DpAll.ints : ∀ {xs : List V} {ns : List Int}, DpAll K H xs (ns.map .int) → xs = ns.map V.int
  | [], [], _ => rfl
  | _ :: _, n :: ns, .cons h a => by
    rw [Dp.intI h, DpAll.ints a]
    rfl
theorem DpAll.of_ints : ∀ (ns : List Int), DpAll K H (ns.map V.int) (ns.map .int)
  | [] => .nil
  | n :: ns => .cons (.int n) (DpAll.of_ints ns)
end

/-! ### pairs of ints -/
def prD (p : Int × Int) : PyData := .tuple [.int p.1, .int p.2]
def prsD (ps : List (Int × Int)) : PyData := .tuple (ps.map prD)
theorem only_pr (p : Int × Int) : only (prD p) = true := by simp [prD, only, onlyAll]
theorem only_prs : ∀ ps : List (Int × Int), onlyAll (ps.map prD) = true
  | [] => by simp [onlyAll]
  | p :: ps => by simp [onlyAll, only_pr p, only_prs ps]
theorem only_prsD (ps : List (Int × Int)) : only (prsD ps) = true := by
  unfold prsD only
  exact only_prs ps
section
variable {K : PySem.W.Frag} {H : Hp}
theorem Dp.prI {v : V} {p : Int × Int} (h : Dp K H v (prD p)) : ∃ a, v = .ref a ∧ SqT K H a [.int p.1, .int p.2] := by
  obtain ⟨a, xs, e, h1, h2⟩ := Dp.tupI h
  have q : xs = [p.1, p.2].map V.int := DpAll.ints (ns := [p.1, p.2]) h2
  subst q
  exact ⟨a, e, h1⟩
theorem Dp.pr {a : Addr} {i j : Int} (h : SqT K H a [.int i, .int j]) : Dp K H (.ref a) (prD (i, j)) :=
  .tup h (.cons (.int i) (.cons (.int j) .nil))
end

/-! ### showing small data -/
def sm (i : Int) : Prop := -1000 ≤ i ∧ i ≤ 1000
theorem sm_log {i : Int} (h : sm i) : i.natAbs.log2 < 10 := by
  have h2 : i.natAbs < 2 ^ 10 := by
    unfold sm at h
    omega
  exact PySem.Flt.log2_lt_of (by decide) h2
structure Sm (d : PyData) (n k : Nat) : Prop where
  can : d.showable = true
  nod : d.hasDict = false
  deep : d.depth ≤ k
  short : d.leavesShort 13 = true
  light : d.weight ≤ n
theorem Sm.shows {d : PyData} {n k : Nat} (h : Sm d n k) (hn : n ≤ 1000000) (hk : k ≤ 60) : Shows d :=
  ⟨h.can, h.nod, Nat.le_trans h.deep hk, PyData.shown_fits (by decide) (by decide) h.short (Nat.le_trans h.light (by omega))⟩
theorem Sm.le {d : PyData} {n k m j : Nat} (h : Sm d n k) (hn : n ≤ m) (hk : k ≤ j) : Sm d m j :=
  ⟨h.can, h.nod, Nat.le_trans h.deep hk, h.short, Nat.le_trans h.light hn⟩
theorem Sm.none : Sm .none 0 0 := ⟨rfl, rfl, Nat.le_refl _, rfl, Nat.le_refl _⟩
theorem Sm.bool (b : Bool) : Sm (.bool b) 0 0 := ⟨rfl, rfl, Nat.le_refl _, rfl, Nat.le_refl _⟩
theorem Sm.int {i : Int} (h : sm i) : Sm (.int i) 10 0 := by
  have h1 := sm_log h
  refine ⟨?_, by simp [PyData.hasDict], by simp [PyData.depth], ?_, ?_⟩
  · simp only [PyData.showable]
    exact decide_eq_true (by omega)
  · simp only [PyData.leavesShort]
    exact decide_eq_true (PyData.shown_int_le (by unfold sm at h; omega))
  · simp only [PyData.weight]
    split <;> omega
structure SmA (ds : List PyData) (n k : Nat) : Prop where
  can : PyData.showableAll ds = true
  nod : PyData.hasDictAll ds = false
  deep : PyData.depthAll ds ≤ k
  short : PyData.leavesShortAll 13 ds = true
  light : PyData.weightAll ds ≤ ds.length * (n + 1)
theorem SmA.of {n k : Nat} : ∀ {ds : List PyData}, (∀ d ∈ ds, Sm d n k) → SmA ds n k
  | [], _ => ⟨rfl, rfl, by simp [PyData.depthAll], rfl, by simp [PyData.weightAll]⟩
  | d :: ds, h => by
    have h1 := h d List.mem_cons_self
    have h2 := SmA.of (n := n) (k := k) fun e he => h e (List.mem_cons_of_mem _ he)
    refine ⟨?_, ?_, ?_, ?_, ?_⟩
    · simp only [PyData.showableAll, h1.can, h2.can, Bool.and_self]
    · simp only [PyData.hasDictAll, h1.nod, h2.nod, Bool.or_self]
    · simp only [PyData.depthAll]
      exact Nat.max_le.mpr ⟨h1.deep, h2.deep⟩
    · simp only [PyData.leavesShortAll, h1.short, h2.short, Bool.and_self]
    · have a := h1.light
      have b := h2.light
      simp only [PyData.weightAll, List.length_cons, Nat.add_mul, Nat.one_mul]
      omega
theorem Sm.tup {n k m : Nat} {ds : List PyData} (h : ∀ d ∈ ds, Sm d n k) (hm : ds.length ≤ m) : Sm (.tuple ds) (m * (n + 1)) (k + 1) := by
  have q := SmA.of h
  have z : ds.length * (n + 1) ≤ m * (n + 1) := Nat.mul_le_mul_right _ hm
  refine ⟨?_, ?_, ?_, ?_, ?_⟩
  · simp only [PyData.showable]; exact q.can
  · simp only [PyData.hasDict]; exact q.nod
  · simp only [PyData.depth]; have := q.deep; omega
  · simp only [PyData.leavesShort]; exact q.short
  · simp only [PyData.weight]; exact Nat.le_trans q.light z
theorem Sm.lst {n k m : Nat} {ds : List PyData} (h : ∀ d ∈ ds, Sm d n k) (hm : ds.length ≤ m) : Sm (.list ds) (m * (n + 1)) (k + 1) := by
  have q := SmA.of h
  have z : ds.length * (n + 1) ≤ m * (n + 1) := Nat.mul_le_mul_right _ hm
  refine ⟨?_, ?_, ?_, ?_, ?_⟩
  · simp only [PyData.showable]; exact q.can
  · simp only [PyData.hasDict]; exact q.nod
  · simp only [PyData.depth]; have := q.deep; omega
  · simp only [PyData.leavesShort]; exact q.short
  · simp only [PyData.weight]; exact Nat.le_trans q.light z
def smP (p : Int × Int) : Prop := sm p.1 ∧ sm p.2
theorem Sm.pr {p : Int × Int} (h : smP p) : Sm (prD p) 22 1 :=
  Sm.tup (n := 10) (k := 0) (m := 2) (fun d hd => by
    rcases List.mem_cons.mp hd with rfl | hd
    · exact Sm.int h.1
    · rcases List.mem_cons.mp hd with rfl | hd
      · exact Sm.int h.2
      · exact nomatch hd) (Nat.le_refl _)
theorem Sm.prs {ps : List (Int × Int)} {m : Nat} (h : ∀ p ∈ ps, smP p) (hm : ps.length ≤ m) : Sm (prsD ps) (m * 23) 2 :=
  Sm.tup (n := 22) (k := 1) (m := m) (fun d hd => by
    obtain ⟨p, hp, rfl⟩ := List.mem_map.mp hd
    exact Sm.pr (h p hp)) (by rw [List.length_map]; exact hm)
end TL
namespace TL
open PySem PySem.Spec PyProof.Rows L2
theorem yesI {σ : L2.St} {H : Hp} {Q : Bool → Hp → Prop} (h : Q true H) : tYes σ H Q := h
/-- what a comprehension asks of its turns -/
def LcGoal (J : It) (g : TG) (tt : TT) (te : TE) (vs : List Nat) (σ : L2.St) (H1 : Hp) (D : Addr) (Qd : Hp → Prop) : Prop :=
  ∃ W : Nat → Nat → Hp → Prop, (∃ m, W 0 m (upd H1 D (.lst []))) ∧ ∀ i m H, W i m H →
    (J.stop i H ∧ Qd H) ∨
    (J.go i H ∧ ∃ Nx : Hp → Prop, (∀ H', Nx H' → ∃ m', m' < m ∧ W (i + 1) m' H') ∧
      ∀ x H', J.yld i H x H' → g x (wipe σ vs) H' fun σ2 H2 =>
        wipe σ2 vs = wipe σ vs ∧ tt σ2 H2 fun b H3 =>
          if b = true then
            te σ2 H3 fun y H4 => ∃ acc, H4 D = some (.lst acc) ∧ acc.length < sizeLine ∧ Nx (upd H4 D (.lst (acc ++ [y])))
          else Nx H3)
/-- by the number of turns -/
theorem lc_by {J : It} {g : TG} {tt : TT} {te : TE} {vs : List Nat} {σ : L2.St} {H1 : Hp} {D : Addr} {Qd : Hp → Prop} (n : Nat)
    (Pv : Nat → Hp → Prop) (h0 : Pv 0 (upd H1 D (.lst []))) (hgo : ∀ i H, i < n → Pv i H → J.go i H) (hst : ∀ H, Pv n H → J.stop n H)
    (hs : ∀ i x H H', i < n → Pv i H → J.yld i H x H' → g x (wipe σ vs) H' fun σ2 H2 =>
      wipe σ2 vs = wipe σ vs ∧ tt σ2 H2 fun b H3 =>
        if b = true then
          te σ2 H3 fun y H4 => ∃ acc, H4 D = some (.lst acc) ∧ acc.length < sizeLine ∧ Pv (i + 1) (upd H4 D (.lst (acc ++ [y])))
        else Pv (i + 1) H3)
    (hd : ∀ H, Pv n H → Qd H) : LcGoal J g tt te vs σ H1 D Qd := by
  refine ⟨fun i m H => m = n - i ∧ i ≤ n ∧ Pv i H, ⟨n, rfl, Nat.zero_le _, h0⟩, fun i m H hW => ?_⟩
  obtain ⟨e, hi, p⟩ := hW
  by_cases hlt : i < n
  · refine .inr ⟨hgo i H hlt p, Pv (i + 1), fun H' p' => ⟨n - (i + 1), by omega, rfl, hlt, p'⟩, fun x H' y => hs i x H H' hlt p y⟩
  · obtain rfl : i = n := by omega
    exact .inl ⟨hst H p, hd H p⟩
/-- over reversed(a tuple) -/
theorem lc_revT {K : PySem.W.Frag} {a : Addr} {xs : List V} {g : TG} {tt : TT} {te : TE} {vs : List Nat} {σ : L2.St} {H1 : Hp} {D : Addr} {Qd : Hp → Prop}
    (Pv : Nat → Hp → Prop) (h0 : Pv 0 (upd H1 D (.lst []))) (hl : ∀ i H, Pv i H → SqT K H a xs)
    (hs : ∀ i x H, i < xs.length → xs[xs.length - 1 - i]? = some x → Pv i H → g x (wipe σ vs) H fun σ2 H2 =>
      wipe σ2 vs = wipe σ vs ∧ tt σ2 H2 fun b H3 =>
        if b = true then
          te σ2 H3 fun y H4 => ∃ acc, H4 D = some (.lst acc) ∧ acc.length < sizeLine ∧ Pv (i + 1) (upd H4 D (.lst (acc ++ [y])))
        else Pv (i + 1) H3)
    (hd : ∀ H, Pv xs.length H → Qd H) : LcGoal (RT.ItvT K a xs.length) g tt te vs σ H1 D Qd := by
  refine lc_by xs.length Pv h0 (fun i H hi p => ?_) (fun H p => Nat.le_refl _) (fun i x H H' hi p y => ?_) hd
  · have hj : xs.length - 1 - i < xs.length := by omega
    exact ⟨hi, xs, _, hl i H p, List.getElem?_eq_getElem hj⟩
  · obtain ⟨e, hy⟩ := y
    subst e
    exact hs i x _ hi (hy xs (hl i _ p)) p
end TL
namespace TL
open PySem PySem.Spec PyProof.Rows L2
/-! ### sorted, of any alike data -/
theorem each_of {K : PySem.W.Frag} {H : Hp} {β : Type} (enc : β → PyData) : ∀ {xs : List V} {us : List Value} {bs : List β},
    Vals xs us → DpAll K H xs (bs.map enc) → PySem.W.EachIs (fun (u : Value) (b : β) => ∃ x, RelV x u ∧ Dp K H x (enc b)) us bs
  | _, _, [], .nil, _ => .nil
  | _, _, _ :: _, .nil, h => nomatch h
  | _, _, [], .cons _ _, h => nomatch h
  | _, _, b :: bs, .cons r t, .cons h a => .cons ⟨_, r, h⟩ (each_of enc t a)
theorem of_each {K : PySem.W.Frag} {H : Hp} {β : Type} (enc : β → PyData) : ∀ {us : List Value} {bs : List β},
    PySem.W.EachIs (fun (u : Value) (b : β) => ∃ x, RelV x u ∧ Dp K H x (enc b)) us bs → ∃ ys, Vals ys us ∧ DpAll K H ys (bs.map enc)
  | _, _, .nil => ⟨[], .nil, .nil⟩
  | _, _, .cons ⟨x, r, h⟩ t => by
    obtain ⟨ys, a, b⟩ := of_each enc t
    exact ⟨x :: ys, .cons r a, .cons h b⟩
@[irreducible] def rSortD (K : PySem.W.Frag) : List V → Hp → VK → Prop := fun vs H Q => ∃ (β : Type) (enc : β → PyData) (bs : List β) (a : Addr) (xs : List V),
  vs = [.ref a] ∧ SqL K H a xs ∧ DpAll K H xs (bs.map enc) ∧ PySem.W.AllAlike (bs.map enc) ∧ PySem.W.Sortable (bs.map enc) ∧ (∀ b ∈ bs, (enc b).depth ≤ 50) ∧
  ∀ p ys, H p = none → DpAll K H ys ((bs.mergeSort (PySem.W.dataLe false enc)).map enc) → Q (.ref p) (upd H p (.lst ys))
section
variable {X : Cx}
theorem sorted_D (hu : X.A.units + 64 < cLine) : CallR X (.builtin "sorted") (rSortD X.K) := by
  intro pins s σ H vs us Q I r h
  unfold rSortD at h
  obtain ⟨β, enc, bs, a, xs, rfl, hs, ha, al, so, dp, q⟩ := h
  cases r with
  | cons r1 r2 =>
    cases r2
    rename_i u
    obtain rfl : u = Value.ref a := r1
    obtain ⟨its, rv, hl, hz⟩ := I.list hs
    have e1 := each_of enc rv ha
    have lb : xs.length = bs.length := by rw [DpAll.length ha, List.length_map]
    have e2 : PySem.W.EachIs (fun v b => ∃ as, Reads s.heap v (enc b) as) its bs :=
      e1.mono fun u b ⟨x, rx, hx⟩ => Dp.reads I _ x u hx rx
    refine PySem.W.sorted_data hl.isList e1 e2 al so (by omega) (fun b hb => by have := dp b hb; omega) fun out hlen eo => ?_
    obtain ⟨ys, ry, dy⟩ := of_each enc eo
    obtain ⟨c, hc⟩ := PyProof.Rows.sortedAll_at s.heap its out.toArray
    have fr : H (s.heap.objs.size + 1) = none := I.hok.fresh (Nat.le_succ _)
    refine ⟨.ref (s.heap.objs.size + 1), upd H (s.heap.objs.size + 1) (.lst ys), I.laid (t' := s.toks) (fun _ _ => PyProof.Rows.sortedAll_old) (Nat.le_succ _) ?_, rfl, q _ ys fr dy⟩
    exact ⟨by have := ry.length; omega, out, c, ry, hc⟩
/-! ### in, of data -/
def rInDt (K : PySem.W.Frag) (neg : Bool) : R2 := fun x y H Q => ∃ d ds, Dp K H x d ∧ (Dp K H y (.list ds) ∨ Dp K H y (.tuple ds)) ∧
  PyData.canLayAll0 ds = true ∧ d.canLay0 = true ∧ d.depth ≤ 50 ∧ Q (.bl (if neg then !(ds.any fun z => PyData.eqv z d) else ds.any fun z => PyData.eqv z d)) H
theorem room_in {d : PyData} {ds : List PyData} {u : Nat} (h : d.depth ≤ 50) (hu : u + 64 < cLine) : u + 1 + min (PyData.depthAll ds) d.depth < cLine := by
  have : min (PyData.depthAll ds) d.depth ≤ 50 := Nat.le_trans (Nat.min_le_right _ _) h
  omega
theorem op_inDt (hu : X.A.units + 64 < cLine) : OpR X (compareOp .In) (rInDt X.K false) := by
  intro pins s σ H x y v u Q I rx ry h
  obtain ⟨d, ds, hd, he, c1, c2, dp, q⟩ := h
  obtain ⟨as, r1⟩ := Dp.reads I d x v hd rx
  rcases he with he | he
  · obtain ⟨bs, r2⟩ := Dp.reads I _ y u he ry
    exact SeqAt.in_list_reads r2 r1 c1 c2 (room_in dp hu) ⟨.bl _, H, I, rfl, q⟩
  · obtain ⟨bs, r2⟩ := Dp.reads I _ y u he ry
    exact SeqAt.in_tuple_reads r2 r1 c1 c2 (room_in dp hu) ⟨.bl _, H, I, rfl, q⟩
theorem op_notInDt (hu : X.A.units + 64 < cLine) : OpR X (compareOp .NotIn) (rInDt X.K true) := by
  intro pins s σ H x y v u Q I rx ry h
  obtain ⟨d, ds, hd, he, c1, c2, dp, q⟩ := h
  obtain ⟨as, r1⟩ := Dp.reads I d x v hd rx
  rcases he with he | he
  · obtain ⟨bs, r2⟩ := Dp.reads I _ y u he ry
    exact SeqAt.notIn_list_reads r2 r1 c1 c2 (room_in dp hu) ⟨.bl _, H, I, rfl, q⟩
  · obtain ⟨bs, r2⟩ := Dp.reads I _ y u he ry
    exact SeqAt.notIn_tuple_reads r2 r1 c1 c2 (room_in dp hu) ⟨.bl _, H, I, rfl, q⟩
/-! ### the written part as a letter -/
theorem sortK (K : PySem.W.Frag) (hu : X.A.units + 64 < cLine) (h : X.K = K := by rfl) : CallR X (.builtin "sorted") (rSortD K) := h ▸ sorted_D hu
theorem inDK (K : PySem.W.Frag) (hu : X.A.units + 64 < cLine) (h : X.K = K := by rfl) : OpR X (compareOp .In) (rInDt K false) := h ▸ op_inDt hu
theorem notInDK (K : PySem.W.Frag) (hu : X.A.units + 64 < cLine) (h : X.K = K := by rfl) : OpR X (compareOp .NotIn) (rInDt K true) := h ▸ op_notInDt hu
theorem inK (K : PySem.W.Frag) (h : X.K = K := by rfl) : OpR X (compareOp .In) (rIn K false) := h ▸ op_in_seq
theorem notInK (K : PySem.W.Frag) (h : X.K = K := by rfl) : OpR X (compareOp .NotIn) (rIn K true) := h ▸ op_notIn_seq
theorem eqDK (K : PySem.W.Frag) (hu : X.A.units + 64 < cLine) (h : X.K = K := by rfl) : OpR X (compareOp .Eq) (rEqD K) := h ▸ op_eqD hu
theorem neDK (K : PySem.W.Frag) (hu : X.A.units + 64 < cLine) (h : X.K = K := by rfl) : OpR X (compareOp .NotEq) (rNeD K) := h ▸ op_neD hu
theorem anyK (K : PySem.W.Frag) (hc : X.calm = true) (h : X.K = K := by rfl) : CallR X (.builtin "any") (rAny K) := h ▸ cr_any hc
def rListK (K : PySem.W.Frag) : List V → Hp → VK → Prop := fun xs H Q => ∃ p ys, xs = [.ref p] ∧ (SqL K H p ys ∨ SqT K H p ys) ∧ ∀ l, H l = none → Q (.ref l) (upd H l (.lst ys))
theorem listK (K : PySem.W.Frag) (h : X.K = K := by rfl) : CallR X (.type "list") (rListK K) := h ▸ call_list_of
theorem slTK (K : PySem.W.Frag) (h : X.K = K := by rfl) : SlR X (rSlA K) := h ▸ sl_tupA
theorem slLK (K : PySem.W.Frag) (h : X.K = K := by rfl) : SlR X (rSlL K) := h ▸ sl_list
end
end TL
namespace TL
open PySem PySem.Spec PyProof.Rows L2
/-- a def of the text by its name, with its promise -/
structure Own (P : Program) (w : World) (K : PySem.W.Frag) (mg : Str → Option Value) (base : Heap)
    (x : Str) (k : Nat) (ps : List Str) (sp : Sp) : Prop where
  ex : ∃ (f : Addr) (fd : FuncData), FnOk P w K mg base CX0 k f fd ps sp ∧ mg x = some (.ref f) ∧
    PySem.W.keepIn K (.ref f) = true ∧ Binds K fd ps []
/-- .. that shows data -/
structure OwnG (P : Program) (w : World) (K : PySem.W.Frag) (mg : Str → Option Value) (base : Heap)
    (x : Str) (k : Nat) (ps : List Str) (sp : Sp) : Prop where
  ex : ∃ (f : Addr) (fd : FuncData), FnG P w K mg base k f fd ps sp ∧ mg x = some (.ref f) ∧
    PySem.W.keepIn K (.ref f) = true ∧ Binds K fd ps []
section
variable {X : Cx} {k : Nat} {ps : List Str} {sp : Sp} {x : Str} {p pos : Pos} {e : Expr} {es : List Expr} {t : TA}
theorem pe_own (O : Own X.prog X.w X.K X.mg X.base x k ps sp) (hr : Room k X.A) (hg : Gl X x) (ha : PA X (e :: es) t)
    (hdb : (x == ("__debug__" : Str)) = false := by decide)
    (he : starEach (e :: es) X.env = (false, eval e X.env) :: starEach es X.env := by rfl)
    (hpl : (backTo pos (starEach es X.env)).any (·.1) = false := by rfl) :
    PE X (.Call (.Name x p) (e :: es) [] pos) (tCall sp [] E0 t) := by
  obtain ⟨f, fd, F, hm, hk, hb⟩ := O.ex
  exact pe_call F hr hg hm hk hb .nil pass0 ha hdb he hpl
theorem pe_ownG (O : OwnG X.prog X.w X.K X.mg X.base x k ps sp) (hr : Room k X.A) (gd : X.A.guards = some []) (hg : Gl X x) (ha : PA X (e :: es) t)
    (hdb : (x == ("__debug__" : Str)) = false := by decide)
    (he : starEach (e :: es) X.env = (false, eval e X.env) :: starEach es X.env := by rfl)
    (hpl : (backTo pos (starEach es X.env)).any (·.1) = false := by rfl) :
    PE X (.Call (.Name x p) (e :: es) [] pos) (tCall sp [] E0 t) := by
  obtain ⟨f, fd, F, hm, hk, hb⟩ := O.ex
  exact pe_callG F hr gd hg hm hk hb ha hdb he hpl
theorem piTK (K : PySem.W.Frag) {tg a : Expr} {ta : TE} (ha : PE X a ta) (h : X.K = K := by rfl) : PI X tg a (iTup K ta) := h ▸ pi_tup ha
theorem piLK (K : PySem.W.Frag) {tg a : Expr} {ta : TE} (ha : PE X a ta) (h : X.K = K := by rfl) : PI X tg a (iList K ta) := h ▸ pi_list ha
theorem pgTK (K : PySem.W.Frag) {es : List Expr} {k : Nat} {t : TGs} {n : Nat} (h : PGs X es t) (hc : X.calm = true := by rfl) (hK : X.K = K := by rfl)
    (hn : (assignEach es X.env).length = n := by rfl) (hst : (assignEach es X.env).findIdx? (·.1) = none := by rfl) :
    PG X (.Tuple es k pos) (gTup K n t) := hK ▸ pg_tup hc h hn hst
theorem bmK (K : PySem.W.Frag) {o : Expr} {to : TE} {name : Str} {apos cpos : Pos} {T id : String}
    {r : V → List V → Hp → VK → Prop} (pa : PlainAttrs T) (slot : Slot T name id)
    (hty : typeOf (.builtin id) = pure (.type "method_descriptor")) (hm : MtR X id r) (ho : PE X o to)
    (ha : PA X (e :: es) t) (h : X.K = K := by rfl)
    (hbase : attributeBase o name X.env (eval o X.env) = eval o X.env := by rfl)
    (hfew : ((backTo cpos (starEach (e :: es) X.env)).all (fun x => !x.1)
        && (backToKw cpos (keywordEach [] X.env)).all (fun x => x.1.isSome)
        && decide ((e :: es).length + ([] : List Keyword).length
          + (if ([] : List Keyword).isEmpty then 0 else 1) < 30)) = true := by rfl)
    (hline : (apos.endLine == cpos.line) = true := by rfl)
    (hs : starEach (e :: es) X.env = (false, eval e X.env) :: starEach es X.env := by rfl)
    (hplain : (backTo cpos (starEach es X.env)).any (·.1) = false := by rfl) :
    PE X (.Call (.Attribute o name apos) (e :: es) [] cpos) (tBM K T r to t) :=
  h ▸ pe_bm pa slot hty hm ho ha hbase hfew hline hs hplain
theorem bm0K (K : PySem.W.Frag) {o : Expr} {to : TE} {name : Str} {apos cpos : Pos} {T id : String}
    {r : V → List V → Hp → VK → Prop} (pa : PlainAttrs T) (slot : Slot T name id)
    (hty : typeOf (.builtin id) = pure (.type "method_descriptor")) (hm : MtR X id r) (ho : PE X o to) (h : X.K = K := by rfl)
    (hbase : attributeBase o name X.env (eval o X.env) = eval o X.env := by rfl)
    (hline : (apos.endLine == cpos.line) = true := by rfl) :
    PE X (.Call (.Attribute o name apos) [] [] cpos) (tBM0 K T r to) := h ▸ pe_bm0 pa slot hty hm ho hbase hline
end
end TL
namespace TL
/-! ### ascending lists -/
abbrev Asc (l : List Int) : Prop := l.Pairwise (· < ·)
theorem asc_ext : ∀ {a b : List Int}, Asc a → Asc b → (∀ x, x ∈ a ↔ x ∈ b) → a = b
  | [], [], _, _, _ => rfl
  | [], y :: b, _, _, h => absurd ((h y).mpr List.mem_cons_self) (by simp)
  | x :: a, [], _, _, h => absurd ((h x).mp List.mem_cons_self) (by simp)
  | x :: a, y :: b, ha, hb, h => by
    have ha' := List.pairwise_cons.mp ha
    have hb' := List.pairwise_cons.mp hb
    have e : x = y := by
      rcases List.mem_cons.mp ((h x).mp List.mem_cons_self) with e | q
      · exact e
      · rcases List.mem_cons.mp ((h y).mpr List.mem_cons_self) with e | r
        · exact e.symm
        · have h1 := hb'.1 x q
          have h2 := ha'.1 y r
          omega
    subst e
    congr 1
    refine asc_ext ha'.2 hb'.2 fun z => ⟨fun hz => ?_, fun hz => ?_⟩
    · rcases List.mem_cons.mp ((h z).mp (List.mem_cons_of_mem _ hz)) with e | q
      · have := ha'.1 z hz
        omega
      · exact q
    · rcases List.mem_cons.mp ((h z).mpr (List.mem_cons_of_mem _ hz)) with e | q
      · have := hb'.1 z hz
        omega
      · exact q
theorem Asc.nodup {l : List Int} (h : Asc l) : l.Nodup := h.imp fun h => by omega
def leI (a b : Int) : Bool := decide (a ≤ b)
def srtI (l : List Int) : List Int := l.mergeSort leI
theorem srtI_perm (l : List Int) : (srtI l).Perm l := List.mergeSort_perm l _
theorem srtI_le (l : List Int) : (srtI l).Pairwise (· ≤ ·) :=
  (List.pairwise_mergeSort (le := leI) (fun a b c h1 h2 => by
    have h1 := of_decide_eq_true h1
    have h2 := of_decide_eq_true h2
    exact decide_eq_true (by omega)) (fun a b => by
    unfold leI
    by_cases h : a ≤ b
    · simp [h]
    · have : b ≤ a := by omega
      simp [this]) l).imp fun h => of_decide_eq_true h
theorem mem_srtI {l : List Int} {x : Int} : x ∈ srtI l ↔ x ∈ l := (srtI_perm l).mem_iff
theorem srtI_asc {l : List Int} (h : l.Nodup) : Asc (srtI l) := by
  have n : (srtI l).Nodup := (srtI_perm l).nodup_iff.mpr h
  exact ((srtI_le l).and n).imp fun h => by omega
theorem srtI_of_asc {l : List Int} (h : Asc l) : srtI l = l :=
  List.mergeSort_of_pairwise (h.imp fun h => decide_eq_true (by omega))
theorem srtI_congr {a b : List Int} (h : a.Perm b) : srtI a = srtI b := by
  have p : (srtI a).Perm (srtI b) := (srtI_perm a).trans (h.trans (srtI_perm b).symm)
  exact p.eq_of_pairwise (fun x y _ _ h1 h2 => by omega) (srtI_le a) (srtI_le b)
theorem srtI_length (l : List Int) : (srtI l).length = l.length := (srtI_perm l).length_eq
/-! ### pairs -/
abbrev LtP (p q : Int × Int) : Prop := p.1 < q.1 ∨ (p.1 = q.1 ∧ p.2 < q.2)
abbrev AscP (l : List (Int × Int)) : Prop := l.Pairwise LtP
def leP (p q : Int × Int) : Bool := decide (p.1 < q.1 ∨ (p.1 = q.1 ∧ p.2 ≤ q.2))
def srtP (l : List (Int × Int)) : List (Int × Int) := l.mergeSort leP
theorem srtP_perm (l : List (Int × Int)) : (srtP l).Perm l := List.mergeSort_perm l _
theorem srtP_le (l : List (Int × Int)) : (srtP l).Pairwise fun p q => p.1 < q.1 ∨ (p.1 = q.1 ∧ p.2 ≤ q.2) :=
  (List.pairwise_mergeSort (le := leP) (fun a b c h1 h2 => by
    have h1 := of_decide_eq_true h1
    have h2 := of_decide_eq_true h2
    exact decide_eq_true (by omega)) (fun a b => by
    unfold leP
    by_cases h : a.1 < b.1 ∨ (a.1 = b.1 ∧ a.2 ≤ b.2)
    · simp [h]
    · have : b.1 < a.1 ∨ (b.1 = a.1 ∧ b.2 ≤ a.2) := by omega
      simp [this]) l).imp fun h => of_decide_eq_true h
theorem mem_srtP {l : List (Int × Int)} {x : Int × Int} : x ∈ srtP l ↔ x ∈ l := (srtP_perm l).mem_iff
theorem srtP_asc {l : List (Int × Int)} (h : l.Nodup) : AscP (srtP l) := by
  have n : (srtP l).Nodup := (srtP_perm l).nodup_iff.mpr h
  refine ((srtP_le l).and n).imp fun {a b} h => ?_
  obtain ⟨h1, h2⟩ := h
  rcases h1 with h1 | ⟨h1, h3⟩
  · exact .inl h1
  · refine .inr ⟨h1, ?_⟩
    have : a.2 ≠ b.2 := fun e => h2 (Prod.ext h1 e)
    omega
theorem srtP_of_asc {l : List (Int × Int)} (h : AscP l) : srtP l = l :=
  List.mergeSort_of_pairwise (h.imp fun h => decide_eq_true (by rcases h with h | h <;> omega))
theorem srtP_length (l : List (Int × Int)) : (srtP l).length = l.length := (srtP_perm l).length_eq
/-! ### an edge between two vertices -/
def ordP (a b : Int) : Int × Int := if a ≤ b then (a, b) else (b, a)
theorem srt2 (a b : Int) : srtI [a, b] = [(ordP a b).1, (ordP a b).2] := by
  unfold ordP
  by_cases h : a ≤ b
  · rw [if_pos h]
    exact List.mergeSort_of_pairwise (le := leI) (List.pairwise_cons.mpr ⟨fun x hx => by
      obtain rfl := List.mem_singleton.mp hx
      exact decide_eq_true h, List.pairwise_singleton _ _⟩)
  · rw [if_neg h]
    have p : [a, b].Perm [b, a] := List.Perm.swap _ _ _
    rw [srtI_congr p]
    exact List.mergeSort_of_pairwise (le := leI) (List.pairwise_cons.mpr ⟨fun x hx => by
      obtain rfl := List.mem_singleton.mp hx
      exact decide_eq_true (by omega), List.pairwise_singleton _ _⟩)
theorem ordP_comm (a b : Int) : ordP a b = ordP b a := by
  unfold ordP
  by_cases h : a ≤ b
  · by_cases h2 : b ≤ a
    · obtain rfl : a = b := by omega
      rfl
    · rw [if_pos h, if_neg h2]
  · rw [if_neg h, if_pos (by omega)]
/-! ### forests as they are drawn -/
def rng (m : Nat) : List Int := (List.range m).map Int.ofNat
theorem mem_rng {m : Nat} {x : Int} : x ∈ rng m ↔ 0 ≤ x ∧ x < m := by
  unfold rng
  rw [List.mem_map]
  constructor
  · rintro ⟨i, hi, rfl⟩
    have := List.mem_range.mp hi
    simp only [Int.ofNat_eq_natCast]
    omega
  · intro h
    exact ⟨x.toNat, List.mem_range.mpr (by omega), by simp only [Int.ofNat_eq_natCast]; omega⟩
theorem rng_asc (m : Nat) : Asc (rng m) := by
  unfold rng Asc
  rw [List.pairwise_map]
  exact List.pairwise_lt_range.imp fun h => by simp only [Int.ofNat_eq_natCast]; omega
theorem rng_length (m : Nat) : (rng m).length = m := by
  unfold rng
  rw [List.length_map, List.length_range]
/-- edge k joins the k-th name with an earlier one -/
def edgeOf (nm : List Int) (q : Nat × Nat) : Int × Int := ordP (nm.getD q.1 0) (nm.getD q.2 0)
structure Grow (m : Nat) (nm : List Int) (ks : List (Nat × Nat)) : Prop where
  names : nm.Perm (rng m)
  up : ks.Pairwise fun a b => a.1 < b.1
  down : ∀ q ∈ ks, q.2 < q.1 ∧ q.1 < m
structure IsFor (m : Nat) (es : List (Int × Int)) : Prop where
  asc : AscP es
  rng : ∀ p ∈ es, 0 ≤ p.1 ∧ p.1 < p.2 ∧ p.2 < m
  grow : ∃ nm ks, Grow m nm ks ∧ es.Perm (ks.map (edgeOf nm))
theorem Grow.len {m : Nat} {nm : List Int} {ks : List (Nat × Nat)} (g : Grow m nm ks) : nm.length = m := by
  rw [g.names.length_eq, rng_length]
theorem Grow.nd {m : Nat} {nm : List Int} {ks : List (Nat × Nat)} (g : Grow m nm ks) : nm.Nodup := g.names.nodup_iff.mpr (rng_asc m).nodup
theorem Grow.name {m : Nat} {nm : List Int} {ks : List (Nat × Nat)} (g : Grow m nm ks) {i : Nat} (h : i < m) : 0 ≤ nm.getD i 0 ∧ nm.getD i 0 < m := by
  have hl : i < nm.length := by rw [g.len]; exact h
  have e : nm.getD i 0 = nm[i] := by rw [List.getD_eq_getElem?_getD, List.getElem?_eq_getElem hl]; rfl
  rw [e]
  exact mem_rng.mp (g.names.mem_iff.mp (List.getElem_mem hl))
theorem Grow.inj {m : Nat} {nm : List Int} {ks : List (Nat × Nat)} (g : Grow m nm ks) {i j : Nat} (hi : i < m) (hj : j < m) (e : nm.getD i 0 = nm.getD j 0) : i = j := by
  have hi' : i < nm.length := by rw [g.len]; exact hi
  have hj' : j < nm.length := by rw [g.len]; exact hj
  rw [List.getD_eq_getElem?_getD, List.getElem?_eq_getElem hi', List.getD_eq_getElem?_getD, List.getElem?_eq_getElem hj'] at e
  exact (List.getElem_inj g.nd).mp e
theorem Grow.edge {m : Nat} {nm : List Int} {ks : List (Nat × Nat)} (g : Grow m nm ks) {q : Nat × Nat} (h : q ∈ ks) :
    0 ≤ (edgeOf nm q).1 ∧ (edgeOf nm q).1 < (edgeOf nm q).2 ∧ (edgeOf nm q).2 < m := by
  obtain ⟨h1, h2⟩ := g.down q h
  have a := g.name h2
  have b := g.name (Nat.lt_trans h1 h2)
  have n : nm.getD q.1 0 ≠ nm.getD q.2 0 := fun e => by
    have := g.inj h2 (Nat.lt_trans h1 h2) e
    omega
  unfold edgeOf ordP
  split
  · exact ⟨a.1, by omega, b.2⟩
  · exact ⟨b.1, by omega, a.2⟩
theorem ordP_inj {a b c d : Int} (h : ordP a b = ordP c d) : (a = c ∧ b = d) ∨ (a = d ∧ b = c) := by
  unfold ordP at h
  split at h <;> split at h <;> (injection h with h1 h2; omega)
theorem Grow.nodup {m : Nat} {nm : List Int} {ks : List (Nat × Nat)} (g : Grow m nm ks) : (ks.map (edgeOf nm)).Nodup := by
  rw [List.Nodup, List.pairwise_map]
  have u := g.up
  have d := g.down
  refine (List.Pairwise.and_mem.mp u).imp ?_
  rintro a b ⟨ha, hb, hab⟩ e
  obtain ⟨a1, a2⟩ := d a ha
  obtain ⟨b1, b2⟩ := d b hb
  rcases ordP_inj e with ⟨e1, e2⟩ | ⟨e1, e2⟩
  · have := g.inj a2 b2 e1
    omega
  · have h1 := g.inj a2 (Nat.lt_trans b1 b2) e1
    have h2 := g.inj (Nat.lt_trans a1 a2) b2 e2
    omega
theorem Grow.isFor {m : Nat} {nm : List Int} {ks : List (Nat × Nat)} (g : Grow m nm ks) : IsFor m (srtP (ks.map (edgeOf nm))) where
  asc := srtP_asc g.nodup
  rng := fun p hp => by
    obtain ⟨q, hq, rfl⟩ := List.mem_map.mp (mem_srtP.mp hp)
    exact g.edge hq
  grow := ⟨nm, ks, g, srtP_perm _⟩
theorem rise_len {m : Nat} : ∀ {ks : List (Nat × Nat)} {lo : Nat}, ks.Pairwise (fun a b => a.1 < b.1) → (∀ q ∈ ks, lo ≤ q.1 ∧ q.1 < m) → ks.length ≤ m - lo
  | [], _, _, _ => Nat.zero_le _
  | q :: ks, lo, h, b => by
    have h' := List.pairwise_cons.mp h
    have hq := b q List.mem_cons_self
    have := rise_len (lo := q.1 + 1) h'.2 fun r hr => ⟨h'.1 r hr, (b r (List.mem_cons_of_mem _ hr)).2⟩
    rw [List.length_cons]
    omega
theorem Grow.count {m : Nat} {nm : List Int} {ks : List (Nat × Nat)} (g : Grow m nm ks) : ks.length ≤ m := by
  have := rise_len (lo := 0) g.up fun q hq => ⟨Nat.zero_le _, (g.down q hq).2⟩
  omega
theorem IsFor.count {m : Nat} {es : List (Int × Int)} (f : IsFor m es) : es.length ≤ m := by
  obtain ⟨nm, ks, g, p⟩ := f.grow
  rw [p.length_eq, List.length_map]
  exact g.count
/-! ### neighbours -/
def nearL (m : Nat) (es : List (Int × Int)) (v : Int) : List Int := (rng m).filter fun o => decide (ordP o v ∈ es)
def nbL (es : List (Int × Int)) (v : Int) : List Int := (es.filter fun p => decide (p.2 = v)).map (·.1) ++ (es.filter fun p => decide (p.1 = v)).map (·.2)
theorem nearL_asc (m : Nat) (es : List (Int × Int)) (v : Int) : Asc (nearL m es v) := (rng_asc m).filter _
theorem mem_nearL {m : Nat} {es : List (Int × Int)} {v o : Int} : o ∈ nearL m es v ↔ (0 ≤ o ∧ o < m) ∧ ordP o v ∈ es := by
  unfold nearL
  rw [List.mem_filter, mem_rng, decide_eq_true_eq]
theorem mem_nbL {es : List (Int × Int)} {v o : Int} : o ∈ nbL es v ↔ (o, v) ∈ es ∨ (v, o) ∈ es := by
  unfold nbL
  rw [List.mem_append, List.mem_map, List.mem_map]
  constructor
  · rintro (⟨⟨a, b⟩, h, rfl⟩ | ⟨⟨a, b⟩, h, rfl⟩)
    · obtain ⟨h1, h2⟩ := List.mem_filter.mp h
      have : b = v := of_decide_eq_true h2
      subst this
      exact .inl h1
    · obtain ⟨h1, h2⟩ := List.mem_filter.mp h
      have : a = v := of_decide_eq_true h2
      subst this
      exact .inr h1
  · rintro (h | h)
    · exact .inl ⟨(o, v), List.mem_filter.mpr ⟨h, decide_eq_true rfl⟩, rfl⟩
    · exact .inr ⟨(v, o), List.mem_filter.mpr ⟨h, decide_eq_true rfl⟩, rfl⟩
theorem IsFor.mem_ord {m : Nat} {es : List (Int × Int)} (f : IsFor m es) {o v : Int} : ordP o v ∈ es ↔ (o, v) ∈ es ∨ (v, o) ∈ es := by
  unfold ordP
  by_cases h : o ≤ v
  · rw [if_pos h]
    refine ⟨.inl, fun q => q.elim id fun q => ?_⟩
    have := f.rng _ q
    simp only at this
    omega
  · rw [if_neg h]
    refine ⟨.inr, fun q => q.elim (fun q => ?_) id⟩
    have := f.rng _ q
    simp only at this
    omega
theorem IsFor.nb {m : Nat} {es : List (Int × Int)} (f : IsFor m es) (v : Int) : nbL es v = nearL m es v := by
  refine asc_ext ?_ (nearL_asc m es v) fun o => ?_
  · unfold nbL
    refine List.pairwise_append.mpr ⟨?_, ?_, ?_⟩
    · rw [List.pairwise_map]
      refine (List.Pairwise.and_mem.mp (f.asc.filter fun p => decide (p.2 = v))).imp ?_
      rintro a b ⟨ha, hb, hab⟩
      have h1 : a.2 = v := of_decide_eq_true (List.mem_filter.mp ha).2
      have h2 : b.2 = v := of_decide_eq_true (List.mem_filter.mp hb).2
      rcases hab with h | h <;> omega
    · rw [List.pairwise_map]
      refine (List.Pairwise.and_mem.mp (f.asc.filter fun p => decide (p.1 = v))).imp ?_
      rintro a b ⟨ha, hb, hab⟩
      have h1 : a.1 = v := of_decide_eq_true (List.mem_filter.mp ha).2
      have h2 : b.1 = v := of_decide_eq_true (List.mem_filter.mp hb).2
      rcases hab with h | h <;> omega
    · intro x hx y hy
      obtain ⟨a, ha, rfl⟩ := List.mem_map.mp hx
      obtain ⟨b, hb, rfl⟩ := List.mem_map.mp hy
      have a1 := f.rng _ (List.mem_filter.mp ha).1
      have b1 := f.rng _ (List.mem_filter.mp hb).1
      have h1 : a.2 = v := of_decide_eq_true (List.mem_filter.mp ha).2
      have h2 : b.1 = v := of_decide_eq_true (List.mem_filter.mp hb).2
      omega
  · rw [mem_nbL, mem_nearL, f.mem_ord]
    refine ⟨fun h => ⟨?_, h⟩, fun h => h.2⟩
    rcases h with h | h
    · have := f.rng _ h
      simp only at this
      omega
    · have := f.rng _ h
      simp only at this
      omega
/-! ### settings -/
structure IsSet (m : Nat) (es : List (Int × Int)) (S : List Int) : Prop where
  asc : Asc S
  rng : ∀ v ∈ S, 0 ≤ v ∧ v < m
  free : ∀ u ∈ S, ∀ v ∈ S, ordP u v ∉ es
end TL
namespace TL
open PySem PySem.Spec PyProof.Rows L2
/-! ### sorting ints, pairs -/
theorem le_int_fun : PySem.W.dataLe false PyData.int = leI := by
  funext a b
  exact congrFun (congrFun (PySem.W.dataLe_int (β := Int) id) a) b
theorem le_pr_fun : PySem.W.dataLe false prD = leP := by
  funext p q
  exact congrFun (congrFun (PySem.W.dataLe_ii (β := Int × Int) Prod.fst Prod.snd) p) q
section
variable {K : PySem.W.Frag} {H : Hp} {Q : VK}
theorem sortInts {a : Addr} {ns : List Int} (hS : SqL K H a (ns.map V.int)) (q : ∀ p, H p = none → Q (.ref p) (upd H p (.lst ((srtI ns).map V.int)))) : rSortD K [.ref a] H Q := by
  unfold rSortD
  refine ⟨Int, PyData.int, ns, a, ns.map V.int, rfl, hS, DpAll.of_ints ns, ?_, .inr fun d hd => ?_, fun b _ => by simp [PyData.depth], fun p ys np dy => ?_⟩
  · intro d hd e he
    obtain ⟨x, _, rfl⟩ := List.mem_map.mp hd
    obtain ⟨y, _, rfl⟩ := List.mem_map.mp he
    simp [PySem.W.alike]
  · obtain ⟨x, _, rfl⟩ := List.mem_map.mp hd
    exact ⟨fun z => (nomatch z), fun _ z => (nomatch z)⟩
  · rw [le_int_fun] at dy
    have e := DpAll.ints dy
    subst e
    exact q p np
theorem sortPairs {a : Addr} {xs : List V} {ps : List (Int × Int)} (hS : SqL K H a xs) (hA : DpAll K H xs (ps.map prD))
    (q : ∀ p ys, H p = none → DpAll K H ys ((srtP ps).map prD) → Q (.ref p) (upd H p (.lst ys))) : rSortD K [.ref a] H Q := by
  unfold rSortD
  refine ⟨Int × Int, prD, ps, a, xs, rfl, hS, hA, ?_, .inl fun d hd => ?_, fun b _ => by simp [prD, PyData.depth, PyData.depthAll], fun p ys np dy => ?_⟩
  · intro d hd e he
    obtain ⟨x, _, rfl⟩ := List.mem_map.mp hd
    obtain ⟨y, _, rfl⟩ := List.mem_map.mp he
    simp [prD, PySem.W.alike, PySem.W.alikeAll]
  · obtain ⟨x, _, rfl⟩ := List.mem_map.mp hd
    exact ⟨_, _, rfl⟩
  · rw [le_pr_fun] at dy
    exact q p ys np dy
end
/-! ### forests as data -/
def forD (m : Nat) (es : List (Int × Int)) : PyData := .tuple [.int (m : Int), prsD es]
def intsD (ns : List Int) : PyData := .tuple (ns.map .int)
theorem only_ints : ∀ ns : List Int, onlyAll (ns.map .int) = true
  | [] => by simp [onlyAll]
  | n :: ns => by simp [onlyAll, only, only_ints ns]
theorem only_intsD (ns : List Int) : only (intsD ns) = true := by
  unfold intsD only
  exact only_ints ns
theorem only_forD (m : Nat) (es : List (Int × Int)) : only (forD m es) = true := by
  unfold forD
  simp [only, onlyAll, only_prsD]
section
variable {K : PySem.W.Frag} {H : Hp}
theorem Dp.forI {x : V} {m : Nat} {es : List (Int × Int)} (h : Dp K H x (forD m es)) :
    ∃ a b xs, x = .ref a ∧ SqT K H a [.int (m : Int), .ref b] ∧ SqT K H b xs ∧ DpAll K H xs (es.map prD) := by
  obtain ⟨a, xs, e, h1, h2⟩ := Dp.tupI h
  cases h2 with
  | cons ha hb =>
    cases hb with
    | cons hc hd =>
      cases hd
      obtain ⟨b, ys, e2, h3, h4⟩ := Dp.tupI hc
      subst e2
      rw [Dp.intI ha] at h1
      exact ⟨a, b, ys, e, h1, h3, h4⟩
theorem Dp.intsI {x : V} {ns : List Int} (h : Dp K H x (intsD ns)) : ∃ a, x = .ref a ∧ SqT K H a (ns.map V.int) := by
  obtain ⟨a, xs, e, h1, h2⟩ := Dp.tupI h
  have := DpAll.ints h2
  subst this
  exact ⟨a, e, h1⟩
theorem Dp.ints {a : Addr} {ns : List Int} (h : SqT K H a (ns.map V.int)) : Dp K H (.ref a) (intsD ns) := .tup h (DpAll.of_ints ns)
end
/-! ### equal data -/
theorem eqv_pr (a b : Int × Int) : PyData.eqv (prD a) (prD b) = decide (a = b) := by
  have e : PyData.eqv (prD a) (prD b) = ((a.1 == b.1) && ((a.2 == b.2) && true)) := by simp only [prD, PyData.eqv, PyData.eqvAll]
  rw [e]
  obtain ⟨x, y⟩ := a
  obtain ⟨u, v⟩ := b
  by_cases h1 : x = u
  · by_cases h2 : y = v
    · subst h1 h2; simp
    · have : ¬ ((x, y) : Int × Int) = (u, v) := fun z => h2 (Prod.mk.inj z).2
      rw [decide_eq_false this]; simp [h2]
  · have : ¬ ((x, y) : Int × Int) = (u, v) := fun z => h1 (Prod.mk.inj z).1
    rw [decide_eq_false this]; simp [h1]
theorem any_pr (p : Int × Int) : ∀ es : List (Int × Int), (es.map prD).any (fun z => PyData.eqv z (prD p)) = decide (p ∈ es)
  | [] => by simp
  | e :: es => by
    rw [List.map_cons, List.any_cons, any_pr p es, eqv_pr]
    by_cases h : e = p
    · subst h; simp
    · have h' : ¬ p = e := fun z => h z.symm
      simp [h, h']
theorem lay_pr (p : Int × Int) : (prD p).canLay0 = true := by simp [prD, PyData.canLay0, PyData.canLayAll0]
theorem lay_prs : ∀ es : List (Int × Int), PyData.canLayAll0 (es.map prD) = true
  | [] => by simp [PyData.canLayAll0]
  | e :: es => by simp [PyData.canLayAll0, lay_pr e, lay_prs es]
theorem dep_pr (p : Int × Int) : (prD p).depth ≤ 50 := by simp [prD, PyData.depth, PyData.depthAll]
theorem lay_ints : ∀ ns : List Int, PyData.canLayAll0 (ns.map PyData.int) = true
  | [] => by simp [PyData.canLayAll0]
  | n :: ns => by simp [PyData.canLayAll0, PyData.canLay0, lay_ints ns]
theorem dep_ints : ∀ ns : List Int, PyData.depthAll (ns.map PyData.int) = 0
  | [] => by simp [PyData.depthAll]
  | n :: ns => by simp [PyData.depthAll, PyData.depth, dep_ints ns]
theorem shaped_ints (ns : List Int) : SeqAt.shaped (.list (ns.map PyData.int)) = true := by
  unfold SeqAt.shaped
  simp only [PyData.canLay0, PyData.depth, lay_ints, dep_ints]
  decide
theorem eqv_nil (ns : List Int) : PyData.eqv (.list (ns.map PyData.int)) (.list []) = decide (ns = []) := by
  cases ns with
  | nil => simp [PyData.eqv, PyData.eqvAll]
  | cons n r => simp [PyData.eqv, PyData.eqvAll]
/-! ### ints in lists of ints -/
theorem flat_ints (ns : List Int) : (ns.map V.int).all flatV = true := by
  rw [List.all_map]
  exact List.all_eq_true.mpr fun _ _ => rfl
theorem inV_ints (x : Int) : ∀ ns : List Int, inV (.int x) (ns.map V.int) = decide (x ∈ ns)
  | [] => by simp [inV]
  | n :: ns => by
    have ih := inV_ints x ns
    unfold inV at ih ⊢
    rw [List.map_cons, List.any_cons, ih]
    show (decide (n = x) || decide (x ∈ ns)) = _
    by_cases h : n = x
    · subst h; simp
    · have h' : ¬ x = n := fun z => h z.symm
      simp [h, h']
/-! ### an if whose test is read for any end -/
theorem ifJ {c : TT} {t u : TS} {D : Ends} {σ : L2.St} {H : Hp} (R : Bool → Hp → Prop)
    (h1 : ∀ Q : Bool → Hp → Prop, (∀ b H1, R b H1 → Q b H1) → c σ H Q) (h2 : ∀ H1, R true H1 → t D σ H1) (h3 : ∀ H1, R false H1 → u D σ H1) : tIfS c t u D σ H := by
  refine h1 _ fun b H1 r => ?_
  cases b with
  | true => exact iteT (h2 H1 r)
  | false => exact iteF (h3 H1 r)
end TL
namespace TL
open PySem PySem.Spec PyProof.Rows L2
/-! ### comprehensions that leave all that was tracked as it was -/
theorem lc_gen {K : PySem.W.Frag} {J : It} {g : TG} {tt : TT} {te : TE} {vs : List Nat} {σ : L2.St} {H1 : Hp} {D : Addr} {Qd : Hp → Prop} {β : Type}
    (bs : List β) (σb : β → L2.St) (p : β → Bool) (d : β → PyData) (nD : H1 D = none)
    (hgo : ∀ j H', j < bs.length → Same H1 H' → J.go j H') (hst : ∀ H', Same H1 H' → J.stop bs.length H')
    (hg : ∀ j b x H' H'', bs[j]? = some b → Same H1 H' → J.yld j H' x H'' → H'' = H' ∧ ∀ Q : L2.St → Hp → Prop, Q (σb b) H' → g x (wipe σ vs) H' Q)
    (hw : ∀ b, wipe (σb b) vs = wipe σ vs)
    (ht : ∀ b ∈ bs, ∀ H' (Q : Bool → Hp → Prop), Same H1 H' → (∀ H2, Same H' H2 → Q (p b) H2) → tt (σb b) H' Q)
    (he : ∀ b ∈ bs, p b = true → ∀ H' (Q : VK), Same H1 H' → (∀ H2 y, Same H' H2 → Dp K H2 y (d b) → Q y H2) → te (σb b) H' Q)
    (ho : ∀ b, only (d b) = true) (hl : bs.length ≤ 1000)
    (hd : ∀ H' ys, Same H1 H' → H' D = some (.lst ys) → DpAll K H' ys ((bs.filter p).map d) → Qd H') : LcGoal J g tt te vs σ H1 D Qd := by
  have oa : ∀ l : List β, onlyAll (l.map d) = true := by
    intro l
    induction l with
    | nil => simp [onlyAll]
    | cons b l ih => simp [onlyAll, ho b, ih]
  refine lc_by bs.length (fun i H' => ∃ ys, Same H1 H' ∧ H' D = some (.lst ys) ∧ DpAll K H' ys (((bs.take i).filter p).map d) ∧ ys.length ≤ i) ?_ ?_ ?_ ?_ ?_
  · exact ⟨[], same_upd nD, upd_same, .nil, Nat.le_refl _⟩
  · rintro i H' hi ⟨ys, s, _⟩
    exact hgo i H' hi s
  · rintro H' ⟨ys, s, _⟩
    exact hst H' s
  · rintro i x H' H'' hi ⟨ys, s, eD, a, ln⟩ y
    obtain ⟨rfl, k⟩ := hg i bs[i] x H' H'' (List.getElem?_eq_getElem hi) s y
    have mb : bs[i] ∈ bs := List.getElem_mem hi
    have tk : bs.take (i + 1) = bs.take i ++ [bs[i]] := by rw [List.take_add_one, List.getElem?_eq_getElem hi]; rfl
    refine k _ ⟨hw _, ht _ mb _ _ s fun H2 s2 => ?_⟩
    by_cases hp : p bs[i] = true
    · rw [if_pos hp]
      refine he _ mb hp _ _ (s.trans s2) fun H3 z s3 dz => ?_
      have e3 := s3 _ _ (s2 _ _ eD)
      have kt : KT K H3 (upd H3 D (.lst (ys ++ [z]))) := kt_lst e3
      refine ⟨ys, e3, small1000 (by omega), ys ++ [z], ?_, upd_same, ?_, ?_⟩
      · intro b o e
        rw [upd_ne (ne_of_none e nD)]
        exact s3 _ _ (s2 _ _ (s _ _ e))
      · rw [tk, List.filter_append, List.map_append, List.filter_cons_of_pos hp]
        exact DpAll.append (DpAll.kt kt (DpAll.same (s2.trans s3) a) (oa _)) (.cons (Dp.kt kt dz (ho _)) .nil)
      · rw [List.length_append, List.length_singleton]
        omega
    · rw [if_neg hp]
      refine ⟨ys, s.trans s2, s2 _ _ eD, ?_, by omega⟩
      rw [tk, List.filter_append, List.filter_cons_of_neg hp, List.filter_nil, List.append_nil]
      exact DpAll.same s2 a
  · rintro H' ⟨ys, s, eD, a, _⟩
    rw [List.take_length] at a
    exact hd H' ys s eD a
section
variable {K : PySem.W.Frag} {tt : TT} {te : TE} {vs : List Nat} {σ : L2.St} {H1 : Hp} {D : Addr} {Qd : Hp → Prop}
/-- over a list of ints, the element any data -/
theorem lc_listI {a : Addr} {ns : List Int} {i : Nat} (p : Int → Bool) (d : Int → PyData) (nD : H1 D = none) (hS : SqL K H1 a (ns.map V.int))
    (hw : ∀ v, wipe ((wipe σ vs).set i (some v)) vs = wipe σ vs)
    (ht : ∀ o ∈ ns, ∀ H' (Q : Bool → Hp → Prop), Same H1 H' → (∀ H2, Same H' H2 → Q (p o) H2) → tt ((wipe σ vs).set i (some (.int o))) H' Q)
    (he : ∀ o ∈ ns, p o = true → ∀ H' (Q : VK), Same H1 H' → (∀ H2 y, Same H' H2 → Dp K H2 y (d o) → Q y H2) → te ((wipe σ vs).set i (some (.int o))) H' Q)
    (ho : ∀ o, only (d o) = true) (hl : ns.length ≤ 1000)
    (hd : ∀ H' ys, Same H1 H' → H' D = some (.lst ys) → DpAll K H' ys ((ns.filter p).map d) → Qd H') : LcGoal (Itl K a) (gName i) tt te vs σ H1 D Qd := by
  refine lc_gen ns (fun o => (wipe σ vs).set i (some (.int o))) p d nD (fun j H' hj s => ⟨_, _, s.seq hS, List.getElem?_eq_getElem (by rw [List.length_map]; exact hj)⟩)
    (fun H' s => ⟨_, s.seq hS, by rw [List.length_map]; exact Nat.le_refl _⟩) (fun j b x H' H'' hb s y => ?_) (fun b => hw _) ht he ho hl hd
  obtain ⟨e, hy⟩ := y
  have := hy _ (s.seq hS)
  rw [List.getElem?_map, hb] at this
  cases this
  exact ⟨e, fun Q q => q⟩
/-- over a tuple of ints -/
theorem lc_tupI {a : Addr} {ns : List Int} {i : Nat} (p : Int → Bool) (d : Int → PyData) (nD : H1 D = none) (hS : SqT K H1 a (ns.map V.int))
    (hw : ∀ v, wipe ((wipe σ vs).set i (some v)) vs = wipe σ vs)
    (ht : ∀ o ∈ ns, ∀ H' (Q : Bool → Hp → Prop), Same H1 H' → (∀ H2, Same H' H2 → Q (p o) H2) → tt ((wipe σ vs).set i (some (.int o))) H' Q)
    (he : ∀ o ∈ ns, p o = true → ∀ H' (Q : VK), Same H1 H' → (∀ H2 y, Same H' H2 → Dp K H2 y (d o) → Q y H2) → te ((wipe σ vs).set i (some (.int o))) H' Q)
    (ho : ∀ o, only (d o) = true) (hl : ns.length ≤ 1000)
    (hd : ∀ H' ys, Same H1 H' → H' D = some (.lst ys) → DpAll K H' ys ((ns.filter p).map d) → Qd H') : LcGoal (Itt K a) (gName i) tt te vs σ H1 D Qd := by
  refine lc_gen ns (fun o => (wipe σ vs).set i (some (.int o))) p d nD (fun j H' hj s => ⟨_, _, Same.tup s hS, List.getElem?_eq_getElem (by rw [List.length_map]; exact hj)⟩)
    (fun H' s => ⟨_, Same.tup s hS, by rw [List.length_map]; exact Nat.le_refl _⟩) (fun j b x H' H'' hb s y => ?_) (fun b => hw _) ht he ho hl hd
  obtain ⟨e, hy⟩ := y
  have := hy _ (Same.tup s hS)
  rw [List.getElem?_map, hb] at this
  cases this
  exact ⟨e, fun Q q => q⟩
/-- over range(m) -/
theorem lc_rng {m i : Nat} (p : Int → Bool) (d : Int → PyData) (nD : H1 D = none)
    (hw : ∀ v, wipe ((wipe σ vs).set i (some v)) vs = wipe σ vs)
    (ht : ∀ o ∈ rng m, ∀ H' (Q : Bool → Hp → Prop), Same H1 H' → (∀ H2, Same H' H2 → Q (p o) H2) → tt ((wipe σ vs).set i (some (.int o))) H' Q)
    (he : ∀ o ∈ rng m, p o = true → ∀ H' (Q : VK), Same H1 H' → (∀ H2 y, Same H' H2 → Dp K H2 y (d o) → Q y H2) → te ((wipe σ vs).set i (some (.int o))) H' Q)
    (ho : ∀ o, only (d o) = true) (hl : m ≤ 1000)
    (hd : ∀ H' ys, Same H1 H' → H' D = some (.lst ys) → DpAll K H' ys (((rng m).filter p).map d) → Qd H') : LcGoal (Itr 0 m) (gName i) tt te vs σ H1 D Qd := by
  refine lc_gen (rng m) (fun o => (wipe σ vs).set i (some (.int o))) p d nD (fun j H' hj s => by rw [rng_length] at hj; exact hj)
    (fun H' s => by rw [rng_length]; exact Nat.le_refl _) (fun j b x H' H'' hb s y => ?_) (fun b => hw _) ht he ho (by rw [rng_length]; exact hl) hd
  obtain ⟨e, hy⟩ := y
  unfold rng at hb
  rw [List.getElem?_map] at hb
  obtain ⟨z, hz, rfl⟩ := Option.map_eq_some_iff.mp hb
  obtain ⟨h1, rfl⟩ := List.getElem?_eq_some_iff.mp hz
  rw [List.getElem_range] at *
  subst hy
  refine ⟨e, fun Q q => ?_⟩
  show Q ((wipe σ vs).set i (some (.int (0 + (j : Int))))) H'
  rw [Int.zero_add]
  exact q
/-- over a tuple of pairs, the target two names -/
theorem lc_tupP {a : Addr} {xs : List V} {es : List (Int × Int)} {i j : Nat} (p : Int × Int → Bool) (d : Int × Int → PyData) (nD : H1 D = none) (hS : SqT K H1 a xs) (hA : DpAll K H1 xs (es.map prD))
    (hw : ∀ v u, wipe (((wipe σ vs).set i (some v)).set j (some u)) vs = wipe σ vs)
    (ht : ∀ o ∈ es, ∀ H' (Q : Bool → Hp → Prop), Same H1 H' → (∀ H2, Same H' H2 → Q (p o) H2) → tt (((wipe σ vs).set i (some (.int o.1))).set j (some (.int o.2))) H' Q)
    (he : ∀ o ∈ es, p o = true → ∀ H' (Q : VK), Same H1 H' → (∀ H2 y, Same H' H2 → Dp K H2 y (d o) → Q y H2) → te (((wipe σ vs).set i (some (.int o.1))).set j (some (.int o.2))) H' Q)
    (ho : ∀ o, only (d o) = true) (hl : es.length ≤ 1000)
    (hd : ∀ H' ys, Same H1 H' → H' D = some (.lst ys) → DpAll K H' ys ((es.filter p).map d) → Qd H') :
    LcGoal (Itt K a) (gTup K 2 (gCons (gName i) (gCons (gName j) gNil))) tt te vs σ H1 D Qd := by
  have xl : xs.length = es.length := by rw [DpAll.length hA, List.length_map]
  refine lc_gen es (fun o => ((wipe σ vs).set i (some (.int o.1))).set j (some (.int o.2))) p d nD (fun j H' hj s => ⟨_, _, Same.tup s hS, List.getElem?_eq_getElem (by rw [xl]; exact hj)⟩)
    (fun H' s => ⟨_, Same.tup s hS, by rw [xl]; exact Nat.le_refl _⟩) (fun k b x H' H'' hb s y => ?_) (fun b => hw _ _) ht he ho hl hd
  obtain ⟨e, hy⟩ := y
  obtain ⟨z, hz, dz⟩ := DpAll.get hA (hy _ (Same.tup s hS))
  rw [List.getElem?_map, hb] at hz
  cases hz
  obtain ⟨t, rfl, hT⟩ := Dp.prI (Dp.same s dz)
  exact ⟨e, fun Q q => ⟨t, _, rfl, hT, rfl, _, _, rfl, _, _, rfl, rfl, q⟩⟩
/-- over a list of pairs -/
theorem lc_listP {a : Addr} {xs : List V} {es : List (Int × Int)} {i j : Nat} (p : Int × Int → Bool) (d : Int × Int → PyData) (nD : H1 D = none) (hS : SqL K H1 a xs) (hA : DpAll K H1 xs (es.map prD))
    (hw : ∀ v u, wipe (((wipe σ vs).set i (some v)).set j (some u)) vs = wipe σ vs)
    (ht : ∀ o ∈ es, ∀ H' (Q : Bool → Hp → Prop), Same H1 H' → (∀ H2, Same H' H2 → Q (p o) H2) → tt (((wipe σ vs).set i (some (.int o.1))).set j (some (.int o.2))) H' Q)
    (he : ∀ o ∈ es, p o = true → ∀ H' (Q : VK), Same H1 H' → (∀ H2 y, Same H' H2 → Dp K H2 y (d o) → Q y H2) → te (((wipe σ vs).set i (some (.int o.1))).set j (some (.int o.2))) H' Q)
    (ho : ∀ o, only (d o) = true) (hl : es.length ≤ 1000)
    (hd : ∀ H' ys, Same H1 H' → H' D = some (.lst ys) → DpAll K H' ys ((es.filter p).map d) → Qd H') :
    LcGoal (Itl K a) (gTup K 2 (gCons (gName i) (gCons (gName j) gNil))) tt te vs σ H1 D Qd := by
  have xl : xs.length = es.length := by rw [DpAll.length hA, List.length_map]
  refine lc_gen es (fun o => ((wipe σ vs).set i (some (.int o.1))).set j (some (.int o.2))) p d nD (fun j H' hj s => ⟨_, _, s.seq hS, List.getElem?_eq_getElem (by rw [xl]; exact hj)⟩)
    (fun H' s => ⟨_, s.seq hS, by rw [xl]; exact Nat.le_refl _⟩) (fun k b x H' H'' hb s y => ?_) (fun b => hw _ _) ht he ho hl hd
  obtain ⟨e, hy⟩ := y
  obtain ⟨z, hz, dz⟩ := DpAll.get hA (hy _ (s.seq hS))
  rw [List.getElem?_map, hb] at hz
  cases hz
  obtain ⟨t, rfl, hT⟩ := Dp.prI (Dp.same s dz)
  exact ⟨e, fun Q q => ⟨t, _, rfl, hT, rfl, _, _, rfl, _, _, rfl, rfl, q⟩⟩
end
theorem only_int (i : Int) : only (.int i) = true := by simp [only]
theorem lst_ints {K : PySem.W.Frag} {H : Hp} {ys : List V} {ns : List Int} (h : DpAll K H ys (ns.map .int)) : ys = ns.map V.int := DpAll.ints h
end TL
namespace TL
open PySem PySem.Spec PyProof.Rows L2
theorem onlyAll_app : ∀ a b : List PyData, onlyAll (a ++ b) = (onlyAll a && onlyAll b)
  | [], b => by simp [onlyAll]
  | x :: a, b => by
    rw [List.cons_append]
    simp only [onlyAll, onlyAll_app a b, Bool.and_assoc]
theorem onlyAll_map {β : Type} {d : β → PyData} (h : ∀ b, only (d b) = true) : ∀ l : List β, onlyAll (l.map d) = true
  | [] => by simp [onlyAll]
  | x :: l => by simp [onlyAll, h x, onlyAll_map h l]
/-- [e for u in a tuple of ints for v in what f gives] -/
theorem lc2_tup {K : PySem.W.Frag} {a : Addr} {S : List Int} {i j : Nat} {wi1 : TI} {te : TE} {vs vs1 : List Nat} {σ : L2.St} {H1 : Hp} {D : Addr} {Qd : Hp → Prop}
    (f : Int → List Int) (d : Int → Int → PyData) (nD : H1 D = none) (hS : SqT K H1 a (S.map V.int))
    (hw : ∀ v, wipe ((wipe σ vs).set i (some v)) vs = wipe σ vs)
    (hw1 : ∀ u v, wipe ((wipe ((wipe σ vs).set i (some u)) vs1).set j (some v)) vs1 = wipe ((wipe σ vs).set i (some u)) vs1)
    (hin : ∀ u ∈ S, ∀ H' (R : It → Hp → Prop), Same H1 H' → (∀ H2 b, Same H' H2 → SqT K H2 b ((f u).map V.int) → R (Itt K b) H2) → wi1 ((wipe σ vs).set i (some (.int u))) H' R)
    (he : ∀ u ∈ S, ∀ v ∈ f u, ∀ H' (Q : VK), Same H1 H' → (∀ H2 y, Same H' H2 → Dp K H2 y (d u v) → Q y H2) → te ((wipe ((wipe σ vs).set i (some (.int u))) vs1).set j (some (.int v))) H' Q)
    (ho : ∀ u v, only (d u v) = true) (hl : S.length ≤ 100) (hf : ∀ u ∈ S, (f u).length ≤ 100)
    (hd : ∀ H' ys, Same H1 H' → H' D = some (.lst ys) → DpAll K H' ys (S.flatMap fun u => (f u).map (d u)) → Qd H') :
    ∃ W : Nat → Nat → Hp → Prop, (∃ m, W 0 m (upd H1 D (.lst []))) ∧ ∀ k m H, W k m H →
      ((Itt K a).stop k H ∧ Qd H) ∨
      ((Itt K a).go k H ∧ ∃ Nx : Hp → Prop, (∀ H', Nx H' → ∃ m', m' < m ∧ W (k + 1) m' H') ∧
        ∀ x H', (Itt K a).yld k H x H' → (gName i) x (wipe σ vs) H' fun σ2 H2 =>
          wipe σ2 vs = wipe σ vs ∧ tYes σ2 H2 fun b H3 =>
            if b = true then
              wi1 σ2 H3 fun J1 H4 => ∃ W1 : Nat → Nat → Hp → Prop, (∃ m, W1 0 m H4) ∧ ∀ j' k H, W1 j' k H →
                (J1.stop j' H ∧ Nx H) ∨
                (J1.go j' H ∧ ∃ Nx1 : Hp → Prop, (∀ H', Nx1 H' → ∃ k', k' < k ∧ W1 (j' + 1) k' H') ∧
                  ∀ x H', J1.yld j' H x H' → (gName j) x (wipe σ2 vs1) H' fun σ3 H5 =>
                    wipe σ3 vs1 = wipe σ2 vs1 ∧ tYes σ3 H5 fun b H6 =>
                      if b = true then
                        te σ3 H6 fun y H7 => ∃ acc, H7 D = some (.lst acc) ∧ acc.length < sizeLine ∧ Nx1 (upd H7 D (.lst (acc ++ [y])))
                      else Nx1 H6)
            else Nx H3) := by
  have ofl : ∀ l : List Int, onlyAll (l.flatMap fun u => (f u).map (d u)) = true := by
    intro l
    induction l with
    | nil => simp [onlyAll]
    | cons u l ih => rw [List.flatMap_cons, onlyAll_app, ih, onlyAll_map (ho u)]; rfl
  let Pv : Nat → Hp → Prop := fun k H' => ∃ ys, Same H1 H' ∧ H' D = some (.lst ys) ∧ DpAll K H' ys ((S.take k).flatMap fun u => (f u).map (d u)) ∧ ys.length ≤ 100 * k
  refine ⟨fun k m H => m = S.length - k ∧ k ≤ S.length ∧ Pv k H, ⟨S.length, rfl, Nat.zero_le _, [], same_upd nD, upd_same, .nil, Nat.le_refl _⟩, fun k m H hW => ?_⟩
  obtain ⟨em, hk, ys, s, eD, dy, ln⟩ := hW
  by_cases hlt : k < S.length
  · refine .inr ⟨⟨_, _, Same.tup s hS, List.getElem?_eq_getElem (by rw [List.length_map]; exact hlt)⟩, Pv (k + 1), fun H' p => ⟨S.length - (k + 1), by omega, rfl, hlt, p⟩, fun x H' y => ?_⟩
    obtain ⟨e, hy⟩ := y
    subst e
    have hx := hy _ (Same.tup s hS)
    rw [List.getElem?_map, List.getElem?_eq_getElem hlt] at hx
    cases hx
    have mu : S[k] ∈ S := List.getElem_mem hlt
    have tk : S.take (k + 1) = S.take k ++ [S[k]] := by rw [List.take_add_one, List.getElem?_eq_getElem hlt]; rfl
    refine ⟨hw _, yesI (iteT (hin _ mu _ _ s fun H4 b s4 hb => ?_))⟩
    refine ⟨fun j' m H => m = (f S[k]).length - j' ∧ j' ≤ (f S[k]).length ∧ ∃ zs, Same H1 H ∧ SqT K H b ((f S[k]).map V.int) ∧ H D = some (.lst zs) ∧
      DpAll K H zs (((S.take k).flatMap fun u => (f u).map (d u)) ++ ((f S[k]).take j').map (d S[k])) ∧ zs.length ≤ 100 * k + j', ⟨(f S[k]).length, rfl, Nat.zero_le _, ys, s.trans s4, hb, s4 _ _ eD, ?_, by omega⟩, fun j' m H hW => ?_⟩
    · rw [List.take_zero, List.map_nil, List.append_nil]
      exact DpAll.same s4 dy
    · obtain ⟨em', hj, zs, sj, hbj, eDj, dz, lz⟩ := hW
      have lf := hf _ mu
      by_cases hjl : j' < (f S[k]).length
      · refine .inr ⟨⟨_, _, hbj, List.getElem?_eq_getElem (by rw [List.length_map]; exact hjl)⟩, fun H => ∃ zs, Same H1 H ∧ SqT K H b ((f S[k]).map V.int) ∧ H D = some (.lst zs) ∧
          DpAll K H zs (((S.take k).flatMap fun u => (f u).map (d u)) ++ ((f S[k]).take (j' + 1)).map (d S[k])) ∧ zs.length ≤ 100 * k + (j' + 1),
          fun H' p => ⟨(f S[k]).length - (j' + 1), by omega, rfl, hjl, p⟩, fun x H' y => ?_⟩
        obtain ⟨e, hy⟩ := y
        subst e
        have hx := hy _ hbj
        rw [List.getElem?_map, List.getElem?_eq_getElem hjl] at hx
        cases hx
        have mv : (f S[k])[j'] ∈ f S[k] := List.getElem_mem hjl
        refine ⟨hw1 _ _, yesI (iteT (he _ mu _ mv _ _ sj fun H5 y5 s5 d5 => ?_))⟩
        have e5 := s5 _ _ eDj
        have kt : KT K H5 (upd H5 D (.lst (zs ++ [y5]))) := kt_lst e5
        refine ⟨zs, e5, Nat.lt_of_le_of_lt (show zs.length ≤ 20000 by omega) (by decide), zs ++ [y5], ?_, kt _ _ (Same.tup s5 hbj), upd_same, ?_, ?_⟩
        · intro c o e
          rw [upd_ne (ne_of_none e nD)]
          exact s5 _ _ (sj _ _ e)
        · rw [List.take_add_one, List.getElem?_eq_getElem hjl, List.map_append, ← List.append_assoc]
          refine DpAll.append (DpAll.kt kt (DpAll.same s5 dz) ?_) (.cons (Dp.kt kt d5 (ho _ _)) .nil)
          rw [onlyAll_app, ofl, onlyAll_map (ho _)]
          rfl
        · rw [List.length_append, List.length_singleton]
          omega
      · obtain rfl : j' = (f S[k]).length := by omega
        refine .inl ⟨⟨_, hbj, by rw [List.length_map]; exact Nat.le_refl _⟩, zs, sj, eDj, ?_, by omega⟩
        rw [List.take_length] at dz
        rw [tk, List.flatMap_append, List.flatMap_cons, List.flatMap_nil, List.append_nil]
        exact dz
  · obtain rfl : k = S.length := by omega
    rw [List.take_length] at dy
    exact .inl ⟨⟨_, Same.tup s hS, by rw [List.length_map]; exact Nat.le_refl _⟩, hd H ys s eD dy⟩
section
variable {X : Cx}
def tTruth (K : PySem.W.Frag) (ta : TE) : TT := fun σ H Q => ta σ H fun x H' => ∃ k, TruV K x H' k ∧ Q k H'
theorem truthK (K : PySem.W.Frag) {a : Expr} {ta : TE} (ha : PE X a ta)
    (he : ∀ whole, isTrue a X.env whole = (do let v ← whole; standAt a.pos; holding [v] (truthy v))) (h : X.K = K := by rfl) :
    PT X a (tTruth K ta) := h ▸ pt_truth ha he
theorem isiK (K : PySem.W.Frag) (h : X.K = K := by rfl) : CallR X (.builtin "isinstance") (rIsi K) := h ▸ call_isi
end
theorem ty_tup {K : PySem.W.Frag} {H : Hp} {a : Addr} {xs : List V} (h : SqT K H a xs) : TyX K H (.ref a) (.type "tuple") := by
  rcases h with (h | ⟨o, h⟩) | ⟨o, its, n, h, c, _⟩
  · exact .base (.tup h)
  · exact .fTuple h
  · exact .kTuple h c
end TL
namespace TL
/-! ### slides -/
def oth (m : Nat) (es : List (Int × Int)) (S : List Int) (u v : Int) : List Int := (nearL m es v).filter fun o => decide (o ∈ S) && !decide (o = u)
theorem mem_oth {m : Nat} {es : List (Int × Int)} {S : List Int} {u v o : Int} : o ∈ oth m es S u v ↔ o ∈ nearL m es v ∧ o ∈ S ∧ o ≠ u := by
  unfold oth
  rw [List.mem_filter, Bool.and_eq_true, decide_eq_true_eq, Bool.not_eq_true', decide_eq_false_iff_not]
def stepsL (m : Nat) (es : List (Int × Int)) (T : List Int) : List (Int × Int) := T.flatMap fun u => (nearL m es u).map fun v => (u, v)
def slidesP (m : Nat) (es : List (Int × Int)) (S : List Int) : List (Int × Int) := (stepsL m es S).filter fun p => decide (oth m es S p.1 p.2 = [])
def slidesT (m : Nat) (es : List (Int × Int)) (S T : List Int) : List (Int × Int) := T.flatMap fun u => ((nearL m es u).filter fun v => decide (oth m es S u v = [])).map fun v => (u, v)
theorem slides_eqT (m : Nat) (es : List (Int × Int)) (S : List Int) : ∀ T : List Int, (stepsL m es T).filter (fun p => decide (oth m es S p.1 p.2 = [])) = slidesT m es S T
  | [] => rfl
  | u :: T => by
    have ih := slides_eqT m es S T
    unfold stepsL slidesT at ih ⊢
    rw [List.flatMap_cons, List.flatMap_cons, List.filter_append, ih, List.filter_map]
    rfl
theorem slides_eq (m : Nat) (es : List (Int × Int)) (S : List Int) : slidesP m es S = slidesT m es S S := slides_eqT m es S S
theorem mem_slidesP {m : Nat} {es : List (Int × Int)} {S : List Int} {u v : Int} : (u, v) ∈ slidesP m es S ↔ u ∈ S ∧ v ∈ nearL m es u ∧ oth m es S u v = [] := by
  unfold slidesP stepsL
  rw [List.mem_filter, List.mem_flatMap, decide_eq_true_eq]
  constructor
  · rintro ⟨⟨a, ha, hb⟩, h⟩
    obtain ⟨b, hb, e⟩ := List.mem_map.mp hb
    cases e
    exact ⟨ha, hb, h⟩
  · rintro ⟨h1, h2, h3⟩
    exact ⟨⟨u, h1, List.mem_map.mpr ⟨v, h2, rfl⟩⟩, h3⟩
theorem ascP_steps (m : Nat) (es : List (Int × Int)) : ∀ {T : List Int}, Asc T → AscP (stepsL m es T)
  | [], _ => .nil
  | u :: T, h => by
    have h' := List.pairwise_cons.mp h
    unfold stepsL
    rw [List.flatMap_cons]
    refine List.pairwise_append.mpr ⟨?_, ascP_steps m es h'.2, ?_⟩
    · rw [List.pairwise_map]
      exact (nearL_asc m es u).imp fun h => .inr ⟨rfl, h⟩
    · intro a ha b hb
      obtain ⟨v, _, rfl⟩ := List.mem_map.mp ha
      obtain ⟨z, hz, hb⟩ := List.mem_flatMap.mp hb
      obtain ⟨y, _, rfl⟩ := List.mem_map.mp hb
      exact .inl (h'.1 z hz)
theorem ascP_slides {m : Nat} {es : List (Int × Int)} {S : List Int} (h : Asc S) : AscP (slidesP m es S) := (ascP_steps m es h).filter _
theorem nearL_len (m : Nat) (es : List (Int × Int)) (v : Int) : (nearL m es v).length ≤ m := by
  have := List.length_filter_le (fun o => decide (ordP o v ∈ es)) (rng m)
  rw [rng_length] at this
  exact this
theorem asc_len {m : Nat} : ∀ {S : List Int} {lo : Nat}, Asc S → (∀ v ∈ S, (lo : Int) ≤ v ∧ v < m) → S.length ≤ m - lo
  | [], _, _, _ => Nat.zero_le _
  | v :: S, lo, h, b => by
    have h' := List.pairwise_cons.mp h
    have hv := b v List.mem_cons_self
    have := asc_len (m := m) (lo := v.toNat + 1) h'.2 fun z hz => ⟨by have := h'.1 z hz; omega, (b z (List.mem_cons_of_mem _ hz)).2⟩
    rw [List.length_cons]
    omega
theorem IsSet.len {m : Nat} {es : List (Int × Int)} {S : List Int} (h : IsSet m es S) : S.length ≤ m := by
  have := asc_len (lo := 0) h.asc fun v hv => by have := h.rng v hv; omega
  omega
theorem steps_len (m : Nat) (es : List (Int × Int)) : ∀ T : List Int, (stepsL m es T).length ≤ T.length * m
  | [] => by simp [stepsL]
  | u :: T => by
    have ih := steps_len m es T
    unfold stepsL at ih ⊢
    rw [List.flatMap_cons, List.length_append, List.length_map, List.length_cons, Nat.add_mul, Nat.one_mul]
    have := nearL_len m es u
    omega
/-! ### the setting behind a slide -/
theorem move_perm {u v : Int} : ∀ {S : List Int}, S.Nodup → u ∈ S → (S.map fun l => if l = u then v else l).Perm (S.filter (fun l => !decide (l = u)) ++ [v])
  | [], _, h => nomatch h
  | a :: S, nd, h => by
    have nd' := List.nodup_cons.mp nd
    by_cases e : a = u
    · subst e
      rw [List.map_cons, if_pos rfl, List.filter_cons_of_neg (by simp)]
      have e1 : S.map (fun l => if l = a then v else l) = S := by
        have q : S.map (fun l => if l = a then v else l) = S.map id :=
          List.map_congr_left fun l hl => if_neg fun z => nd'.1 (by rw [← z]; exact hl)
        rw [q, List.map_id]
      have e2 : S.filter (fun l => !decide (l = a)) = S := List.filter_eq_self.mpr fun l hl => by
        have : l ≠ a := fun z => nd'.1 (z ▸ hl)
        simp [this]
      rw [e1, e2]
      exact (List.perm_append_singleton v S).symm
    · rw [List.map_cons, if_neg e, List.filter_cons_of_pos (by simp [e]), List.cons_append]
      exact List.Perm.cons a (move_perm nd'.2 ((List.mem_cons.mp h).resolve_left fun z => e z.symm))
def after (S : List Int) (u v : Int) : List Int := srtI (S.filter (fun l => !decide (l = u)) ++ [v])
theorem after_eq {S : List Int} {u v : Int} (nd : S.Nodup) (h : u ∈ S) : srtI (S.map fun l => if l = u then v else l) = after S u v := srtI_congr (move_perm nd h)
theorem IsFor.loop {m : Nat} {es : List (Int × Int)} (f : IsFor m es) (v : Int) : ordP v v ∉ es := fun h => by
  have := f.rng _ h
  unfold ordP at this
  rw [if_pos (Int.le_refl _)] at this
  simp only at this
  omega
theorem mem_after {S : List Int} {u v z : Int} : z ∈ after S u v ↔ (z ∈ S ∧ z ≠ u) ∨ z = v := by
  unfold after
  rw [mem_srtI, List.mem_append, List.mem_filter, List.mem_singleton, Bool.not_eq_true', decide_eq_false_iff_not]
theorem IsSet.after {m : Nat} {es : List (Int × Int)} {S : List Int} {u v : Int} (f : IsFor m es) (h : IsSet m es S) (hu : u ∈ S) (hv : v ∈ nearL m es u) (ho : oth m es S u v = []) :
    IsSet m es (after S u v) := by
  obtain ⟨rv, av⟩ := mem_nearL.mp hv
  have nv : v ∉ S := fun z => h.free v z u hu av
  have key : ∀ a ∈ S, a ≠ u → ordP a v ∉ es := fun a ha hne hin => by
    have : a ∈ oth m es S u v := mem_oth.mpr ⟨mem_nearL.mpr ⟨h.rng a ha, hin⟩, ha, hne⟩
    rw [ho] at this
    cases this
  refine ⟨srtI_asc ?_, fun z hz => ?_, fun a ha b hb => ?_⟩
  · refine List.nodup_append.mpr ⟨h.asc.nodup.filter _, List.pairwise_singleton _ _, fun a ha b hb e => ?_⟩
    rw [List.mem_singleton.mp hb] at e
    subst e
    exact nv (List.mem_filter.mp ha).1
  · rcases mem_after.mp hz with ⟨h1, _⟩ | rfl
    · exact h.rng z h1
    · exact rv
  · rcases mem_after.mp ha with ⟨h1, h2⟩ | rfl
    · rcases mem_after.mp hb with ⟨h3, h4⟩ | rfl
      · exact h.free a h1 b h3
      · exact key a h1 h2
    · rcases mem_after.mp hb with ⟨h3, h4⟩ | rfl
      · rw [ordP_comm]
        exact key b h3 h4
      · exact f.loop b
end TL
namespace TL
open PySem PySem.Spec PyProof.Rows L2
theorem Sm.ints {ns : List Int} {m : Nat} (h : ∀ v ∈ ns, sm v) (hm : ns.length ≤ m) : Sm (intsD ns) (m * 11) 1 :=
  Sm.tup (n := 10) (k := 0) (m := m) (fun d hd => by
    obtain ⟨p, hp, rfl⟩ := List.mem_map.mp hd
    exact Sm.int (h p hp)) (by rw [List.length_map]; exact hm)
theorem IsSet.shows {m : Nat} {es : List (Int × Int)} {S : List Int} (h : IsSet m es S) (hm : m ≤ 12) : Sm (intsD S) 132 1 :=
  Sm.ints (m := 12) (fun v hv => by have := h.rng v hv; unfold sm; omega) (by have := h.len; omega)
theorem IsFor.shows {m : Nat} {es : List (Int × Int)} (h : IsFor m es) (hm : m ≤ 12) : Sm (forD m es) 600 3 := by
  have h1 : Sm (prsD es) (12 * 23) 2 := Sm.prs (fun p hp => by have := h.rng p hp; unfold smP sm; omega) (by have := h.count; omega)
  have h2 : Sm (.int (m : Int)) (12 * 23) 2 := (Sm.int (by unfold sm; omega)).le (by decide) (by decide)
  refine (Sm.tup (n := 12 * 23) (k := 2) (m := 2) (fun d hd => ?_) (Nat.le_refl _)).le (by decide) (by decide)
  rcases List.mem_cons.mp hd with rfl | hd
  · exact h2
  · obtain rfl := List.mem_singleton.mp hd
    exact h1
theorem slides_small {m : Nat} {es : List (Int × Int)} {S : List Int} (h : IsSet m es S) (hm : m ≤ 12) : ∀ p ∈ slidesP m es S, smP p := by
  rintro ⟨u, v⟩ hp
  obtain ⟨h1, h2, _⟩ := mem_slidesP.mp hp
  have a := h.rng u h1
  have b := (mem_nearL.mp h2).1
  unfold smP sm
  exact ⟨⟨by show (-1000 : Int) ≤ u; omega, by show u ≤ 1000; omega⟩, by show (-1000 : Int) ≤ v; omega, by show v ≤ 1000; omega⟩
theorem slides_len {m : Nat} {es : List (Int × Int)} {S : List Int} (h : IsSet m es S) (hm : m ≤ 12) : (slidesP m es S).length ≤ 144 := by
  have h1 := List.length_filter_le (fun p => decide (oth m es S p.1 p.2 = [])) (stepsL m es S)
  have h2 := steps_len m es S
  have h3 : S.length * m ≤ 12 * 12 := Nat.mul_le_mul (by have := h.len; omega) hm
  unfold slidesP
  omega
theorem Sm.two {d e : PyData} {n k : Nat} (h1 : Sm d n k) (h2 : Sm e n k) : Sm (.list [d, e]) (2 * (n + 1)) (k + 1) :=
  Sm.lst (m := 2) (fun z hz => by
    rcases List.mem_cons.mp hz with rfl | hz
    · exact h1
    · obtain rfl := List.mem_singleton.mp hz
      exact h2) (Nat.le_refl _)
theorem show2 {m : Nat} {es : List (Int × Int)} {S : List Int} (f : IsFor m es) (h : IsSet m es S) (hm : m ≤ 12) : Shows (.list [forD m es, intsD S]) :=
  (Sm.two (f.shows hm) ((h.shows hm).le (by decide) (by decide))).shows (by decide) (by decide)
end TL
namespace TL
open PySem PySem.Spec PyProof.Rows L2
section
variable {X : Cx}
/-- name = {..} on one line, the name a local -/
theorem ps_setDc {i : Nat} {y : Str} {py : Pos} {kx vx tg iter : Expr} {ifs : List Expr} {scope : Scope} {own : List (Str × Nat)} {pos spos : Pos}
    {wi : TI} {g : TG} {tt : TT} {tk tv : TE} (hc : X.calm = true) (hN : X.N.Nodup) (hy : X.N[i]? = some y) (hyl : X.env.scope.names.lookup y = some .local)
    (hsw : swapsWith (.DictComp kx vx [⟨tg, iter, ifs, 0⟩] scope pos) (some (.Name y py)) spos.line X.env = pure true)
    (hi : PI X tg iter wi) (ok : BlkOk X.N X.env.scope scope own)
    (hg : ∀ (s : Shared) (H : Hp) (C : Addr) (cl : List (Str × Addr)) (fp : List Addr),
      PG (X.blk s H scope (compEnvC scope cl C X.env) fp) tg g)
    (ht : ∀ (s : Shared) (H : Hp) (C : Addr) (cl : List (Str × Addr)) (fp : List Addr),
      PTs (X.blk s H scope (compEnvC scope cl C X.env) fp) ifs tt)
    (hk : ∀ (s : Shared) (H : Hp) (C : Addr) (cl : List (Str × Addr)) (fp : List Addr),
      PE (X.blk s H scope (compEnvC scope cl C X.env) fp) kx tk)
    (he : ∀ (s : Shared) (H : Hp) (C : Addr) (cl : List (Str × Addr)) (fp : List Addr),
      PE (X.blk s H scope (compEnvC scope cl C X.env) fp) vx tv)
    (hs : ∀ x, foldedSetIterable iter X.env x = pure x := by intro _; rfl) :
    PS X (.Assign [.Name y py] (.DictComp kx vx [⟨tg, iter, ifs, 0⟩] scope pos) spos) (tAsg (tDc wi g tt tk tv (own.map (·.2))) (gName i)) := by
  refine ⟨fun pins s σ H D I h => ?_⟩
  rw [exec_Assign_Name_used _ _ _ _ hsw]
  refine wpAny_bind (wpAny_standAt (wpAny_bind ?_))
  show wpAny _ X.A (do
    let _ ← comprehension (.DictComp kx vx [⟨tg, iter, ifs, 0⟩] scope pos) scope X.env
      (firstIterPos [⟨tg, iter, ifs, 0⟩] pos) newDict false (eval iter X.env) (some (assign (.Name y py) X.env))) _ _ s
  have h2 : tDc wi g tt tk tv (own.map (·.2)) σ H (fun x H1 => gName i x σ H1 D.nx) := h
  refine wpAny_bind (thn (dc_core (Qf := fun _ s' => SP X pins D .next s') hc hN I hi ok hg ht hk he hs h2
    fun L C s' m H' I' q hn f => ?_) fun _ s' hq => wpAny_pure (wpAny_pure hq))
  show wpAny _ _ (assign (.Name y py) X.env (.ref L)) _ _ _
  refine wpAny_assign_Name (store_ok2 (v := V.ref L) I' hN hy (.inl hyl) rfl (fun s2 I2 ⟨a, sb, ha⟩ => ?_) (.inr hyl))
  obtain ⟨f0, f1, f2, f3, f4, f5⟩ := f
  have haC : C ≠ a := by
    rcases ha with z | z
    · rw [z]; exact f1
    · exact fun e => f4 y a z e.symm
  exact ⟨m, hn.sameBut sb haC, fun h3 sb3 => ⟨_, H', I2.turned (t' := s2.toks) (fun b o hb e => (sb3.2 b hb).trans e) f0 f1 f3 f4 f5, q⟩⟩
theorem sw_trueD {kx vx : Expr} {gs : List Comprehension} {scope : Scope} {pos py : Pos} {y : Str} {l : Nat} {env : Env} (hk : env.scope.kind = .function)
    (hy : env.scope.names.lookup y = some .local) (hl : (py.line == pos.line) = true)
    (ha : (scope.names.any fun (n, k) => n == y && (k == .local || k == .cell)) = false) :
    swapsWith (.DictComp kx vx gs scope pos) (some (.Name y py)) l env = pure true := by
  have ky : env.kindOf y = some .local := hy
  have hb : env.blockKind = .function := by
    unfold Env.blockKind
    rw [hk]
    rfl
  unfold swapsWith
  simp only [hb, ky, ha, Expr.pos, hl]
  rfl
end
/-! ### tables from ints to ints -/
def tab (f : Int → Int) (vs : List Int) : List (Key × V) := vs.map fun v => ((Sum.inl v : Key), V.int (f v))
theorem tab_val (f : Int → Int) (v : Int) : ∀ vs : List Int, valV (tab f vs) (Sum.inl v) = if v ∈ vs then some (V.int (f v)) else none
  | [] => rfl
  | u :: vs => by
    have ih := tab_val f v vs
    unfold tab at ih ⊢
    rw [List.map_cons]
    by_cases e : u = v
    · subst e
      rw [valV_pos rfl, if_pos List.mem_cons_self]
    · have e' : ¬ (Sum.inl u : Key) = Sum.inl v := fun z => e (Sum.inl.inj z)
      rw [valV_neg e', ih]
      by_cases h : v ∈ vs
      · rw [if_pos h, if_pos (List.mem_cons_of_mem _ h)]
      · rw [if_neg h, if_neg fun z => (List.mem_cons.mp z).elim (fun z => e z.symm) h]
theorem tab_len (f : Int → Int) (vs : List Int) : (tab f vs).length = vs.length := List.length_map _
theorem tab_snoc (f : Int → Int) (vs : List Int) (v : Int) (h : v ∉ vs) : putK (tab f vs) (Sum.inl v) (V.int (f v)) = tab f (vs ++ [v]) := by
  rw [putK_new _ (by rw [tab_val, if_neg h])]
  unfold tab
  rw [List.map_append]
  rfl
/-- {v: f(v) for v in ..}: the turns leave what was tracked as it was -/
theorem dc_tab {J : It} {g : TG} {tk tv : TE} {vs : List Nat} {σ : L2.St} {H1 : Hp} {D : Addr} {Qd : Hp → Prop} (f : Int → Int) (bs : List Int) (σb : Int → L2.St)
    (nd : bs.Nodup) (nD : H1 D = none) (hl : bs.length ≤ 1000)
    (hgo : ∀ j H', j < bs.length → Same H1 H' → J.go j H') (hst : ∀ H', Same H1 H' → J.stop bs.length H')
    (hg : ∀ j b x H' H'', bs[j]? = some b → Same H1 H' → J.yld j H' x H'' → H'' = H' ∧ ∀ Q : L2.St → Hp → Prop, Q (σb b) H' → g x (wipe σ vs) H' Q)
    (hw : ∀ b, wipe (σb b) vs = wipe σ vs)
    (hk : ∀ b ∈ bs, ∀ H' (Q : VK), Same H1 H' → Q (.int b) H' → tk (σb b) H' Q)
    (hv : ∀ b ∈ bs, ∀ H' (Q : VK), Same H1 H' → (∀ H2, Same H' H2 → Q (.int (f b)) H2) → tv (σb b) H' Q)
    (hd : ∀ H', Same H1 H' → H' D = some (.dK (tab f bs)) → Qd H') :
    ∃ W : Nat → Nat → Hp → Prop, (∃ m, W 0 m (upd H1 D (.dK []))) ∧ ∀ i m H, W i m H →
      (J.stop i H ∧ Qd H) ∨
      (J.go i H ∧ ∃ Nx : Hp → Prop, (∀ H', Nx H' → ∃ m', m' < m ∧ W (i + 1) m' H') ∧
        ∀ x H', J.yld i H x H' → g x (wipe σ vs) H' fun σ2 H2 => wipe σ2 vs = wipe σ vs ∧ tYes σ2 H2 fun b H3 =>
          if b = true then
            tk σ2 H3 fun y H4 => tv σ2 H4 fun z H5 => ∃ kvs k, y = kV k ∧ H5 D = some (.dK kvs) ∧ kvs.length < sizeLine ∧ Nx (upd H5 D (.dK (putK kvs k z)))
          else Nx H3) := by
  let Pv : Nat → Hp → Prop := fun i H' => Same H1 H' ∧ H' D = some (.dK (tab f (bs.take i)))
  refine ⟨fun i m H => m = bs.length - i ∧ i ≤ bs.length ∧ Pv i H, ⟨bs.length, rfl, Nat.zero_le _, same_upd nD, upd_same⟩, fun i m H hW => ?_⟩
  obtain ⟨em, hi, s, eD⟩ := hW
  by_cases hlt : i < bs.length
  · refine .inr ⟨hgo i H hlt s, Pv (i + 1), fun H' p => ⟨bs.length - (i + 1), by omega, rfl, hlt, p⟩, fun x H' y => ?_⟩
    obtain ⟨rfl, k⟩ := hg i bs[i] x H H' (List.getElem?_eq_getElem hlt) s y
    have mb : bs[i] ∈ bs := List.getElem_mem hlt
    refine k _ ⟨hw _, yesI (iteT (hk _ mb _ _ s (hv _ mb _ _ s fun H5 s5 => ?_)))⟩
    have tk' : bs.take (i + 1) = bs.take i ++ [bs[i]] := by rw [List.take_add_one, List.getElem?_eq_getElem hlt]; rfl
    have ni : bs[i] ∉ bs.take i := fun z => by
      obtain ⟨j, hj, e⟩ := List.mem_iff_getElem.mp z
      rw [List.length_take] at hj
      rw [List.getElem_take] at e
      have := (List.getElem_inj nd).mp e
      omega
    refine ⟨tab f (bs.take i), Sum.inl bs[i], rfl, s5 _ _ eD, ?_, ?_, ?_⟩
    · rw [tab_len, List.length_take]
      exact small1000 (by omega)
    · intro b o e
      rw [upd_ne (ne_of_none e nD)]
      exact s5 _ _ (s _ _ e)
    · rw [upd_same, tab_snoc f _ _ ni, tk']
  · obtain rfl : i = bs.length := by omega
    rw [List.take_length] at eD
    exact .inl ⟨hst H s, hd H s eD⟩
end TL
namespace TL
open PySem PySem.Spec PyProof.Rows L2
/-- a def of the text that may raise, by its name -/
structure OwnX (P : Program) (w : World) (K : PySem.W.Frag) (mg : Str → Option Value) (base : Heap)
    (x : Str) (k : Nat) (ps : List Str) (sp : Sp) : Prop where
  ex : ∃ (f : Addr) (fd : FuncData), FnOk P w K mg base (L2.CX P w) k f fd ps sp ∧ mg x = some (.ref f) ∧
    PySem.W.keepIn K (.ref f) = true ∧ Binds K fd ps []
section
variable {X : Cx} {k : Nat} {ps : List Str} {sp : Sp} {x : Str} {p pos : Pos} {e : Expr} {es : List Expr} {t : TA} {W : WX}
theorem pe_ownX (O : OwnX X.prog X.w X.K X.mg X.base x k ps sp) (hr : Room k X.A) (tk : Takes X W) (hg : Gl X x) (ha : PA X (e :: es) t)
    (hdb : (x == ("__debug__" : Str)) = false := by decide)
    (he : starEach (e :: es) X.env = (false, eval e X.env) :: starEach es X.env := by rfl)
    (hpl : (backTo pos (starEach es X.env)).any (·.1) = false := by rfl) :
    PE X (.Call (.Name x p) (e :: es) [] pos) (tCallS sp (WE W) t) := by
  obtain ⟨f, fd, F, hm, hk, hb⟩ := O.ex
  exact pe_callS F hr hg hm hk hb (fun σ => passAt tk σ) ha hdb he hpl
end
/-! ### an error class of the text with one field -/
/-- self.f = value -/
def spInit (C : Addr) (f : Str) : Sp := fun vs H Q _ => ∃ (a : Addr) (y : V), vs = [.ref a, y] ∧ H a = some (exo a C none) ∧
  ∀ dx, H dx = none → dx ≠ a → Q .non (upd (upd H dx (exd dx [(f, y)])) a (exo a C (some dx)))
/-- what is said of such a class -/
structure ErrC (P : Program) (w : World) (K : PySem.W.Frag) (mg : Str → Option Value) (base : Heap) (x f : Str) (C : Addr) : Prop where
  oex : OexC K C
  xf : XfC K C
  exc : ExcC K C
  cls : (PySem.W.clsIn K C).isSome = true
  nof : PySem.W.findIn K (.ref C) f = some none
  glo : mg x = some (.ref C)
  ini : ∃ (fI : Addr) (fd : FuncData) (ps : List Str), PySem.W.findIn K (.ref C) "__init__" = some (some (.ref fI)) ∧ PySem.W.typeIn K (.ref fI) = some (.type "function") ∧
    FnOk P w K mg base CX0 1 fI fd ps (spInit C f) ∧ Binds K fd ps []
section
variable {X : Cx} {x f : Str} {C : Addr} {e : Expr} {p pos pos' : Pos} {ta : TA} {W : WX}
/-- raise x(e) -/
theorem ps_err (T : ErrC X.prog X.w X.K X.mg X.base x f C) (hr : Room 2 X.A) (tk : Takes X W) (hg : Gl X x) (ha : PA X [e] ta) (hc : X.calm = true := by rfl)
    (hdb : (x == ("__debug__" : Str)) = false := by decide)
    (he : starEach [e] X.env = (false, eval e X.env) :: starEach [] X.env := by rfl)
    (hpl : (backTo pos (starEach [] X.env)).any (·.1) = false := by rfl) :
    PS X (.Raise (some (.Call (.Name x p) [e] [] pos)) none pos') (fun _ σ H => tMkO C (spInit C f) [] ta σ H fun cls d H' => W cls d σ H') := by
  obtain ⟨fI, fd, ps, iC, tI, F, hb⟩ := T.ini
  exact ps_raise hc tk (pmk_oex (dvs := []) (ds := []) T.oex iC tI F hr hb .nil pass0 hg T.glo ha hdb he hpl)
/-- the reading of it -/
theorem errI {y : V} {H1 : Hp} {Q : XK} (q : ∀ (H' : Hp) (d : Addr), Same H1 H' → H' d = some (.xd [(f, y)]) → Q (.ref C) (some d) H') :
    [y].length ≤ 1000 ∧ ∀ a, H1 a = none → spInit C f (.ref a :: ([y] ++ [])) (upd H1 a (exo a C none))
      (fun v H2 => v = .non ∧ ∃ (d : Addr) (fs : List (Str × V)), H2 a = some (exo a C (some d)) ∧ H2 d = some (exd d fs) ∧ H1 d = none ∧ Q (.ref C) (some d) (upd (del H2 a) d (.xd fs))) (fun _ _ _ => False) := by
  refine ⟨by show 1 ≤ 1000; decide, fun a na => ⟨a, y, rfl, upd_same, fun dx nd ne => ?_⟩⟩
  rw [upd_ne ne] at nd
  refine ⟨rfl, dx, [(f, y)], upd_same, (upd_ne ne).trans upd_same, nd, q _ _ (fun b o e => ?_) upd_same⟩
  have hb : b ≠ a := fun z => by rw [z, na] at e; cases e
  have hd : b ≠ dx := fun z => by rw [z, nd] at e; cases e
  rw [upd_ne hd, del_ne hb, upd_ne hb, upd_ne hd, upd_ne hb]
  exact e
end
/-! ### isinstance of the error that a suite holds -/
def rIsX (K : PySem.W.Frag) (cls : Value) (d : Option Addr) (D a : Addr) : List V → Hp → VK → Prop := fun xs H Q => ∃ (c : V) (b : Bool), xs = [.ref a, c] ∧ cls = .ref D ∧ (∃ (dd : Addr) (fs : List (Str × V)), d = some dd ∧ H dd = some (.xd fs)) ∧
  ((∃ cv, (∀ u, RelV c u → u = cv) ∧ PySem.W.kitOne K (.ref D) cv = some b) ∨ ∃ (tp : Addr) (cs : List Addr), c = .ref tp ∧ H tp = some (.tup (cs.map V.ref)) ∧ PySem.W.kitAny K (.ref D) (cs.map Value.ref) = some b) ∧ Q (.bl b) H
theorem vals_refs : ∀ {cs : List Addr} {its : List Value}, Vals (cs.map V.ref) its → its = cs.map Value.ref
  | [], _, h => by cases h; rfl
  | c :: cs, _, h => by
    cases h with
    | cons r1 r2 =>
      cases r1
      rw [vals_refs r2]
      rfl
theorem isX {X : Cx} {a D : Addr} {oe : Obj} {cls : Value} {d : Option Addr} {pn : List (Addr × Obj)} (C : ExcC X.K D) (hcl : (PySem.W.clsIn X.K D).isSome = true) (hz : Zc cls d oe) (hf : ∃ vs, oe.data = .fields vs) :
    CallR (X.suite a ((a, oe) :: pn)) (.builtin "isinstance") (rIsX X.K cls d D a) := by
  intro pins s σ H xs us Q I r h
  obtain ⟨c, b, rfl, ec, ⟨dd, fs, ed, ex⟩, hk, q⟩ := h
  subst ec ed
  cases r with
  | cons rx rr =>
    cases rr with
    | cons rt rr =>
      cases rr
      cases rx
      obtain ⟨hget, _⟩ := I.pin (a, oe) (List.mem_append.mpr (.inl List.mem_cons_self))
      obtain ⟨vs, hv⟩ := hf
      have hx : ObjOk X.prog X.w H s.heap dd (.xd fs) := I.hok dd _ ex
      obtain ⟨mA, hns, hr⟩ := hx
      obtain ⟨od, ho, hl⟩ := lookIn_ns hns
      have J : PySem.W.InstAt s.heap a oe D (some od) := ⟨hget, hz.1, by unfold PySem.W.notCls; rw [hv] <;> rfl, by rw [hz.2]; exact ho⟩
      have Z := PySem.W.kitx_exc (x := a) (ox := oe) (od := some od) hcl C.hg C.hk C.hs C.ha C.hn C.ht C.hm
      rcases hk with ⟨cv, hcv, e⟩ | ⟨tp, cs, e1, e2, e⟩
      · have ec := hcv _ rt
        subst ec
        exact PySem.W.kia_one Z I.kIn J e (fun z => nomatch z) fun tk => ⟨.bl b, H, I.kept (t' := tk) fun _ _ z => z, rfl, q⟩
      · subst e1
        cases rt
        obtain ⟨_, its, r, o, h1, h2, n, h3⟩ := (show ObjOk X.prog X.w H s.heap tp (.tup (cs.map V.ref)) from I.hok tp _ e2)
        have ei : its = cs.map Value.ref := vals_refs r
        subst ei
        obtain ⟨oc, od2, oda, osl⟩ := o
        dsimp only at h2 h3
        subst h2 h3
        exact PySem.W.kia_tup Z I.kIn J h1 e (fun z => nomatch z) fun tk => ⟨.bl b, H, I.kept (t' := tk) fun _ _ z => z, rfl, q⟩
/-! ### in short, within a suite -/
theorem isXK (K : PySem.W.Frag) {X : Cx} {P : Program} {w : World} {mg : Str → Option Value} {base : Heap} {x f : Str} {a D : Addr} {oe : Obj} {cls : Value} {d : Option Addr} {pn : List (Addr × Obj)} (T : ErrC P w K mg base x f D) (hz : Zc cls d oe) (hf : ∃ vs, oe.data = .fields vs) (h : X.K = K := by rfl) :
    CallR (X.suite a ((a, oe) :: pn)) (.builtin "isinstance") (rIsX K cls d D a) := by
  subst h
  exact isX T.exc T.cls hz hf
theorem xfK (K : PySem.W.Frag) {X : Cx} {P : Program} {w : World} {mg : Str → Option Value} {base : Heap} {x n : Str} {a C : Addr} {oe : Obj} {cls : Value} {d : Option Addr} {pn : List (Addr × Obj)} {e : Expr} {te : TE} {pos : Pos} (T : ErrC P w K mg base x n C)
    (hz : Zc cls d oe) (hf : ∃ vs, oe.data = .fields vs) (he : PE (X.suite a ((a, oe) :: pn)) e te) (h : X.K = K := by rfl) (hb : attributeBase e n X.env (eval e X.env) = eval e X.env := by rfl) :
    PE (X.suite a ((a, oe) :: pn)) (.Attribute e n pos) (tXf a cls d C n te) := by
  subst h
  exact pe_xf T.xf T.nof hz hf he hb
/-! ### what the written part says of classes -/
section
variable {K : PySem.W.Frag} {C D : Addr}
theorem cls_of (h : PySem.W.hasDictIn K C = true) : (PySem.W.clsIn K C).isSome = true := by
  obtain ⟨cd, hc, _⟩ := PySem.W.any_some h
  rw [hc]
  rfl
theorem kit_own {b : Bool} (hd : PySem.W.hasDictIn K D = true) (ht : PySem.W.typeIn K (.ref D) = some (.type "type")) (hs : PySem.W.subIn K (.ref C) (.ref D) = some b) (self : PySem.W.subIn K (.ref C) (.ref C) = some true) : PySem.W.kitOne K (.ref C) (.ref D) = some b := by
  unfold PySem.W.kitOne
  by_cases e : (Value.ref C == Value.ref D) = true
  · rw [if_pos e]
    have e2 := beq_iff_eq.mp e
    rw [← e2, self] at hs
    exact hs
  · rw [if_neg e]
    unfold PySem.W.kitCls
    have e2 : ((PySem.W.clsIn K D).isSome && PySem.W.typeIn K (.ref D) == some (.type "type")) = true := by
      rw [cls_of hd, ht]
      rfl
    show (if ((PySem.W.clsIn K D).isSome && PySem.W.typeIn K (.ref D) == some (.type "type")) = true then _ else _) = _
    rw [if_pos e2]
    exact hs
theorem kit_ve {T : String} (hm : PySem.W.kitMeta T = true) (hs : PySem.W.subIn K (.ref C) (.type T) = some true) : PySem.W.kitOne K (.ref C) (.type T) = some true := by
  unfold PySem.W.kitOne
  rw [if_neg (by intro z; cases beq_iff_eq.mp z)]
  unfold PySem.W.kitCls
  show (if PySem.W.kitMeta T = true then _ else _) = _
  rw [if_pos hm]
  exact hs
theorem exm_own {b : Bool} (h1 : PySem.W.subIn K (.ref D) (.type "BaseException") = some true) (hd : PySem.W.hasDictIn K D = true) (ht : PySem.W.typeIn K (.ref D) = some (.type "type")) (h4 : PySem.W.subIn K (.ref C) (.ref D) = some b) : PySem.W.exmOne K (.ref C) (.ref D) = some b := PySem.W.exm_ref h1 hd ht h4
theorem kitAny_no : ∀ {cs : List Addr}, (∀ c ∈ cs, PySem.W.kitOne K (.ref C) (.ref c) = some false) → PySem.W.kitAny K (.ref C) (cs.map Value.ref) = some false
  | [], _ => rfl
  | c :: cs, h => by
    show (match PySem.W.kitOne K (.ref C) (.ref c) with | some true => some true | some false => PySem.W.kitAny K (.ref C) (cs.map Value.ref) | none => none) = _
    rw [h c List.mem_cons_self]
    exact kitAny_no fun c hc => h c (List.mem_cons_of_mem _ hc)
end
/-- the own __init__ of such a class -/
structure IniC (K : PySem.W.Frag) (C : Addr) (f : Str) : Prop where
  oex : OexC K C
  nof : PySem.W.findIn K (.ref C) f = some none
end TL
namespace TL
open PySem PySem.Spec PyProof.Rows L2
/-! ### what is due -/
def rNeE (K : PySem.W.Frag) : R2 := fun x y H Q => ∃ (a b : Addr) (xs : List V), x = .ref a ∧ y = .ref b ∧ SqL K H a xs ∧ SqL K H b [] ∧ Q (.bl (!xs.isEmpty)) H
theorem op_neE {X : Cx} (hu : X.A.units + 64 < cLine) : OpR X (compareOp .NotEq) (rNeE X.K) := by
  intro pins s σ H x y v u Q I rx ry h
  obtain ⟨a, b, xs, rfl, rfl, ha, hb, q⟩ := h
  cases rx
  cases ry
  obtain ⟨its, rv, ⟨o, n, ho, hc, _, hd⟩, _⟩ := I.list ha
  obtain ⟨its2, rv2, ⟨o2, n2, ho2, hc2, _, hd2⟩, _⟩ := I.list hb
  cases rv2
  have hl : s.heap.IsList a its.toArray := ⟨_, ho, hc, _, hd⟩
  have hl2 : s.heap.IsList b #[] := ⟨_, ho2, hc2, _, hd2⟩
  cases xs with
  | nil =>
    cases rv
    exact (SeqAt.RcNeAt.lists hl hl2 rfl (by omega) (fun j j1 _ => absurd j1 (Nat.not_lt_zero _)) (e := fun _ => true)) X.prog X.w X.xe _ ⟨.bl _, H, I, rfl, q⟩
  | cons x xs =>
    cases rv with
    | cons r1 r2 => exact (SeqAt.RcNeAt.lists_lengths hl hl2 (by simp) (by omega)) X.prog X.w X.xe _ ⟨.bl _, H, I, rfl, q⟩
theorem neEK (K : PySem.W.Frag) {X : Cx} (hu : X.A.units + 64 < cLine) (h : X.K = K := by rfl) : OpR X (compareOp .NotEq) (rNeE K) := h ▸ op_neE hu
end TL

namespace TL
open PySem PySem.Spec PyProof.Rows L2
/-! ### sorted(set(t)), t a tuple of ints -/
section
variable {X : Cx}
def tSortSI (K : PySem.W.Frag) (ta : TE) : TE := fun σ H Q => ta σ H fun x H1 => ∃ (l : Addr) (ns : List Int), x = V.ref l ∧ SqT K H1 l (ns.map V.int) ∧ ns.length < 64 ∧
  ∀ (ms : List Int) (p : Addr), ms.Pairwise (· < ·) → (∀ k : Int, k ∈ ms ↔ k ∈ ns) → H1 p = none → Q (.ref p) (upd H1 p (.lst (ms.map V.int)))
theorem sort_R {pins : List (Addr × Obj)} {s : Shared} {σ : L2.St} {H : Hp} {a : Addr} {S : Int → Bool} {n : Nat} {Q : VK} (I : L2.Inv X pins σ H s) (R : SetR X.w s.heap a S n) (hc : X.calm = true) (h64 : n < 64)
    (q : ∀ (ms : List Int) (p : Addr), ms.Pairwise (· < ·) → (∀ k : Int, k ∈ ms ↔ S k = true) → H p = none → Q (.ref p) (upd H p (.lst (ms.map V.int)))) : wpAny (model X.prog X.w) X.A (call (.builtin "sorted") [.ref a]) (EP X pins σ Q) X.xe s := by
  refine sorted_set R (I.ok.hd hc) h64 fun s' p out c ms k g o hp hg hi hs hm hl => ?_
  have hlen : (ms.map V.int).length ≤ sizeLine := by rw [List.length_map, hl, sizeLine_eq]; omega
  have hn : H p = none := I.hok.fresh hp
  have J : Inv X pins σ (upd H p (.lst (ms.map V.int))) { s with heap := s'.heap, gens := s'.gens, drawn := s'.drawn, toks := s'.toks } :=
    I.call (ch := []) (Un.laid k hp hn) (I.hok.laid k hp ⟨hlen, out.toList, c, vals_of_ints hi, hg⟩) (by rw [g]; exact I.bare) (fun _ z => nomatch z)
  have e : s' = { s with heap := s'.heap, gens := s'.gens, drawn := s'.drawn, toks := s'.toks } := by
    cases s'
    cases s
    cases o
    rfl
  rw [e]
  exact ⟨.ref p, _, J, rfl, q ms p hs hm hn⟩
theorem pe_sortSI {a : Expr} {ta : TE} {p p2 q pos : Pos} (hc : X.calm = true) (hg : Gl X "sorted") (hm : X.mg "sorted" = none) (hg2 : Gl X "set") (hm2 : X.mg "set" = none) (ha : PE X a ta)
    (na : starEach [a] X.env = (false, eval a X.env) :: starEach [] X.env := by rfl) : PE X (.Call (.Name "sorted" p) [.Call (.Name "set" p2) [a] [] q] [] pos) (tSortSI X.K ta) := by
  refine ⟨fun pins s σ H Q I h => ?_⟩
  refine Call_ (ld_blt I hg hm boot_sorted ?_)
  refine PyProof.Rows.callWith_builtin1 (PyProof.Rows.args_cons ?_ rfl) rfl rfl
  refine Call_ (ld_blt I hg2 hm2 PyProof.Rows.boot_set ?_)
  refine PyProof.Rows.callWith_type1 (PyProof.Rows.args_cons (thn (ha.run pins s σ H _ I h) fun v s1 ⟨x, H1, I1, r1, q1⟩ => PyProof.Rows.args_nil ?_) na) na rfl
  obtain ⟨l, ns, rfl, hq, h1, q1⟩ := q1
  cases r1
  obtain ⟨its, r, pl, hz⟩ := I1.tuple hq
  refine call_set_tupI ns (I1.ok.hd hc) pl (by simpa using r.ints) (by unfold scanBound; omega) fun h' tk c hS hc' hk => ?_
  refine PyProof.Rows.args_nil ?_
  have I2 : L2.Inv X pins σ H1 { s1 with heap := h', toks := tk } := I1.kept hk
  exact sort_R I2 hS hc (by omega) fun ms p hs hm hn => q1 ms p hs (fun k => by rw [hm k]; exact decide_eq_true_iff) hn
theorem sortSIK (K : PySem.W.Frag) {a : Expr} {ta : TE} {p p2 q pos : Pos} (hc : X.calm = true) (hg : Gl X "sorted") (hm : X.mg "sorted" = none) (hg2 : Gl X "set") (hm2 : X.mg "set" = none) (ha : PE X a ta)
    (na : starEach [a] X.env = (false, eval a X.env) :: starEach [] X.env := by rfl) (h : X.K = K := by rfl) : PE X (.Call (.Name "sorted" p) [.Call (.Name "set" p2) [a] [] q] [] pos) (tSortSI K ta) := h ▸ pe_sortSI hc hg hm hg2 hm2 ha na
end
end TL
namespace TL
/-! ### slides one after another -/
def walk (m : Nat) (es : List (Int × Int)) : List Int → List (Int × Int) → Option (List Int)
  | S, [] => some S
  | S, p :: ps => if p ∈ slidesP m es S then walk m es (after S p.1 p.2) ps else none
theorem walk_cons {m : Nat} {es : List (Int × Int)} {S T : List Int} {p : Int × Int} {ps : List (Int × Int)} (h : walk m es S (p :: ps) = some T) :
    p ∈ slidesP m es S ∧ walk m es (after S p.1 p.2) ps = some T := by
  unfold walk at h
  split at h
  · rename_i h1
    exact ⟨h1, h⟩
  · cases h
theorem IsSet.slide {m : Nat} {es : List (Int × Int)} {S : List Int} {p : Int × Int} (f : IsFor m es) (h : IsSet m es S) (hp : p ∈ slidesP m es S) : IsSet m es (TL.after S p.1 p.2) := by
  obtain ⟨u, v⟩ := p
  obtain ⟨h1, h2, h3⟩ := mem_slidesP.mp hp
  exact IsSet.after f h h1 h2 h3
theorem mem_nearL_comm {m : Nat} {es : List (Int × Int)} (f : IsFor m es) {u v : Int} : v ∈ nearL m es u ↔ u ∈ nearL m es v := by
  rw [mem_nearL, mem_nearL, ordP_comm v u]
  constructor
  · rintro ⟨_, h⟩
    refine ⟨?_, h⟩
    rcases f.mem_ord.mp h with q | q
    · have := f.rng _ q; simp only at this; omega
    · have := f.rng _ q; simp only at this; omega
  · rintro ⟨_, h⟩
    refine ⟨?_, h⟩
    rcases f.mem_ord.mp h with q | q
    · have := f.rng _ q; simp only at this; omega
    · have := f.rng _ q; simp only at this; omega
theorem adj_free {m : Nat} {es : List (Int × Int)} {S : List Int} (h : IsSet m es S) {u v : Int} (hu : u ∈ S) (hv : v ∈ nearL m es u) : v ∉ S :=
  fun z => h.free v z u hu (mem_nearL.mp hv).2
/-- another lamp's slide after a slide -/
theorem slide_other {m : Nat} {es : List (Int × Int)} {S : List Int} (f : IsFor m es) (h : IsSet m es S) {u v u' v' : Int} (p : (u, v) ∈ slidesP m es S) (q : (u', v') ∈ slidesP m es S) (ne : u ≠ u') :
    (u', v') ∈ slidesP m es (after S u v) ↔ v' ∉ nearL m es v := by
  obtain ⟨hu, hv, ho⟩ := mem_slidesP.mp p
  obtain ⟨hu', hv', ho'⟩ := mem_slidesP.mp q
  have nv := adj_free h hu hv
  rw [mem_slidesP]
  constructor
  · rintro ⟨_, _, o⟩ z
    have : v ∈ oth m es (after S u v) u' v' := mem_oth.mpr ⟨(mem_nearL_comm f).mp z, mem_after.mpr (.inr rfl), fun e => nv (e ▸ hu')⟩
    rw [o] at this
    cases this
  · intro z
    refine ⟨mem_after.mpr (.inl ⟨hu', fun e => ne e.symm⟩), hv', ?_⟩
    refine List.eq_nil_iff_forall_not_mem.mpr fun a ha => ?_
    obtain ⟨h1, h2, h3⟩ := mem_oth.mp ha
    rcases mem_after.mp h2 with ⟨h4, h5⟩ | rfl
    · have : a ∈ oth m es S u' v' := mem_oth.mpr ⟨h1, h4, h3⟩
      rw [ho'] at this
      cases this
    · exact z ((mem_nearL_comm f).mp h1)
theorem slide_same {m : Nat} {es : List (Int × Int)} {S : List Int} (f : IsFor m es) (h : IsSet m es S) {u v v' : Int} (p : (u, v) ∈ slidesP m es S) : (u, v') ∉ slidesP m es (after S u v) := by
  obtain ⟨hu, hv, ho⟩ := mem_slidesP.mp p
  have nv := adj_free h hu hv
  intro z
  rcases mem_after.mp (mem_slidesP.mp z).1 with ⟨_, h2⟩ | h2
  · exact h2 rfl
  · exact nv (h2 ▸ hu)
theorem slide_back {m : Nat} {es : List (Int × Int)} {S : List Int} (f : IsFor m es) (h : IsSet m es S) {u v : Int} (p : (u, v) ∈ slidesP m es S) : (v, u) ∈ slidesP m es (after S u v) := by
  obtain ⟨hu, hv, ho⟩ := mem_slidesP.mp p
  refine mem_slidesP.mpr ⟨mem_after.mpr (.inr rfl), (mem_nearL_comm f).mp hv, ?_⟩
  refine List.eq_nil_iff_forall_not_mem.mpr fun a ha => ?_
  obtain ⟨h1, h2, h3⟩ := mem_oth.mp ha
  rcases mem_after.mp h2 with ⟨h4, h5⟩ | h4
  · exact h.free a h4 u hu (mem_nearL.mp h1).2
  · exact h3 h4
theorem after_comm {m : Nat} {es : List (Int × Int)} {S : List Int} (f : IsFor m es) (h : IsSet m es S) {u v u' v' : Int} (p : (u, v) ∈ slidesP m es S) (q : (u', v') ∈ slidesP m es S) (ne : u ≠ u')
    (ap : v' ∉ nearL m es v) : after (after S u v) u' v' = after (after S u' v') u v := by
  obtain ⟨hu, hv, ho⟩ := mem_slidesP.mp p
  obtain ⟨hu', hv', ho'⟩ := mem_slidesP.mp q
  have nv := adj_free h hu hv
  have nv' := adj_free h hu' hv'
  have s1 := IsSet.slide f (IsSet.slide f h p) ((slide_other f h p q ne).mpr ap)
  have ap' : v ∉ nearL m es v' := fun z => ap ((mem_nearL_comm f).mp z)
  have s2 := IsSet.slide f (IsSet.slide f h q) ((slide_other f h q p (Ne.symm ne)).mpr ap')
  refine asc_ext s1.asc s2.asc fun z => ?_
  have e1 : v ≠ u' := fun e => nv (e ▸ hu')
  have e2 : v' ≠ u := fun e => nv' (e ▸ hu)
  rw [mem_after, mem_after, mem_after, mem_after]
  constructor
  · rintro (⟨⟨a, b⟩ | a, c⟩ | a)
    · exact .inl ⟨.inl ⟨a, c⟩, b⟩
    · exact .inr a
    · exact .inl ⟨.inr a, by rw [a]; exact e2⟩
  · rintro (⟨⟨a, b⟩ | a, c⟩ | a)
    · exact .inl ⟨.inl ⟨a, c⟩, b⟩
    · exact .inr a
    · exact .inl ⟨.inr a, by rw [a]; exact e1⟩
theorem walk_two {m : Nat} {es : List (Int × Int)} {S : List Int} (f : IsFor m es) (h : IsSet m es S) {p q : Int × Int} (hp : p ∈ slidesP m es S) (hq : q ∈ slidesP m es S) (ne : p.1 ≠ q.1)
    (ap : q.2 ∉ nearL m es p.2) : walk m es S [p, q] = some (after (after S p.1 p.2) q.1 q.2) := by
  have h2 : q ∈ slidesP m es (after S p.1 p.2) := (slide_other f h (u := p.1) (v := p.2) (u' := q.1) (v' := q.2) hp hq ne).mpr ap
  unfold walk
  rw [if_pos hp]
  unfold walk
  rw [if_pos h2]
  rfl
end TL
namespace TL
/-! ### labels: vertices that edges join have one label -/
inductive Conn (es : List (Int × Int)) : Int → Int → Prop
  | refl (a : Int) : Conn es a a
  | step {a b c : Int} : Conn es a b → ((b, c) ∈ es ∨ (c, b) ∈ es) → Conn es a c
theorem Conn.trans {es : List (Int × Int)} {a b c : Int} (h : Conn es a b) (k : Conn es b c) : Conn es a c := by
  induction k with
  | refl => exact h
  | step _ e ih => exact .step ih e
theorem Conn.symm {es : List (Int × Int)} {a b : Int} (h : Conn es a b) : Conn es b a := by
  induction h with
  | refl => exact .refl _
  | step _ e ih => exact Conn.trans (.step (.refl _) e.symm) ih
theorem Conn.mono {es fs : List (Int × Int)} (s : ∀ p ∈ es, p ∈ fs) {a b : Int} (h : Conn es a b) : Conn fs a b := by
  induction h with
  | refl => exact .refl _
  | step _ e ih => exact .step ih (e.imp (s _) (s _))
def mrg (f : Int → Int) (a b : Int) : Int → Int := fun v => if f v = f a then f b else f v
structure Lab (es : List (Int × Int)) (vs : List Int) (f : Int → Int) : Prop where
  join : ∀ p ∈ es, p.1 ∈ vs → p.2 ∈ vs → f p.1 = f p.2
  conn : ∀ a ∈ vs, ∀ b ∈ vs, f a = f b → Conn (es.filter fun p => decide (p.1 ∈ vs) && decide (p.2 ∈ vs)) a b
theorem Lab.start (vs : List Int) : Lab [] vs id := ⟨(fun _ h => nomatch h), fun a _ b _ e => by
  have e : a = b := e
  rw [e]
  exact .refl _⟩
theorem filt_sub {es : List (Int × Int)} {p : Int × Int} {q : Int × Int → Bool} : ∀ r ∈ es.filter q, r ∈ (es ++ [p]).filter q := fun r hr => by
  rw [List.filter_append]
  exact List.mem_append_left _ hr
theorem Lab.skip {es : List (Int × Int)} {vs : List Int} {f : Int → Int} {p : Int × Int} (h : Lab es vs f) (n : ¬ (p.1 ∈ vs ∧ p.2 ∈ vs)) : Lab (es ++ [p]) vs f where
  join := fun r hr h1 h2 => by
    rcases List.mem_append.mp hr with hr | hr
    · exact h.join r hr h1 h2
    · rw [List.mem_singleton.mp hr] at h1 h2
      exact absurd ⟨h1, h2⟩ n
  conn := fun a ha b hb e => (h.conn a ha b hb e).mono filt_sub
theorem Lab.merge {es : List (Int × Int)} {vs : List Int} {f : Int → Int} {p : Int × Int} (h : Lab es vs f) (h1 : p.1 ∈ vs) (h2 : p.2 ∈ vs) : Lab (es ++ [p]) vs (mrg f p.1 p.2) where
  join := fun r hr k1 k2 => by
    unfold mrg
    rcases List.mem_append.mp hr with hr | hr
    · rw [h.join r hr k1 k2]
    · rw [List.mem_singleton.mp hr, if_pos rfl]
      split <;> rfl
  conn := fun a ha b hb e => by
    have up : ∀ x ∈ vs, ∀ y ∈ vs, f x = f y → Conn ((es ++ [p]).filter fun p => decide (p.1 ∈ vs) && decide (p.2 ∈ vs)) x y := fun x hx y hy q => (h.conn x hx y hy q).mono filt_sub
    have ed : Conn ((es ++ [p]).filter fun p => decide (p.1 ∈ vs) && decide (p.2 ∈ vs)) p.1 p.2 := by
      refine .step (.refl _) (.inl ?_)
      refine List.mem_filter.mpr ⟨List.mem_append_right _ (List.mem_singleton.mpr rfl), ?_⟩
      rw [Bool.and_eq_true, decide_eq_true_eq, decide_eq_true_eq]
      exact ⟨h1, h2⟩
    unfold mrg at e
    by_cases ea : f a = f p.1
    · by_cases eb : f b = f p.1
      · exact up a ha b hb (ea.trans eb.symm)
      · rw [if_pos ea, if_neg eb] at e
        exact ((up a ha _ h1 ea).trans ed).trans (up _ h2 b hb e)
    · by_cases eb : f b = f p.1
      · rw [if_neg ea, if_pos eb] at e
        exact (((up b hb _ h1 eb).trans ed).trans (up _ h2 a ha e.symm)).symm
      · rw [if_neg ea, if_neg eb] at e
        exact up a ha b hb e
/-! ### groups of one label -/
structure Grp (f : Int → Int) (T : List Int) (gs : List (Int × List Int)) : Prop where
  nd : (gs.map (·.1)).Nodup
  is : ∀ g ∈ gs, g.2 = T.filter (fun v => decide (f v = g.1)) ∧ g.2 ≠ []
  all : ∀ v ∈ T, f v ∈ gs.map (·.1)
theorem Grp.start (f : Int → Int) : Grp f [] [] := ⟨.nil, (fun _ h => nomatch h), (fun _ h => nomatch h)⟩
def addG (gs : List (Int × List Int)) (l v : Int) : List (Int × List Int) :=
  if l ∈ gs.map (·.1) then gs.map (fun g => if g.1 = l then (g.1, g.2 ++ [v]) else g) else gs ++ [(l, [v])]
theorem addG_keys_old {gs : List (Int × List Int)} {l v : Int} : (gs.map (fun g => if g.1 = l then (g.1, g.2 ++ [v]) else g)).map (·.1) = gs.map (·.1) := by
  rw [List.map_map]
  refine List.map_congr_left fun g _ => ?_
  show (if g.1 = l then (g.1, g.2 ++ [v]) else g).1 = g.1
  split <;> rfl
theorem Grp.add {f : Int → Int} {T : List Int} {gs : List (Int × List Int)} (h : Grp f T gs) (v : Int) : Grp f (T ++ [v]) (addG gs (f v) v) := by
  unfold addG
  by_cases hin : f v ∈ gs.map (·.1)
  · rw [if_pos hin]
    refine ⟨by rw [addG_keys_old]; exact h.nd, fun g hg => ?_, fun u hu => ?_⟩
    · obtain ⟨g0, hg0, rfl⟩ := List.mem_map.mp hg
      obtain ⟨i1, i2⟩ := h.is g0 hg0
      by_cases e : g0.1 = f v
      · rw [if_pos e]
        refine ⟨?_, by simp⟩
        show g0.2 ++ [v] = _
        rw [List.filter_append, ← i1, List.filter_cons_of_pos (by simp [e])]
        rfl
      · rw [if_neg e]
        refine ⟨?_, i2⟩
        rw [List.filter_append, ← i1, List.filter_cons_of_neg (by simp; exact fun z => e z.symm), List.filter_nil, List.append_nil]
    · rw [addG_keys_old]
      rcases List.mem_append.mp hu with hu | hu
      · exact h.all u hu
      · rw [List.mem_singleton.mp hu]
        exact hin
  · rw [if_neg hin]
    have none : T.filter (fun u => decide (f u = f v)) = [] := List.filter_eq_nil_iff.mpr fun u hu z => hin (by
      rw [← of_decide_eq_true z]
      exact h.all u hu)
    refine ⟨?_, fun g hg => ?_, fun u hu => ?_⟩
    · rw [List.map_append]
      refine List.nodup_append.mpr ⟨h.nd, List.pairwise_singleton _ _, fun a ha b hb e => ?_⟩
      rw [List.mem_singleton.mp hb] at e
      have e : a = f v := e
      rw [e] at ha
      exact hin ha
    · rcases List.mem_append.mp hg with hg | hg
      · obtain ⟨i1, i2⟩ := h.is g hg
        refine ⟨?_, i2⟩
        have : ¬ f v = g.1 := fun z => hin (by rw [z]; exact List.mem_map.mpr ⟨g, hg, rfl⟩)
        rw [List.filter_append, ← i1, List.filter_cons_of_neg (by simp [this]), List.filter_nil, List.append_nil]
      · rw [List.mem_singleton.mp hg]
        refine ⟨?_, by simp⟩
        rw [List.filter_append, none, List.nil_append, List.filter_cons_of_pos (by simp)]
        rfl
    · rw [List.map_append]
      rcases List.mem_append.mp hu with hu | hu
      · exact List.mem_append_left _ (h.all u hu)
      · rw [List.mem_singleton.mp hu]
        exact List.mem_append_right _ (List.mem_singleton.mpr rfl)
theorem Grp.len {f : Int → Int} {T : List Int} {gs : List (Int × List Int)} (h : Grp f T gs) : gs.length ≤ T.length := by
  have key : ∀ (l : List Int), l.Nodup → (∀ x ∈ l, x ∈ T.map f) → l.length ≤ T.length := by
    intro l nd sub
    have := nd.length_le_of_subset sub
    rw [List.length_map] at this
    exact this
  have := key (gs.map (·.1)) h.nd fun x hx => by
    obtain ⟨g, hg, rfl⟩ := List.mem_map.mp hx
    obtain ⟨i1, i2⟩ := h.is g hg
    obtain ⟨u, hu⟩ := List.exists_mem_of_ne_nil _ i2
    rw [i1] at hu
    obtain ⟨a, b⟩ := List.mem_filter.mp hu
    exact List.mem_map.mpr ⟨u, a, of_decide_eq_true b⟩
  rw [List.length_map] at this
  exact this
end TL
namespace TL
open PySem PySem.Spec L2
/-! ### walks and the way back -/
def run (S : List Int) (ps : List (Int × Int)) : List Int := ps.foldl (fun S p => after S p.1 p.2) S
theorem run_snoc (S : List Int) (ps : List (Int × Int)) (p : Int × Int) : run S (ps ++ [p]) = after (run S ps) p.1 p.2 := by
  unfold run
  rw [List.foldl_append]
  rfl
theorem walk_run {m : Nat} {es : List (Int × Int)} : ∀ {ps : List (Int × Int)} {S T : List Int}, walk m es S ps = some T → T = run S ps
  | [], S, T, h => by cases h; rfl
  | p :: ps, S, T, h => by
    obtain ⟨_, h2⟩ := walk_cons h
    exact (walk_run h2 : T = run (after S p.1 p.2) ps)
theorem walk_push {m : Nat} {es : List (Int × Int)} {S : List Int} {p : Int × Int} {ps : List (Int × Int)} (h : p ∈ slidesP m es S) : walk m es S (p :: ps) = walk m es (after S p.1 p.2) ps := by
  show (if p ∈ slidesP m es S then _ else _) = _
  rw [if_pos h]
theorem walk_app {m : Nat} {es : List (Int × Int)} {qs : List (Int × Int)} : ∀ {ps : List (Int × Int)} {S T : List Int}, walk m es S ps = some T → walk m es S (ps ++ qs) = walk m es T qs
  | [], S, T, h => by cases h; rfl
  | p :: ps, S, T, h => by
    obtain ⟨h1, h2⟩ := walk_cons h
    rw [List.cons_append, walk_push h1]
    exact walk_app h2
theorem walk_some {m : Nat} {es : List (Int × Int)} {qs : List (Int × Int)} : ∀ {ps : List (Int × Int)} {S T : List Int}, walk m es S (ps ++ qs) = some T → walk m es S ps = some (run S ps) ∧ walk m es (run S ps) qs = some T
  | [], S, T, h => ⟨rfl, h⟩
  | p :: ps, S, T, h => by
    rw [List.cons_append] at h
    obtain ⟨h1, h2⟩ := walk_cons h
    rw [walk_push h1]
    exact walk_some h2
theorem walk_cut {m : Nat} {es : List (Int × Int)} {ps : List (Int × Int)} {S T : List Int} (n : Nat) (h : walk m es S ps = some T) : walk m es S (ps.take n) = some (run S (ps.take n)) ∧ walk m es (run S (ps.take n)) (ps.drop n) = some T := by
  rw [← List.take_append_drop n ps] at h
  exact walk_some h
theorem walk_set {m : Nat} {es : List (Int × Int)} (f : IsFor m es) : ∀ {ps : List (Int × Int)} {S T : List Int}, IsSet m es S → walk m es S ps = some T → IsSet m es T
  | [], S, T, i, h => by cases h; exact i
  | p :: ps, S, T, i, h => by
    obtain ⟨h1, h2⟩ := walk_cons h
    exact walk_set f (IsSet.slide f i h1) h2
theorem after_back {m : Nat} {es : List (Int × Int)} {S : List Int} (f : IsFor m es) (h : IsSet m es S) {u v : Int} (p : (u, v) ∈ slidesP m es S) : after (after S u v) v u = S := by
  obtain ⟨hu, hv, ho⟩ := mem_slidesP.mp p
  have nv := adj_free h hu hv
  have s1 := IsSet.slide f (IsSet.slide f h p) (slide_back f h p)
  refine asc_ext s1.asc h.asc fun z => ?_
  show z ∈ after (after S u v) v u ↔ _
  rw [mem_after, mem_after]
  constructor
  · rintro (⟨⟨a, b⟩ | a, c⟩ | a)
    · exact a
    · exact absurd a c
    · rw [a]; exact hu
  · intro hz
    by_cases e : z = u
    · exact .inr e
    · exact .inl ⟨.inl ⟨hz, e⟩, fun y => nv (y ▸ hz)⟩
def bk (ps : List (Int × Int)) : List (Int × Int) := (ps.map fun p => (p.2, p.1)).reverse
theorem bk_length (ps : List (Int × Int)) : (bk ps).length = ps.length := by
  unfold bk
  rw [List.length_reverse, List.length_map]
theorem walk_bk {m : Nat} {es : List (Int × Int)} (f : IsFor m es) : ∀ {ps : List (Int × Int)} {S T : List Int}, IsSet m es S → walk m es S ps = some T → walk m es T (bk ps) = some S
  | [], S, T, i, h => by cases h; rfl
  | p :: ps, S, T, i, h => by
    obtain ⟨h1, h2⟩ := walk_cons h
    have h3 := walk_bk f (IsSet.slide f i h1) h2
    have e : bk (p :: ps) = bk ps ++ [(p.2, p.1)] := by
      unfold bk
      rw [List.map_cons, List.reverse_cons]
    rw [e, walk_app h3, walk_push (slide_back f i (u := p.1) (v := p.2) h1)]
    show some (after (after S p.1 p.2) p.2 p.1) = _
    rw [after_back f i (u := p.1) (v := p.2) h1]
/-! ### the settings on the way -/
def sts (S : List Int) (ps : List (Int × Int)) : List (List Int) := (List.range (ps.length + 1)).map fun i => run S (ps.take i)
theorem sts_nil (S : List Int) : sts S [] = [S] := rfl
theorem sts_len (S : List Int) (ps : List (Int × Int)) : (sts S ps).length = ps.length + 1 := by
  unfold sts
  rw [List.length_map, List.length_range]
theorem sts_snoc (S : List Int) (ps : List (Int × Int)) (p : Int × Int) : sts S (ps ++ [p]) = sts S ps ++ [run S (ps ++ [p])] := by
  unfold sts
  rw [List.length_append, List.length_singleton, List.range_succ, List.map_append, List.map_singleton, List.take_of_length_le (l := ps ++ [p]) (by rw [List.length_append]; exact Nat.le_refl _)]
  congr 1
  refine List.map_congr_left fun i hi => ?_
  have := List.mem_range.mp hi
  rw [List.take_append_of_le_length (by omega)]
theorem sts_get {S : List Int} {ps : List (Int × Int)} {i : Nat} (h : i ≤ ps.length) : (sts S ps)[i]? = some (run S (ps.take i)) := by
  unfold sts
  rw [List.getElem?_map, List.getElem?_range (by omega)]
  rfl
theorem mem_sts {S R : List Int} {ps : List (Int × Int)} (h : R ∈ sts S ps) : ∃ i, i ≤ ps.length ∧ R = run S (ps.take i) := by
  unfold sts at h
  obtain ⟨i, hi, rfl⟩ := List.mem_map.mp h
  have := List.mem_range.mp hi
  exact ⟨i, by omega, rfl⟩
/-! ### lamps counted -/
def cnt (bs : List (List Int)) (S : List Int) : List Int := bs.map fun b => (((S.filter fun l => decide (l ∈ b)).length : Nat) : Int)
theorem cnt_slide {m : Nat} {es : List (Int × Int)} {f : Int → Int} {gs : List (Int × List Int)} {S : List Int} {u v : Int} {bs : List (List Int)} (isf : IsFor m es) (iss : IsSet m es S) (lab : Lab es (rng m) f) (gr : Grp f (rng m) gs)
    (hb : ∀ b ∈ bs, b ∈ gs.map (·.2)) (p : (u, v) ∈ slidesP m es S) : cnt bs (after S u v) = cnt bs S := by
  obtain ⟨hu, hv, ho⟩ := mem_slidesP.mp p
  obtain ⟨rv, av⟩ := mem_nearL.mp hv
  have ru := iss.rng u hu
  have mu : u ∈ rng m := mem_rng.mpr ru
  have mv : v ∈ rng m := mem_rng.mpr rv
  have e : f u = f v := by
    unfold ordP at av
    split at av
    · exact (lab.join _ av mv mu).symm
    · exact lab.join _ av mu mv
  unfold cnt
  refine List.map_congr_left fun b hb0 => ?_
  obtain ⟨g, hg, rfl⟩ := List.mem_map.mp (hb b hb0)
  have key : ∀ x, x ∈ g.2 ↔ x ∈ rng m ∧ f x = g.1 := fun x => by
    rw [(gr.is g hg).1, List.mem_filter, decide_eq_true_eq]
  have uv : u ∈ g.2 ↔ v ∈ g.2 := by
    rw [key, key, e]
    exact ⟨fun z => ⟨mv, z.2⟩, fun z => ⟨mu, z.2⟩⟩
  have h1 : (after S u v).Perm (S.map fun l => if l = u then v else l) := (srtI_perm _).trans (move_perm iss.asc.nodup hu).symm
  rw [(h1.filter _).length_eq, List.filter_map, List.length_map]
  congr 2
  refine List.filter_congr fun l _ => ?_
  show decide ((if l = u then v else l) ∈ g.2) = _
  split
  · rename_i h
    rw [h]
    exact decide_eq_decide.mpr uv.symm
  · rfl
theorem cnt_walk {m : Nat} {es : List (Int × Int)} {f : Int → Int} {gs : List (Int × List Int)} {bs : List (List Int)} (isf : IsFor m es) (lab : Lab es (rng m) f) (gr : Grp f (rng m) gs)
    (hb : ∀ b ∈ bs, b ∈ gs.map (·.2)) : ∀ {ps : List (Int × Int)} {S T : List Int}, IsSet m es S → walk m es S ps = some T → cnt bs T = cnt bs S
  | [], S, T, i, h => by cases h; rfl
  | p :: ps, S, T, i, h => by
    obtain ⟨h1, h2⟩ := walk_cons h
    rw [cnt_walk isf lab gr hb (IsSet.slide isf i h1) h2]
    exact cnt_slide isf i lab gr hb (u := p.1) (v := p.2) h1
/-! ### a comprehension within another -/
def env0 (sc : Scope) : Env := { scope := sc, locals := 0, globals := 0, cells := [], qual := "", func := none, code := .none, frame := default, builtins := default }
theorem blkOk_in {N : List Str} {scope0 scope : Scope} {own : List (Str × Nat)} {env : Env} {cl : List (Str × Addr)} {C : Addr} (sc : Scope) (e : env.scope = sc) (h : blkC N (relabel scope0 (env0 sc)) scope own = true) :
    BlkOk N (compEnvC scope0 cl C env).scope scope own := by
  subst e
  exact blkOk_by h
/-! ### comprehensions over lists and tuples of data -/
theorem zip_filter {α β γ : Type} {xs : List α} {bs : List β} (h : xs.length = bs.length) (p : β → Bool) (d : β → γ) : ((xs.zip bs).filter (fun q => p q.2)).map (fun q => d q.2) = (bs.filter p).map d := by
  have e : (xs.zip bs).map Prod.snd = bs := List.map_snd_zip (by omega)
  conv => rhs; rw [← e, List.filter_map, List.map_map]
  rfl
section
variable {K : PySem.W.Frag} {tt : TT} {te : TE} {vs : List Nat} {σ : L2.St} {H1 : Hp} {D : Addr} {Qd : Hp → Prop}
theorem lc_listD {a : Addr} {xs : List V} {β : Type} {bs : List β} {e : β → PyData} {i : Nat} (p : β → Bool) (d : β → PyData) (nD : H1 D = none) (hS : SqL K H1 a xs) (hA : DpAll K H1 xs (bs.map e))
    (hw : ∀ v, wipe ((wipe σ vs).set i (some v)) vs = wipe σ vs)
    (ht : ∀ x b, b ∈ bs → Dp K H1 x (e b) → ∀ H' (Q : Bool → Hp → Prop), Same H1 H' → (∀ H2, Same H' H2 → Q (p b) H2) → tt ((wipe σ vs).set i (some x)) H' Q)
    (he : ∀ x b, b ∈ bs → p b = true → Dp K H1 x (e b) → ∀ H' (Q : VK), Same H1 H' → (∀ H2 y, Same H' H2 → Dp K H2 y (d b) → Q y H2) → te ((wipe σ vs).set i (some x)) H' Q)
    (ho : ∀ o, only (d o) = true) (hl : bs.length ≤ 1000)
    (hd : ∀ H' ys, Same H1 H' → H' D = some (.lst ys) → DpAll K H' ys ((bs.filter p).map d) → Qd H') : LcGoal (Itl K a) (gName i) tt te vs σ H1 D Qd := by
  have xl : xs.length = bs.length := by rw [DpAll.length hA, List.length_map]
  have mem : ∀ q ∈ xs.zip bs, q.2 ∈ bs ∧ Dp K H1 q.1 (e q.2) := fun q hq => by
    obtain ⟨k, hk⟩ := List.getElem?_of_mem hq
    obtain ⟨h1, h2⟩ := List.getElem?_zip_eq_some.mp hk
    obtain ⟨z, hz, dz⟩ := DpAll.get hA h1
    rw [List.getElem?_map, h2] at hz
    cases hz
    exact ⟨List.mem_of_getElem? h2, dz⟩
  have zl : (xs.zip bs).length = xs.length := by rw [List.length_zip]; omega
  refine lc_gen (K := K) (xs.zip bs) (fun q => (wipe σ vs).set i (some q.1)) (fun q => p q.2) (fun q => d q.2) nD (fun j H' hj s => ⟨_, _, s.seq hS, List.getElem?_eq_getElem (by omega)⟩)
    (fun H' s => ⟨_, s.seq hS, by omega⟩) (fun j b x H' H'' hb s y => ?_) (fun b => hw _) (fun b hb H' Q s hQ => ht _ _ (mem b hb).1 (mem b hb).2 H' Q s hQ) (fun b hb hp H' Q s hQ => he _ _ (mem b hb).1 hp (mem b hb).2 H' Q s hQ) (fun o => ho _) (by omega)
    (fun H' ys s eD dy => hd H' ys s eD ?_)
  · obtain ⟨e1, hy⟩ := y
    have h1 := hy _ (s.seq hS)
    obtain ⟨h2, h3⟩ := List.getElem?_zip_eq_some.mp hb
    rw [h2] at h1
    cases h1
    exact ⟨e1, fun Q q => q⟩
  · rw [zip_filter xl] at dy
    exact dy
theorem lc_tupD {a : Addr} {xs : List V} {β : Type} {bs : List β} {e : β → PyData} {i : Nat} (p : β → Bool) (d : β → PyData) (nD : H1 D = none) (hS : SqT K H1 a xs) (hA : DpAll K H1 xs (bs.map e))
    (hw : ∀ v, wipe ((wipe σ vs).set i (some v)) vs = wipe σ vs)
    (ht : ∀ x b, b ∈ bs → Dp K H1 x (e b) → ∀ H' (Q : Bool → Hp → Prop), Same H1 H' → (∀ H2, Same H' H2 → Q (p b) H2) → tt ((wipe σ vs).set i (some x)) H' Q)
    (he : ∀ x b, b ∈ bs → p b = true → Dp K H1 x (e b) → ∀ H' (Q : VK), Same H1 H' → (∀ H2 y, Same H' H2 → Dp K H2 y (d b) → Q y H2) → te ((wipe σ vs).set i (some x)) H' Q)
    (ho : ∀ o, only (d o) = true) (hl : bs.length ≤ 1000)
    (hd : ∀ H' ys, Same H1 H' → H' D = some (.lst ys) → DpAll K H' ys ((bs.filter p).map d) → Qd H') : LcGoal (Itt K a) (gName i) tt te vs σ H1 D Qd := by
  have xl : xs.length = bs.length := by rw [DpAll.length hA, List.length_map]
  have mem : ∀ q ∈ xs.zip bs, q.2 ∈ bs ∧ Dp K H1 q.1 (e q.2) := fun q hq => by
    obtain ⟨k, hk⟩ := List.getElem?_of_mem hq
    obtain ⟨h1, h2⟩ := List.getElem?_zip_eq_some.mp hk
    obtain ⟨z, hz, dz⟩ := DpAll.get hA h1
    rw [List.getElem?_map, h2] at hz
    cases hz
    exact ⟨List.mem_of_getElem? h2, dz⟩
  have zl : (xs.zip bs).length = xs.length := by rw [List.length_zip]; omega
  refine lc_gen (K := K) (xs.zip bs) (fun q => (wipe σ vs).set i (some q.1)) (fun q => p q.2) (fun q => d q.2) nD (fun j H' hj s => ⟨_, _, Same.tup s hS, List.getElem?_eq_getElem (by omega)⟩)
    (fun H' s => ⟨_, Same.tup s hS, by omega⟩) (fun j b x H' H'' hb s y => ?_) (fun b => hw _) (fun b hb H' Q s hQ => ht _ _ (mem b hb).1 (mem b hb).2 H' Q s hQ) (fun b hb hp H' Q s hQ => he _ _ (mem b hb).1 hp (mem b hb).2 H' Q s hQ) (fun o => ho _) (by omega)
    (fun H' ys s eD dy => hd H' ys s eD ?_)
  · obtain ⟨e1, hy⟩ := y
    have h1 := hy _ (Same.tup s hS)
    obtain ⟨h2, h3⟩ := List.getElem?_zip_eq_some.mp hb
    rw [h2] at h1
    cases h1
    exact ⟨e1, fun Q q => q⟩
  · rw [zip_filter xl] at dy
    exact dy
end
end TL
namespace TL
open PySem PySem.Spec L2
/-! ### vertices joined by edges, found pass by pass -/
def stp (f : List Int) (p : Int × Int) : List Int := if decide (p.1 ∈ f) = decide (p.2 ∈ f) then f else f ++ [if p.1 ∈ f then p.2 else p.1]
def pas (E : List (Int × Int)) (f : List Int) : List Int := E.foldl stp f
def passes (E : List (Int × Int)) (v : Int) : Nat → List Int
  | 0 => [v]
  | n + 1 => pas E (passes E v n)
theorem filt_le {α : Type} {P Q : α → Bool} (h : ∀ x, P x = true → Q x = true) : ∀ l : List α, (l.filter P).length ≤ (l.filter Q).length
  | [] => Nat.le_refl _
  | a :: l => by
    have ih := filt_le h l
    rw [List.filter_cons, List.filter_cons]
    by_cases hp : P a = true
    · rw [if_pos hp, if_pos (h a hp), List.length_cons, List.length_cons]
      omega
    · rw [if_neg hp]
      split
      · rw [List.length_cons]
        omega
      · exact ih
theorem filt_lt {α : Type} {P Q : α → Bool} (h : ∀ x, P x = true → Q x = true) : ∀ {l : List α} {a : α}, a ∈ l → P a = false → Q a = true → (l.filter P).length < (l.filter Q).length
  | b :: l, a, ha, hp, hq => by
    rw [List.filter_cons, List.filter_cons]
    rcases List.mem_cons.mp ha with e | ha
    · rw [← e, if_neg (by rw [hp]; decide), if_pos hq, List.length_cons]
      have := filt_le h l
      omega
    · have ih := filt_lt h ha hp hq
      by_cases hb : P b = true
      · rw [if_pos hb, if_pos (h b hb), List.length_cons, List.length_cons]
        omega
      · rw [if_neg hb]
        split
        · rw [List.length_cons]
          omega
        · exact ih
def inn (f : List Int) (p : Int × Int) : Bool := decide (p.1 ∈ f) && decide (p.2 ∈ f)
structure Jn (E : List (Int × Int)) (v : Int) (f : List Int) : Prop where
  nd : f.Nodup
  has : v ∈ f
  conn : ∀ x ∈ f, Conn E v x
  cnt : f.length ≤ 1 + (E.filter (inn f)).length
theorem Jn.start (E : List (Int × Int)) (v : Int) : Jn E v [v] where
  nd := List.pairwise_singleton _ _
  has := List.mem_singleton.mpr rfl
  conn := fun x hx => by rw [List.mem_singleton.mp hx]; exact .refl _
  cnt := by rw [List.length_singleton]; omega
theorem Jn.put {E : List (Int × Int)} {v : Int} {f : List Int} {p : Int × Int} {y : Int} (h : Jn E v f) (hp : p ∈ E) (ny : y ∉ f) (cy : Conn E v y) (n : inn f p = false) (m : inn (f ++ [y]) p = true) : Jn E v (f ++ [y]) where
  nd := List.nodup_append.mpr ⟨h.nd, List.pairwise_singleton _ _, fun a ha b hb e => by rw [List.mem_singleton.mp hb] at e; exact ny (e ▸ ha)⟩
  has := List.mem_append_left _ h.has
  conn := fun x hx => (List.mem_append.mp hx).elim (h.conn x) fun z => by rw [List.mem_singleton.mp z]; exact cy
  cnt := by
    have := filt_lt (P := inn f) (Q := inn (f ++ [y])) (fun x hx => by
      unfold inn at hx ⊢
      rw [Bool.and_eq_true, decide_eq_true_eq, decide_eq_true_eq] at hx ⊢
      exact ⟨List.mem_append_left _ hx.1, List.mem_append_left _ hx.2⟩) hp n m
    have := h.cnt
    rw [List.length_append, List.length_singleton]
    omega
theorem Jn.stp {E : List (Int × Int)} {v : Int} {f : List Int} {p : Int × Int} (h : Jn E v f) (hp : p ∈ E) : Jn E v (TL.stp f p) := by
  unfold TL.stp
  split
  · exact h
  · rename_i ne
    by_cases h1 : p.1 ∈ f
    · have h2 : p.2 ∉ f := fun z => ne (by rw [decide_eq_true h1, decide_eq_true z])
      rw [if_pos h1]
      refine h.put hp h2 (.step (h.conn _ h1) (.inl hp)) ?_ ?_
      · unfold inn; rw [decide_eq_false h2, Bool.and_false]
      · unfold inn; rw [decide_eq_true (List.mem_append_left _ h1), decide_eq_true (List.mem_append_right _ (List.mem_singleton.mpr rfl))]; rfl
    · have h2 : p.2 ∈ f := Decidable.byContradiction fun z => ne (by rw [decide_eq_false h1, decide_eq_false z])
      rw [if_neg h1]
      refine h.put hp h1 (.step (h.conn _ h2) (.inr hp)) ?_ ?_
      · unfold inn; rw [decide_eq_false h1, Bool.false_and]
      · unfold inn; rw [decide_eq_true (List.mem_append_left _ h2), decide_eq_true (List.mem_append_right _ (List.mem_singleton.mpr rfl))]; rfl
theorem Jn.fold {E : List (Int × Int)} {v : Int} : ∀ {D : List (Int × Int)} {f : List Int}, (∀ p ∈ D, p ∈ E) → Jn E v f → Jn E v (D.foldl TL.stp f)
  | [], _, _, h => h
  | p :: D, f, s, h => Jn.fold (D := D) (fun q hq => s q (List.mem_cons_of_mem _ hq)) (h.stp (s p List.mem_cons_self))
theorem Jn.passes (E : List (Int × Int)) (v : Int) : ∀ n, Jn E v (TL.passes E v n)
  | 0 => Jn.start E v
  | n + 1 => Jn.fold (fun _ h => h) (Jn.passes E v n)
def Closed (E : List (Int × Int)) (f : List Int) : Prop := ∀ p ∈ E, decide (p.1 ∈ f) = decide (p.2 ∈ f)
theorem fold_grow : ∀ {D : List (Int × Int)} {f : List Int}, (D.foldl TL.stp f = f ∧ Closed D f) ∨ f.length + 1 ≤ (D.foldl TL.stp f).length
  | [], f => .inl ⟨rfl, fun _ h => nomatch h⟩
  | p :: D, f => by
    rw [List.foldl_cons]
    by_cases e : decide (p.1 ∈ f) = decide (p.2 ∈ f)
    · have es : TL.stp f p = f := by unfold TL.stp; rw [if_pos e]
      rw [es]
      rcases fold_grow (D := D) (f := f) with ⟨h1, h2⟩ | h
      · exact .inl ⟨h1, fun q hq => (List.mem_cons.mp hq).elim (fun z => z ▸ e) (h2 q)⟩
      · exact .inr h
    · have es : (TL.stp f p).length = f.length + 1 := by unfold TL.stp; rw [if_neg e, List.length_append, List.length_singleton]
      rcases fold_grow (D := D) (f := TL.stp f p) with ⟨h1, h2⟩ | h
      · rw [h1]
        exact .inr (by omega)
      · exact .inr (by omega)
theorem fold_closed : ∀ {D : List (Int × Int)} {f : List Int}, Closed D f → D.foldl TL.stp f = f
  | [], _, _ => rfl
  | p :: D, f, h => by
    have es : TL.stp f p = f := by unfold TL.stp; rw [if_pos (h p List.mem_cons_self)]
    rw [List.foldl_cons, es]
    exact fold_closed fun q hq => h q (List.mem_cons_of_mem _ hq)
theorem passes_grow (E : List (Int × Int)) (v : Int) : ∀ n, Closed E (passes E v n) ∨ n + 1 ≤ (passes E v n).length
  | 0 => .inr (Nat.le_refl _)
  | n + 1 => by
    rcases passes_grow E v n with h | h
    · left
      show Closed E (pas E (passes E v n))
      unfold pas
      rw [fold_closed h]
      exact h
    · rcases fold_grow (D := E) (f := passes E v n) with ⟨h1, h2⟩ | h3
      · left
        show Closed E (pas E (passes E v n))
        unfold pas
        rw [h1]
        exact h2
      · right
        show _ ≤ (pas E (passes E v n)).length
        unfold pas
        omega
theorem passes_closed (E : List (Int × Int)) (v : Int) : Closed E (passes E v E.length) := by
  rcases passes_grow E v E.length with h | h
  · exact h
  · have c := (Jn.passes E v E.length).cnt
    have l := List.length_filter_le (inn (passes E v E.length)) E
    have e : E.filter (inn (passes E v E.length)) = E := List.filter_sublist.eq_of_length (by omega)
    intro p hp
    rw [← e] at hp
    have h2 := (List.mem_filter.mp hp).2
    unfold inn at h2
    rw [Bool.and_eq_true] at h2
    rw [h2.1, h2.2]
theorem mem_passes (E : List (Int × Int)) (v x : Int) : x ∈ passes E v E.length ↔ Conn E v x := by
  refine ⟨(Jn.passes E v _).conn x, fun h => ?_⟩
  induction h with
  | refl => exact (Jn.passes E v _).has
  | step _ hp ih =>
    rcases hp with hp | hp
    · have := passes_closed E v _ hp
      exact of_decide_eq_true (by rw [← this]; exact decide_eq_true ih)
    · have := passes_closed E v _ hp
      exact of_decide_eq_true (by rw [this]; exact decide_eq_true ih)
/-! ### groups of one label -/
def within (es : List (Int × Int)) (ws : List Int) : List (Int × Int) := es.filter fun p => decide (p.1 ∈ ws) && decide (p.2 ∈ ws)
theorem mem_within {es : List (Int × Int)} {ws : List Int} {p : Int × Int} : p ∈ within es ws ↔ p ∈ es ∧ p.1 ∈ ws ∧ p.2 ∈ ws := by
  unfold within
  rw [List.mem_filter, Bool.and_eq_true, decide_eq_true_eq, decide_eq_true_eq]
theorem conn_lab {es : List (Int × Int)} {ws : List Int} {f : Int → Int} (h : Lab es ws f) {a b : Int} (ha : a ∈ ws) (c : Conn (within es ws) a b) : b ∈ ws ∧ f a = f b := by
  induction c with
  | refl => exact ⟨ha, rfl⟩
  | step _ hp ih =>
    rcases hp with hp | hp
    · obtain ⟨h1, h2, h3⟩ := mem_within.mp hp
      exact ⟨h3, ih.2.trans (h.join _ h1 h2 h3)⟩
    · obtain ⟨h1, h2, h3⟩ := mem_within.mp hp
      exact ⟨h2, ih.2.trans (h.join _ h1 h2 h3).symm⟩
theorem group_eq {es : List (Int × Int)} {ws : List Int} {f : Int → Int} (h : Lab es ws f) (asc : Asc ws) {v : Int} (hv : v ∈ ws) :
    srtI (passes (within es ws) v (within es ws).length) = ws.filter fun u => decide (f u = f v) := by
  refine asc_ext (srtI_asc (Jn.passes _ _ _).nd) (asc.filter _) fun z => ?_
  rw [(srtI_perm _).mem_iff, mem_passes, List.mem_filter, decide_eq_true_eq]
  constructor
  · intro c
    obtain ⟨h1, h2⟩ := conn_lab h hv c
    exact ⟨h1, h2.symm⟩
  · intro hz
    exact h.conn v hv z hz.1 hz.2.symm
end TL
namespace TL
open PySem PySem.Spec PyProof.Rows L2
/-! ### data with dicts in it -/
def kD : Key → PyData
  | .inl i => .int i
  | .inr x => .str x
mutual
inductive Dq (K : PySem.W.Frag) (H : Hp) : V → PyData → Prop
  | non : Dq K H .non .none
  | bl (b : Bool) : Dq K H (.bl b) (.bool b)
  | int (i : Int) : Dq K H (.int i) (.int i)
  | str (x : Str) : Dq K H (.str x) (.str x)
  | lst {a : Addr} {xs : List V} {ds : List PyData} : a ≠ sysModules → H a = some (.lst xs) → DqAll K H xs ds → Dq K H (.ref a) (.list ds)
  | tup {a : Addr} {xs : List V} {ds : List PyData} : SqT K H a xs → DqAll K H xs ds → Dq K H (.ref a) (.tuple ds)
  | dct {a : Addr} {kvs : List (Key × V)} {ps : List (PyData × PyData)} : H a = some (.dK kvs) → ps.map (·.1) = kvs.map (fun p => kD p.1) → DqAll K H (kvs.map (·.2)) (ps.map (·.2)) → Dq K H (.ref a) (.dict ps)
inductive DqAll (K : PySem.W.Frag) (H : Hp) : List V → List PyData → Prop
  | nil : DqAll K H [] []
  | cons {v : V} {vs : List V} {d : PyData} {ds : List PyData} : Dq K H v d → DqAll K H vs ds → DqAll K H (v :: vs) (d :: ds)
end
section
variable {X : Cx} {pins : List (Addr × Obj)} {σ : L2.St} {H : Hp} {s : Shared}
theorem keys_reads : ∀ {es : List DictEntry} {vs : List (Key × Value)} {kvs : List (Key × V)}, Pairs (mixKind X.prog X.w) es vs → KV kvs vs → ReadsAll s.heap (es.map (·.key)) (kvs.map fun p => kD p.1) [] ∧ Vals (kvs.map (·.2)) (es.map (·.val))
  | _, _, _, .nil, .nil => ⟨.nil, .nil⟩
  | e :: es, _, p :: kvs, .cons h1 h2 t, .cons r q => by
    obtain ⟨a, b⟩ := keys_reads t q
    refine ⟨?_, .cons ?_ b⟩
    · obtain ⟨k, v⟩ := p
      have h1 : keyIs _ e.key = true := h1
      rw [← r.1] at h1
      show ReadsAll s.heap (e.key :: es.map (·.key)) (kD k :: kvs.map fun p => kD p.1) []
      rcases keyIs_shape h1 with ⟨i, t, hk, hv⟩ | ⟨x, t, hk, hv⟩
      · have hk : k = .inl i := hk
        rw [hk, hv]
        exact .cons (as := []) (bs := []) (.int i t) a
      · have hk : k = .inr x := hk
        rw [hk, hv]
        exact .cons (as := []) (bs := []) (.str x t) a
    · show RelV p.2 e.val
      rw [h2]
      exact r.2
mutual
theorem Dq.reads (I : Inv X pins σ H s) : ∀ {v : V} {d : PyData} {u : Value}, Dq X.K H v d → RelV v u → ∃ as, Reads s.heap u d as ∧ sysModules ∉ as
  | _, _, _, .non, r => by cases r; exact ⟨_, Reads.none, by simp⟩
  | _, _, _, .bl b, r => by cases r; exact ⟨_, Reads.bool b, by simp⟩
  | _, _, _, .int i, r => by obtain ⟨t, rfl⟩ := r; exact ⟨_, Reads.int i t, by simp⟩
  | _, _, _, .str x, r => by obtain ⟨t, rfl⟩ := r; exact ⟨_, Reads.str x t, by simp⟩
  | _, _, _, .lst hs e ha, r => by
    cases r
    obtain ⟨its, rv, ⟨o, n, ho, hc, _, hd⟩, _⟩ := I.list (SqL.of e)
    obtain ⟨as, hr, hn⟩ := Dq.readsAll I ha rv
    refine ⟨_, Reads.list ho hc hd hr, fun z => ?_⟩
    rcases List.mem_cons.mp z with z | z
    · exact hs z.symm
    · exact hn z
  | _, _, _, .tup e ha, r => by
    cases r
    obtain ⟨its, rv, ⟨o, ho, hc, n, hd⟩, _⟩ := I.tuple e
    obtain ⟨as, hr, hn⟩ := Dq.readsAll I ha rv
    exact ⟨_, Reads.tuple ho hc hd hr, hn⟩
  | _, _, _, .dct e ek ha, r => by
    cases r
    obtain ⟨_, hsm, vs, rel, o, es, ep, ho, hx, hd, _, hp, _⟩ := dk_of I.hok e
    obtain ⟨rk, rv⟩ := keys_reads (s := s) hp rel
    obtain ⟨bs, hr, hn⟩ := Dq.readsAll I ha rv
    rw [← ek] at rk
    refine ⟨_, Reads.dict ho hx.1 hd rk hr, fun z => ?_⟩
    rcases List.mem_cons.mp z with z | z
    · rw [← z] at hsm
      cases hsm
    · exact hn z
theorem Dq.readsAll (I : Inv X pins σ H s) : ∀ {vs : List V} {ds : List PyData} {us : List Value}, DqAll X.K H vs ds → Vals vs us → ∃ as, ReadsAll s.heap us ds as ∧ sysModules ∉ as
  | _, _, _, .nil, r => by cases r; exact ⟨_, ReadsAll.nil, by simp⟩
  | _, _, _, .cons h1 h2, r => by
    cases r with
    | cons r1 r2 =>
      obtain ⟨as, q1, n1⟩ := Dq.reads I h1 r1
      obtain ⟨bs, q2, n2⟩ := Dq.readsAll I h2 r2
      exact ⟨_, ReadsAll.cons q1 q2, fun z => (List.mem_append.mp z).elim n1 n2⟩
end
end
structure ShowsQ (d : PyData) : Prop where
  can : d.showable = true
  deep : d.depth ≤ 60
  fits : d.shown.length ≤ sizeLine
def rReprQ (K : PySem.W.Frag) : List V → Hp → VK → Prop := fun xs H Q =>
  ∃ (y : V) (d : PyData), xs = [y] ∧ Dq K H y d ∧ ShowsQ d ∧ Q (.str d.shown) H
section
variable {X : Cx}
theorem call_reprQ (gd : X.A.guards = some []) (hu : X.A.units + 64 < cLine) :
    CallR X (.builtin "repr") (rReprQ X.K) := by
  intro pins s σ H xs us Q I r h
  obtain ⟨y, d, rfl, hd, sh, q⟩ := h
  cases r with
  | cons r1 r2 =>
    rename_i u us'
    cases r2
    obtain ⟨as, rd, hn⟩ := Dq.reads I hd r1
    have big : ∀ a, u = Value.ref a → wpAny (model X.prog X.w) X.A (call (.builtin "repr") [u]) (EP X pins σ Q) X.xe s := by
      intro a e
      subst e
      exact repr_of_reads' rd sh.can (fun z => hn) gd (by have := sh.deep; omega) (fun _ _ e => e) (fun h' u tk hk => ⟨.str d.shown, H, I.kept (t' := tk) hk, ⟨u, rfl⟩, q⟩) sh.fits
    cases hd with
    | non =>
      obtain rfl : u = Value.none := r1
      rw [PyData.shown_none] at q
      exact PySem.P.repr_of_none ⟨.str _, H, I.tok _, ⟨_, rfl⟩, q⟩
    | bl b =>
      obtain rfl : u = Value.bool b := r1
      rw [PyData.shown_bool] at q
      exact PySem.P.repr_of_bool ⟨.str _, H, I.tok _, ⟨_, rfl⟩, q⟩
    | int i =>
      obtain ⟨t, rfl⟩ := r1
      rw [PyData.shown_int] at q
      exact PySem.P.repr_of_int (by have := sh.can; simpa [PyData.showable] using this) ⟨.str _, H, I.tok _, ⟨_, rfl⟩, q⟩
    | str x =>
      obtain ⟨t, rfl⟩ := r1
      have z := sh.fits
      rw [PyData.shown_str] at q z
      exact PySem.P.repr_of_str ⟨.str _, H, I.tok _, ⟨_, rfl⟩, q⟩ z
    | lst hs he ha => exact big _ r1
    | tup hs ha => exact big _ r1
    | dct hs ek ha => exact big _ r1
end
/-! ### repr of either kind of data -/
def rReprO (K : PySem.W.Frag) : List V → Hp → VK → Prop := fun xs H Q =>
  ∃ (y : V) (d : PyData), xs = [y] ∧ ((Dp K H y d ∧ Shows d) ∨ (Dq K H y d ∧ ShowsQ d)) ∧ Q (.str d.shown) H
theorem reprO (K : PySem.W.Frag) {X : Cx} (gd : X.A.guards = some []) (hu : X.A.units + 64 < cLine) (h : X.K = K := by rfl) : CallR X (.builtin "repr") (rReprO K) := by
  subst h
  intro pins s σ H xs us Q I r h
  obtain ⟨y, d, ex, h | h, q⟩ := h
  · exact call_reprD gd hu pins s σ H xs us Q I r ⟨y, d, ex, h.1, h.2, q⟩
  · exact call_reprQ gd hu pins s σ H xs us Q I r ⟨y, d, ex, h.1, h.2, q⟩
/-! ### a held error of any class -/
def rIsA (K : PySem.W.Frag) (cls : Value) (d : Option Addr) (a : Addr) : List V → Hp → VK → Prop := fun xs H Q =>
  ∃ D : Addr, ExcC K D ∧ (PySem.W.clsIn K D).isSome = true ∧ rIsX K cls d D a xs H Q
theorem isAK (K : PySem.W.Frag) {X : Cx} {a : Addr} {oe : Obj} {cls : Value} {d : Option Addr} {pn : List (Addr × Obj)} (hz : Zc cls d oe) (hf : ∃ vs, oe.data = .fields vs) (h : X.K = K := by rfl) :
    CallR (X.suite a ((a, oe) :: pn)) (.builtin "isinstance") (rIsA K cls d a) := by
  subst h
  intro pins s σ H xs us Q I r h
  obtain ⟨D, hc, hcl, h⟩ := h
  exact isX hc hcl hz hf pins s σ H xs us Q I r h
def tXfA (K : PySem.W.Frag) (a : Addr) (cls : Value) (d : Option Addr) (n : Str) (te : TE) : TE := fun σ H Q =>
  ∃ C : Addr, XfC K C ∧ PySem.W.findIn K (.ref C) n = some none ∧ tXf a cls d C n te σ H Q
theorem xfA (K : PySem.W.Frag) {X : Cx} {n : Str} {a : Addr} {oe : Obj} {cls : Value} {d : Option Addr} {pn : List (Addr × Obj)} {e : Expr} {te : TE} {pos : Pos}
    (hz : Zc cls d oe) (hf : ∃ vs, oe.data = .fields vs) (he : PE (X.suite a ((a, oe) :: pn)) e te) (h : X.K = K := by rfl) (hb : attributeBase e n X.env (eval e X.env) = eval e X.env := by rfl) :
    PE (X.suite a ((a, oe) :: pn)) (.Attribute e n pos) (tXfA K a cls d n te) := by
  subst h
  refine ⟨fun pins s σ H Q I h => ?_⟩
  obtain ⟨C, T, hno, h⟩ := h
  exact (pe_xf T hno hz hf he hb).run pins s σ H Q I h
/-! ### count of bools -/
def eqb (k : Bool) (v : Value) : Bool := match v with
  | .bool n => n == k
  | _ => false
theorem bools_of : ∀ {bs : List Bool} {us : List Value}, Vals (bs.map V.bl) us → us = bs.map Value.bool
  | [], _, h => by cases h; rfl
  | b :: bs, _, h => by
    cases h with
    | cons r1 r2 =>
      cases r1
      rw [bools_of r2]
      rfl
theorem eqb_count (k : Bool) : ∀ bs : List Bool, (bs.map Value.bool).countP (eqb k) = bs.count k
  | [] => rfl
  | b :: bs => by
    rw [List.map_cons, List.countP_cons, List.count_cons, eqb_count k bs]
    rfl
def rCntB (K : PySem.W.Frag) : V → List V → Hp → VK → Prop := fun x xs H Q => ∃ (p : Addr) (bs : List Bool) (k : Bool), x = .ref p ∧ xs = [.bl k] ∧ SqL K H p (bs.map V.bl) ∧ Q (.int (bs.count k : Nat)) H
theorem mt_lcountB {X : Cx} (hu : X.A.units + 64 < cLine) : MtR X "list.count" (rCntB X.K) := by
  intro pins s σ H x xs v us Q I rx rxs h
  obtain ⟨p, bs, k, rfl, rfl, hs, q⟩ := h
  cases rx
  obtain ⟨u, rfl, ru⟩ := rxs.one
  cases ru
  obtain ⟨its, rv, ⟨⟨cls, dd, data, sl⟩, n, ho, hc, hdn, hd⟩, hlen⟩ := I.list hs
  simp only at hc hd
  subst hc hd
  have hi := bools_of rv
  subst hi
  refine call_meets PySem.F.slot_list_count ⟨_, ho, rfl⟩ PySem.F.entry_list_count (PySem.F.args_list_count_2 _ _)
    (SeqAt.list_countAt p _ n dd sl (.bool k) (eqb k)) ⟨ho, fun y hy => ?_, ?_⟩
  · obtain ⟨b, hb, rfl⟩ := List.mem_map.mp (List.mem_toArray.mp hy)
    have h := SeqAt.eqAt_reads (.bool b) (.bool k) X.A.in1 s _ _ _ _ (Reads.bool b) (Reads.bool k) rfl rfl (by
      show X.A.units + 1 + min (PyData.depth (.bool b)) (PyData.depth (.bool k)) < cLine
      simp only [PyData.depth]
      omega)
    have e : PyData.eqv (.bool b) (.bool k) = eqb k (.bool b) := by
      cases b <;> cases k <;> simp [PyData.eqv, eqb]
    rw [← e]
    exact h
  have ec : ((bs.map Value.bool).toArray).toList.countP (eqb k) = bs.count k := eqb_count k bs
  refine ⟨.int (bs.count k : Nat), H, I.tok _, ⟨s.toks, ?_⟩, q⟩
  show Value.int ((((bs.map Value.bool).toArray).toList.countP (eqb k) : Nat) : Int) s.toks = Value.int ((bs.count k : Nat) : Int) s.toks
  rw [ec]
end TL
namespace TL
open PySem PySem.Spec PyProof.Rows L2
/-- [..]: the new list does not stand where sys.modules stands -/
def tLstS (t : TA) : TE := fun σ H Q => t σ H fun xs H1 => xs.length ≤ sizeLine ∧ ∀ p, H1 p = none → p ≠ sysModules → Q (.ref p) (upd H1 p (.lst xs))
theorem pe_lstS {X : Cx} {es : List Expr} {t : TA} {pos : Pos} (h : PA X es t) : PE X (.List es pos) (tLstS t) := by
  refine ⟨fun pins s σ H Q I hq => ?_⟩
  refine wpAny_List_spliced (thn (h.run pos pins s σ H _ I hq) fun us s1 ⟨xs, H1, I1, r, z, q⟩ => ⟨by rw [← r.length]; exact z, ?_⟩)
  have hf : H1 s1.heap.objs.size = none := I1.hok.fresh (Nat.le_refl _)
  refine ⟨.ref s1.heap.objs.size, upd H1 s1.heap.objs.size (.lst xs), I1.laid (t' := s1.toks) (fun b u e => Heap.get?_push_of_some _ e) (Nat.le_refl _) ?_, rfl, q _ hf (Nat.ne_of_gt I1.big)⟩
  exact ⟨z, us, 0, r, Heap.get?_push_size _ rfl⟩
end TL
namespace TL
open PySem PySem.Spec PyProof.Rows L2
/-! ### data whose leaves have up to forty signs -/
mutual
theorem lv_mono {B C : Nat} (h : B ≤ C) : ∀ d : PyData, d.leavesShort B = true → d.leavesShort C = true
  | .none, _ => by simp [PyData.leavesShort]
  | .bool _, _ => by simp [PyData.leavesShort]
  | .int i, q => by
    simp only [PyData.leavesShort] at q ⊢
    exact decide_eq_true (Nat.le_trans (of_decide_eq_true q) h)
  | .str x, q => by
    simp only [PyData.leavesShort] at q ⊢
    exact q
  | .list xs, q => by
    simp only [PyData.leavesShort] at q ⊢
    exact lv_monoAll h xs q
  | .tuple xs, q => by
    simp only [PyData.leavesShort] at q ⊢
    exact lv_monoAll h xs q
  | .dict kvs, q => by
    simp only [PyData.leavesShort] at q ⊢
    exact lv_monoKv h kvs q
theorem lv_monoAll {B C : Nat} (h : B ≤ C) : ∀ ds : List PyData, PyData.leavesShortAll B ds = true → PyData.leavesShortAll C ds = true
  | [], _ => rfl
  | d :: ds, q => by
    simp only [PyData.leavesShortAll, Bool.and_eq_true] at q ⊢
    exact ⟨lv_mono h d q.1, lv_monoAll h ds q.2⟩
theorem lv_monoKv {B C : Nat} (h : B ≤ C) : ∀ ds : List (PyData × PyData), PyData.leavesShortKv B ds = true → PyData.leavesShortKv C ds = true
  | [], _ => rfl
  | (k, v) :: ds, q => by
    simp only [PyData.leavesShortKv, Bool.and_eq_true] at q ⊢
    exact ⟨⟨lv_mono h k q.1.1, lv_mono h v q.1.2⟩, lv_monoKv h ds q.2⟩
end
structure Sw (d : PyData) (n k : Nat) : Prop where
  can : d.showable = true
  deep : d.depth ≤ k
  short : d.leavesShort 40 = true
  light : d.weight ≤ n
theorem Sm.sw {d : PyData} {n k : Nat} (h : Sm d n k) : Sw d n k := ⟨h.can, h.deep, lv_mono (by decide) d h.short, h.light⟩
theorem Sw.le {d : PyData} {n k m j : Nat} (h : Sw d n k) (hn : n ≤ m) (hk : k ≤ j) : Sw d m j := ⟨h.can, Nat.le_trans h.deep hk, h.short, Nat.le_trans h.light hn⟩
theorem Sw.fits {d : PyData} {n k : Nat} (h : Sw d n k) (hn : n ≤ 100000) : d.shown.length ≤ sizeLine := by
  have h1 := PyData.shown_le 40 (by decide) d h.short
  have h2 : (40 + 2) * d.weight ≤ 42 * 100000 := Nat.mul_le_mul (by decide) (Nat.le_trans h.light hn)
  exact Nat.le_trans h1 (Nat.le_trans (Nat.add_le_add_right h2 40) (by decide))
theorem Sw.showsQ {d : PyData} {n k : Nat} (h : Sw d n k) (hn : n ≤ 100000) (hk : k ≤ 60) : ShowsQ d := ⟨h.can, Nat.le_trans h.deep hk, h.fits hn⟩
theorem Sw.shows {d : PyData} {n k : Nat} (h : Sw d n k) (nod : d.hasDict = false) (hn : n ≤ 100000) (hk : k ≤ 60) : Shows d := ⟨h.can, nod, Nat.le_trans h.deep hk, h.fits hn⟩
structure SwA (ds : List PyData) (n k : Nat) : Prop where
  can : PyData.showableAll ds = true
  deep : PyData.depthAll ds ≤ k
  short : PyData.leavesShortAll 40 ds = true
  light : PyData.weightAll ds ≤ ds.length * (n + 1)
theorem SwA.of {n k : Nat} : ∀ {ds : List PyData}, (∀ d ∈ ds, Sw d n k) → SwA ds n k
  | [], _ => ⟨rfl, by simp [PyData.depthAll], rfl, by simp [PyData.weightAll]⟩
  | d :: ds, h => by
    have h1 := h d List.mem_cons_self
    have h2 := SwA.of (n := n) (k := k) fun e he => h e (List.mem_cons_of_mem _ he)
    refine ⟨?_, ?_, ?_, ?_⟩
    · simp only [PyData.showableAll, h1.can, h2.can, Bool.and_self]
    · simp only [PyData.depthAll]
      exact Nat.max_le.mpr ⟨h1.deep, h2.deep⟩
    · simp only [PyData.leavesShortAll, h1.short, h2.short, Bool.and_self]
    · have a := h1.light
      have b := h2.light
      simp only [PyData.weightAll, List.length_cons, Nat.add_mul, Nat.one_mul]
      omega
theorem Sw.tup {n k m : Nat} {ds : List PyData} (h : ∀ d ∈ ds, Sw d n k) (hm : ds.length ≤ m) : Sw (.tuple ds) (m * (n + 1)) (k + 1) := by
  have q := SwA.of h
  have z : ds.length * (n + 1) ≤ m * (n + 1) := Nat.mul_le_mul_right _ hm
  refine ⟨?_, ?_, ?_, ?_⟩
  · simp only [PyData.showable]; exact q.can
  · simp only [PyData.depth]; have := q.deep; omega
  · simp only [PyData.leavesShort]; exact q.short
  · simp only [PyData.weight]; exact Nat.le_trans q.light z
theorem Sw.lst {n k m : Nat} {ds : List PyData} (h : ∀ d ∈ ds, Sw d n k) (hm : ds.length ≤ m) : Sw (.list ds) (m * (n + 1)) (k + 1) := by
  have q := SwA.of h
  have z : ds.length * (n + 1) ≤ m * (n + 1) := Nat.mul_le_mul_right _ hm
  refine ⟨?_, ?_, ?_, ?_⟩
  · simp only [PyData.showable]; exact q.can
  · simp only [PyData.depth]; have := q.deep; omega
  · simp only [PyData.leavesShort]; exact q.short
  · simp only [PyData.weight]; exact Nat.le_trans q.light z
theorem sw_big {i : Int} (h : i.natAbs ≤ 10 ^ 29) : Sw (.int i) 200 0 := by
  have h2 : i.natAbs < 10 ^ 30 := Nat.lt_of_le_of_lt h (by decide)
  have e := PySem.int_text_length_le10 (k := 30) (by decide) h2
  have lg : i.natAbs.log2 < 110 := PySem.Flt.log2_lt_of (by decide) (Nat.lt_of_lt_of_le h2 (by decide))
  refine ⟨?_, by simp [PyData.depth], ?_, ?_⟩
  · simp only [PyData.showable]
    exact decide_eq_true (by omega)
  · simp only [PyData.leavesShort]
    refine decide_eq_true ?_
    show (Str.ofString (toString i)).length ≤ 40
    rw [PySem.ofString_length]
    exact Nat.le_trans e (by decide)
  · simp only [PyData.weight]
    split <;> omega
/-! ### data without lists and dicts has no dict -/
mutual
theorem nod_of_only : ∀ d : PyData, only d = true → d.hasDict = false
  | .none, _ => by simp [PyData.hasDict]
  | .bool _, _ => by simp [PyData.hasDict]
  | .int i, q => by simp [PyData.hasDict]
  | .str x, q => by simp [PyData.hasDict]
  | .list xs, q => by simp [only] at q
  | .tuple xs, q => by
    simp only [only] at q
    simp only [PyData.hasDict]
    exact nod_of_onlyAll xs q
  | .dict kvs, q => by simp [only] at q
theorem nod_of_onlyAll : ∀ ds : List PyData, onlyAll ds = true → PyData.hasDictAll ds = false
  | [], _ => rfl
  | d :: ds, q => by
    simp only [onlyAll, Bool.and_eq_true] at q
    simp only [PyData.hasDictAll, nod_of_only d q.1, nod_of_onlyAll ds q.2, Bool.or_self]
end
mutual
theorem Dp.toq {K : PySem.W.Frag} {H : Hp} : ∀ {v : V} {d : PyData}, Dp K H v d → only d = true → Dq K H v d
  | _, _, .non, _ => .non
  | _, _, .bl b, _ => .bl b
  | _, _, .int i, _ => .int i
  | _, _, .str x, _ => .str x
  | _, _, .lst h a, o => by simp [only] at o
  | _, _, .tup h a, o => .tup h (Dp.toqAll a (by simpa [only] using o))
theorem Dp.toqAll {K : PySem.W.Frag} {H : Hp} : ∀ {vs : List V} {ds : List PyData}, DpAll K H vs ds → onlyAll ds = true → DqAll K H vs ds
  | _, _, .nil, _ => .nil
  | _, _, .cons h a, o => by
    simp only [onlyAll, Bool.and_eq_true] at o
    exact .cons (Dp.toq h o.1) (Dp.toqAll a o.2)
end
end TL
namespace TL
open PySem PySem.Spec PyProof.Rows L2
/-! ### min(a list of ints) -/
def rMinI (K : PySem.W.Frag) : List V → Hp → VK → Prop := fun vs H Q => ∃ (a : Addr) (n : Int) (ns : List Int), vs = [.ref a] ∧ SqL K H a ((n :: ns).map V.int) ∧ Q (.int (ns.foldl min n)) H
theorem foldl_min {n : Int} : ∀ {ns : List Int}, (∀ k ∈ ns, n ≤ k) → ns.foldl min n = n
  | [], _ => rfl
  | k :: ns, h => by
    rw [List.foldl_cons, show min n k = n from Int.min_eq_left (h k List.mem_cons_self)]
    exact foldl_min fun j hj => h j (List.mem_cons_of_mem _ hj)
section
variable {X : Cx}
theorem depth_ints : ∀ ns : List Int, PyData.depthAll (ns.map .int) = 0
  | [] => by simp [PyData.depthAll]
  | n :: ns => by simp [PyData.depthAll, PyData.depth, depth_ints ns]
theorem call_minI (hc : X.calm = true) (hu : X.A.units + 64 < cLine) : CallR X (.builtin "min") (rMinI X.K) := by
  intro pins s σ H vs us Q I r h
  obtain ⟨a, n, ns, rfl, hs, q⟩ := h
  rw [Vals.ref1 r]
  obtain ⟨its, rv, hl, _⟩ := I.list hs
  obtain ⟨as, hr⟩ := Dp.readsAll I _ _ _ (DpAll.of_ints (n :: ns)) rv
  refine PySem.W.min_list_data (x := .int n) (xs := ns.map .int) (as := as) (I.ok.hd hc) hl.isList hr ⟨fun x hx y hy => ?_, fun x hx => ?_⟩ ?_ (fun i v h' tk bs hv rd hk => ?_)
  · have hx : x ∈ (n :: ns).map PyData.int := hx
    have hy : y ∈ (n :: ns).map PyData.int := hy
    obtain ⟨i, _, rfl⟩ := List.mem_map.mp hx
    obtain ⟨j, _, rfl⟩ := List.mem_map.mp hy
    simp [PySem.W.alike]
  · have hx : x ∈ (n :: ns).map PyData.int := hx
    obtain ⟨i, _, rfl⟩ := List.mem_map.mp hx
    exact fun z => nomatch z
  · have e : PyData.depthAll (PyData.int n :: ns.map .int) = 0 := depth_ints (n :: ns)
    rw [e]
    omega
  · rw [PySem.W.minD_ints] at rd
    cases rd
    exact ⟨.int _, H, I.kept hk, ⟨_, rfl⟩, q⟩
def rMaxI (K : PySem.W.Frag) : List V → Hp → VK → Prop := fun vs H Q => ∃ (a : Addr) (n : Int) (ns : List Int), vs = [.ref a] ∧ SqL K H a ((n :: ns).map V.int) ∧ Q (.int (ns.foldl max n)) H
theorem call_maxI (hc : X.calm = true) (hu : X.A.units + 64 < cLine) : CallR X (.builtin "max") (rMaxI X.K) := by
  intro pins s σ H vs us Q I r h
  obtain ⟨a, n, ns, rfl, hs, q⟩ := h
  rw [Vals.ref1 r]
  obtain ⟨its, rv, hl, _⟩ := I.list hs
  obtain ⟨as, hr⟩ := Dp.readsAll I _ _ _ (DpAll.of_ints (n :: ns)) rv
  refine PySem.W.max_list_data (x := .int n) (xs := ns.map .int) (as := as) (I.ok.hd hc) hl.isList hr ⟨fun x hx y hy => ?_, fun x hx => ?_⟩ ?_ (fun i v h' tk bs hv rd hk => ?_)
  · have hx : x ∈ (n :: ns).map PyData.int := hx
    have hy : y ∈ (n :: ns).map PyData.int := hy
    obtain ⟨i, _, rfl⟩ := List.mem_map.mp hx
    obtain ⟨j, _, rfl⟩ := List.mem_map.mp hy
    simp [PySem.W.alike]
  · have hx : x ∈ (n :: ns).map PyData.int := hx
    obtain ⟨i, _, rfl⟩ := List.mem_map.mp hx
    exact fun z => nomatch z
  · have e : PyData.depthAll (PyData.int n :: ns.map .int) = 0 := depth_ints (n :: ns)
    rw [e]
    omega
  · rw [PySem.W.maxD_ints] at rd
    cases rd
    exact ⟨.int _, H, I.kept hk, ⟨_, rfl⟩, q⟩
theorem maxIK (K : PySem.W.Frag) (hu : X.A.units + 64 < cLine) (hc : X.calm = true := by rfl) (h : X.K = K := by rfl) : CallR X (.builtin "max") (rMaxI K) := h ▸ call_maxI hc hu
theorem minIK (K : PySem.W.Frag) (hu : X.A.units + 64 < cLine) (hc : X.calm = true := by rfl) (h : X.K = K := by rfl) : CallR X (.builtin "min") (rMinI K) := h ▸ call_minI hc hu
end
end TL
namespace TL
open PySem PySem.Spec PyProof.Rows L2
/-! ### t >= u of two pairs of ints -/
def rGeP (K : PySem.W.Frag) : R2 := fun x y H Q => ∃ (a b : Addr) (p q : Int × Int), x = .ref a ∧ y = .ref b ∧ SqT K H a [V.int p.1, V.int p.2] ∧ SqT K H b [V.int q.1, V.int q.2] ∧ Q (.bl (decide (q.1 < p.1 ∨ (q.1 = p.1 ∧ q.2 ≤ p.2)))) H
theorem beqd (a b : Int) : (a == b) = decide (a = b) := by
  by_cases h : a = b
  · rw [decide_eq_true h]; exact beq_iff_eq.mpr h
  · rw [decide_eq_false h]; exact beq_eq_false_iff_ne.mpr h
theorem gePK (K : PySem.W.Frag) {X : Cx} (hu : X.A.units + 64 < cLine) (h : X.K = K := by rfl) : OpR X (compareOp .GtE) (rGeP K) := by
  subst h
  have room : X.A.units < cLine := by omega
  intro pins s σ H x y v u Q I rx ry ⟨a, b, p, q, ex, ey, ta, tb, g⟩
  subst ex
  subst ey
  cases rx
  cases ry
  obtain ⟨its, r1, p1, _⟩ := I.tuple ta
  obtain ⟨its2, r2, p2, _⟩ := I.tuple tb
  cases r1 with
  | cons h1 r1 => cases r1 with
  | cons h2 r1 =>
  cases r1
  cases r2 with
  | cons h3 r2 => cases r2 with
  | cons h4 r2 =>
  cases r2
  obtain ⟨t1, rfl⟩ := h1
  obtain ⟨t2, rfl⟩ := h2
  obtain ⟨t3, rfl⟩ := h3
  obtain ⟨t4, rfl⟩ := h4
  have R := Ob.RcOp.tuples_ge (A := X.A) (s := s) (e := fun j => if j = 0 then (p.1 == q.1) else (p.2 == q.2)) (r := fun j => if j = 0 then decide (q.1 ≤ p.1) else decide (q.2 ≤ p.2)) p1 p2 room (fun j j1 j2 => by
    match j, j1, j2 with
    | 0, _, _ => exact SeqAt.EqAt.int_int _ _ _ _
    | 1, _, _ => exact SeqAt.EqAt.int_int _ _ _ _) (fun j j1 j2 _ => by
    match j, j1, j2 with
    | 0, _, _ => exact Ob.RcOp.ge_int _ _ _ _
    | 1, _, _ => exact Ob.RcOp.ge_int _ _ _ _)
  refine R X.prog X.w X.xe (EP X pins σ Q) ⟨.bl _, H, I, ?_, g⟩
  show Value.bool _ = Value.bool _
  congr 1
  show (if (p.1 == q.1) = true then (if (p.2 == q.2) = true then _ else decide (q.2 ≤ p.2)) else decide (q.1 ≤ p.1)) = _
  rw [beqd, beqd]
  by_cases c1 : p.1 = q.1
  · rw [decide_eq_true c1, if_pos rfl]
    by_cases c2 : p.2 = q.2
    · rw [decide_eq_true c2, if_pos rfl]
      show true = _
      rw [decide_eq_true (by omega)]
    · rw [decide_eq_false c2, if_neg Bool.false_ne_true]
      exact decide_eq_decide.mpr (by omega)
  · rw [decide_eq_false c1, if_neg Bool.false_ne_true]
    exact decide_eq_decide.mpr (by omega)
theorem le2TK (K : PySem.W.Frag) {X : Cx} (hu : X.A.units + 64 < cLine) (h : X.K = K := by rfl) : OpR X (compareOp .LtE) (rLeT K) := h ▸ op_leT (by omega)
end TL
namespace TL
open PySem PySem.Spec PyProof.Rows L2
/-! ### list(x): the new list does not stand where sys.modules stands (after the library's rule for list(x), whose address is new but not said to be another) -/
def rListS (K : PySem.W.Frag) : List V → Hp → VK → Prop := fun xs H Q => ∃ p ys, xs = [.ref p] ∧ (SqL K H p ys ∨ SqT K H p ys) ∧ ∀ l, H l = none → l ≠ sysModules → Q (.ref l) (upd H l (.lst ys))
theorem listSK (K : PySem.W.Frag) {X : Cx} (h : X.K = K := by rfl) : CallR X (.type "list") (rListS K) := by
  subst h
  intro pins s σ H args us Q I rel ⟨p, ys, eargs, side, q⟩
  subst eargs
  obtain ⟨u, rfl, ru⟩ := vals1 rel
  cases ru
  have room : ∀ {its : List Value}, Vals ys its → ys.length ≤ sizeLine → its.toArray.size ≤ sizeLine := fun r z => by rw [List.size_toArray, ← r.length]; exact z
  have done : ∀ (its : List Value), Vals ys its → ys.length ≤ sizeLine → ∀ (h2 : Heap) (c2 : Nat), (∀ a o, s.heap.get? a = some o → h2.get? a = some o) →
      h2.get? s.heap.objs.size = some ⟨.type "list", none, .seq its.toArray c2, #[]⟩ → EP X pins σ Q (.ref s.heap.objs.size) { s with heap := h2 } := fun its r z h2 c2 keep at2 => by
    have fresh := I.hok.fresh (Nat.le_refl s.heap.objs.size)
    refine ⟨.ref s.heap.objs.size, upd H s.heap.objs.size (.lst ys), I.laid (t' := s.toks) keep (Nat.le_refl _) ?_, rfl, q _ fresh (Nat.ne_of_gt I.big)⟩
    exact ⟨z, _, c2, r, at2⟩
  cases side with
  | inl sl =>
    obtain ⟨its, r, pl, z⟩ := I.list sl
    obtain ⟨o, at1, cls1, n, data1⟩ := pl.isList
    have small := room r z
    exact call_list_seq p (Or.inl rfl) at1 cls1 data1 (fun _ _ keep at2 => done its r z _ _ keep at2) (by omega)
  | inr st =>
    obtain ⟨its, r, pl, z⟩ := I.tuple st
    obtain ⟨o, at1, cls1, n, data1⟩ := pl
    have small := room r z
    exact call_list_seq p (Or.inr rfl) at1 cls1 data1 (fun _ _ keep at2 => done its r z _ _ keep at2) (by omega)
end TL
namespace TL
open PySem PySem.Spec PyProof.Rows L2
/-! ### enumerate(a tuple) -/
abbrev tupIt (l : Addr) : Obj := { cls := .type "tuple_iterator", data := .fields #[.ref l, .int 0 0] }
abbrev enumOb (it : Addr) : Obj :=
  { cls := .type "enumerate", data := .fields #[.none, .bool false, .ref it, rawInt 0, .none, .none] }
theorem meets_enumT (l : Addr) (items : Array Value) (n : Nat) (dct : Option Addr) (sl : Array (Option Value)) :
    Meets (Builtin.«enumerate.__new__» ⟨[.type "enumerate", .ref l], []⟩) (fun _ R s =>
      s.heap.get? l = some { cls := .type "tuple", dict := dct, data := .seq items n, slots := sl } ∧
      R (.ok (.ret (.ref (s.heap.push (tupIt l)).objs.size)))
        { s with heap := (s.heap.push (tupIt l)).push (enumOb s.heap.objs.size) }) :=
  .of_wp fun prog w A R s h => by
    obtain ⟨hp, g, d, tk, os⟩ := s
    obtain ⟨hl, h⟩ := h
    have hsub := sub_enumerate
    have hL : Heap.IsTuple (Shared.heap ⟨hp, g, d, tk, os⟩) l items := ⟨_, hl, rfl, n, rfl⟩
    wp_walk using AutoSeq1.wpAny_loadPart' hl
    refine wpAny_stack_any fun st => wpAny_pure ?_
    split
    · rename_i c _ _ _ _ _
      cases (c == Value.type "enumerate")
      · wp_walk using AutoSeq1.wpAny_loadPart' hl, wpAny_pyIter_tuple hL
        exact ⟨_, rfl, h⟩
      · wp_walk using AutoSeq1.wpAny_loadPart' hl, wpAny_pyIter_tuple hL
        exact ⟨_, rfl, h⟩
    · wp_walk using AutoSeq1.wpAny_loadPart' hl, wpAny_pyIter_tuple hL
      exact ⟨_, rfl, h⟩
section
variable {prog : Program} {w : World} {A : Around} {E : Value → Shared → Prop} {s : Shared}
theorem call_enumT {l : Addr} {items : Array Value} {Q : Value → Shared → Prop} (hL : s.heap.IsTuple l items)
    (h : ∀ h', IsEnum h' (s.heap.objs.size + 1) s.heap.objs.size 0 .none → h'.IsTupleIter s.heap.objs.size l 0 →
      (∀ b o, s.heap.get? b = some o → h'.get? b = some o) → Q (.ref (s.heap.objs.size + 1)) { s with heap := h' }) :
    wpAny (model prog w) A (call (.type "enumerate") [.ref l]) Q E s := by
  obtain ⟨⟨c, dct, dt, sl⟩, hl, hc, n, hd⟩ := hL
  obtain rfl : c = .type "tuple" := hc
  obtain rfl : dt = .seq items n := hd
  refine callType_new F.called_enumerate (by decide) (F.typeCall_enumerate_1 _) (F.newCall_enumerate_1 _)
    (fun obj => F.args_object_init_2 obj _) F.entry_enumerate_new (meets_enumT l items n dct sl) ⟨hl, ?_⟩
  have hz : (s.heap.push (tupIt l)).objs.size = s.heap.objs.size + 1 := Heap.size_push ..
  show _ ∧ _
  rw [hz]
  have he : IsEnum ((s.heap.push (tupIt l)).push (enumOb s.heap.objs.size)) (s.heap.objs.size + 1) s.heap.objs.size 0 .none := by
    have q := Heap.get?_push_size (s.heap.push (tupIt l)) (o := enumOb s.heap.objs.size) rfl
    rw [hz] at q
    exact q
  exact ⟨⟨_, he, rfl⟩, h _ he ⟨_, Heap.get?_push_of_some _ (Heap.get?_push_size _ rfl), rfl, rfl⟩
    fun b o x => Heap.get?_push_of_some _ (Heap.get?_push_of_some _ x)⟩
end
/-- the tuple at a, each item in a new pair -/
def IteT (K : PySem.W.Frag) (a : Addr) : It :=
  ⟨fun i H => ∃ (xs : List V) (x : V), SqT K H a xs ∧ xs[i]? = some x,
   fun i H v H' => ∃ T x, v = .ref T ∧ H T = none ∧ H' = upd H T (.tup [.int (i : Nat), x]) ∧ ∀ xs, SqT K H a xs → xs[i]? = some x,
   fun i H => ∃ xs : List V, SqT K H a xs ∧ xs.length ≤ i⟩
theorem turn_enumT {P : Program} {w : World} {K : PySem.W.Frag} {elts : List Expr} {kk : Nat} {tpos : Pos} (a e it : Addr) (ha : a ≠ it) :
    Turn P w K (.Tuple elts kk tpos) (IteT K a) [e, it] e
      (fun i h => (∃ old, IsEnum h e it ((i : Nat) : Int) old) ∧ h.IsTupleIter it a i ∧ e ≠ it) where
  mem := by simp
  obj := fun i h st b hb => by
    obtain ⟨⟨old, he⟩, ⟨o, ho, hc, hd⟩, _⟩ := st
    have e' : b = e ∨ b = it := by simpa using hb
    rcases e' with rfl | rfl
    · exact ⟨_, he, fun v q => nomatch q⟩
    · exact ⟨o, ho, fun v q => by rw [hd] at q; cases q⟩
  keep := fun i h h' st k => by
    obtain ⟨⟨old, he⟩, hi, hne⟩ := st
    exact ⟨⟨old, k e (by simp) _ he⟩, hi.at fun o q => k it (by simp) o q, hne⟩
  item := by
    intro X hP hw hK hc i pins s σ H E I hf st hg
    subst hP hw hK
    obtain ⟨⟨old, he⟩, hit, hne⟩ := st
    obtain ⟨xs, x, hq, hx⟩ := hg
    obtain ⟨its, rv, p, hz⟩ := I.tuple hq
    obtain ⟨u, hu, ru⟩ := rv.get hx
    have hel : e < s.heap.objs.size := Heap.lt_size he
    have hil : it < s.heap.objs.size := by
      obtain ⟨_, q, _⟩ := hit
      exact Heap.lt_size q
    have hi : i < its.toArray.size := by
      rw [List.size_toArray]
      exact (List.getElem?_eq_some_iff.mp hu).1
    obtain ⟨o0, ho0, hc0, n0, hd0⟩ := p
    have pT : s.heap.IsTuple a its.toArray := ⟨o0, ho0, hc0, n0, hd0⟩
    refine wpAny_pyNext_enum_itemD (Draws.tuple (A := X.A.in1) (I.ok.hd hc) it a ha its.toArray) he ⟨hit, pT⟩ hi hne (fun z => ?_) fun x' h' tk hP ho hit' hT hsz hk => ?_
    · rcases List.mem_cons.mp z with z | z
      · exact hne z
      · have z := List.mem_singleton.mp z
        rw [z] at he
        have q := Option.some.inj (ho0.symm.trans he)
        rw [q] at hc0
        exact absurd (show Value.type "enumerate" = Value.type "tuple" from hc0) (by decide)
    have ex : x' = u := by
      have h1 : its.toArray[i]? = some x' := hP
      have h2 : its.toArray[i]? = some u := by simpa using hu
      exact Option.some.inj (h1.symm.trans h2)
    subst ex
    refine ⟨_, rfl, wpAny_letOwnedTupleGo_enum (s := { s with heap := h', toks := tk + 1 }) ho fun h'' he' sb => ?_⟩
    have hT2 : h''.get? s.heap.objs.size = some { cls := .type "tuple", data := .seq #[.int i tk, x'] } := (sb.2 _ (Nat.ne_of_gt hel)).trans hT
    have new : ObjOk X.prog X.w (upd H s.heap.objs.size (.tup [.int (i : Nat), x])) h'' s.heap.objs.size (.tup [.int (i : Nat), x]) :=
      ⟨by show 2 ≤ sizeLine; decide, [.int i tk, x'], .cons ⟨_, rfl⟩ (.cons ru .nil), ⟨_, hT2, rfl, _, rfl⟩⟩
    have kept : ∀ b ob, b ∉ [e, it] → s.heap.get? b = some ob → h''.get? b = some ob := fun b ob hb q =>
      (sb.2 b (fun z => hb (by simp [z]))).trans (hk b ob (fun z => hb (by simp [z])) (fun z => hb (by simp [z])) q)
    have I1 := I.turnedNew (t' := tk + 1) (ch := [e, it]) kept hf (Nat.le_refl _) new
    refine ⟨.ref s.heap.objs.size, _, I1, rfl, ⟨_, x, rfl, I.hok.fresh (Nat.le_refl _), rfl, fun ys hy => by rw [I.tuple_inj hy hq]; exact hx⟩,
      ⟨⟨x', ?_⟩, hit'.1.at fun o q => (sb.2 it (Ne.symm hne)).trans q, hne⟩, fun b hb => ?_⟩
    · have e1 : ((i + 1 : Nat) : Int) = (i : Int) + 1 := by omega
      rw [e1]
      exact he'
    · have hb' : b < s.heap.objs.size := by
        have e' : b = e ∨ b = it := by simpa using hb
        rcases e' with rfl | rfl
        · exact hel
        · exact hil
      rw [upd_ne (Nat.ne_of_lt hb')]
      exact (hf b hb).1
  done := by
    intro X hP hw hK hc i pins s σ H E I hf st hg
    subst hP hw hK
    obtain ⟨⟨old, he⟩, hit, hne⟩ := st
    obtain ⟨xs, hq, hx⟩ := hg
    obtain ⟨its, rv, p, hz⟩ := I.tuple hq
    obtain ⟨f0, f1, f2, f3, f4, f5⟩ := hf it (by simp)
    have hl := rv.length
    obtain ⟨o0, ho0, hc0, n0, hd0⟩ := p
    have pT : s.heap.IsTuple a its.toArray := ⟨o0, ho0, hc0, n0, hd0⟩
    have hT : s.TypeIs (.ref e) "enumerate" := ⟨_, he, rfl⟩
    unfold pyNext
    refine wpAny_bind (wpAny_attempt (wpAny_callSpecial?_slot (name := Str.ofString "__next__") hT F.slot_enumerate_next
      (wpAny_call_entry F.slot_enumerate_next hT F.entry_enumerate_next ?_ (F.args_enumerate_next_1 _))))
    show wpAny _ _ (field (.ref e) 2 >>= _) _ _ _
    refine wpAny_bind (wpAny_field he rfl (x := .ref it) rfl ?_)
    refine wpAny_bind (wpAny_nextOf_tuple_end (I.ok.hd hc) hit pT (by simp; omega) fun h' x he' hx' => ?_)
    obtain ⟨o, ho, hc⟩ := hx'
    refine wpAny_bind (wpAny_isInstance (T := "StopIteration") (b := true) ⟨o, ho, hc⟩ isSubtype_stop ?_)
    exact wpAny_pure ⟨rfl, I.turned (t' := s.toks) (fun b o hb q => he' b o hb q) f0 f1 f3 f4 f5⟩
  self := fun A i s Q E st h => by
    obtain ⟨⟨_, he⟩, _⟩ := st
    exact wpAny_pyIter_enum he h
def iEnumT (K : PySem.W.Frag) (ta : TA) : TI := fun σ H R => ta σ H fun vs H1 => ∃ a xs, vs = [.ref a] ∧ SqT K H1 a xs ∧ R (IteT K a) H1
theorem pi_enumT (K : PySem.W.Frag) {X : Cx} {e : Expr} {ta : TA} {p pos tpos : Pos} {elts : List Expr} {kk : Nat} (hg : Gl X "enumerate") (hm : X.mg "enumerate" = none)
    (ha : PA X [e] ta) (hK : X.K = K := by rfl) (hs : starEach [e] X.env = [(false, eval e X.env)] := by rfl) :
    PI X (.Tuple elts kk tpos) (.Call (.Name "enumerate" p) [e] [] pos) (iEnumT K ta) := by
  subst hK
  refine ⟨fun pins s σ H R I h => ?_⟩
  refine Call_ (ld_blt I hg hm boot_enumerate (PyProof.Rows.callWith_type1
    (thn (ha.run pos pins s σ H _ I h) fun us s1 ⟨vs, H1, I1, r1, q1⟩ => ?_) hs rfl))
  obtain ⟨a, xs, ex, hq, q⟩ := q1
  subst ex
  cases r1 with
  | cons r rr =>
    cases rr
    cases r
    obtain ⟨its, rv, ⟨o0, ho0, hc0, n0, hd0⟩, hz⟩ := I1.tuple hq
    have pT : s1.heap.IsTuple a its.toArray := ⟨o0, ho0, hc0, n0, hd0⟩
    refine call_enumT pT fun h' he hit hk => wpAny_pyIter_enum he ?_
    have I2 : Inv X pins σ H1 { s1 with heap := h' } := I1.kept (t' := s1.toks) hk
    refine ⟨s1.heap.objs.size + 1, [s1.heap.objs.size + 1, s1.heap.objs.size], _, _, H1, rfl, I2,
      turn_enumT a (s1.heap.objs.size + 1) s1.heap.objs.size (Nat.ne_of_lt (Heap.lt_size ho0)), ⟨⟨.none, he⟩, hit, Nat.succ_ne_self _⟩, fun b hb => ?_, q⟩
    have hle : s1.heap.objs.size ≤ b := by
      have e' : b = s1.heap.objs.size + 1 ∨ b = s1.heap.objs.size := by simpa using hb
      rcases e' with z | z
      · rw [z]; exact Nat.le_add_right _ _
      · rw [z]; exact Nat.le_refl _
    exact I1.fpOk hle (I1.hok.fresh hle)
/-- a loop over enumerate(a tuple): the new pair at T -/
theorem for_enumT {K : PySem.W.Frag} {a : Addr} {xs : List V} {g : TG} {tb : TS} {D : Ends} {σ : L2.St} {H : Hp} (Pv : Nat → L2.St → Hp → Prop) (h0 : Pv 0 σ H) (hl : ∀ i σ H, Pv i σ H → SqT K H a xs)
    (hs : ∀ i x T σ H, xs[i]? = some x → H T = none → Pv i σ H →
      g (.ref T) σ (upd H T (.tup [.int (i : Nat), x])) fun σ2 H2 => tb { D with nx := Pv (i + 1), ct := Pv (i + 1), bk := D.nx } σ2 H2)
    (hd : ∀ σ H, Pv xs.length σ H → D.nx σ H) :
    ∃ W : Nat → Nat → L2.St → Hp → Prop, (∃ m, W 0 m σ H) ∧ ∀ i m σ H, W i m σ H →
      ((IteT K a).stop i H ∧ D.nx σ H) ∨ ((IteT K a).go i H ∧ ∃ N : L2.St → Hp → Prop, (∀ σ' H', N σ' H' → ∃ m', m' < m ∧ W (i + 1) m' σ' H') ∧
        ∀ v H', (IteT K a).yld i H v H' → g v σ H' fun σ2 H2 => tb { D with nx := N, ct := N, bk := D.nx } σ2 H2) := by
  refine ⟨fun i m σ H => m = xs.length - i ∧ i ≤ xs.length ∧ Pv i σ H, ⟨xs.length, rfl, Nat.zero_le _, h0⟩, fun i m σ H hW => ?_⟩
  obtain ⟨em, hi, p⟩ := hW
  by_cases hlt : i < xs.length
  · refine .inr ⟨⟨xs, _, hl i σ H p, List.getElem?_eq_getElem hlt⟩, Pv (i + 1), fun σ' H' p' => ⟨xs.length - (i + 1), by omega, rfl, hlt, p'⟩, fun v H' y => ?_⟩
    obtain ⟨T, x, rfl, nT, rfl, hx⟩ := y
    exact hs i x T σ H (hx _ (hl i σ H p)) nT p
  · obtain rfl : i = xs.length := by omega
    exact .inl ⟨⟨xs, hl _ σ H p, Nat.le_refl _⟩, hd σ H p⟩
end TL
namespace TL
open PySem PySem.Spec PyProof.Rows L2
/-! ### sorted, of a set of tuples of ints of any lengths -/
theorem perm_map {α β : Type} {f : α → β} {vs ms : List β} (h : vs.Perm ms) : ∀ {l : List α}, ms = l.map f → ∃ l' : List α, l'.Perm l ∧ vs = l'.map f := by
  induction h with
  | nil =>
    intro l e
    exact ⟨l, .refl _, e⟩
  | cons x _ ih =>
    intro l e
    cases l with
    | nil => cases e
    | cons y l =>
      rw [List.map_cons] at e
      injection e with e1 e2
      obtain ⟨l', p, e3⟩ := ih e2
      exact ⟨y :: l', p.cons y, by rw [List.map_cons, ← e1, e3]⟩
  | swap x y l0 =>
    intro l e
    match l, e with
    | a :: b :: l, e =>
      rw [List.map_cons, List.map_cons] at e
      injection e with e1 e2
      injection e2 with e2 e3
      exact ⟨b :: a :: l, .swap _ _ _, by rw [List.map_cons, List.map_cons, ← e1, ← e2, e3]⟩
  | trans _ _ ih1 ih2 =>
    intro l e
    obtain ⟨l2, p2, e2⟩ := ih2 e
    obtain ⟨l1, p1, e1⟩ := ih1 e2
    exact ⟨l1, p1.trans p2, e1⟩
theorem reads_ints {h : Heap} : ∀ {vs : List Value} {ns : List Int}, IntsAre vs ns → ReadsAll h vs (ns.map .int) []
  | [], [], _ => .nil
  | v :: vs, n :: ns, a => by
    cases a with
    | cons _ t a2 => exact ReadsAll.cons (as := []) (bs := []) (.int n t) (reads_ints a2)
def rSortSet (K : PySem.W.Frag) (P : Program) (w : World) : List V → Hp → VK → Prop := fun vs H Q => ∃ (a : Addr) (L : List (Addr × List Int)), vs = [V.ref a] ∧ H a = some (SetTO P w a L) ∧ (∀ p ∈ L, SqT K H p.1 (p.2.map V.int)) ∧ (∀ p ∈ L, p.2 ≠ []) ∧
  ∀ (L' : List (Addr × List Int)) p ys, H p = none → L'.Perm L → (L'.map (·.2)).Nodup → DpAll K H ys (((L'.map (·.2)).mergeSort (PySem.W.dataLe false intsD)).map intsD) → Q (.ref p) (upd H p (.lst ys))
theorem alike_ints : ∀ x y : List Int, PySem.W.alikeAll (x.map PyData.int) (y.map PyData.int) = true := by
  intro x
  induction x with
  | nil => intro y; cases y <;> simp [PySem.W.alikeAll]
  | cons n x ih =>
    intro y
    cases y with
    | nil => simp [PySem.W.alikeAll]
    | cons k y => simp [PySem.W.alikeAll, PySem.W.alike, ih y]
theorem dataLe_intsD : PySem.W.dataLe false intsD = fun p q : List Int => decide (p ≤ q) := by
  funext p q
  show (!PySem.W.dataLt (.tuple (q.map .int)) (.tuple (p.map .int))) = _
  rw [PySem.W.dataLt_tuple]
  show (!PySem.W.rowLt (q.map .int) (p.map .int)) = _
  rw [PySem.W.dataLt_ints]
  by_cases h : q < p
  · have h' : ¬ p ≤ q := fun r => List.not_lt.mpr r h
    simp [h, h']
  · have h' : p ≤ q := List.not_lt.mp h
    simp [h, h']
theorem rows_le (A : List (List Int)) : (A.mergeSort (PySem.W.dataLe false intsD)).Pairwise (· ≤ ·) := by
  rw [dataLe_intsD]
  refine (List.pairwise_mergeSort (le := fun p q : List Int => decide (p ≤ q)) (fun a b c h1 h2 => decide_eq_true (List.le_trans (of_decide_eq_true h1) (of_decide_eq_true h2))) (fun a b => ?_) A).imp fun h => of_decide_eq_true h
  rcases List.le_total a b with h | h
  · simp [h]
  · simp [h]
theorem rows_sort {A B : List (List Int)} (h : A.Perm B) : A.mergeSort (PySem.W.dataLe false intsD) = B.mergeSort (PySem.W.dataLe false intsD) :=
  ((List.mergeSort_perm A _).trans (h.trans (List.mergeSort_perm B _).symm)).eq_of_pairwise (fun x y _ _ h1 h2 => List.le_antisymm h1 h2) (rows_le A) (rows_le B)
section
variable {X : Cx}
theorem cr_sortSet (hc : X.calm = true) (hu : X.A.units + 64 < cLine) : CallR X (.builtin "sorted") (rSortSet X.K X.prog X.w) := by
  intro pins s σ H vs us Q I r h
  obtain ⟨a, L, rfl, ha, hk, hne, q⟩ := h
  have R0 : SetT0 X.prog X.w s.heap a L := (I.hok a _ ha).1
  obtain ⟨es, ep, t, R⟩ := R0.full fun p hp => I.isT (hk p hp)
  rw [Vals.ref1 r]
  obtain ⟨o, ho, hex, hd⟩ := R.ob
  have hsz := R.size
  have hfew := R.few
  refine Calls.call_function_entry kind_sorted plain_sorted entry_sorted (args_sorted1 _) ?_
  unfold Builtin.«sorted»
  refine wpAny_bind (m := checkCount "sorted" 1 1 _) (wpAny_pure ?_)
  refine wpAny_bind (collect_set (A := X.A.in1) (I.ok.hd hc) ⟨o, ho, hex.1, hd⟩ R.fits (by unfold scanBound; omega) R.tab.ris R.led fun s1 vs k1 hz g1 o1 pm => ?_)
  have hes : es.toList.map (·.2) = L.map fun q => Value.ref q.1 := by
    rw [R.rows]
    unfold rowsOf
    rw [List.map_map] <;> rfl
  rw [hes] at pm
  obtain ⟨L1, p1, rfl⟩ := perm_map pm rfl
  have l1 : L1.length < 64 := by rw [p1.length_eq]; exact hfew
  refine wpAny_bind (wpAny_newList ?_ (by rw [sizeLine_eq, List.length_map]; omega))
  have hoL : (s1.heap.push (seqObj "list" (L1.map fun q => Value.ref q.1).toArray 0)).get? s1.heap.objs.size = some (seqObj "list" (L1.map fun q => Value.ref q.1).toArray 0) := Heap.get?_push_size _ rfl
  have e1 : ∀ l : List (Addr × List Int), (∀ p ∈ l, p ∈ L) → PySem.W.EachIs (fun (u : Value) (b : List Int) => ∃ x, RelV x u ∧ Dp X.K H x (intsD b)) (l.map fun q => Value.ref q.1) (l.map (·.2)) := by
    intro l
    induction l with
    | nil => intro _; exact .nil
    | cons q l ih =>
      intro hs
      exact .cons ⟨.ref q.1, rfl, Dp.ints (hk q (hs q List.mem_cons_self))⟩ (ih fun p hp => hs p (List.mem_cons_of_mem _ hp))
  have e2 : ∀ l : List (Addr × List Int), (∀ p ∈ l, p ∈ L) → PySem.W.EachIs (fun (u : Value) (b : List Int) => ∃ as, Reads (s1.heap.push (seqObj "list" (L1.map fun q => Value.ref q.1).toArray 0)) u (intsD b) as ∧ s1.heap.objs.size ∉ as) (l.map fun q => Value.ref q.1) (l.map (·.2)) := by
    intro l
    induction l with
    | nil => intro _; exact .nil
    | cons q l ih =>
      intro hs
      obtain ⟨oq, its, n, hoq, hcq, hdq, hit⟩ := R.tup q (hs q List.mem_cons_self)
      refine .cons ⟨[], ?_, fun z => nomatch z⟩ (ih fun p hp => hs p (List.mem_cons_of_mem _ hp))
      exact .tuple (Heap.get?_push_of_some _ (k1 _ _ hoq)) hcq hdq (reads_ints (ints_of_items hit))
  have hin : ∀ p ∈ L1, p ∈ L := fun p hp => p1.mem_iff.mp hp
  refine wpAny_bind (wpAny_holding (PySem.W.list_sort_data (s := { s1 with heap := s1.heap.push (seqObj "list" (L1.map fun q => Value.ref q.1).toArray 0) }) hoL (e1 L1 hin) (e2 L1 hin) ?_ ?_ (by rw [List.length_map, sizeLine_eq]; omega) (fun b _ => ?_) fun out ho2 eo => ?_))
  · intro d hd e he
    obtain ⟨x, _, rfl⟩ := List.mem_map.mp hd
    obtain ⟨y, _, rfl⟩ := List.mem_map.mp he
    simp only [intsD, PySem.W.alike]
    exact alike_ints x y
  · refine .inl fun d hd => ?_
    obtain ⟨x, hx, rfl⟩ := List.mem_map.mp hd
    obtain ⟨p, hp, rfl⟩ := List.mem_map.mp hx
    cases h2 : p.2 with
    | nil => exact absurd h2 (hne p (hin p hp))
    | cons n r => exact ⟨_, _, rfl⟩
  · have : (intsD b).depth ≤ 50 := by
      simp only [intsD, PyData.depth, dep_ints]
      decide
    show X.A.in1.units + 1 + _ < _
    have : X.A.in1.units ≤ X.A.units + 1 := Nat.le_refl _
    omega
  obtain ⟨ys, ry, dy⟩ := of_each intsD eo
  obtain ⟨c, hc2⟩ := sortedHeap_at (vs := L1.map fun q => Value.ref q.1) (out := out.toArray) hoL
  have hn : H s1.heap.objs.size = none := I.hok.fresh hz
  have hq : ∀ b o, s.heap.get? b = some o → (sortedHeap (s1.heap.push (seqObj "list" (L1.map fun q => Value.ref q.1).toArray 0)) s1.heap.objs.size (L1.map fun q => Value.ref q.1) out.toArray).get? b = some o := fun b u e => by
    have q := k1 b u e
    have hlt := Heap.lt_size q
    rw [sortedHeap_old (Nat.ne_of_lt hlt) (by rw [size_push']; exact Nat.lt_succ_of_lt hlt)]
    exact Heap.get?_push_of_some _ q
  have hol : out.length = L1.length := by rw [ho2, List.length_map]
  have hlen : ys.length ≤ sizeLine := by rw [ry.length, hol, sizeLine_eq]; omega
  have J : L2.Inv X pins σ (upd H s1.heap.objs.size (.lst ys)) { s1 with heap := sortedHeap (s1.heap.push (seqObj "list" (L1.map fun q => Value.ref q.1).toArray 0)) s1.heap.objs.size (L1.map fun q => Value.ref q.1) out.toArray } :=
    I.call' (ch := []) o1 (Un.laid hq hz hn) (I.hok.laid hq hz ⟨hlen, out, c, ry, hc2⟩) (by show AllBare s1.gens; rw [g1]; exact I.bare) (fun _ z => nomatch z)
  exact wpAny_pure ⟨_, rfl, ⟨.ref s1.heap.objs.size, _, J, rfl, q L1 _ ys hn p1 ((p1.map (·.2)).nodup_iff.mpr R.nd) dy⟩⟩
end
end TL
namespace TL
/-! ### paths in forests: between two vertices there is at most one -/
def Adj (es : List (Int × Int)) (a b : Int) : Prop := (a, b) ∈ es ∨ (b, a) ∈ es
theorem Adj.symm {es : List (Int × Int)} {a b : Int} (h : Adj es a b) : Adj es b a := h.elim .inr .inl
inductive Pth (es : List (Int × Int)) : Int → Int → List Int → Prop
  | one (a : Int) : Pth es a a [a]
  | cons {a b c : Int} {p : List Int} : Adj es a b → Pth es b c p → a ∉ p → Pth es a c (a :: p)
theorem Pth.mono {es fs : List (Int × Int)} (s : ∀ p ∈ es, p ∈ fs) {a b : Int} {p : List Int} (h : Pth es a b p) : Pth fs a b p := by
  induction h with
  | one a => exact .one a
  | cons ad _ n ih => exact .cons (ad.elim (fun z => .inl (s _ z)) fun z => .inr (s _ z)) ih n
theorem Pth.first {es : List (Int × Int)} {a b : Int} {p : List Int} (h : Pth es a b p) : a ∈ p := by
  cases h with
  | one => exact List.mem_singleton.mpr rfl
  | cons => exact List.mem_cons_self
theorem Pth.last {es : List (Int × Int)} {a b : Int} {p : List Int} (h : Pth es a b p) : b ∈ p := by
  induction h with
  | one a => exact List.mem_singleton.mpr rfl
  | cons _ _ _ ih => exact List.mem_cons_of_mem _ ih
theorem Pth.self {es : List (Int × Int)} {a : Int} {p : List Int} (h : Pth es a a p) : p = [a] := by
  cases h with
  | one => rfl
  | cons _ h n => exact absurd h.last n
theorem Pth.nodup {es : List (Int × Int)} {a b : Int} {p : List Int} (h : Pth es a b p) : p.Nodup := by
  induction h with
  | one a => exact List.pairwise_singleton _ _
  | cons _ _ n ih => exact List.nodup_cons.mpr ⟨n, ih⟩
theorem Pth.snoc {es : List (Int × Int)} {a b c : Int} {p : List Int} (h : Pth es a b p) (ad : Adj es b c) (n : c ∉ p) : Pth es a c (p ++ [c]) := by
  induction h with
  | one a =>
    refine .cons ad (.one c) fun z => n ?_
    rw [List.mem_singleton.mp z]
    exact List.mem_singleton.mpr rfl
  | cons ad0 _ n0 ih =>
    refine .cons ad0 (ih ad fun z => n (List.mem_cons_of_mem _ z)) fun z => ?_
    rcases List.mem_append.mp z with z | z
    · exact n0 z
    · rw [List.mem_singleton.mp z] at n
      exact n List.mem_cons_self
theorem Pth.rev {es : List (Int × Int)} {a b : Int} {p : List Int} (h : Pth es a b p) : Pth es b a p.reverse := by
  induction h with
  | one a => exact .one a
  | cons ad _ n ih =>
    rw [List.reverse_cons]
    exact ih.snoc ad.symm fun z => n (List.mem_reverse.mp z)
def Uniq (es : List (Int × Int)) : Prop := ∀ a b p q, Pth es a b p → Pth es a b q → p = q
section
variable {es : List (Int × Int)} {u v : Int} {e : Int × Int} (he : e = (v, u) ∨ e = (u, v)) (nv : ∀ p ∈ es, p.1 ≠ v ∧ p.2 ≠ v) (uv : u ≠ v)
include he nv
theorem adj_snoc {a b : Int} (h : Adj (es ++ [e]) a b) : Adj es a b ∨ (a = v ∧ b = u) ∨ (a = u ∧ b = v) := by
  rcases h with h | h
  · rcases List.mem_append.mp h with h | h
    · exact .inl (.inl h)
    · have h := List.mem_singleton.mp h
      rcases he with he | he
      · rw [he] at h; cases h; exact .inr (.inl ⟨rfl, rfl⟩)
      · rw [he] at h; cases h; exact .inr (.inr ⟨rfl, rfl⟩)
  · rcases List.mem_append.mp h with h | h
    · exact .inl (.inr h)
    · have h := List.mem_singleton.mp h
      rcases he with he | he
      · rw [he] at h; cases h; exact .inr (.inr ⟨rfl, rfl⟩)
      · rw [he] at h; cases h; exact .inr (.inl ⟨rfl, rfl⟩)
include uv
theorem adj_leaf {b : Int} (h : Adj (es ++ [e]) v b) : b = u := by
  rcases adj_snoc he nv h with h | h | h
  · rcases h with h | h
    · exact absurd rfl (nv _ h).1
    · exact absurd rfl (nv _ h).2
  · exact h.2
  · exact absurd h.1.symm uv
theorem pth_leaf1 {a b : Int} {p : List Int} (h : Pth (es ++ [e]) a b p) (ha : a ≠ v) (hb : b ≠ v) : v ∉ p ∧ Pth es a b p := by
  induction h with
  | one a => exact ⟨fun z => ha (List.mem_singleton.mp z).symm, .one a⟩
  | @cons a x c p ad hp na ih =>
    by_cases hx : x = v
    · subst hx
      have au : a = u := adj_leaf he nv uv ad.symm
      cases hp with
      | one => exact absurd rfl hb
      | cons ad2 hp2 n2 =>
        have yu := adj_leaf he nv uv ad2
        rw [yu, ← au] at hp2
        exact absurd (List.mem_cons_of_mem _ hp2.first) na
    · obtain ⟨h1, h2⟩ := ih hx hb
      refine ⟨fun z => (List.mem_cons.mp z).elim (fun z => ha z.symm) h1, .cons ?_ h2 na⟩
      rcases adj_snoc he nv ad with h | h | h
      · exact h
      · exact absurd h.1 ha
      · exact absurd h.2 hx
theorem pth_leaf2 {b : Int} {p : List Int} (h : Pth (es ++ [e]) v b p) (hb : b ≠ v) : ∃ p', p = v :: p' ∧ Pth es u b p' := by
  cases h with
  | one => exact absurd rfl hb
  | cons ad hp _ =>
    have yu := adj_leaf he nv uv ad
    rw [yu] at hp
    exact ⟨_, rfl, (pth_leaf1 he nv uv hp uv hb).2⟩
theorem uniq_snoc (U : Uniq es) : Uniq (es ++ [e]) := by
  intro a b p q hp hq
  by_cases ha : a = v
  · by_cases hb : b = v
    · rw [ha, hb] at hp hq
      rw [hp.self, hq.self]
    · rw [ha] at hp hq
      obtain ⟨p', rfl, h1⟩ := pth_leaf2 he nv uv hp hb
      obtain ⟨q', rfl, h2⟩ := pth_leaf2 he nv uv hq hb
      rw [U _ _ _ _ h1 h2]
  · by_cases hb : b = v
    · rw [hb] at hp hq
      obtain ⟨p', e1, h1⟩ := pth_leaf2 he nv uv hp.rev ha
      obtain ⟨q', e2, h2⟩ := pth_leaf2 he nv uv hq.rev ha
      rw [← U _ _ _ _ h1 h2, ← e1] at e2
      exact (List.reverse_inj.mp e2).symm
    · exact U _ _ _ _ (pth_leaf1 he nv uv hp ha hb).2 (pth_leaf1 he nv uv hq ha hb).2
end
theorem uniq_nil : Uniq [] := by
  intro a b p q hp hq
  cases hp with
  | one => rw [hq.self]
  | cons ad => exact ad.elim (fun z => nomatch z) fun z => nomatch z
theorem uniq_grow {m : Nat} {nm : List Int} : ∀ {n : Nat} {ks : List (Nat × Nat)}, ks.length = n → Grow m nm ks → Uniq (ks.map (edgeOf nm))
  | 0, ks, hn, g => by
    rw [List.length_eq_zero_iff.mp hn]
    exact uniq_nil
  | n + 1, ks, hn, g => by
    have hne : ks ≠ [] := fun z => by rw [z] at hn; cases hn
    obtain ⟨js, q, rfl⟩ : ∃ js q, ks = js ++ [q] := ⟨_, _, (List.dropLast_concat_getLast hne).symm⟩
    rw [List.length_append, List.length_singleton] at hn
    have gj : Grow m nm js := ⟨g.names, (List.pairwise_append.mp g.up).1, fun r hr => g.down r (List.mem_append_left _ hr)⟩
    have up := (List.pairwise_append.mp g.up).2.2
    obtain ⟨hq1, hq2⟩ := g.down q (List.mem_append_right _ (List.mem_singleton.mpr rfl))
    rw [List.map_append, List.map_singleton]
    have ne : nm.getD q.2 0 ≠ nm.getD q.1 0 := fun z => by have := g.inj (Nat.lt_trans hq1 hq2) hq2 z; omega
    refine uniq_snoc (v := nm.getD q.1 0) (u := nm.getD q.2 0) ?_ (fun p hp => ?_) ne (uniq_grow (n := n) (by omega) gj)
    · unfold edgeOf ordP
      split
      · exact .inl rfl
      · exact .inr rfl
    · obtain ⟨r, hr, rfl⟩ := List.mem_map.mp hp
      obtain ⟨hr1, hr2⟩ := gj.down r hr
      have hlt := up r hr q (List.mem_singleton.mpr rfl)
      have n1 : nm.getD r.1 0 ≠ nm.getD q.1 0 := fun z => by have := g.inj hr2 hq2 z; omega
      have n2 : nm.getD r.2 0 ≠ nm.getD q.1 0 := fun z => by have := g.inj (Nat.lt_trans hr1 hr2) hq2 z; omega
      unfold edgeOf ordP
      split
      · exact ⟨n1, n2⟩
      · exact ⟨n2, n1⟩
theorem IsFor.uniq {m : Nat} {es : List (Int × Int)} (f : IsFor m es) : Uniq es := by
  obtain ⟨nm, ks, g, p⟩ := f.grow
  intro a b x y hx hy
  exact uniq_grow rfl g a b x y (hx.mono fun q hq => p.mem_iff.mp hq) (hy.mono fun q hq => p.mem_iff.mp hq)
end TL
/-! ### set(t), t a tuple of tuples of ints (after the library's rules for a list of tuples and for a tuple of ints, whose walks it joins) -/
namespace L2
open PySem PySem.Spec PyProof.Rows
section
variable {P : Program} {w : World} {A : Around} {E : Value → Shared → Prop} {s : Shared}
abbrev nuS (w : World) : Obj := { cls := .type "set", dict := none, data := .set #[] 0 (.fresh 0 0 (!w.params.followText "set-order")) }
abbrev itT (l : Addr) : Obj := { cls := .type "tuple_iterator", data := .fields #[.ref l, .int 0 0] }
theorem set_of_tupT {l : Addr} {its : Array Value} (ks : List (Addr × List Int)) {Q : Value → Shared → Prop} (calm : A.handled = none) (tup : s.heap.IsTuple l its) (same : its.toList = ks.map fun p => Value.ref p.1)
    (each : ∀ p ∈ ks, IsT P w s.heap p.2 p.1) (few : ks.length < 64) (room : A.units + 3 < cLine)
    (fin : ∀ (h2 : Heap) (t2 : Nat) L es ep t, SetTR P w h2 s.heap.objs.size L es ep t → Got ks ks.length L → (∀ b o, s.heap.get? b = some o → h2.get? b = some o) → Q (.ref s.heap.objs.size) { s with heap := h2, toks := t2 }) :
    wpAny (model P w) A (call (.type "set") [.ref l]) Q E s := by
  have many : its.size = ks.length := by
    have := congrArg List.length same
    rwa [Array.length_toList, List.length_map] at this
  obtain ⟨c0, r0, mro0⟩ := F.called_set.mro
  have made0 := F.called_set.made
  have sub0 := F.called_set.sub
  refine wpAny_call (codeAny_of_tree ?_); show wpAny _ _ (callAny (.type "set") _) _ _ _
  refine wpAny_pure ⟨Code.quiet_builtin _ (by decide +kernel), codeAny_builtin F.entry_type_call ?_⟩; rw [Around.under_plain (weight_type_call_type "set" [.ref l] []) rfl]
  have no1 := F.called_set.notType
  have can1 := F.called_set.canCreate
  have ck1 := F.typeCall_set_1 (.ref l)
  (repeat (any_goals (first | assumption | wp_step))); refine codeAny_mono (code_set_led1 (.ref l) (E := E) (Q₁ := fun v s1 => v = .ref s.heap.objs.size ∧ s1 = { s with heap := s.heap.push (nuS w) }) ⟨rfl, rfl⟩) fun r s1 hr => ?_
  cases r with
  | error e => exact hr
  | ok fl =>
    cases fl with
    | ret v =>
      obtain ⟨rfl, rfl⟩ := hr
      have at0 : (s.heap.push (nuS w)).get? s.heap.objs.size = some (nuS w) := Heap.get?_push_size _ rfl
      have ty0 : Shared.TypeIs { s with heap := s.heap.push (nuS w) } (.ref s.heap.objs.size) "set" := ⟨_, at0, rfl⟩
      have look0 := F.called_set.init.lookup
      have bind0 := F.called_set.init.bind (.ref s.heap.objs.size)
      (repeat (any_goals (first | assumption | wp_step))); refine codeAny_mono (codeAny_call_builtin (R := wants (fun v s2 => v = .none ∧ ∃ h2 t2 L es ep t, s2 = { s with heap := h2, toks := t2 } ∧ SetTR P w h2 s.heap.objs.size L es ep t ∧ Got ks ks.length L ∧
          (∀ a o, s.heap.get? a = some o → h2.get? a = some o)) E) F.called_set.init.plain F.entry_set_init (check_set_init_1 ty0 ?_)) fun r2 s2 hr2 => ?_
      · obtain ⟨⟨oc, od, odat, osl⟩, at1, c1, n1, d1⟩ := id tup
        simp only at c1 d1
        subst c1
        subst d1
        have at2 : (s.heap.push (nuS w)).get? l = some { cls := .type "tuple", dict := od, data := .seq its n1, slots := osl } := Heap.get?_push_of_some _ at1
        have not1 := F.sub_tuple_set
        have not2 := F.sub_tuple_frozenset
        have not3 : (Value.type "tuple" == Value.type "dict") = false := by decide
        have tup1 : (s.heap.push (nuS w)).IsTuple l its := ⟨_, at2, rfl, n1, rfl⟩
        unfold Builtin.«set.__init__» noKeywords Builtin.Frozenset.updateFrom; generalize hit : pyIter = mkI
        wp_walk
        subst hit

        refine wpAny_pyIter_tuple tup1 (wpAny_bind (wpAny_runValue ?_))
        have low : l < s.heap.objs.size := Heap.lt_size at1
        have calm3 : A.in1.in1.in1.handled = none := by simp [calm]
        have ne1 : l ≠ (s.heap.push (nuS w)).objs.size := fun z => by rw [Heap.size_push] at z; exact absurd z (Nat.ne_of_lt (Nat.lt_succ_of_lt low))
        have off1 : s.heap.objs.size ∉ [(s.heap.push (nuS w)).objs.size, l] := fun z => by
          rcases List.mem_cons.mp z with z | z
          · rw [Heap.size_push] at z; exact absurd z (Nat.ne_of_lt (Nat.lt_succ_self _))
          · exact absurd (List.mem_singleton.mp z) (Nat.ne_of_gt low)
        have vals : ∀ (i : Nat) (v : Value), its[i]? = some v → ∃ p, ks[i]? = some p ∧ v = .ref p.1 := fun i v hv => by
          have hv2 : its.toList[i]? = some v := by rw [Array.getElem?_toList]; exact hv
          rw [same, List.getElem?_map] at hv2
          obtain ⟨p, hp, e⟩ := Option.map_eq_some_iff.mp hv2
          exact ⟨p, hp, e.symm⟩
        have gone : ∀ b, s.heap.objs.size ≤ b → s.heap.get? b = none := fun b hb => by
          cases z : s.heap.get? b with
          | none => rfl
          | some o => exact absurd (Heap.lt_size z) (Nat.not_lt.mpr hb)
        refine set_update_tups ((Walks.tuple calm3 _ l ne1 its).toS) s.heap.objs.size off1 ks many few vals s.heap each (gone _ (Nat.le_refl _)) (fun b hb => gone b (by
            have z := List.mem_singleton.mp hb
            rw [Heap.size_push] at z; rw [z]; exact Nat.le_succ _)) room (its.size - 0) 0 _ (by omega) (Nat.zero_le _)
          ⟨⟨_, Heap.get?_push_size _ rfl, rfl, rfl⟩, (tup1.push _)⟩ (fun b o e => Heap.get?_push_of_some _ (Heap.get?_push_of_some _ e)) ?start ?stop
        case start =>
          have at3 : ((s.heap.push (nuS w)).push (itT l)).get? s.heap.objs.size = some (nuS w) := Heap.get?_push_of_some _ at0
          exact ⟨[], #[], 0, _, setTR_fresh at3, Got.zero ks⟩
        case stop =>
          intro s3 L es ep t mv st gt kp
          obtain ⟨h3, g3, d3, t3, o3⟩ := s3
          have e1 : g3 = s.gens := mv.gens
          have e2 : d3 = s.drawn := mv.drawn
          have e3 : o3 = s.os := mv.os
          subst e1
          subst e2
          subst e3
          show wpAny _ _ _ _ _ _; refine wpAny_pure ?_; show wpAny _ _ (ret Value.none) _ _ _
          rw [many] at gt
          exact wpAny_pure ⟨rfl, h3, t3, L, es, ep, t, rfl, st, gt, kp⟩

      · cases r2 with
        | error e => exact hr2
        | ok fl =>
          cases fl with
          | ret v =>
            obtain ⟨rfl, h3, t3, L, es, ep, t, rfl, st, gt, kp⟩ := hr2
            (repeat (any_goals (first | assumption | wp_step))); exact fin _ _ _ _ _ _ st gt kp
          | _ => exact hr2.elim
    | _ => exact hr.elim
end
end L2
namespace TL
open PySem PySem.Spec PyProof.Rows L2
/-! ### sorted(set(t)), t a tuple of pairs of ints -/
section
variable {X : Cx}
/-- set(xs), xs a tuple of tuples of ints -/
def rSetP (K : PySem.W.Frag) (P : Program) (w : World) : List V → Hp → VK → Prop := fun xs H Q => ∃ (l : Addr) (ks : List (Addr × List Int)), xs = [V.ref l] ∧ SqT K H l (ks.map fun p => V.ref p.1) ∧ (∀ p ∈ ks, SqT K H p.1 (p.2.map V.int)) ∧ ks.length < 64 ∧
  ∀ a L, H a = none → (∀ p ∈ L, p ∈ ks) → (∀ p ∈ ks, p.2 ∈ L.map (·.2)) → Q (.ref a) (upd H a (SetTO P w a L))
theorem cr_setP (hc : X.calm = true) (hu : X.A.units + 64 < cLine) : CallR X (.type "set") (rSetP X.K X.prog X.w) := by
  intro pins s σ H args us Q I rel ⟨l, ks, eargs, tup, each, few, q⟩
  subst eargs
  rw [Vals.ref1 rel]
  obtain ⟨its, rv, pl, _⟩ := I.tuple tup
  have new := I.hok.fresh (Nat.le_refl s.heap.objs.size)
  refine set_of_tupT (P := X.prog) (w := X.w) ks (I.ok.hd hc) pl (by simpa using refs_of_vals rv) (fun p hp => I.isT (each p hp)) few (by omega) fun h2 t2 L es ep t R g k => ?_
  refine ⟨.ref s.heap.objs.size, upd H s.heap.objs.size (SetTO X.prog X.w s.heap.objs.size L), I.laid (t' := t2) k (Nat.le_refl _) (setTO_new R.t0), rfl, q _ L new (fun p hp => List.mem_of_mem_take (g.sub p hp)) fun p hp => ?_⟩
  exact g.all p (by rw [List.take_length]; exact hp)
end
end TL
namespace TL
open PySem PySem.Spec PyProof.Rows L2
/-! ### a list of any items compared with the empty one -/
def rEqL (K : PySem.W.Frag) : R2 := fun x y H Q => ∃ (a b : Addr) (xs : List V), x = .ref a ∧ y = .ref b ∧ SqL K H a xs ∧ SqL K H b [] ∧ Q (.bl xs.isEmpty) H
theorem eqLK (K : PySem.W.Frag) {X : Cx} (hu : X.A.units + 64 < cLine) (h : X.K = K := by rfl) : OpR X (compareOp .Eq) (rEqL K) := by
  subst h
  have room : X.A.units < cLine := by omega
  intro pins s σ H x y v u Q I rx ry ⟨a, b, xs, ex, ey, ta, tb, q⟩
  subst ex
  subst ey
  cases rx
  cases ry
  obtain ⟨its, r, pl, _⟩ := I.list ta
  obtain ⟨its2, r2, pl2, _⟩ := I.list tb
  cases r2
  cases r with
  | nil => exact SeqAt.eq_listAt (e := fun _ => true) pl.isList pl2.isList rfl room (fun j _ h2 => absurd h2 (by simp)) ⟨.bl true, H, I, rfl, q⟩
  | cons _ _ => exact SeqAt.eq_list_lengthsAt pl.isList pl2.isList (by simp) room ⟨.bl false, H, I, rfl, q⟩
end TL

namespace TL
open PySem PySem.Spec PyProof.Rows L2
def topS (i : Nat) : Stmt := PySem.Challenge.pw_treelamps_k01_first_error_of_forests.main.body.getD i (.Pass ⟨0, 0, 0, 0⟩)
abbrev sIsNumber : Stmt := topS 2
abbrev nIsNumber : List Str := ["value"]
theorem scIsNumber : FnScope nIsNumber ["value"] (defScope sIsNumber) :=
  ⟨rfl, rfl, rfl, by decide +kernel, rfl, by decide +kernel, by decide +kernel⟩
abbrev sIsPair : Stmt := topS 3
abbrev nIsPair : List Str := ["value"]
theorem scIsPair : FnScope nIsPair ["value"] (defScope sIsPair) :=
  ⟨rfl, rfl, rfl, by decide +kernel, rfl, by decide +kernel, by decide +kernel⟩
abbrev sIsVertex : Stmt := topS 4
abbrev nIsVertex : List Str := ["n", "value"]
theorem scIsVertex : FnScope nIsVertex ["n", "value"] (defScope sIsVertex) :=
  ⟨rfl, rfl, rfl, by decide +kernel, rfl, by decide +kernel, by decide +kernel⟩
abbrev sIsEdge : Stmt := topS 5
abbrev nIsEdge : List Str := ["n", "value", "a", "b"]
theorem scIsEdge : FnScope nIsEdge ["n", "value"] (defScope sIsEdge) :=
  ⟨rfl, rfl, rfl, by decide +kernel, rfl, by decide +kernel, by decide +kernel⟩
abbrev sMerged : Stmt := topS 6
abbrev nMerged : List Str := ["labels", "a", "b", "old", "new", "vertex"]
theorem scMerged : FnScope nMerged ["labels", "a", "b"] (defScope sMerged) :=
  ⟨rfl, rfl, rfl, by decide +kernel, rfl, by decide +kernel, by decide +kernel⟩
abbrev sEdgesError : Stmt := topS 7
abbrev nEdgesError : List Str := ["n", "edges", "labels", "index", "edge", "a", "b", "vertex"]
theorem scEdgesError : FnScope nEdgesError ["n", "edges"] (defScope sEdgesError) :=
  ⟨rfl, rfl, rfl, by decide +kernel, rfl, by decide +kernel, by decide +kernel⟩
abbrev sForestError : Stmt := topS 8
abbrev nForestError : List Str := ["value", "n", "edges"]
theorem scForestError : FnScope nForestError ["value"] (defScope sForestError) :=
  ⟨rfl, rfl, rfl, by decide +kernel, rfl, by decide +kernel, by decide +kernel⟩
abbrev sLDeck : Stmt := topS 10
abbrev nLDeck : List Str := ["_law_script", "_law_cell"]
theorem scLDeck : FnScope nLDeck ["_law_script"] (defScope sLDeck) :=
  ⟨rfl, rfl, rfl, by decide +kernel, rfl, by decide +kernel, by decide +kernel⟩
abbrev sLDraw : Stmt := topS 11
abbrev nLDraw : List Str := ["_law_deck_here", "_law_limit", "_law_cell", "_law_index"]
theorem scLDraw : FnScope nLDraw ["_law_deck_here", "_law_limit"] (defScope sLDraw) :=
  ⟨rfl, rfl, rfl, by decide +kernel, rfl, by decide +kernel, by decide +kernel⟩
abbrev sLMixed : Stmt := topS 12
abbrev nLMixed : List Str := ["_law_deck_here", "_law_items", "_law_left", "_law_k"]
theorem scLMixed : FnScope nLMixed ["_law_deck_here", "_law_items"] (defScope sLMixed) :=
  ⟨rfl, rfl, rfl, by decide +kernel, rfl, by decide +kernel, by decide +kernel⟩
abbrev sLForest : Stmt := topS 13
abbrev nLForest : List Str := ["_law_deck_here", "_law_most", "_law_n", "_law_names", "_law_way", "_law_rare", "_law_edges", "_law_k", "_law_other"]
theorem scLForest : FnScope nLForest ["_law_deck_here", "_law_most"] (defScope sLForest) :=
  ⟨rfl, rfl, rfl, by decide +kernel, rfl, by decide +kernel, by decide +kernel⟩
abbrev sLSame : Stmt := topS 14
abbrev nLSame : List Str := ["_law_value", "_law_due"]
theorem scLSame : FnScope nLSame ["_law_value", "_law_due"] (defScope sLSame) :=
  ⟨rfl, rfl, rfl, by decide +kernel, rfl, by decide +kernel, by decide +kernel⟩
abbrev sLIsNumber : Stmt := topS 15
abbrev nLIsNumber : List Str := ["_law_value", "_law_low", "_law_high"]
theorem scLIsNumber : FnScope nLIsNumber ["_law_value", "_law_low", "_law_high"] (defScope sLIsNumber) :=
  ⟨rfl, rfl, rfl, by decide +kernel, rfl, by decide +kernel, by decide +kernel⟩
abbrev sLJoined : Stmt := topS 16
abbrev nLJoined : List Str := ["_law_edges", "_law_first", "_law_found", "_law_again", "_law_a", "_law_b"]
theorem scLJoined : FnScope nLJoined ["_law_edges", "_law_first"] (defScope sLJoined) :=
  ⟨rfl, rfl, rfl, by decide +kernel, rfl, by decide +kernel, by decide +kernel⟩
abbrev sLOdd : Stmt := topS 17
abbrev nLOdd : List Str := ["_law_deck_here", "_law_some"]
theorem scLOdd : FnScope nLOdd ["_law_deck_here"] (defScope sLOdd) :=
  ⟨rfl, rfl, rfl, by decide +kernel, rfl, by decide +kernel, by decide +kernel⟩
abbrev sLError : Stmt := topS 18
abbrev nLError : List Str := ["_law_value", "_law_n", "_law_edges", "_law_k", "_law_edge", "_law_end"]
theorem scLError : FnScope nLError ["_law_value"] (defScope sLError) :=
  ⟨rfl, rfl, rfl, by decide +kernel, rfl, by decide +kernel, by decide +kernel⟩
abbrev sLChanged : Stmt := topS 19
abbrev nLChanged : List Str := ["_law_deck_here", "_law_forest_here", "_law_n", "_law_edges", "_law_at", "_law_to", "_law_a", "_law_b", "_law_items", "_law_item", "_law_more", "_law_some", "_law_pairs"]
theorem scLChanged : FnScope nLChanged ["_law_deck_here", "_law_forest_here"] (defScope sLChanged) :=
  ⟨rfl, rfl, rfl, by decide +kernel, rfl, by decide +kernel, by decide +kernel⟩
abbrev sLBent : Stmt := topS 20
abbrev nLBent : List Str := ["_law_deck_here", "_law_forest_here", "_law_edges", "_law_n", "_law_a", "_law_b", "_law_way", "_law_at", "_law_to"]
theorem scLBent : FnScope nLBent ["_law_deck_here", "_law_forest_here"] (defScope sLBent) :=
  ⟨rfl, rfl, rfl, by decide +kernel, rfl, by decide +kernel, by decide +kernel⟩
abbrev sLaw : Stmt := topS 21
abbrev nLaw : List Str := ["_law_script", "_law_deck_here", "_law_turn", "_law_forest_here", "_law_values", "_law_k", "_law_value", "_law_before", "_law_due"]
theorem scLaw : FnScope nLaw ["_law_script"] (defScope sLaw) :=
  ⟨rfl, rfl, rfl, by decide +kernel, rfl, by decide +kernel, by decide +kernel⟩
section
variable {P : Program} {w : World} {K : PySem.W.Frag} {mg : Str → Option Value} {base : Heap}
/-! ### the deck and its draws -/
def spLDeck (K : PySem.W.Frag) : Sp := fun vs H Q _ => ∃ (a : Addr) (ns : List Int), vs = [.ref a] ∧
  SqL K H a (ns.map V.int) ∧ ns.length ≤ 63 ∧ ∀ H' d l, Same H H' → Deck H' d l 0 → Q (.ref d) H'
theorem cut63 {ns : List Int} (h : ns.length ≤ 63) : cutV (ns.map V.int) none (some 63) = ns.map V.int := by
  unfold cutV
  rw [HT.sIx_none, show HT.sIx (ns.map V.int).length (ns.map V.int).length (some 63) = min 63 (ns.map V.int).length from HT.sIx_nat _ _ 63]
  rw [List.drop_zero]
  exact List.take_of_length_le (by rw [List.length_map]; omega)
theorem ok_LDeck {f : Addr} {fd : FuncData} {k : Nat} (F : Fun K "_law_deck" "_law_deck" sLDeck f fd) (m_abs : mg "abs" = none) :
    FnOk P w K mg base CX0 (k + 1) f fd ["_law_script"] (spLDeck K) := by
  refine F.ok scLDeck (fun vs H Q E h => ?_) (fun cdv A outer s H vs Q E hr h => ?_)
  · obtain ⟨a, ns, rfl, _⟩ := h
    rfl
  · obtain ⟨a, ns, rfl, hS, hlen, q⟩ := h
    refine ⟨_, (pss_one (ps_ret (pe_lst (pa_cons (pe_lc (own := [("_law_cell", 1)]) (g := (gName 1)) (tt := tYes) rfl scLDeck.nd (piLK K (pe_slice (slLK K) (pv 0) po_none (po_some pe_int)))
      (blkOk_by (own := [("_law_cell", 1)]) (N := nLDeck) (sc := (defScope sLDeck)) (by decide +kernel))
      (fun _ _ _ _ _ => (pg_name (i := 1) scLDeck.nd rfl (Or.inl rfl))) (fun _ _ _ _ _ => pts_nil)
      (fun _ _ _ _ _ => (pe_callB call_abs (by rfl) m_abs (by decide +kernel) (pa_cons (pv 1) pa_nil)))) (pa_cons pe_int pa_nil))))), ?_⟩
    refine ⟨.ref a, rfl, 63, rfl, a, ns.map V.int, rfl, hS, fun c nc => ?_⟩
    rw [cut63 hlen]
    refine ⟨c, rfl, ⟨_, SqL.of upd_same⟩, fun D nD => ?_⟩
    have s1 : Same H (upd H c (.lst (ns.map V.int))) := same_upd nc
    have s2 : Same (upd H c (.lst (ns.map V.int))) (upd (upd H c (.lst (ns.map V.int))) D (.lst [])) := same_upd nD
    have ncD : c ≠ D := ne_of_none (upd_same) nD
    have nHD : H D = none := s1.free nD
    refine lc_list (K := K) (a := c) (xs := ns.map V.int) (fun i H' => Same H H' ∧ H' c = some (.lst (ns.map V.int)) ∧
      H' D = some (.lst (((ns.take i).map fun z => if z < 0 then -z else z).map V.int))) ?_ ?_ ?_ ?_
    · exact ⟨s1.trans s2, by rw [upd_ne ncD, upd_same], by rw [upd_same]; rfl⟩
    · exact fun i H' _ p => SqL.of p.2.1
    · rintro i x H' hx ⟨p1, p2, p3⟩
      rw [List.getElem?_map] at hx
      obtain ⟨z, hz, rfl⟩ := Option.map_eq_some_iff.mp hx
      obtain ⟨hi, _⟩ := List.getElem?_eq_some_iff.mp hz
      refine ⟨rfl, yesI (iteT ?_)⟩
      refine ⟨.int z, rfl, z, rfl, _, p3, ?_, ?_, ?_, ?_⟩
      · rw [List.length_map, List.length_map, List.length_take]
        exact small1000 (by omega)
      · exact fun b o e => by
          have nb : b ≠ D := ne_of_none e nHD
          rw [upd_ne nb]
          exact p1 b o e
      · rw [upd_ne ncD]
        exact p2
      · rw [upd_same, List.take_add_one, hz, List.map_append, List.map_append]
        rfl
    · rintro H' ⟨p1, p2, p3⟩
      rw [List.length_map, List.take_length] at p3
      refine ⟨by show 2 ≤ sizeLine; decide, fun d nd => ?_⟩
      have ndD : D ≠ d := ne_of_none p3 nd
      refine q _ d D (p1.trans (same_upd nd)) ⟨0, (ns.map fun z => if z < 0 then -z else z), Nat.le_refl _, ?_, ?_, ?_, ?_⟩
      · rw [upd_same]
        rfl
      · rw [upd_ne ndD]
        exact p3
      · intro z hz
        obtain ⟨y, _, rfl⟩ := List.mem_map.mp hz
        show 0 ≤ if y < 0 then -y else y
        split <;> omega
      · rw [List.length_map]
        exact hlen

def spLDraw : Sp := fun vs H Q _ => ∃ (d l : Addr) (n : Nat) (m : Int), vs = [.ref d, .int m] ∧ 0 < m ∧ m < 1000000 ∧ Deck H d l n ∧ n < 1000000 ∧
  ∀ H' r, 0 ≤ r → r < m → Fm d l H H' → Deck H' d l (n + 1) → Q (.int r) H'
theorem deck_put {H : Hp} {d l : Addr} {n c : Nat} {ns ns' : List Int} {H1 : Hp} (hc : c ≤ n) (h1 : H1 d = some (.lst [.ref l, .int (c : Int)])) (h2 : H1 l = some (.lst (ns'.map V.int)))
    (h3 : ∀ z ∈ ns', 0 ≤ z) (h4 : ns'.length ≤ 63) : Deck H1 d l n := ⟨c, ns', hc, h1, h2, h3, h4⟩
theorem mod_in {x m : Int} (h : 0 < m) : 0 ≤ x % m ∧ x % m < m := ⟨Int.emod_nonneg x (by omega), Int.emod_lt_of_pos x h⟩
theorem pow_in {x : Int} {c : Nat} (h : c < 1000001) : ((x % 2147483587 + 7919 * (c : Int) + 1)).natAbs < 2 ^ 64 := by
  have := mod_in (x := x) (m := 2147483587) (by decide)
  omega
theorem ok_LDraw {f : Addr} {fd : FuncData} {k : Nat} (F : Fun K "_law_draw" "_law_draw" sLDraw f fd) (m_len : mg "len" = none) :
    FnOk P w K mg base CX0 (k + 1) f fd ["_law_deck_here", "_law_limit"] spLDraw := by
  refine F.ok scLDraw (fun vs H Q E h => ?_) (fun cdv A outer s H vs Q E hr h => ?_)
  · obtain ⟨d, l, n, m, rfl, _⟩ := h
    rfl
  · obtain ⟨d, l, n, m, rfl, m0, m1, hD, hn, q⟩ := h
    refine ⟨_, (pss_cons (ps_asg (pe_op op_add (pe_ix (ixLK K) (pv 0) pe_int (fun _ _ => rfl)) pe_int) (pg_sub (pv 0) pe_int set_list))
    (pss_cons (ps_asg (pe_tup (pa_cons pe_int (pa_cons (pe_un un_neg pe_int) pa_nil))) (pgTK K (pgs_cons (pg_name (i := 2) scLDraw.nd rfl (Or.inl rfl)) (pgs_cons (pg_name (i := 3) scLDraw.nd rfl (Or.inl rfl)) pgs_nil))))
    (pss_cons (ps_if (pt_cmpR op_gt (pe_callB (lenK K) (by rfl) m_len (by decide +kernel) (pa_cons (pe_ix (ixLK K) (pv 0) pe_int (fun _ _ => rfl)) pa_nil)) pe_int (nomark _)) (pss_cons (ps_set (i := 3) scLDraw.nd rfl (.inl rfl) (pe_op op_mod (pe_ix (ixLK K) (pv 0) pe_int (fun _ _ => rfl)) (pe_callB (lenK K) (by rfl) m_len (by decide +kernel) (pa_cons (pe_ix (ixLK K) (pv 0) pe_int (fun _ _ => rfl)) pa_nil))))
    (pss_one (ps_set (i := 2) scLDraw.nd rfl (.inl rfl) (pe_ix (ixLK K) (pe_ix (ixLK K) (pv 0) pe_int (fun _ _ => rfl)) (pv 3) (fun _ _ => rfl))))) pss_nil)
    (pss_cons (ps_if (pt_cmpR op_ge (pv 2) (pe_op op_pow pe_int pe_int) (nomark _)) (pss_cons (ps_asg (pe_op op_fdiv (pv 2) (pv 1)) (pg_sub (pe_ix (ixLK K) (pv 0) pe_int (fun _ _ => rfl)) (pv 3) set_list))
    (pss_one (ps_ret (pe_op op_mod (pv 2) (pv 1))))) pss_nil)
    (pss_one (ps_ret (pe_op op_mod (pe_op op_fdiv (pe_op op_mod (pe_op op_pow (pe_op op_add (pe_op op_add (pe_op op_mod (pv 2) pe_int) (pe_op op_mul pe_int (pe_ix (ixLK K) (pv 0) pe_int (fun _ _ => rfl)))) pe_int) pe_int) pe_int) pe_int) (pv 1)))))))), ?_⟩
    have nel := hD.ne
    obtain ⟨c, ns, hc, h1, h2, h3, h4⟩ := hD
    -- deck[1] = deck[1] + 1
    refine ⟨.ref d, rfl, d, _, 1, .int (c : Int), rfl, rfl, SqL.of h1, atI_nat (j := 1) rfl, (c : Int), 1, rfl, rfl,
      .ref d, rfl, d, _, 1, 1, rfl, rfl, h1, rfl, ?_⟩
    have e1 : (upd H d (.lst ([V.ref l, V.int (c : Int)].set 1 (.int ((c : Int) + 1))))) d = some (.lst [V.ref l, V.int ((c : Int) + 1)]) := upd_same
    generalize hH1 : upd H d (.lst ([V.ref l, V.int (c : Int)].set 1 (.int ((c : Int) + 1)))) = H1 at e1 ⊢
    have e2 : H1 l = some (.lst (ns.map V.int)) := by
      rw [← hH1, upd_ne nel.symm]
      exact h2
    have f1 : Fm d l H H1 := fun b o n1 n2 e => by
      rw [← hH1, upd_ne n1]
      exact e
    have ec : ((c : Int) + 1) = ((c + 1 : Nat) : Int) := by omega
    rw [ec] at e1
    -- cell, index = 0, -1
    refine ⟨1, rfl, by show 2 ≤ sizeLine; decide, fun t nt => ⟨t, _, rfl, SqT.of upd_same, rfl, .int 0, [.int (-1)], rfl, .int (-1), [], rfl, rfl, ?_⟩⟩
    have st := same_upd (o := .tup [.int 0, .int (-1)]) nt
    replace e1 := st _ _ e1
    replace e2 := st _ _ e2
    replace f1 : Fm d l H (upd H1 t (.tup [.int 0, .int (-1)])) := f1.trans (Same.fm st)
    generalize upd H1 t (.tup [.int 0, .int (-1)]) = H2 at e1 e2 f1 ⊢
    -- the last row, for any cell
    have last : ∀ (x : Int), (0 : Int) ≤ ((x % 2147483587 + 7919 * ((c + 1 : Nat) : Int) + 1) ^ (5 : Int).toNat % 2147483647 / 7) % m ∧
        ((x % 2147483587 + 7919 * ((c + 1 : Nat) : Int) + 1) ^ (5 : Int).toNat % 2147483647 / 7) % m < m := fun x => mod_in m0
    have p64 : ∀ x : Int, (x % 2147483587 + 7919 * ((c + 1 : Nat) : Int) + 1).natAbs < 2 ^ 64 := fun x => pow_in (by omega)
    have dk : Deck H2 d l (n + 1) := ⟨c + 1, ns, by omega, e1, e2, h3, h4⟩
    -- if len(deck[0]) > 0
    refine ⟨.ref d, rfl, d, _, 0, .ref l, rfl, rfl, SqL.of e1, atI_nat (j := 0) rfl, l, ns.map V.int, rfl, .inl (SqL.of e2), _, 0, rfl, rfl, _, rfl, ite2 (fun hlen => ?_) (fun hlen => ?_)⟩
    · have hpos : 0 < ns.length := by
        have := of_decide_eq_true hlen
        rw [List.length_map] at this
        omega
      obtain ⟨i0, i1⟩ := mod_in (x := ((c + 1 : Nat) : Int)) (m := (((ns.map V.int).length : Nat) : Int)) (by rw [List.length_map]; omega)
      -- index
      refine ⟨.ref d, rfl, d, _, 1, .int ((c + 1 : Nat) : Int), rfl, rfl, SqL.of e1, atI_nat (j := 1) rfl, .ref d, rfl, d, _, 0, .ref l, rfl, rfl, SqL.of e1, atI_nat (j := 0) rfl, l, ns.map V.int, rfl, .inl (SqL.of e2), _, _, rfl, rfl, by rw [List.length_map]; omega, ?_⟩
      obtain ⟨j, hj⟩ : ∃ j : Nat, ((c + 1 : Nat) : Int) % (((ns.map V.int).length : Nat) : Int) = (j : Int) :=
        ⟨(((c + 1 : Nat) : Int) % (((ns.map V.int).length : Nat) : Int)).toNat, by omega⟩
      have hjl : j < ns.length := by
        rw [hj, List.length_map] at i1
        omega
      have hx : (ns.map V.int)[j]? = some (.int ns[j]) := by
        rw [List.getElem?_map, List.getElem?_eq_getElem hjl]
        rfl
      have hx0 : 0 ≤ ns[j] := h3 _ (List.getElem_mem hjl)
      generalize ns[j] = z at hx hx0
      -- cell
      refine ⟨.ref d, rfl, d, _, 0, .ref l, rfl, rfl, SqL.of e1, atI_nat (j := 0) rfl, _, rfl, l, _, _, .int z, rfl, rfl, SqL.of e2, at_of hj hx, ?_⟩
      -- if cell >= 10 ** 18
      refine ⟨.int z, rfl, 10, 18, rfl, rfl, ⟨by decide, by decide, by decide⟩, z, _, rfl, rfl, _, rfl, ite2 (fun hbig => ?_) (fun hbig => ?_)⟩
      · refine ⟨.int z, rfl, .int m, rfl, z, m, rfl, rfl, ⟨m0, by omega⟩, .ref d, rfl, d, _, 0, .ref l, rfl, rfl, SqL.of e1, atI_nat (j := 0) rfl, _, rfl, l, _, _, j, rfl, rfl, e2, ?_, ?_⟩
        · rw [hj]
          unfold ixN
          rw [if_pos (by omega), if_pos (by rw [List.length_map]; omega)]
          simp
        · refine ⟨.int z, rfl, .int m, rfl, z, m, rfl, rfl, m0, ?_⟩
          obtain ⟨r0, r1⟩ := mod_in (x := z) m0
          refine q _ _ r0 r1 (fun b o n1 n2 e => ?_) ⟨c + 1, ns.set j (z / m), by omega, ?_, ?_, ?_, ?_⟩
          · rw [upd_ne n2]
            exact f1 b o n1 n2 e
          · rw [upd_ne nel]
            exact e1
          · rw [upd_same, List.map_set]
          · intro y hy
            rcases List.mem_or_eq_of_mem_set hy with hy | rfl
            · exact h3 y hy
            · exact Int.ediv_nonneg hx0 (by omega)
          · rw [List.length_set]
            exact h4
      · -- the last row
        refine ⟨.int z, rfl, z, 2147483587, rfl, rfl, (by show (0 : Int) < 2147483587; decide), .ref d, rfl, d, _, 1, .int ((c + 1 : Nat) : Int), rfl, rfl, SqL.of e1, atI_nat (j := 1) rfl, 7919, _, rfl, rfl, .inl ⟨by decide, by decide⟩,
          _, _, rfl, rfl, _, _, rfl, rfl, _, _, rfl, rfl, ⟨by decide, by decide, p64 z⟩, _, _, rfl, rfl, (by show (0 : Int) < 2147483647; decide), _, _, rfl, rfl, (by show (0 : Int) < 7 ∧ (7 : Int) < 1073741824; decide), .int m, rfl, _, m, rfl, rfl, m0, ?_⟩
        exact q _ _ (last z).1 (last z).2 f1 dk
    · refine ⟨.int 0, rfl, 10, 18, rfl, rfl, ⟨by decide, by decide, by decide⟩, 0, _, rfl, rfl, _, rfl, ite2 (fun hbig => ?_) (fun hbig => ?_)⟩
      · exact absurd (of_decide_eq_true hbig) (by decide)
      · refine ⟨.int 0, rfl, 0, 2147483587, rfl, rfl, (by show (0 : Int) < 2147483587; decide), .ref d, rfl, d, _, 1, .int ((c + 1 : Nat) : Int), rfl, rfl, SqL.of e1, atI_nat (j := 1) rfl, 7919, _, rfl, rfl, .inl ⟨by decide, by decide⟩,
          _, _, rfl, rfl, _, _, rfl, rfl, _, _, rfl, rfl, ⟨by decide, by decide, p64 0⟩, _, _, rfl, rfl, (by show (0 : Int) < 2147483647; decide), _, _, rfl, rfl, (by show (0 : Int) < 7 ∧ (7 : Int) < 1073741824; decide), .int m, rfl, _, m, rfl, rfl, m0, ?_⟩
        exact q _ _ (last 0).1 (last 0).2 f1 dk
/-! ### mixed: a list in another order -/
def spLMixed (K : PySem.W.Frag) : Sp := fun vs H Q _ => ∃ (d l a : Addr) (n : Nat) (ns : List Int), vs = [.ref d, .ref a] ∧ Deck H d l n ∧ n < 900000 ∧
  SqL K H a (ns.map V.int) ∧ ns.length ≤ 100 ∧
  ∀ (H' : Hp) (D : Addr) (ms : List Int), ms.Perm ns → Fm d l H H' → Deck H' d l (n + ns.length) → H D = none → H' D = some (.lst (ms.map V.int)) → Q (.ref D) H'
theorem erase_perm {rs : List Int} {k : Nat} (h : k < rs.length) : (rs[k] :: rs.eraseIdx k).Perm rs := by
  induction rs generalizing k with
  | nil => exact absurd h (Nat.not_lt_zero _)
  | cons a r ih =>
    cases k with
    | zero => exact List.Perm.refl _
    | succ k =>
      have h' : k < r.length := by rw [List.length_cons] at h; omega
      exact (List.Perm.swap _ _ _).trans (List.Perm.cons a (ih h'))
theorem erase_map : ∀ (rs : List Int) (k : Nat), (rs.map V.int).eraseIdx k = (rs.eraseIdx k).map V.int
  | [], _ => rfl
  | a :: r, 0 => rfl
  | a :: r, k + 1 => congrArg (V.int a :: ·) (erase_map r k)
theorem Fm.put {d l a : Addr} {H H' : Hp} {o : HO} (h : Fm d l H H') (ha : H a = none) : Fm d l H (upd H' a o) := fun b u n1 n2 e => by
  rw [upd_ne (ne_of_none e ha)]
  exact h b u n1 n2 e
theorem ok_LMixed {f : Addr} {fd : FuncData} (F : Fun K "_law_mixed" "_law_mixed" sLMixed f fd) (m_list : mg "list" = none) (m_range : mg "range" = none) (m_len : mg "len" = none)
    (oLDraw : Own P w K mg base "_law_draw" 1 ["_law_deck_here", "_law_limit"] spLDraw) :
    FnOk P w K mg base CX0 2 f fd ["_law_deck_here", "_law_items"] (spLMixed K) := by
  refine F.ok scLMixed (fun vs H Q E h => ?_) (fun cdv A outer s H vs Q E hr h => ?_)
  · obtain ⟨d, l, a, n, ns, rfl, _⟩ := h
    rfl
  · obtain ⟨d, l, a, n, ns, rfl, hD, hn, hS, hl, q⟩ := h
    refine ⟨_, (pss_cons (ps_set (i := 2) scLMixed.nd rfl (.inr rfl) (pe_callTy (listK K) (by rfl) m_list (by decide +kernel) (pa_cons (pv 1) pa_nil)))
    (pss_one (ps_ret (pe_lc (own := [("_law_k", 3)]) (g := (gName 3)) (tt := tYes) rfl scLMixed.nd (pi_range1 (by rfl) m_range (pa_cons (pe_callB (lenK K) (by rfl) m_len (by decide +kernel) (pa_cons (pv 2) pa_nil)) pa_nil))
      (blkOk_by (own := [("_law_k", 3)]) (N := nLMixed) (sc := (defScope sLMixed)) (by decide +kernel))
      (fun _ _ _ _ _ => (pg_name (i := 3) scLMixed.nd rfl (Or.inl rfl))) (fun _ _ _ _ _ => pts_nil)
      (fun _ _ _ _ _ => (bmK K PySem.F.plainAttrs_list PySem.F.slot_list_pop PySem.F.type_list_pop mt_popAt (pv 2) (pa_cons (pe_own oLDraw (hr.mono (by decide)) (by rfl) (pa_cons (pv 0) (pa_cons (pe_callB (lenK K) (by rfl) m_len (by decide +kernel) (pa_cons (pv 2) pa_nil)) pa_nil))) pa_nil))))))), ?_⟩
    refine ⟨.ref a, rfl, a, ns.map V.int, rfl, .inl hS, fun L nL => ?_⟩
    have s1 := same_upd (o := .lst (ns.map V.int)) nL
    refine ⟨.ref L, rfl, L, _, rfl, .inl (SqL.of upd_same), (((ns.map V.int).length : Nat) : Int), rfl, by omega, by rw [List.length_map]; omega, fun D nD => ?_⟩
    have nHD : H D = none := s1.free nD
    have nLD : L ≠ D := ne_of_none upd_same nD
    have offL := hD.off nL
    have offD := hD.off nHD
    refine lc_range (lo := 0) (n := (((ns.map V.int).length : Nat) : Int).toNat) (fun i H' => ∃ (ms rs : List Int), (ms ++ rs).Perm ns ∧ ms.length = i ∧ Fm d l H H' ∧ Deck H' d l (n + i) ∧
      H' L = some (.lst (rs.map V.int)) ∧ H' D = some (.lst (ms.map V.int))) ?_ ?_ ?_
    · exact ⟨[], ns, List.Perm.refl _, rfl, (Same.fm s1).put nHD, (hD.same s1).put offD.1 offD.2, by rw [upd_ne nLD, upd_same], upd_same⟩
    · rintro i H2 hi ⟨ms, rs, pm, el, f2, d2, eL, eD⟩
      rw [Int.toNat_natCast, List.length_map] at hi
      have er : rs.length = ns.length - i := by
        have := pm.length_eq
        rw [List.length_append] at this
        omega
      refine ⟨rfl, yesI (iteT ?_)⟩
      refine ⟨.ref L, rfl, .inl ⟨rfl, _, SqL.of eL⟩, .ref d, rfl, .ref L, rfl, L, _, rfl, .inl (SqL.of eL), d, l, _, _, rfl, by rw [List.length_map]; omega, by rw [List.length_map]; omega, d2, by omega, fun H3 r r0 r1 f3 d3 => ?_⟩
      rw [List.length_map] at r1
      have eL3 := f3 _ _ offL.1 offL.2 eL
      have eD3 := f3 _ _ offD.1 offD.2 eD
      have hk : r.toNat < rs.length := by omega
      refine ⟨L, _, r, r.toNat, .int rs[r.toNat], rfl, rfl, eL3, by omega, by omega, ?_, ?_, ms.map V.int, ?_, ?_, ms ++ [rs[r.toNat]], rs.eraseIdx r.toNat, ?_, ?_, ?_, ?_, ?_, ?_⟩
      · unfold seqIndex?
        rw [List.length_map]
        simp
        omega
      · rw [List.getElem?_map, List.getElem?_eq_getElem hk]
        rfl
      · rw [upd_ne nLD.symm]
        exact eD3
      · rw [List.length_map]
        exact small1000 (by omega)
      · rw [List.append_assoc]
        refine List.Perm.trans ?_ pm
        exact List.Perm.append_left ms (erase_perm hk)
      · rw [List.length_append, el]
        rfl
      · exact ((f2.trans f3).put nL).put nHD
      · exact ((d3.le (m := n + (i + 1)) (by omega)).put offL.1 offL.2).put offD.1 offD.2
      · rw [upd_ne nLD, upd_same]
        exact congrArg (fun z => some (HO.lst z)) (erase_map rs r.toNat)
      · rw [upd_same, List.map_append]
        rfl
    · rintro H2 ⟨ms, rs, pm, el, f2, d2, eL, eD⟩
      rw [Int.toNat_natCast, List.length_map] at el d2
      have er : rs = [] := by
        have := pm.length_eq
        rw [List.length_append] at this
        exact List.length_eq_zero_iff.mp (by omega)
      subst er
      rw [List.append_nil] at pm
      exact q _ D ms pm f2 d2 nHD eD
/-! ### forest -/
theorem rgV_rng (m : Nat) : rgV 0 (m : Int) = (rng m).map V.int := by
  unfold rgV rng
  rw [List.map_map]
  have e : ((m : Int) - 0).toNat = m := by omega
  rw [e]
  refine List.map_congr_left fun i _ => ?_
  show V.int (0 + (i : Int)) = V.int (Int.ofNat i)
  rw [Int.zero_add]
  rfl
def spLForest (K : PySem.W.Frag) : Sp := fun vs H Q _ => ∃ (d l : Addr) (n most : Nat), vs = [.ref d, .int (most : Int)] ∧ most ≤ 12 ∧ Deck H d l n ∧ n < 800000 ∧
  ∀ (H' : Hp) (x : V) (m : Nat) (es : List (Int × Int)), Fm d l H H' → Deck H' d l (n + 60) → m ≤ most → IsFor m es → Dp K H' x (forD m es) → Q x H'
theorem ok_LForest {f : Addr} {fd : FuncData} (F : Fun K "_law_forest" "_law_forest" sLForest f fd) (m_list : mg "list" = none) (m_range : mg "range" = none) (m_len : mg "len" = none)
    (m_max : mg "max" = none) (m_tuple : mg "tuple" = none) (m_sorted : mg "sorted" = none)
    (oLDraw : Own P w K mg base "_law_draw" 1 ["_law_deck_here", "_law_limit"] spLDraw) (oLMixed : Own P w K mg base "_law_mixed" 2 ["_law_deck_here", "_law_items"] (spLMixed K)) :
    FnOk P w K mg base CX0 3 f fd ["_law_deck_here", "_law_most"] (spLForest K) := by
  refine F.ok scLForest (fun vs H Q E h => ?_) (fun cdv A outer s H vs Q E hr h => ?_)
  · obtain ⟨d, l, n, most, rfl, _⟩ := h
    rfl
  · obtain ⟨d, l, n, most, rfl, hm, hD, hn, q⟩ := h
    refine ⟨_, (pss_cons (ps_set (i := 2) scLForest.nd rfl (.inl rfl) (pe_own oLDraw (hr.mono (by decide)) (by rfl) (pa_cons (pv 0) (pa_cons (pe_op op_add (pv 1) pe_int) pa_nil))))
    (pss_cons (ps_set (i := 3) scLForest.nd rfl (.inl rfl) (pe_own oLMixed (hr.mono (by decide)) (by rfl) (pa_cons (pv 0) (pa_cons (pe_listRg rfl (by rfl) m_list (prg_1 (by rfl) m_range (pv 2))) pa_nil))))
    (pss_cons (ps_par (by rfl) scLForest.nd (i := 4) (j := 5) rfl rfl (by decide) rfl rfl (pa_cons (pe_own oLDraw (hr.mono (by decide)) (by rfl) (pa_cons (pv 0) (pa_cons pe_int pa_nil))) (pa_cons (pe_own oLDraw (hr.mono (by decide)) (by rfl) (pa_cons (pv 0) (pa_cons pe_int pa_nil))) pa_nil)) (by rfl))
    (pss_cons (ps_set (i := 6) scLForest.nd rfl (.inl rfl) (pe_lst pa_nil))
    (pss_cons (ps_for PassesOwn.never rfl (pi_range2 (by rfl) m_range (pa_cons pe_int (pa_cons (pv 2) pa_nil))) (pg_name (i := 7) scLForest.nd rfl (Or.inl rfl))
    (pss_cons (ps_set (i := 8) scLForest.nd rfl (.inl rfl) (pe_ix (ixLK K) (pe_lst (pa_cons (pe_op op_sub (pv 7) pe_int) (pa_cons pe_int (pa_cons (pe_own oLDraw (hr.mono (by decide)) (by rfl) (pa_cons (pv 0) (pa_cons (pv 7) pa_nil))) (pa_cons (pe_callB (call_max2 rfl) (by rfl) m_max (by decide +kernel) (pa_cons pe_int (pa_cons (pe_op op_sub (pv 7) pe_int) pa_nil))) pa_nil))))) (pv 4) (fun _ _ => rfl)))
    (pss_one (ps_if (PW.pt (pw_or (pt_cmpR op_gt (pv 5) pe_int (nomark _)) (pw_or1 (pt_cmpR op_gt (pe_own oLDraw (hr.mono (by decide)) (by rfl) (pa_cons (pv 0) (pa_cons pe_int pa_nil))) pe_int (nomark _))))) (pss_one (ps_expr (bmK K PySem.F.plainAttrs_list PySem.F.slot_list_append PySem.F.type_list_append mt_append (pv 6) (pa_cons (pe_callTy (tupleK K) (by rfl) m_tuple (by decide +kernel) (pa_cons (pe_callB (sortK K hr.units) (by rfl) m_sorted (by decide +kernel) (pa_cons (pe_lst (pa_cons (pe_ix (ixLK K) (pv 3) (pv 7) (fun _ _ => rfl)) (pa_cons (pe_ix (ixLK K) (pv 3) (pv 8) (fun _ _ => rfl)) pa_nil))) pa_nil)) pa_nil)) pa_nil)))) pss_nil))))
    (pss_one (ps_ret (pe_tup (pa_cons (pv 2) (pa_cons (pe_callTy (tupleK K) (by rfl) m_tuple (by decide +kernel) (pa_cons (pe_callB (sortK K hr.units) (by rfl) m_sorted (by decide +kernel) (pa_cons (pv 6) pa_nil)) pa_nil)) pa_nil)))))))))), ?_⟩
    -- n
    refine ⟨.ref d, rfl, .int (most : Int), rfl, (most : Int), 1, rfl, rfl, d, l, n, _, rfl, by omega, by omega, hD, by omega, fun H1 r r0 r1 f1 d1 => ?_⟩
    obtain ⟨m, rfl⟩ : ∃ m : Nat, r = (m : Int) := ⟨r.toNat, by omega⟩
    have hmm : m ≤ most := by omega
    -- names
    refine ⟨.ref d, rfl, .int (m : Int), rfl, (m : Int), rfl, RgOk.of_le (by omega) (by omega) (by omega) (by omega), fun z nz => ?_⟩
    rw [rgV_rng]
    have sz := same_upd (o := .lst ((rng m).map V.int)) nz
    refine ⟨d, l, z, _, rng m, rfl, d1.same sz, by omega, SqL.of upd_same, by rw [rng_length]; omega, fun H2 D nm pm f2 d2 nD eD => ?_⟩
    rw [rng_length] at d2
    have f12 : Fm d l H H2 := (f1.trans (Same.fm sz)).trans f2
    have offD := (d1.same sz).off nD
    -- way, rare
    refine ⟨.ref d, rfl, d, l, _, 4, rfl, by decide, by decide, d2, by omega, fun H3 w3 w0 w1 f3 d3 => ?_⟩
    refine ⟨.ref d, rfl, d, l, _, 3, rfl, by decide, by decide, d3, by omega, fun H4 t t0 t1 f4 d4 => ⟨.int w3, .int t, rfl, ?_⟩⟩
    have eD4 := f4 _ _ offD.1 offD.2 (f3 _ _ offD.1 offD.2 eD)
    have f14 := (f12.trans f3).trans f4
    -- edges = []
    refine ⟨Nat.zero_le _, fun E nE => ?_⟩
    have offE := d4.off nE
    have nDE : D ≠ E := ne_of_none eD4 nE
    have sE := same_upd (o := .lst []) nE
    refine ⟨.int (m : Int), rfl, 1, (m : Int), rfl, ⟨by omega, by omega, by omega, by omega⟩, for_range (lo := 1) (n := ((m : Int) - 1).toNat) (fun i σ H' => ∃ (y7 y8 : Option V) (ks : List (Nat × Nat)) (xs : List V),
      σ = [some (.ref d), some (.int (most : Int)), some (.int (m : Int)), some (.ref D), some (.int w3), some (.int t), some (.ref E), y7, y8] ∧ Fm d l H4 H' ∧ Deck H' d l (n + 16 + 2 * i) ∧
      H' D = some (.lst (nm.map V.int)) ∧ H' E = some (.lst xs) ∧ DpAll K H' xs ((ks.map (edgeOf nm)).map prD) ∧ ks.Pairwise (fun a b => a.1 < b.1) ∧ (∀ q ∈ ks, q.2 < q.1 ∧ q.1 < i + 1) ∧ ks.length ≤ i) ?_ ?_ ?_⟩
    · exact ⟨none, none, [], [], rfl, Same.fm sE, (d4.same sE).le (by omega), by rw [upd_ne nDE]; exact eD4, upd_same, .nil, .nil, (fun _ z => nomatch z), Nat.le_refl _⟩
    · rintro i σ H5 hi ⟨y7, y8, ks, xs, rfl, f5, d5, eD5, eE5, a5, up, down, cnt⟩
      have hi' : i + 1 < m := by omega
      -- other
      refine ⟨.int (1 + (i : Int)), rfl, _, _, rfl, rfl, .ref d, rfl, .int (1 + (i : Int)), rfl, d, l, _, _, rfl, by omega, by omega, d5, by omega, fun H6 x x0 x1 f6 d6 => ?_⟩
      refine ⟨.int (1 + (i : Int)), rfl, _, _, rfl, rfl, 0, _, rfl, by show 4 ≤ sizeLine; decide, fun p np => ?_⟩
      have sp6 := same_upd (o := .lst [.int (1 + (i : Int) - 1), .int 0, .int x, .int (if 1 + (i : Int) - 2 > 0 then 1 + (i : Int) - 2 else 0)]) np
      obtain ⟨o, ho, lo⟩ : ∃ o : Nat, atI [V.int (1 + (i : Int) - 1), V.int 0, V.int x, V.int (if 1 + (i : Int) - 2 > 0 then 1 + (i : Int) - 2 else 0)] w3 = some (V.int (o : Int)) ∧ o < i + 1 := by
        have h4 : w3 = 0 ∨ w3 = 1 ∨ w3 = 2 ∨ w3 = 3 := by omega
        rcases h4 with rfl | rfl | rfl | rfl
        · exact ⟨i, by show some (V.int (1 + (i : Int) - 1)) = _; congr 2; omega, by omega⟩
        · exact ⟨0, rfl, by omega⟩
        · exact ⟨x.toNat, by show some (V.int x) = _; congr 2; omega, by omega⟩
        · refine ⟨(1 + (i : Int) - 2).toNat, ?_, by omega⟩
          show some (V.int (if 1 + (i : Int) - 2 > 0 then 1 + (i : Int) - 2 else 0)) = _
          congr 2
          split <;> omega
      refine ⟨.int w3, rfl, p, _, _, _, rfl, rfl, SqL.of upd_same, ho, ?_⟩
      have eD6 := sp6 _ _ (f6 _ _ offD.1 offD.2 eD5)
      have eE6 := sp6 _ _ (f6 _ _ offE.1 offE.2 eE5)
      have d6' := d6.same sp6
      have f6' : Fm d l H4 _ := (f5.trans f6).trans (Same.fm sp6)
      have k6 : KT K H5 _ := (f6.kt d5).trans (Same.kt sp6)
      have a6 := DpAll.kt k6 a5 (only_prs _)
      generalize upd H6 p (.lst [.int (1 + (i : Int) - 1), .int 0, .int x, .int (if 1 + (i : Int) - 2 > 0 then 1 + (i : Int) - 2 else 0)]) = H7 at eD6 eE6 d6' f6' a6 ⊢
      -- if
      dsimp only [gName]
      refine ifJ (R := fun b H8 => Fm d l H7 H8 ∧ Deck H8 d l (n + 16 + 2 * (i + 1))) (fun R hR => ?_) (fun H8 hR => ?_) (fun H8 hR => ?_)
      · refine ⟨.int t, rfl, _, _, rfl, rfl, _, rfl, ite2 (fun _ => hR _ _ ⟨Fm.refl, d6'.le (by omega)⟩) (fun _ => ?_)⟩
        refine ⟨.ref d, rfl, d, l, _, 4, rfl, by decide, by decide, d6', by omega, fun H8 y y0 y1 f8 d8 => ⟨_, _, rfl, rfl, _, rfl, hR _ _ ⟨f8, d8.le (by omega)⟩⟩⟩
      · obtain ⟨f8, d8⟩ := hR
        have eD8 := f8 _ _ offD.1 offD.2 eD6
        have eE8 := f8 _ _ offE.1 offE.2 eE6
        have a8 := DpAll.kt (f8.kt d6') a6 (only_prs _)
        have lnm : nm.length = m := by rw [pm.length_eq, rng_length]
        have gk : (nm.map V.int)[i + 1]? = some (.int (nm.getD (i + 1) 0)) := by
          rw [List.getElem?_map, List.getD_eq_getElem?_getD, List.getElem?_eq_getElem (by omega)]
          rfl
        have go : (nm.map V.int)[o]? = some (.int (nm.getD o 0)) := by
          rw [List.getElem?_map, List.getD_eq_getElem?_getD, List.getElem?_eq_getElem (by omega)]
          rfl
        refine ⟨.ref E, rfl, .inl ⟨rfl, _, SqL.of eE8⟩, .ref D, rfl, .int (1 + (i : Int)), rfl, D, _, _, _, rfl, rfl, SqL.of eD8, at_of (j := i + 1) (by omega) gk,
          .ref D, rfl, .int (o : Int), rfl, D, _, _, _, rfl, rfl, SqL.of eD8, at_of (j := o) rfl go, by show 2 ≤ sizeLine; decide, fun p1 np1 => ?_⟩
        have s1 := same_upd (o := .lst [V.int (nm.getD (i + 1) 0), V.int (nm.getD o 0)]) np1
        refine sortInts (ns := [nm.getD (i + 1) 0, nm.getD o 0]) (SqL.of upd_same) fun p2 np2 => ?_
        rw [srt2]
        have s2 := same_upd (o := .lst ([(ordP (nm.getD (i + 1) 0) (nm.getD o 0)).1, (ordP (nm.getD (i + 1) 0) (nm.getD o 0)).2].map V.int)) np2
        refine ⟨p2, _, rfl, .inl ⟨SqL.of upd_same, fun p3 np3 => ?_⟩⟩
        have s3 := same_upd (o := .tup ([(ordP (nm.getD (i + 1) 0) (nm.getD o 0)).1, (ordP (nm.getD (i + 1) 0) (nm.getD o 0)).2].map V.int)) np3
        have s13 := (s1.trans s2).trans s3
        have eE9 := s13 _ _ eE8
        have eD9 := s13 _ _ eD8
        have a9 := DpAll.same s13 a8
        have d9 := d8.same s13
        have f9 := (f6'.trans f8).trans (Same.fm s13)
        have hp : SqT K _ p3 [.int (edgeOf nm (i + 1, o)).1, .int (edgeOf nm (i + 1, o)).2] := SqT.of (K := K) (same_at (o := .tup ([(ordP (nm.getD (i + 1) 0) (nm.getD o 0)).1, (ordP (nm.getD (i + 1) 0) (nm.getD o 0)).2].map V.int)) np3)
        generalize upd _ p3 (.tup ([(ordP (nm.getD (i + 1) 0) (nm.getD o 0)).1, (ordP (nm.getD (i + 1) 0) (nm.getD o 0)).2].map V.int)) = H9 at eE9 eD9 a9 d9 f9 hp ⊢
        have kt : KT K H9 (upd H9 E (.lst (xs ++ [.ref p3]))) := kt_lst eE9
        refine ⟨E, xs, .ref p3, rfl, rfl, eE9, ?_, _, _, ks ++ [(i + 1, o)], xs ++ [.ref p3], rfl, ?_, d9.put offE.1 offE.2, by rw [upd_ne nDE]; exact eD9, upd_same, ?_, ?_, ?_, ?_⟩
        · have := DpAll.length a9
          rw [List.length_map, List.length_map] at this
          exact small1000 (by omega)
        · exact f9.put nE
        · rw [List.map_append, List.map_append]
          exact DpAll.append (DpAll.kt kt a9 (only_prs _)) (.cons (Dp.kt kt (Dp.pr hp) (only_pr _)) .nil)
        · refine List.pairwise_append.mpr ⟨up, List.pairwise_singleton _ _, fun a ha b hb => ?_⟩
          obtain rfl := List.mem_singleton.mp hb
          have := (down a ha).2
          exact this
        · intro z hz
          rcases List.mem_append.mp hz with hz | hz
          · have := down z hz
            omega
          · obtain rfl := List.mem_singleton.mp hz
            exact ⟨lo, Nat.lt_succ_self _⟩
        · rw [List.length_append, List.length_singleton]
          omega
      · obtain ⟨f8, d8⟩ := hR
        exact ⟨_, _, ks, xs, rfl, f6'.trans f8, d8, f8 _ _ offD.1 offD.2 eD6, f8 _ _ offE.1 offE.2 eE6, DpAll.kt (f8.kt d6') a6 (only_prs _), up, fun z hz => by have := down z hz; omega, by omega⟩
    · rintro σ H5 ⟨y7, y8, ks, xs, rfl, f5, d5, eD5, eE5, a5, up, down, cnt⟩
      have g : Grow m nm ks := ⟨pm, up, fun z hz => by have := down z hz; omega⟩
      refine ⟨.int (m : Int), rfl, .ref E, rfl, sortPairs (SqL.of eE5) a5 fun p ys np dy => ?_⟩
      have s1 := same_upd (o := .lst ys) np
      refine ⟨p, ys, rfl, .inl ⟨SqL.of upd_same, fun t nt => ?_⟩⟩
      have s2 := same_upd (o := .tup ys) nt
      refine ⟨by show 2 ≤ sizeLine; decide, fun z nz => ?_⟩
      have s3 := same_upd (o := .tup [.int (m : Int), .ref t]) nz
      have s13 := (s1.trans s2).trans s3
      refine q _ _ m _ ((f14.trans f5).trans (Same.fm s13)) ((d5.same s13).le (by omega)) hmm g.isFor ?_
      exact .tup (SqT.of upd_same) (.cons (.int _) (.cons (Dp.same s3 (.tup (SqT.of upd_same) (DpAll.same (s1.trans s2) dy))) .nil))
end
end TL
namespace TL
open PySem PySem.Spec PyProof.Rows L2
section
variable {P : Program} {w : World} {K : PySem.W.Frag} {mg : Str → Option Value} {base : Heap}
/-! ### values of any kind: what isinstance says -/
def isN : V → Bool
  | .int _ => true
  | _ => false
/-- what isinstance says of it -/
def Kd (K : PySem.W.Frag) (H : Hp) (v : V) : Prop := ∃ (t : Value) (a b : Bool), TyX K H v t ∧ PySem.W.kitOne K t (.type "int") = some a ∧ PySem.W.kitOne K t (.type "bool") = some b ∧ (a && !b) = isN v
theorem Kd.int {H : Hp} (i : Int) : Kd K H (.int i) := ⟨_, true, false, .base (.int i), kit_ty (by decide +kernel), kit_ty (by decide +kernel), rfl⟩
theorem tyOf_same {H H' : Hp} (s : Same H H') {v : V} {t : Value} (h : TyOf K H v t) : TyOf K H' v t := by
  cases h with
  | non => exact .non
  | bl x => exact .bl x
  | int i => exact .int i
  | str x => exact .str x
  | flt x => exact .flt x
  | lst e => exact .lst (s _ _ e)
  | frz e => exact .frz (s _ _ e)
  | tup e => exact .tup (s _ _ e)
  | dK e => exact .dK (s _ _ e)
  | dT e => exact .dT (s _ _ e)
  | ins e c1 c2 c3 c4 c5 => exact .ins (s _ _ e) c1 c2 c3 c4 c5
theorem tyX_same {H H' : Hp} (s : Same H H') {v : V} {t : Value} (h : TyX K H v t) : TyX K H' v t := by
  cases h with
  | base b => exact .base (tyOf_same s b)
  | byt b => exact .byt b
  | set e => exact .set (s _ _ e)
  | kList e c => exact .kList e c
  | kTuple e c => exact .kTuple e c
  | kDict e c => exact .kDict e c
  | fTuple e => exact .fTuple (s _ _ e)
  | fDict e => exact .fDict (s _ _ e)
theorem Kd.same {H H' : Hp} {v : V} (s : Same H H') (h : Kd K H v) : Kd K H' v := by
  obtain ⟨t, a, b, ty, r⟩ := h
  exact ⟨t, a, b, tyX_same s ty, r⟩
/-- an error with one field that flies -/
def Fl (E : XK) (H : Hp) (C : Addr) (f : Str) (y : V) : Prop := ∀ (H' : Hp) (dd : Addr), Same H H' → H' dd = some (.xd [(f, y)]) → E (.ref C) (some dd) H'
def spIsNumber (K : PySem.W.Frag) : Sp := fun vs H Q _ => ∃ v : V, vs = [v] ∧ Kd K H v ∧ Q (.bl (isN v)) H
theorem ok_IsNumber {f : Addr} {fd : FuncData} {k : Nat} (F : Fun K "is_number" "is_number" sIsNumber f fd) (m_isinstance : mg "isinstance" = none) (m_int : mg "int" = none) (m_bool : mg "bool" = none) :
    FnOk P w K mg base CX0 (k + 1) f fd ["value"] (spIsNumber K) := by
  refine F.ok scIsNumber (fun vs H Q E h => ?_) (fun cdv A outer s H vs Q E hr h => ?_)
  · obtain ⟨v, rfl, _⟩ := h
    rfl
  · obtain ⟨v, rfl, ⟨t, a, b, ty, k1, k2, e⟩, q⟩ := h
    refine ⟨_, (pss_one (ps_ret (pe_and (pe_callB (isiK K) (by rfl) m_isinstance (by decide +kernel) (pa_cons (pv 0) (pa_cons (pe_bltn (v := .ty "int") (by rfl) m_int (by decide +kernel) rfl) pa_nil))) (pe_one (pe_not (pe_callB (isiK K) (by rfl) m_isinstance (by decide +kernel) (pa_cons (pv 0) (pa_cons (pe_bltn (v := .ty "bool") (by rfl) m_bool (by decide +kernel) rfl) pa_nil)))))))), ?_⟩
    refine ⟨v, rfl, _, _, _, _, a, rfl, .ty "int", ty, k1, a, rfl, ?_⟩
    rw [← e] at q
    cases a with
    | false => exact iteF q
    | true => exact iteT ⟨v, rfl, _, _, _, _, b, rfl, .ty "bool", ty, k2, b, rfl, q⟩
/-! ### values of any kind, bent: data with lists and dicts in it; b counts the bends -/
mutual
def ib : PyData → Bool
  | .int i => decide (i.natAbs ≤ 10 ^ 29)
  | .tuple xs => decide (xs.length ≤ 20) && ibAll xs
  | .none => true
  | .bool _ => true
  | .str _ => true
  | .list _ => false
  | .dict _ => false
def ibAll : List PyData → Bool
  | [] => true
  | d :: ds => ib d && ibAll ds
end
/-- dicts of odd values -/
inductive Od : HO → PyData → Prop
  | d0 : Od (.dK []) (.dict [])
  | d1 : Od (.dK [(.inr "a", .int 0)]) (.dict [(.str "a", .int 0)])
  | d2 : Od (.dK [(.inr "a", .int 1)]) (.dict [(.str "a", .int 1)])
/-- lists of odd values -/
inductive Ob : HO → PyData → Prop
  | l (ns : List Int) (h : ns.length ≤ 4) (b : ∀ n ∈ ns, n.natAbs ≤ 100) : Ob (.lst (ns.map V.int)) (.list (ns.map .int))
mutual
inductive Bv (K : PySem.W.Frag) (d l g : Addr) (b : Nat) (H : Hp) : V → PyData → Prop
  | non : Bv K d l g b H .non .none
  | bl (x : Bool) : Bv K d l g b H (.bl x) (.bool x)
  | int (i : Int) (h : i.natAbs ≤ 10 ^ 29 + 12 * b) : Bv K d l g b H (.int i) (.int i)
  | str (x : Str) : Bv K d l g b H (.str x) (.str x)
  | tup {a : Addr} {xs : List V} {ds : List PyData} (h : SqT K H a xs) (al : BvAll K d l g b H xs ds) (len : xs.length ≤ 20 + b) : Bv K d l g b H (.ref a) (.tuple ds)
  | lst {a : Addr} {xs : List V} {ds : List PyData} (np : a ≠ sysModules) (e : H a = some (.lst xs)) (h1 : a ≠ d) (h2 : a ≠ l ∧ a ≠ g) (al : BvAll K d l g b H xs ds) (len : xs.length ≤ 20 + b) : Bv K d l g b H (.ref a) (.list ds)
  | dct {a : Addr} {o : HO} {x : PyData} (e : H a = some o) (h : Od o x) (h1 : a ≠ d) (h2 : a ≠ l ∧ a ≠ g) : Bv K d l g b H (.ref a) x
inductive BvAll (K : PySem.W.Frag) (d l g : Addr) (b : Nat) (H : Hp) : List V → List PyData → Prop
  | nil : BvAll K d l g b H [] []
  | cons {v : V} {vs : List V} {x : PyData} {xs : List PyData} : Bv K d l g b H v x → BvAll K d l g b H vs xs → BvAll K d l g b H (v :: vs) (x :: xs)
end
section
variable {d l g : Addr} {b c : Nat} {H H' : Hp}
mutual
theorem Bv.le (h : b ≤ c) : ∀ {v : V} {x : PyData}, Bv K d l g b H v x → Bv K d l g c H v x
  | _, _, .non => .non
  | _, _, .bl x => .bl x
  | _, _, .int i hi => .int i (by omega)
  | _, _, .str x => .str x
  | _, _, .tup e al n => .tup e (BvAll.le h al) (by omega)
  | _, _, .lst np e h1 h2 al n => .lst np e h1 h2 (BvAll.le h al) (by omega)
  | _, _, .dct e o h1 h2 => .dct e o h1 h2
theorem BvAll.le (h : b ≤ c) : ∀ {vs : List V} {xs : List PyData}, BvAll K d l g b H vs xs → BvAll K d l g c H vs xs
  | _, _, .nil => .nil
  | _, _, .cons p q => .cons (Bv.le h p) (BvAll.le h q)
end
mutual
theorem Bv.same (s : Same H H') : ∀ {v : V} {x : PyData}, Bv K d l g b H v x → Bv K d l g b H' v x
  | _, _, .non => .non
  | _, _, .bl x => .bl x
  | _, _, .int i hi => .int i hi
  | _, _, .str x => .str x
  | _, _, .tup e al n => .tup (Same.tup s e) (BvAll.same s al) n
  | _, _, .lst np e h1 h2 al n => .lst np (s _ _ e) h1 h2 (BvAll.same s al) n
  | _, _, .dct e o h1 h2 => .dct (s _ _ e) o h1 h2
theorem BvAll.same (s : Same H H') : ∀ {vs : List V} {xs : List PyData}, BvAll K d l g b H vs xs → BvAll K d l g b H' vs xs
  | _, _, .nil => .nil
  | _, _, .cons p q => .cons (Bv.same s p) (BvAll.same s q)
end
mutual
theorem Bv.kf (k : KT K H H') (f : ∀ a o, a ≠ d → a ≠ l → H a = some o → H' a = some o) : ∀ {v : V} {x : PyData}, Bv K d l g b H v x → Bv K d l g b H' v x
  | _, _, .non => .non
  | _, _, .bl x => .bl x
  | _, _, .int i hi => .int i hi
  | _, _, .str x => .str x
  | _, _, .tup e al n => .tup (k _ _ e) (BvAll.kf k f al) n
  | _, _, .lst np e h1 h2 al n => .lst np (f _ _ h1 h2.1 e) h1 h2 (BvAll.kf k f al) n
  | _, _, .dct e o h1 h2 => .dct (f _ _ h1 h2.1 e) o h1 h2
theorem BvAll.kf (k : KT K H H') (f : ∀ a o, a ≠ d → a ≠ l → H a = some o → H' a = some o) : ∀ {vs : List V} {xs : List PyData}, BvAll K d l g b H vs xs → BvAll K d l g b H' vs xs
  | _, _, .nil => .nil
  | _, _, .cons p q => .cons (Bv.kf k f p) (BvAll.kf k f q)
end
theorem Bv.fm {n : Nat} (f : Fm d l H H') (D : Deck H d l n) {v : V} {x : PyData} (h : Bv K d l g b H v x) : Bv K d l g b H' v x := h.kf (f.kt D) fun a o h1 h2 => f a o h1 h2
theorem BvAll.fm {n : Nat} (f : Fm d l H H') (D : Deck H d l n) {vs : List V} {xs : List PyData} (h : BvAll K d l g b H vs xs) : BvAll K d l g b H' vs xs := h.kf (f.kt D) fun a o h1 h2 => f a o h1 h2
theorem dqInts {H : Hp} : ∀ ns : List Int, DqAll K H (ns.map V.int) (ns.map PyData.int)
  | [] => .nil
  | n :: ns => .cons (.int n) (dqInts ns)
theorem od_dq {a : Addr} {o : HO} {x : PyData} (e : H a = some o) (h : Od o x) : Dq K H (.ref a) x := by
  cases h with
  | d0 => exact .dct (ps := []) e rfl .nil
  | d1 => exact .dct (ps := [(.str "a", .int 0)]) e rfl (.cons (.int 0) .nil)
  | d2 => exact .dct (ps := [(.str "a", .int 1)]) e rfl (.cons (.int 1) .nil)
mutual
theorem Bv.dq : ∀ {v : V} {x : PyData}, Bv K d l g b H v x → Dq K H v x
  | _, _, .non => .non
  | _, _, .bl x => .bl x
  | _, _, .int i hi => .int i
  | _, _, .str x => .str x
  | _, _, .tup e al n => .tup e (BvAll.dq al)
  | _, _, .lst np e h1 h2 al n => .lst np e (BvAll.dq al)
  | _, _, .dct e o h1 h2 => od_dq e o
theorem BvAll.dq : ∀ {vs : List V} {xs : List PyData}, BvAll K d l g b H vs xs → DqAll K H vs xs
  | _, _, .nil => .nil
  | _, _, .cons p q => .cons (Bv.dq p) (BvAll.dq q)
end
theorem Bv.kd {v : V} {x : PyData} (h : Bv K d l g b H v x) : Kd K H v := by
  cases h with
  | non => exact ⟨_, false, false, .base .non, kit_ty (by decide +kernel), kit_ty (by decide +kernel), rfl⟩
  | bl b => exact ⟨_, true, true, .base (.bl b), kit_ty (by decide +kernel), kit_ty (by decide +kernel), rfl⟩
  | int i => exact Kd.int _
  | str x => exact ⟨_, false, false, .base (.str _), kit_ty (by decide +kernel), kit_ty (by decide +kernel), rfl⟩
  | tup h a => exact ⟨_, false, false, ty_tup h, kit_ty (by decide +kernel), kit_ty (by decide +kernel), rfl⟩
  | lst np e => exact ⟨_, false, false, .base (.lst e), kit_ty (by decide +kernel), kit_ty (by decide +kernel), rfl⟩
  | dct e o =>
    cases o with
    | d0 => exact ⟨_, false, false, .base (.dK e), kit_ty (by decide +kernel), kit_ty (by decide +kernel), rfl⟩
    | d1 => exact ⟨_, false, false, .base (.dK e), kit_ty (by decide +kernel), kit_ty (by decide +kernel), rfl⟩
    | d2 => exact ⟨_, false, false, .base (.dK e), kit_ty (by decide +kernel), kit_ty (by decide +kernel), rfl⟩
theorem BvAll.kd : ∀ {vs : List V} {xs : List PyData}, BvAll K d l g b H vs xs → ∀ v ∈ vs, Kd K H v
  | _, _, .nil, v, hv => nomatch hv
  | _, _, .cons p q, v, hv => by
    rcases List.mem_cons.mp hv with rfl | hv
    · exact p.kd
    · exact BvAll.kd q v hv
/-- a tuple, or what isinstance says no of -/
theorem Bv.tq {v : V} {x : PyData} (h : Bv K d l g b H v x) : (∃ a xs ds, v = .ref a ∧ x = .tuple ds ∧ SqT K H a xs ∧ BvAll K d l g b H xs ds ∧ xs.length ≤ 20 + b) ∨ ∃ t, TyX K H v t ∧ PySem.W.kitOne K t (.type "tuple") = some false ∧ ∀ ds, x ≠ .tuple ds := by
  cases h with
  | non => exact .inr ⟨_, .base .non, kit_ty (by decide +kernel), fun _ z => nomatch z⟩
  | bl b => exact .inr ⟨_, .base (.bl b), kit_ty (by decide +kernel), fun _ z => nomatch z⟩
  | int i => exact .inr ⟨_, .base (.int _), kit_ty (by decide +kernel), fun _ z => nomatch z⟩
  | str x => exact .inr ⟨_, .base (.str _), kit_ty (by decide +kernel), fun _ z => nomatch z⟩
  | tup h a n => exact .inl ⟨_, _, _, rfl, rfl, h, a, n⟩
  | lst np e => exact .inr ⟨_, .base (.lst e), kit_ty (by decide +kernel), fun _ z => nomatch z⟩
  | dct e o =>
    cases o with
    | d0 => exact .inr ⟨_, .base (.dK e), kit_ty (by decide +kernel), fun _ z => nomatch z⟩
    | d1 => exact .inr ⟨_, .base (.dK e), kit_ty (by decide +kernel), fun _ z => nomatch z⟩
    | d2 => exact .inr ⟨_, .base (.dK e), kit_ty (by decide +kernel), fun _ z => nomatch z⟩
theorem BvAll.length : ∀ {vs : List V} {xs : List PyData}, BvAll K d l g b H vs xs → vs.length = xs.length
  | _, _, .nil => rfl
  | _, _, .cons _ q => congrArg (· + 1) q.length
theorem BvAll.get : ∀ {vs : List V} {xs : List PyData} {i : Nat} {v : V}, BvAll K d l g b H vs xs → vs[i]? = some v → ∃ x, xs[i]? = some x ∧ Bv K d l g b H v x
  | _, _, _, _, .nil, h => by simp at h
  | _, _, 0, _, .cons p _, h => by cases h; exact ⟨_, rfl, p⟩
  | _, _, i + 1, _, .cons _ q, h => by
    obtain ⟨x, hx, k⟩ := BvAll.get (i := i) q (by simpa using h)
    exact ⟨x, by simpa using hx, k⟩
theorem BvAll.append : ∀ {vs us : List V} {xs ys : List PyData}, BvAll K d l g b H vs xs → BvAll K d l g b H us ys → BvAll K d l g b H (vs ++ us) (xs ++ ys)
  | _, _, _, _, .nil, h => h
  | _, _, _, _, .cons p q, h => .cons p (BvAll.append q h)
theorem BvAll.take : ∀ (n : Nat) {vs : List V} {xs : List PyData}, BvAll K d l g b H vs xs → BvAll K d l g b H (vs.take n) (xs.take n)
  | 0, _, _, _ => .nil
  | _ + 1, _, _, .nil => .nil
  | n + 1, _, _, .cons p q => .cons p (BvAll.take n q)
theorem BvAll.drop : ∀ (n : Nat) {vs : List V} {xs : List PyData}, BvAll K d l g b H vs xs → BvAll K d l g b H (vs.drop n) (xs.drop n)
  | 0, _, _, h => h
  | _ + 1, _, _, .nil => .nil
  | n + 1, _, _, .cons p q => BvAll.drop n q
theorem BvAll.rev : ∀ {vs : List V} {xs : List PyData}, BvAll K d l g b H vs xs → BvAll K d l g b H vs.reverse xs.reverse
  | _, _, .nil => .nil
  | _, _, .cons p q => by
    rw [List.reverse_cons, List.reverse_cons]
    exact BvAll.append (BvAll.rev q) (.cons p .nil)
mutual
theorem Bv.ofDp : ∀ {v : V} {x : PyData}, Dp K H v x → ib x = true → Bv K d l g 0 H v x
  | _, _, .non, _ => .non
  | _, _, .bl b, _ => .bl b
  | _, _, .int i, h => .int i (by
    simp only [ib] at h
    have := of_decide_eq_true h
    omega)
  | _, _, .str x, _ => .str x
  | _, _, .lst _ _, h => by simp [ib] at h
  | _, _, .tup e al, h => by
    simp only [ib, Bool.and_eq_true] at h
    have n := of_decide_eq_true h.1
    exact .tup e (BvAll.ofDp al h.2) (by rw [DpAll.length al]; omega)
theorem BvAll.ofDp : ∀ {vs : List V} {xs : List PyData}, DpAll K H vs xs → ibAll xs = true → BvAll K d l g 0 H vs xs
  | _, _, .nil, _ => .nil
  | _, _, .cons p q, h => by
    simp only [ibAll, Bool.and_eq_true] at h
    exact .cons (Bv.ofDp p h.1) (BvAll.ofDp q h.2)
end
theorem bvInts : ∀ ns : List Int, (∀ n ∈ ns, n.natAbs ≤ 100) → BvAll K d l g b H (ns.map V.int) (ns.map PyData.int)
  | [], _ => .nil
  | n :: ns, h => .cons (.int n (by have := h n List.mem_cons_self; omega)) (bvInts ns fun m hm => h m (List.mem_cons_of_mem _ hm))
end
/-- odd values -/
inductive Ov (K : PySem.W.Frag) (d l : Addr) (H : Hp) : V → PyData → Prop
  | dat {v : V} {x : PyData} (h : Dp K H v x) (o : only x = true) (sh : Sw x 300 3) (i : ib x = true := by decide +kernel) : Ov K d l H v x
  | obj {a : Addr} {o : HO} {x : PyData} (e : H a = some o) (h : Ob o x) (h1 : a ≠ d) (h2 : a ≠ l) (np : a ≠ sysModules) : Ov K d l H (.ref a) x
  | obd {a : Addr} {o : HO} {x : PyData} (e : H a = some o) (h : Od o x) (h1 : a ≠ d) (h2 : a ≠ l) : Ov K d l H (.ref a) x
theorem Ov.fm {d l : Addr} {n : Nat} {H H' : Hp} (f : Fm d l H H') (D : Deck H d l n) {v : V} {x : PyData} (h : Ov K d l H v x) : Ov K d l H' v x := by
  cases h with
  | dat h o sh i => exact .dat (Dp.kt (f.kt D) h o) o sh i
  | obj e h h1 h2 np => exact .obj (f _ _ h1 h2 e) h h1 h2 np
  | obd e h h1 h2 => exact .obd (f _ _ h1 h2 e) h h1 h2
theorem Ov.same {d l : Addr} {H H' : Hp} (s : Same H H') {v : V} {x : PyData} (h : Ov K d l H v x) : Ov K d l H' v x := by
  cases h with
  | dat h o sh i => exact .dat (Dp.same s h) o sh i
  | obj e h h1 h2 np => exact .obj (s _ _ e) h h1 h2 np
  | obd e h h1 h2 => exact .obd (s _ _ e) h h1 h2
theorem Ov.bv {d l g : Addr} {H : Hp} {v : V} {x : PyData} (h : Ov K d l H v x) (fr : ∀ a, v = .ref a → a ≠ g) : Bv K d l g 0 H v x ∧ Sw x 300 3 := by
  cases h with
  | dat h o sh i => exact ⟨.ofDp h i, sh⟩
  | obj e h h1 h2 np =>
    cases h with
    | l ns hl hb =>
      refine ⟨.lst np e h1 ⟨h2, fr _ rfl⟩ (bvInts ns hb) (by rw [List.length_map]; omega), ?_⟩
      exact (Sw.lst (n := 10) (k := 0) (m := 4) (fun z hz => by
        obtain ⟨i, hi, rfl⟩ := List.mem_map.mp hz
        have := hb i hi
        exact (Sm.int (by unfold sm; omega)).sw) (by rw [List.length_map]; exact hl)).le (by decide) (by decide)
  | obd e h h1 h2 => exact ⟨.dct e h h1 ⟨h2, fr _ rfl⟩, by cases h <;> exact ⟨by decide +kernel, by decide +kernel, by decide +kernel, by decide +kernel⟩⟩
/-! ### how large such data are -/
structure SwB (ds : List PyData) (n k : Nat) : Prop where
  all : ∀ d ∈ ds, d.showable = true ∧ d.depth ≤ k ∧ d.leavesShort 40 = true
  light : PyData.weightAll ds ≤ n
theorem wt_app : ∀ ds es : List PyData, PyData.weightAll (ds ++ es) = PyData.weightAll ds + PyData.weightAll es
  | [], es => by simp [PyData.weightAll]
  | d :: ds, es => by
    have := wt_app ds es
    simp only [List.cons_append, PyData.weightAll]
    omega
theorem wt_rev : ∀ ds : List PyData, PyData.weightAll ds.reverse = PyData.weightAll ds
  | [] => rfl
  | d :: ds => by
    have := wt_rev ds
    rw [List.reverse_cons, wt_app]
    simp only [PyData.weightAll]
    omega
theorem wt_cut (n : Nat) (ds : List PyData) : PyData.weightAll (ds.take n) + PyData.weightAll (ds.drop n) = PyData.weightAll ds := by
  rw [← wt_app, List.take_append_drop]
theorem SwB.of_all {n k : Nat} : ∀ {ds : List PyData}, SwB ds n k → PyData.showableAll ds = true ∧ PyData.depthAll ds ≤ k ∧ PyData.leavesShortAll 40 ds = true
  | [], _ => ⟨rfl, by simp [PyData.depthAll], rfl⟩
  | d :: ds, h => by
    obtain ⟨a, b, c⟩ := h.all d List.mem_cons_self
    obtain ⟨a2, b2, c2⟩ := SwB.of_all (n := PyData.weightAll ds) (k := k) (ds := ds) ⟨fun e he => h.all e (List.mem_cons_of_mem _ he), Nat.le_refl _⟩
    refine ⟨?_, ?_, ?_⟩
    · simp only [PyData.showableAll, a, a2, Bool.and_self]
    · simp only [PyData.depthAll]
      exact Nat.max_le.mpr ⟨b, b2⟩
    · simp only [PyData.leavesShortAll, c, c2, Bool.and_self]
theorem SwB.tup {ds : List PyData} {n k : Nat} (h : SwB ds n k) : Sw (.tuple ds) n (k + 1) := by
  obtain ⟨a, b, c⟩ := h.of_all
  refine ⟨?_, ?_, ?_, ?_⟩
  · simp only [PyData.showable]; exact a
  · simp only [PyData.depth]; omega
  · simp only [PyData.leavesShort]; exact c
  · simp only [PyData.weight]; exact h.light
theorem SwB.lst {ds : List PyData} {n k : Nat} (h : SwB ds n k) : Sw (.list ds) n (k + 1) := by
  obtain ⟨a, b, c⟩ := h.of_all
  refine ⟨?_, ?_, ?_, ?_⟩
  · simp only [PyData.showable]; exact a
  · simp only [PyData.depth]; omega
  · simp only [PyData.leavesShort]; exact c
  · simp only [PyData.weight]; exact h.light
theorem allB {k : Nat} : ∀ {ds : List PyData}, PyData.showableAll ds = true → PyData.depthAll ds ≤ k → PyData.leavesShortAll 40 ds = true → ∀ d ∈ ds, d.showable = true ∧ d.depth ≤ k ∧ d.leavesShort 40 = true
  | [], _, _, _, d, hd => nomatch hd
  | e :: ds, a, b, c, d, hd => by
    simp only [PyData.showableAll, Bool.and_eq_true] at a
    simp only [PyData.depthAll] at b
    simp only [PyData.leavesShortAll, Bool.and_eq_true] at c
    have b := Nat.max_le.mp b
    rcases List.mem_cons.mp hd with rfl | hd
    · exact ⟨a.1, b.1, c.1⟩
    · exact allB a.2 b.2 c.2 d hd
theorem Sw.parts {ds : List PyData} {n k : Nat} (h : Sw (.tuple ds) n k) : SwB ds n k := by
  obtain ⟨a, b, c, w⟩ := h
  simp only [PyData.showable] at a
  simp only [PyData.depth] at b
  simp only [PyData.leavesShort] at c
  simp only [PyData.weight] at w
  exact ⟨allB a (by omega) c, w⟩
theorem SwB.le {ds : List PyData} {n k m j : Nat} (h : SwB ds n k) (hn : n ≤ m) (hk : k ≤ j) : SwB ds m j := ⟨fun d hd => by
  obtain ⟨a, b, c⟩ := h.all d hd
  exact ⟨a, by omega, c⟩, Nat.le_trans h.light hn⟩
theorem SwB.app {ds es : List PyData} {n m k : Nat} (h : SwB ds n k) (g : SwB es m k) : SwB (ds ++ es) (n + m) k := ⟨fun d hd => by
  rcases List.mem_append.mp hd with hd | hd
  · exact h.all d hd
  · exact g.all d hd, by
  have := h.light
  have := g.light
  rw [wt_app]
  omega⟩
theorem SwB.cut {ds : List PyData} {n k : Nat} (i j : Nat) (h : SwB ds n k) : SwB ((ds.drop i).take j) n k := ⟨fun d hd => h.all d (List.mem_of_mem_drop (List.mem_of_mem_take hd)), by
  have := h.light
  have := wt_cut i ds
  have := wt_cut j (ds.drop i)
  omega⟩
theorem SwB.rev {ds : List PyData} {n k : Nat} (h : SwB ds n k) : SwB ds.reverse n k := ⟨fun d hd => h.all d (List.mem_reverse.mp hd), by rw [wt_rev]; exact h.light⟩
theorem SwB.one {d : PyData} {n k : Nat} (h : Sw d n k) : SwB [d] (n + 1) k := ⟨fun e he => by
  rw [List.mem_singleton.mp he]
  exact ⟨h.can, h.deep, h.short⟩, by
  have := h.light
  simp only [PyData.weightAll]
  omega⟩
theorem SwB.get {ds : List PyData} {n k i : Nat} {d : PyData} (h : SwB ds n k) (e : ds[i]? = some d) : Sw d n k := by
  obtain ⟨a, b, c⟩ := h.all d (List.mem_of_getElem? e)
  refine ⟨a, b, c, ?_⟩
  have := h.light
  have w := wt_cut i ds
  obtain ⟨hi, ez⟩ := List.getElem?_eq_some_iff.mp e
  rw [List.drop_eq_getElem_cons hi, ez] at w
  simp only [PyData.weightAll] at w
  omega
theorem sw_intB {i : Int} (h : i.natAbs ≤ 10 ^ 29 + 1000) : Sw (.int i) 200 0 := by
  have h2 : i.natAbs < 10 ^ 30 := Nat.lt_of_le_of_lt h (by decide)
  have e := PySem.int_text_length_le10 (k := 30) (by decide) h2
  have lg : i.natAbs.log2 < 110 := PySem.Flt.log2_lt_of (by decide) (Nat.lt_of_lt_of_le h2 (by decide))
  refine ⟨?_, by simp [PyData.depth], ?_, ?_⟩
  · simp only [PyData.showable]
    exact decide_eq_true (by omega)
  · simp only [PyData.leavesShort]
    refine decide_eq_true ?_
    show (Str.ofString (toString i)).length ≤ 40
    rw [PySem.ofString_length]
    exact Nat.le_trans e (by decide)
  · simp only [PyData.weight]
    split <;> omega
theorem Same.put {H H' : Hp} {a : Addr} {o : HO} (s : Same H H') (n : H a = none) : Same H (upd H' a o) := fun b u e => by
  rw [upd_ne (ne_of_none e n)]
  exact s b u e
theorem Same.none {H H' : Hp} {a : Addr} (s : Same H H') (n : H' a = none) : H a = none := by
  cases e : H a with
  | none => rfl
  | some o => rw [s _ _ e] at n; cases n
def spLOdd (K : PySem.W.Frag) : Sp := fun vs H Q _ => ∃ (d l : Addr) (n : Nat), vs = [.ref d] ∧ Deck H d l n ∧ n < 900000 ∧
  ∀ H' v x, Fm d l H H' → Deck H' d l (n + 1) → Ov K d l H' v x → (∀ a, v = .ref a → H a = none) → Q v H'
theorem ok_LOdd {f : Addr} {fd : FuncData} (F : Fun K "_law_odd" "_law_odd" sLOdd f fd) (oLDraw : Own P w K mg base "_law_draw" 1 ["_law_deck_here", "_law_limit"] spLDraw) :
    FnOk P w K mg base CX0 2 f fd ["_law_deck_here"] (spLOdd K) := by
  refine F.ok scLOdd (fun vs H Q E h => ?_) (fun cdv A outer s H vs Q E hr h => ?_)
  · obtain ⟨d, l, n, rfl, _⟩ := h
    rfl
  · obtain ⟨d, l, n, rfl, hD, hn, q⟩ := h
    refine ⟨_, (pss_cons (ps_set (i := 1) scLOdd.nd rfl (.inl rfl) (pe_lst (pa_cons pe_non (pa_cons pe_bl (pa_cons pe_bl (pa_cons (pe_un un_neg pe_int) (pa_cons pe_int (pa_cons pe_int (pa_cons pe_int (pa_cons pe_int (pa_cons (pe_op op_pow pe_int pe_int) (pa_cons pe_str (pa_cons pe_str (pa_cons (pe_tup pa_nil) (pa_cons (pe_tup (pa_cons pe_int pa_nil)) (pa_cons (pe_lstS pa_nil) (pa_cons (pe_lstS (pa_cons pe_int (pa_cons pe_int pa_nil))) (pa_cons pe_dnewK (pa_cons (pe_disp (pps_cons pe_str pe_int pps_nil) (by rfl) (by rfl) (fun z => by cases z) (by decide)) pa_nil)))))))))))))))))))
    (pss_cons (ps_set (i := 1) scLOdd.nd rfl (.inl rfl) (pe_op op_cat (pv 1) (pe_lst (pa_cons (pe_tup (pa_cons pe_int (pa_cons pe_bl pa_nil))) (pa_cons (pe_tup (pa_cons pe_bl (pa_cons pe_int pa_nil))) (pa_cons (pe_tup (pa_cons pe_int (pa_cons pe_int pa_nil))) (pa_cons (pe_tup (pa_cons pe_int (pa_cons pe_int pa_nil))) (pa_cons (pe_tup (pa_cons pe_int (pa_cons pe_int (pa_cons pe_int pa_nil)))) (pa_cons (pe_tup (pa_cons (pe_tup (pa_cons pe_int (pa_cons pe_int pa_nil))) pa_nil)) (pa_cons (pe_tup (pa_cons pe_non (pa_cons pe_int pa_nil))) (pa_cons (pe_tup (pa_cons pe_str (pa_cons pe_str pa_nil))) (pa_cons (pe_tup (pa_cons pe_int (pa_cons pe_int pa_nil))) pa_nil))))))))))))
    (pss_one (ps_ret (pe_ix (ixLK K) (pv 1) (pe_own oLDraw (hr.mono (by decide)) (by rfl) (pa_cons (pv 0) (pa_cons pe_int pa_nil))) (fun _ _ => rfl)))))), ?_⟩
    refine ⟨_, rfl, ?_⟩
    refine ⟨10, 29, rfl, rfl, ⟨by decide, by decide, by decide⟩, ?_⟩
    refine ⟨Nat.zero_le _, fun a1 n1 => ?_⟩
    have s1 := same_upd (o := .tup []) n1
    have e1 := same_at (o := .tup []) n1
    have o1 := hD.off n1
    have D1 := hD.same s1
    generalize upd H a1 (.tup []) = J1 at s1 e1 D1 ⊢
    refine ⟨by show 1 ≤ sizeLine; decide, fun a2 n2 => ?_⟩
    have s2 := same_upd (o := .tup [V.int 0]) n2
    have e2 := same_at (o := .tup [V.int 0]) n2
    have o2 := D1.off n2
    have D2 := D1.same s2
    generalize upd J1 a2 (.tup [V.int 0]) = J2 at s2 e2 D2 ⊢
    refine ⟨Nat.zero_le _, fun a3 n3 p3 => ?_⟩
    have s3 := same_upd (o := .lst []) n3
    have e3 := same_at (o := .lst []) n3
    have o3 := D2.off n3
    have D3 := D2.same s3
    generalize upd J2 a3 (.lst []) = J3 at s3 e3 D3 ⊢
    refine ⟨by show 2 ≤ sizeLine; decide, fun a4 n4 p4 => ?_⟩
    have s4 := same_upd (o := .lst [V.int 0, V.int 1]) n4
    have e4 := same_at (o := .lst [V.int 0, V.int 1]) n4
    have o4 := D3.off n4
    have D4 := D3.same s4
    generalize upd J3 a4 (.lst [V.int 0, V.int 1]) = J4 at s4 e4 D4 ⊢
    intro a5 n5
    have s5 := same_upd (o := .dK []) n5
    have e5 := same_at (o := .dK []) n5
    have o5 := D4.off n5
    have D5 := D4.same s5
    generalize upd J4 a5 (.dK []) = J5 at s5 e5 D5 ⊢
    intro a6 n6
    have s6 : Same J5 (upd (upd J5 a6 (.dK [])) a6 (.dK [(.inr "a", V.int 1)])) := Same.put (same_upd n6) n6
    refine ⟨upd_same, [(.inr "a", V.int 1)], rfl, by show 1 ≤ 15; decide, ?_⟩
    show tNil _ (upd (upd J5 a6 (.dK [])) a6 (.dK [(.inr "a", V.int 1)])) _
    have e6 : upd (upd J5 a6 (.dK [])) a6 (.dK [(.inr "a", V.int 1)]) a6 = some (.dK [(.inr "a", V.int 1)]) := upd_same
    have o6 := D5.off n6
    have D6 := D5.same s6
    generalize upd (upd J5 a6 (.dK [])) a6 (.dK [(.inr "a", V.int 1)]) = J6 at s6 e6 D6 ⊢
    refine ⟨by show 17 ≤ sizeLine; decide, fun a7 n7 => ?_⟩
    have s7 := same_upd (o := .lst [V.non, V.bl true, V.bl false, V.int (-1), V.int 0, V.int 1, V.int 12, V.int 13, V.int ((10 : Int) ^ (29 : Int).toNat), V.str "", V.str "0-1", V.ref a1, V.ref a2, V.ref a3, V.ref a4, V.ref a5, V.ref a6]) n7
    have e7 := same_at (o := .lst [V.non, V.bl true, V.bl false, V.int (-1), V.int 0, V.int 1, V.int 12, V.int 13, V.int ((10 : Int) ^ (29 : Int).toNat), V.str "", V.str "0-1", V.ref a1, V.ref a2, V.ref a3, V.ref a4, V.ref a5, V.ref a6]) n7
    have o7 := D6.off n7
    have D7 := D6.same s7
    generalize upd J6 a7 (.lst [V.non, V.bl true, V.bl false, V.int (-1), V.int 0, V.int 1, V.int 12, V.int 13, V.int ((10 : Int) ^ (29 : Int).toNat), V.str "", V.str "0-1", V.ref a1, V.ref a2, V.ref a3, V.ref a4, V.ref a5, V.ref a6]) = J7 at s7 e7 D7 ⊢
    refine ⟨.ref a7, rfl, ?_⟩
    refine ⟨by show 2 ≤ sizeLine; decide, fun a8 n8 => ?_⟩
    have s8 := same_upd (o := .tup [V.int 0, V.bl true]) n8
    have e8 := same_at (o := .tup [V.int 0, V.bl true]) n8
    have o8 := D7.off n8
    have D8 := D7.same s8
    generalize upd J7 a8 (.tup [V.int 0, V.bl true]) = J8 at s8 e8 D8 ⊢
    refine ⟨by show 2 ≤ sizeLine; decide, fun a9 n9 => ?_⟩
    have s9 := same_upd (o := .tup [V.bl false, V.int 1]) n9
    have e9 := same_at (o := .tup [V.bl false, V.int 1]) n9
    have o9 := D8.off n9
    have D9 := D8.same s9
    generalize upd J8 a9 (.tup [V.bl false, V.int 1]) = J9 at s9 e9 D9 ⊢
    refine ⟨by show 2 ≤ sizeLine; decide, fun a10 n10 => ?_⟩
    have s10 := same_upd (o := .tup [V.int 1, V.int 0]) n10
    have e10 := same_at (o := .tup [V.int 1, V.int 0]) n10
    have o10 := D9.off n10
    have D10 := D9.same s10
    generalize upd J9 a10 (.tup [V.int 1, V.int 0]) = J10 at s10 e10 D10 ⊢
    refine ⟨by show 2 ≤ sizeLine; decide, fun a11 n11 => ?_⟩
    have s11 := same_upd (o := .tup [V.int 0, V.int 0]) n11
    have e11 := same_at (o := .tup [V.int 0, V.int 0]) n11
    have o11 := D10.off n11
    have D11 := D10.same s11
    generalize upd J10 a11 (.tup [V.int 0, V.int 0]) = J11 at s11 e11 D11 ⊢
    refine ⟨by show 3 ≤ sizeLine; decide, fun a12 n12 => ?_⟩
    have s12 := same_upd (o := .tup [V.int 0, V.int 1, V.int 2]) n12
    have e12 := same_at (o := .tup [V.int 0, V.int 1, V.int 2]) n12
    have o12 := D11.off n12
    have D12 := D11.same s12
    generalize upd J11 a12 (.tup [V.int 0, V.int 1, V.int 2]) = J12 at s12 e12 D12 ⊢
    refine ⟨by show 2 ≤ sizeLine; decide, fun a13 n13 => ?_⟩
    have s13 := same_upd (o := .tup [V.int 0, V.int 1]) n13
    have e13 := same_at (o := .tup [V.int 0, V.int 1]) n13
    have o13 := D12.off n13
    have D13 := D12.same s13
    generalize upd J12 a13 (.tup [V.int 0, V.int 1]) = J13 at s13 e13 D13 ⊢
    refine ⟨by show 1 ≤ sizeLine; decide, fun a14 n14 => ?_⟩
    have s14 := same_upd (o := .tup [V.ref a13]) n14
    have e14 := same_at (o := .tup [V.ref a13]) n14
    have o14 := D13.off n14
    have D14 := D13.same s14
    generalize upd J13 a14 (.tup [V.ref a13]) = J14 at s14 e14 D14 ⊢
    refine ⟨by show 2 ≤ sizeLine; decide, fun a15 n15 => ?_⟩
    have s15 := same_upd (o := .tup [V.non, V.int 1]) n15
    have e15 := same_at (o := .tup [V.non, V.int 1]) n15
    have o15 := D14.off n15
    have D15 := D14.same s15
    generalize upd J14 a15 (.tup [V.non, V.int 1]) = J15 at s15 e15 D15 ⊢
    refine ⟨by show 2 ≤ sizeLine; decide, fun a16 n16 => ?_⟩
    have s16 := same_upd (o := .tup [V.str "0", V.str "1"]) n16
    have e16 := same_at (o := .tup [V.str "0", V.str "1"]) n16
    have o16 := D15.off n16
    have D16 := D15.same s16
    generalize upd J15 a16 (.tup [V.str "0", V.str "1"]) = J16 at s16 e16 D16 ⊢
    refine ⟨by show 2 ≤ sizeLine; decide, fun a17 n17 => ?_⟩
    have s17 := same_upd (o := .tup [V.int 0, V.int 12]) n17
    have e17 := same_at (o := .tup [V.int 0, V.int 12]) n17
    have o17 := D16.off n17
    have D17 := D16.same s17
    generalize upd J16 a17 (.tup [V.int 0, V.int 12]) = J17 at s17 e17 D17 ⊢
    refine ⟨by show 9 ≤ sizeLine; decide, fun a18 n18 => ?_⟩
    have s18 := same_upd (o := .lst [V.ref a8, V.ref a9, V.ref a10, V.ref a11, V.ref a12, V.ref a14, V.ref a15, V.ref a16, V.ref a17]) n18
    have e18 := same_at (o := .lst [V.ref a8, V.ref a9, V.ref a10, V.ref a11, V.ref a12, V.ref a14, V.ref a15, V.ref a16, V.ref a17]) n18
    have o18 := D17.off n18
    have D18 := D17.same s18
    generalize upd J17 a18 (.lst [V.ref a8, V.ref a9, V.ref a10, V.ref a11, V.ref a12, V.ref a14, V.ref a15, V.ref a16, V.ref a17]) = J18 at s18 e18 D18 ⊢
    refine ⟨a7, a18, _, _, rfl, rfl, (((((((((((s8.trans s9).trans s10).trans s11).trans s12).trans s13).trans s14).trans s15).trans s16).trans s17).trans s18) _ _ e7), e18, by show 17 + 9 ≤ sizeLine; decide, fun L nL => ?_⟩
    have sL := same_upd (o := .lst ([V.non, V.bl true, V.bl false, V.int (-1), V.int 0, V.int 1, V.int 12, V.int 13, V.int ((10 : Int) ^ (29 : Int).toNat), V.str "", V.str "0-1", V.ref a1, V.ref a2, V.ref a3, V.ref a4, V.ref a5, V.ref a6] ++ [V.ref a8, V.ref a9, V.ref a10, V.ref a11, V.ref a12, V.ref a14, V.ref a15, V.ref a16, V.ref a17])) nL
    have eL := same_at (o := .lst ([V.non, V.bl true, V.bl false, V.int (-1), V.int 0, V.int 1, V.int 12, V.int 13, V.int ((10 : Int) ^ (29 : Int).toNat), V.str "", V.str "0-1", V.ref a1, V.ref a2, V.ref a3, V.ref a4, V.ref a5, V.ref a6] ++ [V.ref a8, V.ref a9, V.ref a10, V.ref a11, V.ref a12, V.ref a14, V.ref a15, V.ref a16, V.ref a17])) nL
    have oL := D18.off nL
    have all : ∀ v ∈ ([V.non, V.bl true, V.bl false, V.int (-1), V.int 0, V.int 1, V.int 12, V.int 13, V.int ((10 : Int) ^ (29 : Int).toNat), V.str "", V.str "0-1", V.ref a1, V.ref a2, V.ref a3, V.ref a4, V.ref a5, V.ref a6] ++ [V.ref a8, V.ref a9, V.ref a10, V.ref a11, V.ref a12, V.ref a14, V.ref a15, V.ref a16, V.ref a17]), ∃ x, Ov K d l J18 v x ∧ ∀ a, v = .ref a → H a = none := by
      intro v hv
      rcases List.mem_append.mp hv with hv | hv
      · rcases List.mem_cons.mp hv with rfl | hv
        · exact ⟨_, .dat .non (by decide) (Sm.none.sw.le (by decide) (by decide)), (fun a z => nomatch z)⟩
        rcases List.mem_cons.mp hv with rfl | hv
        · exact ⟨_, .dat (.bl _) (by decide) ((Sm.bool _).sw.le (by decide) (by decide)), (fun a z => nomatch z)⟩
        rcases List.mem_cons.mp hv with rfl | hv
        · exact ⟨_, .dat (.bl _) (by decide) ((Sm.bool _).sw.le (by decide) (by decide)), (fun a z => nomatch z)⟩
        rcases List.mem_cons.mp hv with rfl | hv
        · exact ⟨_, .dat (.int _) (by decide) ((sw_big (by decide)).le (by decide) (by decide)), (fun a z => nomatch z)⟩
        rcases List.mem_cons.mp hv with rfl | hv
        · exact ⟨_, .dat (.int _) (by decide) ((sw_big (by decide)).le (by decide) (by decide)), (fun a z => nomatch z)⟩
        rcases List.mem_cons.mp hv with rfl | hv
        · exact ⟨_, .dat (.int _) (by decide) ((sw_big (by decide)).le (by decide) (by decide)), (fun a z => nomatch z)⟩
        rcases List.mem_cons.mp hv with rfl | hv
        · exact ⟨_, .dat (.int _) (by decide) ((sw_big (by decide)).le (by decide) (by decide)), (fun a z => nomatch z)⟩
        rcases List.mem_cons.mp hv with rfl | hv
        · exact ⟨_, .dat (.int _) (by decide) ((sw_big (by decide)).le (by decide) (by decide)), (fun a z => nomatch z)⟩
        rcases List.mem_cons.mp hv with rfl | hv
        · exact ⟨_, .dat (.int _) (by simp [only]) ((sw_big (by decide +kernel)).le (by decide) (by decide)), (fun a z => nomatch z)⟩
        rcases List.mem_cons.mp hv with rfl | hv
        · exact ⟨_, .dat (.str _) (by decide) ⟨by decide +kernel, by decide +kernel, by decide +kernel, by decide +kernel⟩, (fun a z => nomatch z)⟩
        rcases List.mem_cons.mp hv with rfl | hv
        · exact ⟨_, .dat (.str _) (by decide) ⟨by decide +kernel, by decide +kernel, by decide +kernel, by decide +kernel⟩, (fun a z => nomatch z)⟩
        rcases List.mem_cons.mp hv with rfl | hv
        · exact ⟨_, .dat (.tup (SqT.of (((((((((((((((((s2.trans s3).trans s4).trans s5).trans s6).trans s7).trans s8).trans s9).trans s10).trans s11).trans s12).trans s13).trans s14).trans s15).trans s16).trans s17).trans s18) _ _ e1)) .nil) (by decide) ⟨by decide +kernel, by decide +kernel, by decide +kernel, by decide +kernel⟩, fun a z => by cases z; exact n1⟩
        rcases List.mem_cons.mp hv with rfl | hv
        · exact ⟨_, .dat (.tup (SqT.of ((((((((((((((((s3.trans s4).trans s5).trans s6).trans s7).trans s8).trans s9).trans s10).trans s11).trans s12).trans s13).trans s14).trans s15).trans s16).trans s17).trans s18) _ _ e2)) (.cons (.int _) .nil)) (by decide) ⟨by decide +kernel, by decide +kernel, by decide +kernel, by decide +kernel⟩, fun a z => by cases z; exact Same.none s1 n2⟩
        rcases List.mem_cons.mp hv with rfl | hv
        · exact ⟨_, .obj (((((((((((((((s4.trans s5).trans s6).trans s7).trans s8).trans s9).trans s10).trans s11).trans s12).trans s13).trans s14).trans s15).trans s16).trans s17).trans s18) _ _ e3) (.l [] (by decide) (by decide)) o3.1 o3.2 p3, fun a z => by cases z; exact Same.none (s1.trans s2) n3⟩
        rcases List.mem_cons.mp hv with rfl | hv
        · exact ⟨_, .obj ((((((((((((((s5.trans s6).trans s7).trans s8).trans s9).trans s10).trans s11).trans s12).trans s13).trans s14).trans s15).trans s16).trans s17).trans s18) _ _ e4) (.l [0, 1] (by decide) (by decide)) o4.1 o4.2 p4, fun a z => by cases z; exact Same.none ((s1.trans s2).trans s3) n4⟩
        rcases List.mem_cons.mp hv with rfl | hv
        · exact ⟨_, .obd (((((((((((((s6.trans s7).trans s8).trans s9).trans s10).trans s11).trans s12).trans s13).trans s14).trans s15).trans s16).trans s17).trans s18) _ _ e5) .d0 o5.1 o5.2, fun a z => by cases z; exact Same.none (((s1.trans s2).trans s3).trans s4) n5⟩
        · rw [List.mem_singleton.mp hv]
          exact ⟨_, .obd ((((((((((((s7.trans s8).trans s9).trans s10).trans s11).trans s12).trans s13).trans s14).trans s15).trans s16).trans s17).trans s18) _ _ e6) .d2 o6.1 o6.2, fun a z => by cases z; exact Same.none ((((s1.trans s2).trans s3).trans s4).trans s5) n6⟩
      · rcases List.mem_cons.mp hv with rfl | hv
        · exact ⟨_, .dat (.tup (SqT.of ((((((((((s9.trans s10).trans s11).trans s12).trans s13).trans s14).trans s15).trans s16).trans s17).trans s18) _ _ e8)) (.cons (.int _) (.cons (.bl _) .nil))) (by decide) ⟨by decide +kernel, by decide +kernel, by decide +kernel, by decide +kernel⟩, fun a z => by cases z; exact Same.none ((((((s1.trans s2).trans s3).trans s4).trans s5).trans s6).trans s7) n8⟩
        rcases List.mem_cons.mp hv with rfl | hv
        · exact ⟨_, .dat (.tup (SqT.of (((((((((s10.trans s11).trans s12).trans s13).trans s14).trans s15).trans s16).trans s17).trans s18) _ _ e9)) (.cons (.bl _) (.cons (.int _) .nil))) (by decide) ⟨by decide +kernel, by decide +kernel, by decide +kernel, by decide +kernel⟩, fun a z => by cases z; exact Same.none (((((((s1.trans s2).trans s3).trans s4).trans s5).trans s6).trans s7).trans s8) n9⟩
        rcases List.mem_cons.mp hv with rfl | hv
        · exact ⟨_, .dat (.tup (SqT.of ((((((((s11.trans s12).trans s13).trans s14).trans s15).trans s16).trans s17).trans s18) _ _ e10)) (.cons (.int _) (.cons (.int _) .nil))) (by decide) ⟨by decide +kernel, by decide +kernel, by decide +kernel, by decide +kernel⟩, fun a z => by cases z; exact Same.none ((((((((s1.trans s2).trans s3).trans s4).trans s5).trans s6).trans s7).trans s8).trans s9) n10⟩
        rcases List.mem_cons.mp hv with rfl | hv
        · exact ⟨_, .dat (.tup (SqT.of (((((((s12.trans s13).trans s14).trans s15).trans s16).trans s17).trans s18) _ _ e11)) (.cons (.int _) (.cons (.int _) .nil))) (by decide) ⟨by decide +kernel, by decide +kernel, by decide +kernel, by decide +kernel⟩, fun a z => by cases z; exact Same.none (((((((((s1.trans s2).trans s3).trans s4).trans s5).trans s6).trans s7).trans s8).trans s9).trans s10) n11⟩
        rcases List.mem_cons.mp hv with rfl | hv
        · exact ⟨_, .dat (.tup (SqT.of ((((((s13.trans s14).trans s15).trans s16).trans s17).trans s18) _ _ e12)) (.cons (.int _) (.cons (.int _) (.cons (.int _) .nil)))) (by decide) ⟨by decide +kernel, by decide +kernel, by decide +kernel, by decide +kernel⟩, fun a z => by cases z; exact Same.none ((((((((((s1.trans s2).trans s3).trans s4).trans s5).trans s6).trans s7).trans s8).trans s9).trans s10).trans s11) n12⟩
        rcases List.mem_cons.mp hv with rfl | hv
        · exact ⟨_, .dat (.tup (SqT.of ((((s15.trans s16).trans s17).trans s18) _ _ e14)) (.cons (.tup (SqT.of (((((s14.trans s15).trans s16).trans s17).trans s18) _ _ e13)) (.cons (.int _) (.cons (.int _) .nil))) .nil)) (by decide) ⟨by decide +kernel, by decide +kernel, by decide +kernel, by decide +kernel⟩, fun a z => by cases z; exact Same.none ((((((((((((s1.trans s2).trans s3).trans s4).trans s5).trans s6).trans s7).trans s8).trans s9).trans s10).trans s11).trans s12).trans s13) n14⟩
        rcases List.mem_cons.mp hv with rfl | hv
        · exact ⟨_, .dat (.tup (SqT.of (((s16.trans s17).trans s18) _ _ e15)) (.cons .non (.cons (.int _) .nil))) (by decide) ⟨by decide +kernel, by decide +kernel, by decide +kernel, by decide +kernel⟩, fun a z => by cases z; exact Same.none (((((((((((((s1.trans s2).trans s3).trans s4).trans s5).trans s6).trans s7).trans s8).trans s9).trans s10).trans s11).trans s12).trans s13).trans s14) n15⟩
        rcases List.mem_cons.mp hv with rfl | hv
        · exact ⟨_, .dat (.tup (SqT.of ((s17.trans s18) _ _ e16)) (.cons (.str _) (.cons (.str _) .nil))) (by decide) ⟨by decide +kernel, by decide +kernel, by decide +kernel, by decide +kernel⟩, fun a z => by cases z; exact Same.none ((((((((((((((s1.trans s2).trans s3).trans s4).trans s5).trans s6).trans s7).trans s8).trans s9).trans s10).trans s11).trans s12).trans s13).trans s14).trans s15) n16⟩
        · rw [List.mem_singleton.mp hv]
          exact ⟨_, .dat (.tup (SqT.of (s18 _ _ e17)) (.cons (.int _) (.cons (.int _) .nil))) (by decide) ⟨by decide +kernel, by decide +kernel, by decide +kernel, by decide +kernel⟩, fun a z => by cases z; exact Same.none (((((((((((((((s1.trans s2).trans s3).trans s4).trans s5).trans s6).trans s7).trans s8).trans s9).trans s10).trans s11).trans s12).trans s13).trans s14).trans s15).trans s16) n17⟩
    have sH : Same H J18 := (((((((((((((((((s1.trans s2).trans s3).trans s4).trans s5).trans s6).trans s7).trans s8).trans s9).trans s10).trans s11).trans s12).trans s13).trans s14).trans s15).trans s16).trans s17).trans s18)
    have lL : ([V.non, V.bl true, V.bl false, V.int (-1), V.int 0, V.int 1, V.int 12, V.int 13, V.int ((10 : Int) ^ (29 : Int).toNat), V.str "", V.str "0-1", V.ref a1, V.ref a2, V.ref a3, V.ref a4, V.ref a5, V.ref a6] ++ [V.ref a8, V.ref a9, V.ref a10, V.ref a11, V.ref a12, V.ref a14, V.ref a15, V.ref a16, V.ref a17]).length = 26 := rfl
    have D19 := D18.same sL
    generalize [V.non, V.bl true, V.bl false, V.int (-1), V.int 0, V.int 1, V.int 12, V.int 13, V.int ((10 : Int) ^ (29 : Int).toNat), V.str "", V.str "0-1", V.ref a1, V.ref a2, V.ref a3, V.ref a4, V.ref a5, V.ref a6] ++ [V.ref a8, V.ref a9, V.ref a10, V.ref a11, V.ref a12, V.ref a14, V.ref a15, V.ref a16, V.ref a17] = xs at sL eL all lL D19 ⊢
    generalize upd J18 L (.lst xs) = J19 at sL eL D19 ⊢
    refine ⟨.ref L, rfl, .ref d, rfl, d, l, n, 26, rfl, by decide, by decide, D19, by omega, fun H8 x x0 x1 f8 D8 => ?_⟩
    have hx : x.toNat < xs.length := by omega
    obtain ⟨y, oy, fr⟩ := all _ (List.getElem_mem hx)
    exact ⟨L, xs, x, xs[x.toNat], rfl, rfl, SqL.of (f8 _ _ oL.1 oL.2 eL), at_of (j := x.toNat) (by omega) (List.getElem?_eq_getElem hx), q _ _ y ((Same.fm (sH.trans sL)).trans f8) D8 ((oy.same sL).fm f8 D19) fr⟩
end
end TL
namespace TL
open PySem PySem.Spec PyProof.Rows L2
section
variable {P : Program} {w : World} {K : PySem.W.Frag} {mg : Str → Option Value} {base : Heap}
/-! ### the program: errors of forests, values of any kind -/
/-- how an item looks -/
inductive Iw (K : PySem.W.Frag) (H : Hp) : V → Option (V × V) → Prop
  | no {v : V} {t : Value} (h : TyX K H v t) (k : PySem.W.kitOne K t (.type "tuple") = some false) : Iw K H v none
  | len {a : Addr} {xs : List V} (h : SqT K H a xs) (l : xs.length ≠ 2) : Iw K H (.ref a) none
  | two {a : Addr} {u v : V} (h : SqT K H a [u, v]) (ku : Kd K H u) (kv : Kd K H v) : Iw K H (.ref a) (some (u, v))
theorem Iw.same {H H' : Hp} (s : Same H H') {v : V} {o : Option (V × V)} (h : Iw K H v o) : Iw K H' v o := by
  cases h with
  | no h k => exact .no (tyX_same s h) k
  | len h l => exact .len (Same.tup s h) l
  | two h ku kv => exact .two (Same.tup s h) (ku.same s) (kv.same s)
def prV : Option (V × V) → Option (Int × Int)
  | some (.int a, .int b) => some (a, b)
  | _ => none
theorem prV_some {o : Option (V × V)} {p : Int × Int} (h : prV o = some p) : o = some (.int p.1, .int p.2) := by
  unfold prV at h
  split at h
  · cases h; rfl
  · cases h
def spIsPair (K : PySem.W.Frag) : Sp := fun vs H Q _ => ∃ (z : V) (o : Option (V × V)), vs = [z] ∧ Iw K H z o ∧ Q (.bl o.isSome) H
theorem ok_IsPair {f : Addr} {fd : FuncData} {k : Nat} (F : Fun K "is_pair" "is_pair" sIsPair f fd) (m_isinstance : mg "isinstance" = none) (m_tuple : mg "tuple" = none) (m_len : mg "len" = none) :
    FnOk P w K mg base CX0 (k + 1) f fd ["value"] (spIsPair K) := by
  refine F.ok scIsPair (fun vs H Q E h => ?_) (fun cdv A outer s H vs Q E hr h => ?_)
  · obtain ⟨z, o, rfl, _⟩ := h
    rfl
  · obtain ⟨z, o, rfl, hz, q⟩ := h
    refine ⟨_, (pss_one (ps_ret (pe_and (pe_callB (isiK K) (by rfl) m_isinstance (by decide +kernel) (pa_cons (pv 0) (pa_cons (pe_bltn (v := .ty "tuple") (by rfl) m_tuple (by decide +kernel) rfl) pa_nil))) (pe_one (pe_cmpR op_eq (pe_callB (lenK K) (by rfl) m_len (by decide +kernel) (pa_cons (pv 0) pa_nil)) pe_int (nomark _)))))), ?_⟩
    cases hz with
    | no h k => exact ⟨z, rfl, _, _, _, _, false, rfl, .ty "tuple", h, k, false, rfl, iteF q⟩
    | @len a xs h l =>
      refine ⟨.ref a, rfl, _, _, _, _, true, rfl, .ty "tuple", ty_tup h, kit_ty (by decide +kernel), true, rfl, iteT ?_⟩
      refine ⟨.ref a, rfl, a, _, rfl, .inr h, rfl, ?_⟩
      rw [decide_eq_false (by intro z; exact l (by injection z with z; omega))]
      exact q
    | @two a u v h ku kv =>
      refine ⟨.ref a, rfl, _, _, _, _, true, rfl, .ty "tuple", ty_tup h, kit_ty (by decide +kernel), true, rfl, iteT ?_⟩
      exact ⟨.ref a, rfl, a, _, rfl, .inr h, rfl, q⟩
/-- a list of items -/
inductive Iws (K : PySem.W.Frag) (H : Hp) : List V → List (Option (V × V)) → Prop
  | nil : Iws K H [] []
  | cons {v : V} {vs : List V} {o : Option (V × V)} {os : List (Option (V × V))} (h : Iw K H v o) (t : Iws K H vs os) : Iws K H (v :: vs) (o :: os)
theorem Iws.same {H H' : Hp} (s : Same H H') : ∀ {vs : List V} {os : List (Option (V × V))}, Iws K H vs os → Iws K H' vs os
  | _, _, .nil => .nil
  | _, _, .cons h t => .cons (h.same s) (t.same s)
theorem Iws.drop {H : Hp} : ∀ {vs : List V} {os : List (Option (V × V))} (i : Nat) {v : V}, Iws K H vs os → vs[i]? = some v → ∃ o, os.drop i = o :: os.drop (i + 1) ∧ Iw K H v o
  | _, _, i, _, .nil, h => by cases i <;> cases h
  | _, _, 0, _, .cons h t, e => by cases e; exact ⟨_, rfl, h⟩
  | _, _, i + 1, _, .cons h t, e => by
    obtain ⟨o, h1, h2⟩ := Iws.drop i t e
    exact ⟨o, h1, h2⟩
theorem Iws.len {H : Hp} : ∀ {vs : List V} {os : List (Option (V × V))}, Iws K H vs os → vs.length = os.length
  | _, _, .nil => rfl
  | _, _, .cons _ t => congrArg (· + 1) t.len
/-- how the slides look -/
inductive Sv (K : PySem.W.Frag) (H : Hp) : V → Option (List (Option (V × V))) → Prop
  | no {v : V} {t : Value} (h : TyX K H v t) (k : PySem.W.kitOne K t (.type "tuple") = some false) : Sv K H v none
  | yes {a : Addr} {xs : List V} {os : List (Option (V × V))} (h : SqT K H a xs) (i : Iws K H xs os) (l : xs.length ≤ 400) : Sv K H (.ref a) (some os)
theorem Sv.same {H H' : Hp} (s : Same H H') {v : V} {o : Option (List (Option (V × V)))} (h : Sv K H v o) : Sv K H' v o := by
  cases h with
  | no h k => exact .no (tyX_same s h) k
  | yes h i l => exact .yes (Same.tup s h) (i.same s) l
def vx (m : Nat) : V → Bool
  | .int i => decide (0 ≤ i ∧ i < (m : Int))
  | _ => false
def spIsVertex (K : PySem.W.Frag) : Sp := fun vs H Q _ => ∃ (n : Nat) (v : V), vs = [.int (n : Int), v] ∧ Kd K H v ∧ Q (.bl (vx n v)) H
theorem ok_IsVertex {f : Addr} {fd : FuncData} (F : Fun K "is_vertex" "is_vertex" sIsVertex f fd) (oIsNumber : Own P w K mg base "is_number" 1 ["value"] (spIsNumber K)) :
    FnOk P w K mg base CX0 2 f fd ["n", "value"] (spIsVertex K) := by
  refine F.ok scIsVertex (fun vs H Q E h => ?_) (fun cdv A outer s H vs Q E hr h => ?_)
  · obtain ⟨n, v, rfl, _⟩ := h
    rfl
  · obtain ⟨n, v, rfl, kd, q⟩ := h
    refine ⟨_, (pss_one (ps_ret (pe_and (pe_own oIsNumber (hr.mono (by decide)) (by rfl) (pa_cons (pv 1) pa_nil)) (pe_one (pe_chain op_le op_lt pe_int (pv 1) (pv 0)))))), ?_⟩
    refine ⟨v, rfl, v, rfl, kd, isN v, rfl, ?_⟩
    cases v with
    | int v =>
      refine iteT ?_
      refine ⟨.int v, rfl, _, _, rfl, rfl, _, rfl, ite2 (fun h => ?_) (fun h => ?_)⟩
      · have h := of_decide_eq_true h
        refine ⟨.int n, rfl, _, _, rfl, rfl, ?_⟩
        have e : vx n (.int v) = decide (v < (n : Int)) := by
          show decide (0 ≤ v ∧ v < (n : Int)) = _
          by_cases h2 : v < (n : Int)
          · rw [decide_eq_true h2, decide_eq_true (show 0 ≤ v ∧ v < (n : Int) from ⟨h, h2⟩)]
          · rw [decide_eq_false h2, decide_eq_false (show ¬ (0 ≤ v ∧ v < (n : Int)) from fun z => h2 z.2)]
        rw [e] at q
        exact q
      · have h : ¬ 0 ≤ v := fun z => h (decide_eq_true z)
        have e : vx n (.int v) = false := decide_eq_false (show ¬ (0 ≤ v ∧ v < (n : Int)) from fun z => h z.1)
        rw [e] at q
        exact q
    | _ => exact iteF q
theorem decInt (a b : Int) : decide (V.int a = V.int b) = decide (a = b) := by
  by_cases h : a = b
  · subst h; simp
  · have : ¬ V.int a = V.int b := fun z => h (V.int.inj z)
    rw [decide_eq_false h, decide_eq_false this]
def spMerged : Sp := fun vs H Q _ => ∃ (L : Addr) (f : Int → Int) (ws : List Int) (a b : Int), vs = [.ref L, .int a, .int b] ∧ H L = some (.dK (tab f ws)) ∧ ws.Nodup ∧ ws.length ≤ 100 ∧ a ∈ ws ∧ b ∈ ws ∧
  ∀ (H' : Hp) (D : Addr), Same H H' → H D = none → H' D = some (.dK (tab (mrg f a b) ws)) → Q (.ref D) H'
theorem ok_Merged {f : Addr} {fd : FuncData} {k : Nat} (F : Fun K "merged" "merged" sMerged f fd) : FnOk P w K mg base CX0 (k + 1) f fd ["labels", "a", "b"] spMerged := by
  refine F.ok scMerged (fun vs H Q E h => ?_) (fun cdv A outer s H vs Q E hr h => ?_)
  · obtain ⟨L, f, ws, a, b, rfl, _⟩ := h
    rfl
  · obtain ⟨L, f, ws, a, b, rfl, hL, nd, lw, ha, hb, q⟩ := h
    refine ⟨_, (pss_cons (ps_set (i := 3) scMerged.nd rfl (.inr rfl) (pe_dget (hu_of hr) (pv 0) (pv 1) (fun _ _ => rfl)))
    (pss_cons (ps_set (i := 4) scMerged.nd rfl (.inr rfl) (pe_dget (hu_of hr) (pv 0) (pv 2) (fun _ _ => rfl)))
    (pss_one (ps_ret (pe_lock (pe_dc (own := [("vertex", 5)]) (g := (gName 5)) (tt := tYes) rfl scMerged.nd (pi_keys (pv 0))
      (blkOk_by (own := [("vertex", 5)]) (N := nMerged) (sc := (defScope sMerged)) (by decide +kernel))
      (fun _ _ _ _ _ => (pg_name (i := 5) scMerged.nd rfl (Or.inl rfl))) (fun _ _ _ _ _ => pts_nil)
      (fun _ _ _ _ _ => (pv 5))
      (fun _ _ _ _ _ => (pe_ifExp (pt_cmpR op_eq (pe_dget (hu_of hr) (pv 0) (pv 5) (fun _ _ => rfl)) (pv 3) (nomark _)) (pv 4) (pe_dget (hu_of hr) (pv 0) (pv 5) (fun _ _ => rfl)))))))))), ?_⟩
    have va : valV (tab f ws) (Sum.inl a) = some (.int (f a)) := by rw [tab_val, if_pos ha]
    have vb : valV (tab f ws) (Sum.inl b) = some (.int (f b)) := by rw [tab_val, if_pos hb]
    refine ⟨.ref L, rfl, .int a, rfl, L, .int (f a), rfl, va ▸ DGet.k (k := Sum.inl a) hL, ?_⟩
    refine ⟨.ref L, rfl, .int b, rfl, L, .int (f b), rfl, vb ▸ DGet.k (k := Sum.inl b) hL, ?_⟩
    refine ⟨L, _, hL, trivial, fun od => ?_⟩
    have eL : upd H L (.frz od (.dK (tab f ws))) L = some (.frz od (.dK (tab f ws))) := upd_same
    refine ⟨.ref L, rfl, L, od, rfl, .inl ⟨_, eL, fun D nD => ?_⟩⟩
    have nLD : L ≠ D := ne_of_none eL nD
    have nHD : H D = none := by rw [upd_ne nLD.symm] at nD; exact nD
    refine dc_tab (mrg f a b) ws (fun v => [some (.ref L), some (.int a), some (.int b), some (.int (f a)), some (.int (f b)), some (.int v)]) nd nD (by omega) (fun j H' hj s1 => ⟨s1 _ _ eL, by rw [tab_len]; exact hj⟩) (fun H' s1 => ⟨s1 _ _ eL, by rw [tab_len]; exact Nat.le_refl _⟩) (fun j v x H' H'' hv s1 y => ?_) (fun v => rfl) (fun v _ H' R s1 hR => ?_) (fun v hv H' R s1 hR => ?_) (fun H' s1 eD => ?_)
    · obtain ⟨e, k, z, hk, hx⟩ := y
      unfold tab at hk
      rw [List.getElem?_map, hv] at hk
      cases hk
      subst hx
      exact ⟨e, fun Q q => q⟩
    · exact ⟨.int v, rfl, hR⟩
    · have vv : valV (tab f ws) (Sum.inl v) = some (.int (f v)) := by rw [tab_val, if_pos hv]
      have dg : DGet H' L (.int v) (some (.int (f v))) := by
        rw [← vv]
        exact .inl ⟨tab f ws, Sum.inl v, .inr ⟨od, s1 _ _ eL⟩, rfl, rfl⟩
      refine ⟨.ref L, rfl, .int v, rfl, L, .int (f v), rfl, dg, .int (f a), rfl, rfl, _, rfl, ?_⟩
      rw [decInt]
      have h2 := hR H' (Same.refl _)
      unfold mrg at h2
      refine ite2 (fun h => ?_) (fun h => ?_)
      · rw [if_pos (of_decide_eq_true h)] at h2
        exact ⟨.int (f b), rfl, h2⟩
      · rw [if_neg fun z => h (decide_eq_true z)] at h2
        exact ⟨.ref L, rfl, .int v, rfl, L, .int (f v), rfl, dg, h2⟩
    · refine ⟨s1 _ _ eL, q _ D (fun c o e => ?_) nHD ?_⟩
      · by_cases hc : c = L
        · rw [hc, upd_same]
          rw [hc, hL] at e
          exact e
        · rw [upd_ne hc]
          exact s1 _ _ (by rw [upd_ne hc]; exact e)
      · rw [upd_ne nLD.symm]
        exact eD
/-- an edge over m vertices -/
def edgeO (m : Nat) (o : Option (V × V)) : Option (Int × Int) := match prV o with
  | some p => if 0 ≤ p.1 ∧ p.1 < p.2 ∧ p.2 < (m : Int) then some p else none
  | none => none
theorem edgeO_some {m : Nat} {o : Option (V × V)} {p : Int × Int} (h : edgeO m o = some p) : o = some (.int p.1, .int p.2) ∧ 0 ≤ p.1 ∧ p.1 < p.2 ∧ p.2 < (m : Int) := by
  unfold edgeO at h
  cases e : prV o with
  | none => rw [e] at h; cases h
  | some q =>
    rw [e] at h
    have h : (if 0 ≤ q.1 ∧ q.1 < q.2 ∧ q.2 < (m : Int) then some q else none) = some p := h
    by_cases c : 0 ≤ q.1 ∧ q.1 < q.2 ∧ q.2 < (m : Int)
    · rw [if_pos c] at h
      cases h
      exact ⟨prV_some e, c⟩
    · rw [if_neg c] at h
      cases h
def spIsEdge (K : PySem.W.Frag) : Sp := fun vs H Q _ => ∃ (m : Nat) (z : V) (o : Option (V × V)), vs = [.int (m : Int), z] ∧ Iw K H z o ∧ Q (.bl (edgeO m o).isSome) H
theorem ok_IsEdge {f : Addr} {fd : FuncData} (F : Fun K "is_edge" "is_edge" sIsEdge f fd) (oIsPair : Own P w K mg base "is_pair" 1 ["value"] (spIsPair K)) (oIsVertex : Own P w K mg base "is_vertex" 2 ["n", "value"] (spIsVertex K)) :
    FnOk P w K mg base CX0 3 f fd ["n", "value"] (spIsEdge K) := by
  refine F.ok scIsEdge (fun vs H Q E h => ?_) (fun cdv A outer s H vs Q E hr h => ?_)
  · obtain ⟨m, z, o, rfl, _⟩ := h
    rfl
  · obtain ⟨m, z, o, rfl, hz, q⟩ := h
    refine ⟨_, (pss_cons (ps_if (pt_not (pt_val (pe_own oIsPair (hr.mono (by decide)) (by rfl) (pa_cons (pv 1) pa_nil)))) (pss_one (ps_ret pe_bl)) pss_nil)
    (pss_cons (ps_asg (pv 1) (pgTK K (pgs_cons (pg_name (i := 2) scIsEdge.nd rfl (Or.inl rfl)) (pgs_cons (pg_name (i := 3) scIsEdge.nd rfl (Or.inl rfl)) pgs_nil))))
    (pss_one (ps_ret (pe_and (pe_own oIsVertex (hr.mono (by decide)) (by rfl) (pa_cons (pv 0) (pa_cons (pv 2) pa_nil))) (pe_and (pe_own oIsVertex (hr.mono (by decide)) (by rfl) (pa_cons (pv 0) (pa_cons (pv 3) pa_nil))) (pe_one (pe_cmpR op_lt (pv 2) (pv 3) (nomark _))))))))), ?_⟩
    refine ⟨z, rfl, z, o, rfl, hz, o.isSome, rfl, ?_⟩
    cases hz with
    | no h k => exact iteT q
    | len h l => exact iteT q
    | @two a u v h ku kv =>
      refine iteF ?_
      refine ⟨.ref a, rfl, a, _, rfl, h, rfl, _, _, rfl, _, _, rfl, rfl, ?_⟩
      refine ⟨.int (m : Int), rfl, u, rfl, m, u, rfl, ku, vx m u, rfl, ?_⟩
      have no : edgeO m (some (u, v)) = none → Q (.bl false) H := fun e => by
        rw [e] at q
        exact q
      cases u with
      | int a1 =>
        show if decide (0 ≤ a1 ∧ a1 < (m : Int)) = true then _ else _
        by_cases c1 : 0 ≤ a1 ∧ a1 < (m : Int)
        · rw [decide_eq_true c1]
          refine iteT ⟨.int (m : Int), rfl, v, rfl, m, v, rfl, kv, vx m v, rfl, ?_⟩
          cases v with
          | int b1 =>
            show if decide (0 ≤ b1 ∧ b1 < (m : Int)) = true then _ else _
            by_cases c2 : 0 ≤ b1 ∧ b1 < (m : Int)
            · rw [decide_eq_true c2]
              refine iteT ⟨.int a1, rfl, .int b1, rfl, _, _, rfl, rfl, ?_⟩
              dsimp only
              have e : edgeO m (some (V.int a1, V.int b1)) = if 0 ≤ a1 ∧ a1 < b1 ∧ b1 < (m : Int) then some (a1, b1) else none := rfl
              rw [e] at q
              by_cases c3 : a1 < b1
              · rw [if_pos ⟨c1.1, c3, c2.2⟩] at q
                rw [decide_eq_true c3]
                exact q
              · rw [if_neg (by omega)] at q
                rw [decide_eq_false c3]
                exact q
            · rw [decide_eq_false c2]
              exact iteF (no (if_neg (show ¬ (0 ≤ a1 ∧ a1 < b1 ∧ b1 < (m : Int)) by omega)))
          | _ => exact iteF (no rfl)
        · rw [decide_eq_false c1]
          refine iteF (no ?_)
          cases v with
          | int b1 => exact if_neg (show ¬ (0 ≤ a1 ∧ a1 < b1 ∧ b1 < (m : Int)) by omega)
          | _ => rfl
      | _ => exact iteF (no rfl)
/-- q is before p -/
def Bef (q p : Int × Int) : Prop := q.1 < p.1 ∨ (q.1 = p.1 ∧ q.2 < p.2)
instance (q p : Int × Int) : Decidable (Bef q p) := inferInstanceAs (Decidable (_ ∨ _))
open Classical in
/-- the first error of edges, after good ones -/
noncomputable def errL (m : Nat) : List (Int × Int) → List (Option (V × V)) → Option (Nat × Str)
  | _, [] => none
  | es, o :: os => match edgeO m o with
    | none => some (es.length, Str.ofString "edge")
    | some p => if (∃ q, es.getLast? = some q ∧ ¬ Bef q p) then some (es.length, Str.ofString "order") else if Conn es p.1 p.2 then some (es.length, Str.ofString "cycle") else errL m (es ++ [p]) os
section
variable {m : Nat} {es : List (Int × Int)} {o : Option (V × V)} {os : List (Option (V × V))} {p : Int × Int}
theorem errL_edge (h : edgeO m o = none) : errL m es (o :: os) = some (es.length, Str.ofString "edge") := by
  unfold errL
  rw [h]
theorem errL_order (h : edgeO m o = some p) {q : Int × Int} (hq : es.getLast? = some q) (hn : ¬ Bef q p) : errL m es (o :: os) = some (es.length, Str.ofString "order") := by
  unfold errL
  rw [h]
  exact if_pos ⟨q, hq, hn⟩
theorem errL_cycle (h : edgeO m o = some p) (hb : ∀ q, es.getLast? = some q → Bef q p) (hc : Conn es p.1 p.2) : errL m es (o :: os) = some (es.length, Str.ofString "cycle") := by
  unfold errL
  rw [h]
  show (if _ then _ else _) = _
  rw [if_neg (fun ⟨q, h1, h2⟩ => h2 (hb q h1)), if_pos hc]
theorem errL_go (h : edgeO m o = some p) (hb : ∀ q, es.getLast? = some q → Bef q p) (hc : ¬ Conn es p.1 p.2) : errL m es (o :: os) = errL m (es ++ [p]) os := by
  rw [errL, h]
  show (if _ then _ else _) = _
  rw [if_neg (fun ⟨q, h1, h2⟩ => h2 (hb q h1)), if_neg hc]
end
def errD : Option (Nat × Str) → PyData
  | none => .none
  | some (k, s) => .tuple [.int (k : Int), .str s]
noncomputable def edE (m : Nat) : Option (List (Option (V × V))) → PyData
  | none => .tuple [.none, .str (Str.ofString "edges")]
  | some os => errD (errL m [] os)
/-- the error of a value -/
noncomputable def forE (so : Option (List (Option (V × V)))) : Option (V × V) → PyData
  | none => .tuple [.none, .str (Str.ofString "tuple")]
  | some (.int i, _) => if 0 ≤ i ∧ i ≤ 12 then edE i.toNat so else .tuple [.none, .str (Str.ofString "vertices")]
  | some _ => .tuple [.none, .str (Str.ofString "vertices")]
theorem lab_conn {m : Nat} {es : List (Int × Int)} {f : Int → Int} (lb : Lab es (rng m) f) (rg : ∀ p ∈ es, p.1 ∈ rng m ∧ p.2 ∈ rng m) {a b : Int} (h : Conn es a b) : f a = f b := by
  induction h with
  | refl => rfl
  | step h1 h2 ih =>
    rw [ih]
    rcases h2 with h2 | h2
    · exact lb.join _ h2 (rg _ h2).1 (rg _ h2).2
    · exact (lb.join _ h2 (rg _ h2).1 (rg _ h2).2).symm
theorem le_lex {p q : Int × Int} : Ob.lexAt (fun j => decide ([p.1, p.2].getD j 0 = [q.1, q.2].getD j 0)) (fun j => decide ([p.1, p.2].getD j 0 ≤ [q.1, q.2].getD j 0)) (decide ([p.1, p.2].length ≤ [q.1, q.2].length)) 0 (min [p.1, p.2].length [q.1, q.2].length) = !decide (Bef q p) := by
  show (if decide (p.1 = q.1) = true then (if decide (p.2 = q.2) = true then true else decide (p.2 ≤ q.2)) else decide (p.1 ≤ q.1)) = _
  by_cases c1 : p.1 = q.1
  · rw [decide_eq_true c1, if_pos rfl]
    by_cases c2 : p.2 = q.2
    · rw [decide_eq_true c2, if_pos rfl, decide_eq_false (show ¬ Bef q p by unfold Bef; omega)]
      rfl
    · rw [decide_eq_false c2, if_neg Bool.false_ne_true]
      by_cases c3 : p.2 ≤ q.2
      · rw [decide_eq_true c3, decide_eq_false (show ¬ Bef q p by unfold Bef; omega)]
        rfl
      · rw [decide_eq_false c3, decide_eq_true (show Bef q p by unfold Bef; omega)]
        rfl
  · rw [decide_eq_false c1, if_neg Bool.false_ne_true]
    by_cases c3 : p.1 ≤ q.1
    · rw [decide_eq_true c3, decide_eq_false (show ¬ Bef q p by unfold Bef; omega)]
      rfl
    · rw [decide_eq_false c3, decide_eq_true (show Bef q p by unfold Bef; omega)]
      rfl
theorem dinT {H : Hp} {L : Addr} {f : Int → Int} {ws : List Int} (hL : H L = some (.dK (tab f ws))) {a : Int} (h : a ∈ ws) : DGet H L (.int a) (some (.int (f a))) := by
  have e : valV (tab f ws) (Sum.inl a) = some (.int (f a)) := by rw [tab_val, if_pos h]
  rw [← e]
  exact DGet.k (k := Sum.inl a) hL
/-- what is known after good edges -/
structure Gd (K : PySem.W.Frag) (H : Hp) (m : Nat) (xs : List V) (es : List (Int × Int)) (i : Nat) : Prop where
  len : es.length = i
  at' : ∀ (j : Nat) (q : Int × Int), es[j]? = some q → ∃ t : Addr, xs[j]? = some (V.ref t) ∧ SqT K H t [.int q.1, .int q.2]
  rg : ∀ p ∈ es, p.1 ∈ rng m ∧ p.2 ∈ rng m
theorem Gd.same {H H' : Hp} {m : Nat} {xs : List V} {es : List (Int × Int)} {i : Nat} (s : Same H H') (h : Gd K H m xs es i) : Gd K H' m xs es i := ⟨h.len, fun j q e => by
  obtain ⟨t, a, b⟩ := h.at' j q e
  exact ⟨t, a, Same.tup s b⟩, h.rg⟩
theorem Gd.add {H : Hp} {m : Nat} {xs : List V} {es : List (Int × Int)} {i : Nat} {p : Int × Int} {t : Addr} (h : Gd K H m xs es i) (hx : xs[i]? = some (.ref t)) (ht : SqT K H t [.int p.1, .int p.2]) (r1 : p.1 ∈ rng m) (r2 : p.2 ∈ rng m) : Gd K H m xs (es ++ [p]) (i + 1) := by
  have hl := h.len
  refine ⟨by rw [List.length_append, List.length_singleton, hl], fun j q e => ?_, fun r hr => ?_⟩
  · by_cases c : j < es.length
    · rw [List.getElem?_append_left c] at e
      exact h.at' j q e
    · rw [List.getElem?_append_right (by omega)] at e
      have c2 : j = i := by
        have := (List.getElem?_eq_some_iff.mp e).1
        rw [List.length_singleton] at this
        omega
      subst c2
      rw [hl, Nat.sub_self] at e
      cases e
      exact ⟨t, hx, ht⟩
  · rcases List.mem_append.mp hr with hr | hr
    · exact h.rg r hr
    · rw [List.mem_singleton.mp hr]
      exact ⟨r1, r2⟩
def spEdgesError (K : PySem.W.Frag) : Sp := fun vs H Q _ => ∃ (m : Nat) (b : Addr) (xs : List V) (os : List (Option (V × V))), vs = [.int (m : Int), .ref b] ∧ m ≤ 12 ∧ SqT K H b xs ∧ Iws K H xs os ∧ xs.length ≤ 400 ∧ ∀ H' r, Same H H' → Dp K H' r (errD (errL m [] os)) → Q r H'
theorem ok_EdgesError {f : Addr} {fd : FuncData} (F : Fun K "edges_error" "edges_error" sEdgesError f fd) (m_range : mg "range" = none) (m_enumerate : mg "enumerate" = none)
    (oIsEdge : Own P w K mg base "is_edge" 3 ["n", "value"] (spIsEdge K)) (oMerged : Own P w K mg base "merged" 1 ["labels", "a", "b"] spMerged) :
    FnOk P w K mg base CX0 4 f fd ["n", "edges"] (spEdgesError K) := by
  refine F.ok scEdgesError (fun vs H Q E h => ?_) (fun cdv A outer s H vs Q E hr h => ?_)
  · obtain ⟨m, b, xs, os, rfl, _⟩ := h
    rfl
  · obtain ⟨m, b, xs, os, rfl, hm, hb, hi, lx, q⟩ := h
    refine ⟨_, (pss_cons (ps_setDc (i := 2) (own := [("vertex", 7)]) (g := (gName 7)) (tt := tYes) (by rfl) scEdgesError.nd rfl rfl (sw_trueD rfl rfl rfl (by decide +kernel)) (pi_range1 (by rfl) m_range (pa_cons (pv 0) pa_nil))
      (blkOk_by (own := [("vertex", 7)]) (N := nEdgesError) (sc := (defScope sEdgesError)) (by decide +kernel))
      (fun _ _ _ _ _ => (pg_name (i := 7) scEdgesError.nd rfl (Or.inl rfl))) (fun _ _ _ _ _ => pts_nil)
      (fun _ _ _ _ _ => (pv 7))
      (fun _ _ _ _ _ => (pv 7)))
    (pss_cons (ps_for PassesOwn.never rfl (pi_enumT K (by rfl) m_enumerate (pa_cons (pv 1) pa_nil)) (pgTK K (pgs_cons (pg_name (i := 3) scEdgesError.nd rfl (Or.inl rfl)) (pgs_cons (pg_name (i := 4) scEdgesError.nd rfl (Or.inl rfl)) pgs_nil)))
    (pss_cons (ps_if (pt_not (pt_val (pe_own oIsEdge (hr.mono (by decide)) (by rfl) (pa_cons (pv 0) (pa_cons (pv 4) pa_nil))))) (pss_one (ps_ret (pe_tup (pa_cons (pv 3) (pa_cons pe_str pa_nil))))) pss_nil)
    (pss_cons (ps_if (PW.pt (pw_and (pt_cmpR op_gt (pv 3) pe_int (nomark _)) (pw_and1 (pt_cmpR (le2TK K hr.units) (pv 4) (pe_ix (ixTK K) (pv 1) (pe_op op_sub (pv 3) pe_int) (fun _ _ => rfl)) (nomark _))))) (pss_one (ps_ret (pe_tup (pa_cons (pv 3) (pa_cons pe_str pa_nil))))) pss_nil)
    (pss_cons (ps_asg (pv 4) (pgTK K (pgs_cons (pg_name (i := 5) scEdgesError.nd rfl (Or.inl rfl)) (pgs_cons (pg_name (i := 6) scEdgesError.nd rfl (Or.inl rfl)) pgs_nil))))
    (pss_cons (ps_if (pt_cmpR op_eq (pe_dget (hu_of hr) (pv 2) (pv 5) (fun _ _ => rfl)) (pe_dget (hu_of hr) (pv 2) (pv 6) (fun _ _ => rfl)) (nomark _)) (pss_one (ps_ret (pe_tup (pa_cons (pv 3) (pa_cons pe_str pa_nil))))) pss_nil)
    (pss_one (ps_set (i := 2) scEdgesError.nd rfl (.inl rfl) (pe_own oMerged (hr.mono (by decide)) (by rfl) (pa_cons (pv 2) (pa_cons (pv 5) (pa_cons (pv 6) pa_nil)))))))))))
    (pss_one (ps_ret pe_non)))), ?_⟩
    refine ⟨.int (m : Int), rfl, (m : Int), rfl, by omega, by omega, fun L0 nL0 => ?_⟩
    rw [Int.toNat_natCast]
    refine dc_tab id (rng m) (fun v => [some (.int (m : Int)), some (.ref b), none, none, none, none, none, some (.int v)]) (rng_asc m).nodup nL0 (by rw [rng_length]; omega) (fun j H' hj s1 => by rw [rng_length] at hj; exact hj)
      (fun H' s1 => by rw [rng_length]; exact Nat.le_refl _) (fun j v x H' H'' hv s1 y => ?_) (fun v => rfl) (fun v _ H' R s1 hR => ⟨.int v, rfl, hR⟩) (fun v _ H' R s1 hR => ⟨.int v, rfl, hR H' (Same.refl _)⟩) (fun H1 s1 e1 => ?_)
    · obtain ⟨e, hy⟩ := y
      unfold rng at hv
      rw [List.getElem?_map] at hv
      obtain ⟨z, hz, rfl⟩ := Option.map_eq_some_iff.mp hv
      obtain ⟨h1, rfl⟩ := List.getElem?_eq_some_iff.mp hz
      rw [List.getElem_range] at *
      subst hy
      refine ⟨e, fun Q q => ?_⟩
      show Q ([some (.int (m : Int)), some (.ref b), none, none, none, none, none, some (.int (0 + (j : Int)))]) H'
      rw [Int.zero_add]
      exact q
    refine ⟨.ref b, rfl, b, xs, rfl, Same.tup s1 hb, for_enumT (K := K) (a := b) (xs := xs) (fun i σ H' => ∃ (y3 y4 y5 y6 : Option V) (L : Addr) (f : Int → Int) (es : List (Int × Int)), σ = [some (.int (m : Int)), some (.ref b), some (.ref L), y3, y4, y5, y6, none] ∧
      Same H H' ∧ H' L = some (.dK (tab f (rng m))) ∧ Lab es (rng m) f ∧ Gd K H' m xs es i ∧ errL m [] os = errL m es (os.drop i)) ?_ ?_ ?_ ?_⟩
    · exact ⟨none, none, none, none, L0, id, [], rfl, s1, e1, Lab.start _, ⟨rfl, fun _ _ e => by simp at e, fun _ h => nomatch h⟩, rfl⟩
    · rintro i σ H' ⟨y3, y4, y5, y6, L, f, es, rfl, s2, _⟩
      exact Same.tup s2 hb
    · rintro i v T σ H2 hv nT ⟨y3, y4, y5, y6, L, f, es, rfl, s2, eL, lb, gd, he⟩
      have sT := same_upd (o := .tup [.int (i : Nat), v]) nT
      have et := same_at (o := .tup [.int (i : Nat), v]) nT
      have s3 := s2.trans sT
      have eL3 := sT _ _ eL
      have gd := gd.same sT
      have gl := gd.len
      have hix := (List.getElem?_eq_some_iff.mp hv).1
      obtain ⟨o, ho, hio⟩ := hi.drop i hv
      have hio := hio.same s3
      rw [ho] at he
      have ret : ∀ {H' : Hp} {t : Addr} {c : String}, errL m es (o :: os.drop (i + 1)) = some (es.length, Str.ofString c) → Same H H' → H' t = none → Q (.ref t) (upd H' t (.tup [.int (i : Nat), .str (Str.ofString c)])) := fun {H' t c} e s nt => by
        refine q _ _ (s.trans (same_upd nt)) ?_
        rw [he, e, gl]
        exact .tup (SqT.of upd_same) (.cons (.int _) (.cons (.str _) .nil))
      generalize upd H2 T (.tup [.int (i : Nat), v]) = H3 at sT s3 eL3 et gd hio ⊢
      refine ⟨T, _, rfl, SqT.of et, rfl, _, _, rfl, _, _, rfl, rfl, ?_⟩
      refine ⟨.int (m : Int), rfl, v, rfl, m, v, o, rfl, hio, (edgeO m o).isSome, rfl, ?_⟩
      cases heo : edgeO m o with
      | none =>
        refine iteT ⟨.int (i : Int), rfl, by show 2 ≤ sizeLine; decide, fun t nt => ?_⟩
        exact ret (errL_edge heo) s3 nt
      | some p =>
      refine iteF ?_
      obtain ⟨rfl, r0, r1, r2⟩ := edgeO_some heo
      obtain ⟨t, rfl, ht⟩ : ∃ t, v = .ref t ∧ SqT K H3 t [.int p.1, .int p.2] := by
        cases hio with
        | two h _ _ => exact ⟨_, rfl, h⟩
      have m1 : p.1 ∈ rng m := mem_rng.mpr (by omega)
      have m2 : p.2 ∈ rng m := mem_rng.mpr (by omega)
      dsimp only [tNext]
      have ords : ∀ q, es.getLast? = some q → ∃ j t2, i = j + 1 ∧ xs[j]? = some (.ref t2) ∧ SqT K H3 t2 [.int q.1, .int q.2] := fun q hq => by
        rw [List.getLast?_eq_getElem?] at hq
        have hl := (List.getElem?_eq_some_iff.mp hq).1
        obtain ⟨t2, h1, h2⟩ := gd.at' _ q hq
        exact ⟨es.length - 1, t2, by omega, h1, h2⟩
      refine ifJ (R := fun c H4 => H4 = H3 ∧ ((c = false ∧ ∀ q, es.getLast? = some q → Bef q p) ∨ (c = true ∧ ∃ q, es.getLast? = some q ∧ ¬ Bef q p))) (fun R hR => ?_) (fun H4 h => ?_) (fun H4 h => ?_)
      · refine ⟨.int (i : Int), rfl, _, _, rfl, rfl, _, rfl, ?_⟩
        by_cases h0 : i = 0
        · subst h0
          rw [decide_eq_false (by decide)]
          refine iteF (hR _ _ ⟨rfl, .inl ⟨rfl, fun q hq => ?_⟩⟩)
          obtain ⟨j, _, hj, _⟩ := ords q hq
          omega
        · rw [decide_eq_true (show (0 : Int) < (i : Int) by omega)]
          obtain ⟨q, hq⟩ : ∃ q, es.getLast? = some q := by
            cases e : es.getLast? with
            | some q => exact ⟨q, rfl⟩
            | none =>
              have := List.getLast?_eq_none_iff.mp e
              rw [this] at gl
              exact absurd gl (by show ¬ 0 = i; omega)
          obtain ⟨j, t2, ej, hj, ht2⟩ := ords q hq
          refine iteT ⟨.ref t, rfl, .ref b, rfl, .int (i : Int), rfl, _, _, rfl, rfl, b, _, _, _, rfl, rfl, Same.tup s3 hb, at_of (j := j) (by omega) hj, t, t2, [p.1, p.2], [q.1, q.2], rfl, rfl, ht, ht2, _, rfl, ?_⟩
          rw [le_lex]
          by_cases cb : Bef q p
          · rw [decide_eq_true cb]
            refine hR _ _ ⟨rfl, .inl ⟨rfl, fun q' hq' => ?_⟩⟩
            rw [hq] at hq'
            cases hq'
            exact cb
          · rw [decide_eq_false cb]
            exact hR _ _ ⟨rfl, .inr ⟨rfl, q, hq, cb⟩⟩
      · obtain ⟨rfl, ⟨z, _⟩ | ⟨_, q', hq', hn⟩⟩ := h
        · cases z
        · exact ⟨.int (i : Int), rfl, by show 2 ≤ sizeLine; decide, fun t nt => ret (errL_order heo hq' hn) s3 nt⟩
      obtain ⟨rfl, ⟨_, hbf⟩ | ⟨z, _⟩⟩ := h
      rotate_left
      · cases z
      refine ⟨.ref t, rfl, t, _, rfl, ht, rfl, _, _, rfl, _, _, rfl, rfl, ?_⟩
      refine ⟨.ref L, rfl, .int p.1, rfl, L, .int (f p.1), rfl, dinT eL3 m1, .ref L, rfl, .int p.2, rfl, L, .int (f p.2), rfl, dinT eL3 m2, rfl, _, rfl, ?_⟩
      rw [decInt]
      by_cases cf : f p.1 = f p.2
      · rw [decide_eq_true cf]
        refine iteT ⟨.int (i : Int), rfl, by show 2 ≤ sizeLine; decide, fun t nt => ret (errL_cycle heo hbf ?_) s3 nt⟩
        exact (lb.conn p.1 m1 p.2 m2 cf).mono fun r hr => (List.mem_filter.mp hr).1
      · rw [decide_eq_false cf]
        refine iteF ?_
        refine ⟨.ref L, rfl, .int p.1, rfl, .int p.2, rfl, L, f, rng m, p.1, p.2, rfl, eL3, (rng_asc m).nodup, by rw [rng_length]; omega, m1, m2, fun H4 L4 s4 n4 e4 => ?_⟩
        exact ⟨_, _, _, _, L4, mrg f p.1 p.2, es ++ [p], rfl, s3.trans s4, e4, lb.merge m1 m2, (gd.same s4).add hv (Same.tup s4 ht) m1 m2, he.trans (errL_go heo hbf fun z => cf (lab_conn lb gd.rg z))⟩
    · rintro σ H2 ⟨y3, y4, y5, y6, L, f, es, rfl, s2, eL, lb, gd, he⟩
      rw [hi.len, List.drop_length] at he
      refine q _ _ s2 ?_
      rw [he]
      exact .non
def spForestError (K : PySem.W.Frag) : Sp := fun vs H Q _ => ∃ (z : V) (oi : Option (V × V)) (so : Option (List (Option (V × V)))), vs = [z] ∧ Iw K H z oi ∧ (∀ n e, oi = some (n, e) → Sv K H e so) ∧ ∀ H' r, Same H H' → Dp K H' r (forE so oi) → Q r H'
theorem ok_ForestError {t0 : Tok} {f : Addr} {fd : FuncData} (F : Fun K "forest_error" "forest_error" sForestError f fd) (m_isinstance : mg "isinstance" = none) (m_tuple : mg "tuple" = none) (m_MAX_VERTICES : mg "MAX_VERTICES" = some (.int 12 t0))
    (oIsPair : Own P w K mg base "is_pair" 1 ["value"] (spIsPair K)) (oIsNumber : Own P w K mg base "is_number" 1 ["value"] (spIsNumber K)) (oEdgesError : Own P w K mg base "edges_error" 4 ["n", "edges"] (spEdgesError K)) :
    FnOk P w K mg base CX0 5 f fd ["value"] (spForestError K) := by
  refine F.ok scForestError (fun vs H Q E h => ?_) (fun cdv A outer s H vs Q E hr h => ?_)
  · obtain ⟨z, oi, so, rfl, _⟩ := h
    rfl
  · obtain ⟨z, oi, so, rfl, hz, hs, q⟩ := h
    have ret : ∀ {t : Addr} {c : String}, forE so oi = .tuple [.none, .str (Str.ofString c)] → H t = none → Q (.ref t) (upd H t (.tup [.non, .str (Str.ofString c)])) := fun {t c} e nt => by
      refine q _ _ (same_upd nt) ?_
      rw [e]
      exact .tup (SqT.of upd_same) (.cons .non (.cons (.str _) .nil))
    refine ⟨_, (pss_cons (ps_if (pt_not (pt_val (pe_own oIsPair (hr.mono (by decide)) (by rfl) (pa_cons (pv 0) pa_nil)))) (pss_one (ps_ret (pe_tup (pa_cons pe_non (pa_cons pe_str pa_nil))))) pss_nil)
    (pss_cons (ps_asg (pv 0) (pgTK K (pgs_cons (pg_name (i := 1) scForestError.nd rfl (Or.inl rfl)) (pgs_cons (pg_name (i := 2) scForestError.nd rfl (Or.inl rfl)) pgs_nil))))
    (pss_cons (ps_if (PW.pt (pw_or (pt_not (pt_val (pe_own oIsNumber (hr.mono (by decide)) (by rfl) (pa_cons (pv 1) pa_nil)))) (pw_or1 (pt_not (pt_chain op_le op_le pe_int (pv 1) (pe_glob (v := V.int 12) (by rfl) m_MAX_VERTICES ⟨_, rfl⟩)))))) (pss_one (ps_ret (pe_tup (pa_cons pe_non (pa_cons pe_str pa_nil))))) pss_nil)
    (pss_cons (ps_if (pt_not (pt_val (pe_callB (isiK K) (by rfl) m_isinstance (by decide +kernel) (pa_cons (pv 2) (pa_cons (pe_bltn (v := .ty "tuple") (by rfl) m_tuple (by decide +kernel) rfl) pa_nil))))) (pss_one (ps_ret (pe_tup (pa_cons pe_non (pa_cons pe_str pa_nil))))) pss_nil)
    (pss_one (ps_ret (pe_own oEdgesError (hr.mono (by decide)) (by rfl) (pa_cons (pv 1) (pa_cons (pv 2) pa_nil))))))))), ?_⟩
    refine ⟨z, rfl, z, oi, rfl, hz, oi.isSome, rfl, ?_⟩
    cases hz with
    | no h k => exact iteT ⟨by show 2 ≤ sizeLine; decide, fun t nt => ret rfl nt⟩
    | len h l => exact iteT ⟨by show 2 ≤ sizeLine; decide, fun t nt => ret rfl nt⟩
    | @two a n e h kn ke =>
      have se := hs n e rfl
      refine iteF ?_
      refine ⟨.ref a, rfl, a, _, rfl, h, rfl, _, _, rfl, _, _, rfl, rfl, ?_⟩
      refine ⟨n, rfl, n, rfl, kn, isN n, rfl, ?_⟩
      cases n with
      | int i =>
        have ef : forE so (some (.int i, e)) = if 0 ≤ i ∧ i ≤ 12 then edE i.toNat so else .tuple [.none, .str (Str.ofString "vertices")] := rfl
        refine iteF ⟨.int i, rfl, _, _, rfl, rfl, _, rfl, ?_⟩
        by_cases c1 : 0 ≤ i
        · rw [decide_eq_true c1]
          refine iteT ⟨_, _, rfl, rfl, _, rfl, ?_⟩
          by_cases c2 : i ≤ 12
          · rw [decide_eq_true c2]
            refine iteF ?_
            rw [if_pos ⟨c1, c2⟩] at ef
            cases se with
            | no h2 k2 => exact ⟨e, rfl, _, _, _, _, false, rfl, .ty "tuple", h2, k2, false, rfl, iteT ⟨by show 2 ≤ sizeLine; decide, fun t nt => ret ef nt⟩⟩
            | @yes b xs os hb hi lx =>
              refine ⟨.ref b, rfl, _, _, _, _, true, rfl, .ty "tuple", ty_tup hb, kit_ty (by decide +kernel), true, rfl, iteF ?_⟩
              obtain ⟨m, rfl⟩ : ∃ m : Nat, i = (m : Int) := ⟨i.toNat, by omega⟩
              refine ⟨.int (m : Int), rfl, .ref b, rfl, m, b, xs, os, rfl, by omega, hb, hi, lx, fun H' r s d => q H' r s ?_⟩
              rw [ef]
              exact d
          · rw [decide_eq_false c2]
            rw [if_neg (by omega)] at ef
            exact iteT ⟨by show 2 ≤ sizeLine; decide, fun t nt => ret ef nt⟩
        · rw [decide_eq_false c1]
          rw [if_neg (by omega)] at ef
          exact iteF ⟨_, rfl, iteT ⟨by show 2 ≤ sizeLine; decide, fun t nt => ret ef nt⟩⟩
      | _ => exact iteT ⟨by show 2 ≤ sizeLine; decide, fun t nt => ret rfl nt⟩
end
end TL
namespace TL
open PySem PySem.Spec PyProof.Rows L2
section
variable {P : Program} {w : World} {K : PySem.W.Frag} {mg : Str → Option Value} {base : Heap}
/-! ### what is due -/
def numB (lo hi : Int) : V → Bool
  | .int i => decide (lo ≤ i ∧ i ≤ hi)
  | _ => false
def spLIsNumber (K : PySem.W.Frag) : Sp := fun vs H Q _ => ∃ (v : V) (lo hi : Int), vs = [v, .int lo, .int hi] ∧ Kd K H v ∧ Q (.bl (numB lo hi v)) H
theorem ok_LIsNumber {f : Addr} {fd : FuncData} {k : Nat} (F : Fun K "_law_is_number" "_law_is_number" sLIsNumber f fd) (m_isinstance : mg "isinstance" = none) (m_int : mg "int" = none) (m_bool : mg "bool" = none) :
    FnOk P w K mg base CX0 (k + 1) f fd ["_law_value", "_law_low", "_law_high"] (spLIsNumber K) := by
  refine F.ok scLIsNumber (fun vs H Q E h => ?_) (fun cdv A outer s H vs Q E hr h => ?_)
  · obtain ⟨v, lo, hi, rfl, _⟩ := h
    rfl
  · obtain ⟨v, lo, hi, rfl, ⟨t, a, b, ty, k1, k2, e⟩, q⟩ := h
    refine ⟨_, (pss_one (ps_ret (pe_and (pe_callB (isiK K) (by rfl) m_isinstance (by decide +kernel) (pa_cons (pv 0) (pa_cons (pe_bltn (v := .ty "int") (by rfl) m_int (by decide +kernel) rfl) pa_nil))) (pe_and (pe_not (pe_callB (isiK K) (by rfl) m_isinstance (by decide +kernel) (pa_cons (pv 0) (pa_cons (pe_bltn (v := .ty "bool") (by rfl) m_bool (by decide +kernel) rfl) pa_nil)))) (pe_one (pe_chain op_le op_le (pv 1) (pv 0) (pv 2))))))), ?_⟩
    refine ⟨v, rfl, _, _, _, _, a, rfl, .ty "int", ty, k1, a, rfl, ?_⟩
    cases v with
    | int i =>
      have e : (a && !b) = true := e
      obtain ⟨ha, hb⟩ := Bool.and_eq_true_iff.mp e
      subst ha
      have hb : b = false := by cases b; rfl; cases hb
      subst hb
      refine iteT ⟨.int i, rfl, _, _, _, _, false, rfl, .ty "bool", ty, k2, false, rfl, ?_⟩
      refine ⟨true, rfl, iteT ?_⟩
      refine ⟨.int lo, rfl, .int i, rfl, _, _, rfl, rfl, _, rfl, ite2 (fun h => ?_) (fun h => ?_)⟩
      · have h := of_decide_eq_true h
        refine ⟨.int hi, rfl, _, _, rfl, rfl, ?_⟩
        have e : numB lo hi (.int i) = decide (i ≤ hi) := by
          show decide (lo ≤ i ∧ i ≤ hi) = _
          exact decide_eq_decide.mpr ⟨fun z => z.2, fun z => ⟨h, z⟩⟩
        rw [e] at q
        exact q
      · have h : ¬ lo ≤ i := fun z => h (decide_eq_true z)
        have e : numB lo hi (.int i) = false := decide_eq_false fun z => h z.1
        rw [e] at q
        exact q
    | _ =>
      have e : (a && !b) = false := e
      cases a with
      | false => exact iteF q
      | true =>
        have hb : b = true := by cases b; cases e; rfl
        subst hb
        refine iteT ⟨_, rfl, _, _, _, _, true, rfl, .ty "bool", ty, k2, true, rfl, ?_⟩
        exact ⟨false, rfl, iteF q⟩
/-! ### vertices that edges join -/
def spLJoined (K : PySem.W.Frag) : Sp := fun vs H Q _ => ∃ (g : Addr) (xs : List V) (es : List (Int × Int)) (v : Int), vs = [.ref g, .int v] ∧ SqT K H g xs ∧ DpAll K H xs (es.map prD) ∧ es.length ≤ 400 ∧
  ∀ (H' : Hp) (D : Addr), Same H H' → H D = none → H' D = some (.lst ((passes es v es.length).map V.int)) → Q (.ref D) H'
theorem jn_len {es : List (Int × Int)} {v : Int} {f : List Int} (h : Jn es v f) : f.length ≤ es.length + 1 := by
  have := h.cnt
  have := List.length_filter_le (inn f) es
  omega
theorem ok_LJoined {f : Addr} {fd : FuncData} {k : Nat} (F : Fun K "_law_joined" "_law_joined" sLJoined f fd) (m_range : mg "range" = none) (m_len : mg "len" = none) (m_int : mg "int" = none) :
    FnOk P w K mg base CX0 (k + 1) f fd ["_law_edges", "_law_first"] (spLJoined K) := by
  refine F.ok scLJoined (fun vs H Q E h => ?_) (fun cdv A outer s H vs Q E hr h => ?_)
  · obtain ⟨g, xs, es, v, rfl, _⟩ := h
    rfl
  · obtain ⟨g, xs, es, v, rfl, hg, hA, le, q⟩ := h
    have xl : xs.length = es.length := by rw [DpAll.length hA, List.length_map]
    refine ⟨_, (pss_cons (ps_set (i := 2) scLJoined.nd rfl (.inl rfl) (pe_lst (pa_cons (pv 1) pa_nil)))
    (pss_cons (ps_for PassesOwn.never rfl (pi_range1 (by rfl) m_range (pa_cons (pe_callB (lenK K) (by rfl) m_len (by decide +kernel) (pa_cons (pv 0) pa_nil)) pa_nil)) (pg_name (i := 3) scLJoined.nd rfl (Or.inl rfl))
    (pss_one (ps_for PassesOwn.never rfl (piTK K (pv 0)) (pgTK K (pgs_cons (pg_name (i := 4) scLJoined.nd rfl (Or.inl rfl)) (pgs_cons (pg_name (i := 5) scLJoined.nd rfl (Or.inl rfl)) pgs_nil)))
    (pss_one (ps_if (pt_cmpR op_ne (pe_cmpR (inK K) (pv 4) (pv 2) (by rfl)) (pe_cmpR (inK K) (pv 5) (pv 2) (by rfl)) (nomark _)) (pss_one (ps_expr (bmK K PySem.F.plainAttrs_list PySem.F.slot_list_append PySem.F.type_list_append mt_append (pv 2) (pa_cons (pe_ix (ixLK K) (pe_lst (pa_cons (pv 4) (pa_cons (pv 5) pa_nil))) (pe_callTy call_int1 (by rfl) m_int (by decide +kernel) (pa_cons (pe_cmpR (inK K) (pv 4) (pv 2) (by rfl)) pa_nil)) (fun _ _ => rfl)) pa_nil)))) pss_nil)))))
    (pss_one (ps_ret (pv 2))))), ?_⟩
    refine ⟨.int v, rfl, by show 1 ≤ sizeLine; decide, fun D nD => ?_⟩
    refine ⟨.ref g, rfl, g, xs, rfl, .inr (Same.tup (same_upd nD) hg), (xs.length : Int), rfl, by omega, by omega, for_range (lo := 0) (n := ((xs.length : Nat) : Int).toNat) (fun i σ H' => ∃ (y3 y4 y5 : Option V), σ = [some (.ref g), some (.int v), some (.ref D), y3, y4, y5] ∧
      Same H H' ∧ H' D = some (.lst ((passes es v i).map V.int))) ?_ ?_ ?_⟩
    · exact ⟨none, none, none, rfl, same_upd nD, upd_same⟩
    · rintro i σ H1 hi ⟨y3, y4, y5, rfl, s1, e1⟩
      refine ⟨.ref g, rfl, g, rfl, ⟨_, Same.tup s1 hg⟩, for_tup (K := K) (a := g) (xs := xs) (fun j σ H' => ∃ (y4 y5 : Option V), σ = [some (.ref g), some (.int v), some (.ref D), some (.int (0 + (i : Int))), y4, y5] ∧
        Same H H' ∧ H' D = some (.lst (((es.take j).foldl stp (passes es v i)).map V.int))) ?_ ?_ ?_ ?_⟩
      · exact ⟨_, _, rfl, s1, e1⟩
      · rintro j σ H' _ ⟨y4, y5, rfl, s2, _⟩
        exact Same.tup s2 hg
      · rintro j x σ H2 hx ⟨y4, y5, rfl, s2, e2⟩
        obtain ⟨z, hz, dz⟩ := DpAll.get hA hx
        rw [List.getElem?_map] at hz
        obtain ⟨p, hp, rfl⟩ := Option.map_eq_some_iff.mp hz
        obtain ⟨t, rfl, ht⟩ := Dp.prI (Dp.same s2 dz)
        have tk : es.take (j + 1) = es.take j ++ [p] := by rw [List.take_add_one, hp]; rfl
        have jn : Jn es v ((es.take j).foldl stp (passes es v i)) := Jn.fold (fun q hq => List.mem_of_mem_take hq) (Jn.passes es v i)
        have fl := jn_len jn
        have nxt : ((es.take (j + 1)).foldl stp (passes es v i)) = stp ((es.take j).foldl stp (passes es v i)) p := by
          rw [tk, List.foldl_append]
          rfl
        generalize (es.take j).foldl stp (passes es v i) = fo at e2 jn fl nxt
        refine ⟨t, _, rfl, ht, rfl, .int p.1, _, rfl, .int p.2, _, rfl, rfl, ?_⟩
        refine ⟨.int p.1, rfl, .ref D, rfl, D, fo.map V.int, rfl, .inl (SqL.of e2), rfl, flat_ints fo, ?_⟩
        refine ⟨.int p.2, rfl, .ref D, rfl, D, fo.map V.int, rfl, .inl (SqL.of e2), rfl, flat_ints fo, rfl, _, rfl, ?_⟩
        rw [nxt]
        simp only [Bool.false_eq_true, if_false, inV_ints]
        have es0 : decide (V.bl (decide (p.1 ∈ fo)) = V.bl (decide (p.2 ∈ fo))) = decide (decide (p.1 ∈ fo) = decide (p.2 ∈ fo)) := decide_eq_decide.mpr ⟨fun z => by injection z, fun z => by rw [z]⟩
        rw [es0]
        by_cases h : decide (p.1 ∈ fo) = decide (p.2 ∈ fo)
        · rw [decide_eq_true h]
          refine iteF ⟨_, _, rfl, s2, ?_⟩
          unfold stp
          rw [if_pos h]
          exact e2
        · rw [decide_eq_false h]
          refine iteT ⟨.ref D, rfl, .inl ⟨rfl, _, SqL.of e2⟩, .int p.1, rfl, .int p.2, rfl, by show 2 ≤ sizeLine; decide, fun B nB => ?_⟩
          have sB := same_upd (o := .lst [V.int p.1, V.int p.2]) nB
          have eB := same_at (o := .lst [V.int p.1, V.int p.2]) nB
          have e3 := sB _ _ e2
          generalize upd H2 B (.lst [V.int p.1, V.int p.2]) = H3 at sB eB e3 ⊢
          have fin : ∀ y : Int, y = (if p.1 ∈ fo then p.2 else p.1) → ∃ (y4 y5 : Option V), [some (V.ref g), some (V.int v), some (V.ref D), some (V.int (0 + (i : Int))), some (V.int p.1), some (V.int p.2)] = [some (V.ref g), some (V.int v), some (V.ref D), some (V.int (0 + (i : Int))), y4, y5] ∧
              Same H (upd H3 D (.lst (fo.map V.int ++ [V.int y]))) ∧ (upd H3 D (.lst (fo.map V.int ++ [V.int y]))) D = some (.lst ((stp fo p).map V.int)) := fun y hy => by
            refine ⟨_, _, rfl, fun b o eb => ?_, ?_⟩
            · rw [upd_ne (ne_of_none eb nD)]
              exact sB _ _ (s2 _ _ eb)
            · rw [upd_same]
              unfold stp
              rw [if_neg h, hy, List.map_append]
              rfl
          refine ⟨.int p.1, rfl, .ref D, rfl, D, fo.map V.int, rfl, .inl (SqL.of e3), rfl, flat_ints fo, .inr ⟨_, rfl, ?_⟩⟩
          simp only [Bool.false_eq_true, if_false, inV_ints]
          by_cases h1 : p.1 ∈ fo
          · rw [decide_eq_true h1]
            exact ⟨B, _, 1, .int p.2, rfl, rfl, SqL.of eB, atI_nat (j := 1) rfl, D, _, .int p.2, rfl, rfl, e3, small1000 (by rw [List.length_map]; omega), fin p.2 (by rw [if_pos h1])⟩
          · rw [decide_eq_false h1]
            exact ⟨B, _, 0, .int p.1, rfl, rfl, SqL.of eB, atI_nat (j := 0) rfl, D, _, .int p.1, rfl, rfl, e3, small1000 (by rw [List.length_map]; omega), fin p.1 (by rw [if_neg h1])⟩
      · rintro σ H2 ⟨y4, y5, rfl, s2, e2⟩
        rw [xl, List.take_length] at e2
        exact ⟨_, _, _, rfl, s2, e2⟩
    · rintro σ H1 ⟨y3, y4, y5, rfl, s1, e1⟩
      rw [Int.toNat_natCast, xl] at e1
      exact ⟨.ref D, rfl, q _ D s1 nD e1⟩
/-! ### the law's error of a value -/
theorem conn_pass {es : List (Int × Int)} {v b : Int} : b ∈ passes es v es.length ↔ Conn es v b := by
  constructor
  · exact fun h => (Jn.passes es v es.length).conn b h
  · intro h
    have cl := passes_closed es v
    induction h with
    | refl => exact (Jn.passes es v es.length).has
    | @step b c h1 h2 ih =>
      rcases h2 with h2 | h2
      · have := cl _ h2
        rw [decide_eq_true ih] at this
        exact of_decide_eq_true this.symm
      · have := cl _ h2
        rw [decide_eq_true ih] at this
        exact of_decide_eq_true this
theorem slV {H : Hp} {a : Addr} {xs : List V} {lo hi : Option Int} {Q : VK} (hx : SqT K H a xs) (q : ∀ H' z i j, i = HT.sIx xs.length 0 lo → j = HT.sIx xs.length xs.length hi - HT.sIx xs.length 0 lo → Same H H' → SqT K H' z ((xs.drop i).take j) → Q (.ref z) H') : rSlA K (.ref a) lo hi H Q := by
  refine ⟨a, _, rfl, hx, fun e => q _ a _ _ rfl rfl (Same.refl _) ?_, fun _ p np => ?_⟩
  · rw [e.1, e.2, List.drop_zero, Nat.sub_zero, List.take_length]
    exact hx
  · exact q _ p _ _ rfl rfl (same_upd np) (SqT.of upd_same)
theorem six_nn (n d : Nat) {i : Int} (h : 0 ≤ i) : HT.sIx n d (some i) = min i.toNat n := by
  show (if i < 0 then _ else min i.toNat n) = _
  rw [if_neg (by omega)]
theorem gd_all {H : Hp} : ∀ {es : List (Int × Int)} {xs : List V}, (∀ (j : Nat) (q : Int × Int), es[j]? = some q → ∃ t : Addr, xs[j]? = some (V.ref t) ∧ SqT K H t [.int q.1, .int q.2]) → DpAll K H (xs.take es.length) (es.map prD)
  | [], xs, _ => by
    rw [List.length_nil, List.take_zero]
    exact .nil
  | p :: es, xs, h => by
    obtain ⟨t, h1, h2⟩ := h 0 p rfl
    cases xs with
    | nil => simp at h1
    | cons x xs =>
      cases h1
      exact .cons (Dp.pr h2) (gd_all fun j q e => by simpa using h (j + 1) q (by simpa using e))
def spLError (K : PySem.W.Frag) : Sp := fun vs H Q _ => ∃ (z : V) (oi : Option (V × V)) (so : Option (List (Option (V × V)))), vs = [z] ∧ Iw K H z oi ∧ (∀ n e, oi = some (n, e) → Sv K H e so) ∧ ∀ H' r, Same H H' → Dp K H' r (forE so oi) → Q r H'
theorem ok_LError {f : Addr} {fd : FuncData} (F : Fun K "_law_error" "_law_error" sLError f fd) (m_isinstance : mg "isinstance" = none) (m_tuple : mg "tuple" = none) (m_len : mg "len" = none) (m_enumerate : mg "enumerate" = none)
    (oLIsNumber : Own P w K mg base "_law_is_number" 1 ["_law_value", "_law_low", "_law_high"] (spLIsNumber K)) (oLJoined : Own P w K mg base "_law_joined" 1 ["_law_edges", "_law_first"] (spLJoined K)) :
    FnOk P w K mg base CX0 2 f fd ["_law_value"] (spLError K) := by
  refine F.ok scLError (fun vs H Q E h => ?_) (fun cdv A outer s H vs Q E hr h => ?_)
  · obtain ⟨z, oi, so, rfl, _⟩ := h
    rfl
  · obtain ⟨z, oi, so, rfl, hz, hs, q⟩ := h
    have ret : ∀ {t : Addr} {c : String}, forE so oi = .tuple [.none, .str (Str.ofString c)] → H t = none → Q (.ref t) (upd H t (.tup [.non, .str (Str.ofString c)])) := fun {t c} e nt => by
      refine q _ _ (same_upd nt) ?_
      rw [e]
      exact .tup (SqT.of upd_same) (.cons .non (.cons (.str _) .nil))
    refine ⟨_, (pss_cons (ps_if (PW.pt (pw_or (pt_not (pt_val (pe_callB (isiK K) (by rfl) m_isinstance (by decide +kernel) (pa_cons (pv 0) (pa_cons (pe_bltn (v := .ty "tuple") (by rfl) m_tuple (by decide +kernel) rfl) pa_nil))))) (pw_or1 (pt_cmpR op_ne (pe_callB (lenK K) (by rfl) m_len (by decide +kernel) (pa_cons (pv 0) pa_nil)) pe_int (nomark _))))) (pss_one (ps_ret (pe_tup (pa_cons pe_non (pa_cons pe_str pa_nil))))) pss_nil)
    (pss_cons (ps_asg (pv 0) (pgTK K (pgs_cons (pg_name (i := 1) scLError.nd rfl (Or.inr rfl)) (pgs_cons (pg_name (i := 2) scLError.nd rfl (Or.inl rfl)) pgs_nil))))
    (pss_cons (ps_if (pt_not (pt_val (pe_own oLIsNumber (hr.mono (by decide)) (by rfl) (pa_cons (pv 1) (pa_cons pe_int (pa_cons pe_int pa_nil)))))) (pss_one (ps_ret (pe_tup (pa_cons pe_non (pa_cons pe_str pa_nil))))) pss_nil)
    (pss_cons (ps_if (pt_not (pt_val (pe_callB (isiK K) (by rfl) m_isinstance (by decide +kernel) (pa_cons (pv 2) (pa_cons (pe_bltn (v := .ty "tuple") (by rfl) m_tuple (by decide +kernel) rfl) pa_nil))))) (pss_one (ps_ret (pe_tup (pa_cons pe_non (pa_cons pe_str pa_nil))))) pss_nil)
    (pss_cons (ps_for PassesOwn.never rfl (pi_enumT K (by rfl) m_enumerate (pa_cons (pv 2) pa_nil)) (pgTK K (pgs_cons (pg_name (i := 3) scLError.nd rfl (Or.inl rfl)) (pgs_cons (pg_name (i := 4) scLError.nd rfl (Or.inl rfl)) pgs_nil)))
    (pss_cons (ps_if (PW.pt (pw_or (pt_not (pt_val (pe_callB (isiK K) (by rfl) m_isinstance (by decide +kernel) (pa_cons (pv 4) (pa_cons (pe_bltn (v := .ty "tuple") (by rfl) m_tuple (by decide +kernel) rfl) pa_nil))))) (pw_or1 (pt_cmpR op_ne (pe_callB (lenK K) (by rfl) m_len (by decide +kernel) (pa_cons (pv 4) pa_nil)) pe_int (nomark _))))) (pss_one (ps_ret (pe_tup (pa_cons (pv 3) (pa_cons pe_str pa_nil))))) pss_nil)
    (pss_cons (ps_if (PW.pt (pw_or (pt_cmpR (neEK K hr.units) (pe_lc (own := [("_law_end", 5)]) (g := (gName 5)) rfl scLError.nd (piTK K (pv 4))
      (blkOk_by (own := [("_law_end", 5)]) (N := nLError) (sc := (defScope sLError)) (by decide +kernel))
      (fun _ _ _ _ _ => (pg_name (i := 5) scLError.nd rfl (Or.inl rfl))) (fun _ _ _ _ _ => (pts_one (pt_not (pt_val (pe_own oLIsNumber (hr.mono (by decide)) (by rfl) (pa_cons (pv 5) (pa_cons pe_int (pa_cons (pe_op op_sub (pv 1) pe_int) pa_nil))))))))
      (fun _ _ _ _ _ => (pv 5))) (pe_lst pa_nil) (nomark _)) (pw_or1 (pt_cmpR op_ge (pe_ix (ixTK K) (pv 4) pe_int (fun _ _ => rfl)) (pe_ix (ixTK K) (pv 4) pe_int (fun _ _ => rfl)) (nomark _))))) (pss_one (ps_ret (pe_tup (pa_cons (pv 3) (pa_cons pe_str pa_nil))))) pss_nil)
    (pss_cons (ps_if (PW.pt (pw_and (pt_cmpR op_gt (pv 3) pe_int (nomark _)) (pw_and1 (pt_cmpR (gePK K hr.units) (pe_ix (ixTK K) (pv 2) (pe_op op_sub (pv 3) pe_int) (fun _ _ => rfl)) (pv 4) (nomark _))))) (pss_one (ps_ret (pe_tup (pa_cons (pv 3) (pa_cons pe_str pa_nil))))) pss_nil)
    (pss_one (ps_if (pt_cmpR (inK K) (pe_ix (ixTK K) (pv 4) pe_int (fun _ _ => rfl)) (pe_own oLJoined (hr.mono (by decide)) (by rfl) (pa_cons (pe_slice (slTK K) (pv 2) po_none (po_some (pv 3))) (pa_cons (pe_ix (ixTK K) (pv 4) pe_int (fun _ _ => rfl)) pa_nil))) (by rfl)) (pss_one (ps_ret (pe_tup (pa_cons (pv 3) (pa_cons pe_str pa_nil))))) pss_nil))))))
    (pss_one (ps_ret pe_non))))))), ?_⟩
    cases hz with
    | no h k => exact ⟨z, rfl, _, _, _, _, false, rfl, .ty "tuple", h, k, false, rfl, iteT ⟨by show 2 ≤ sizeLine; decide, fun t nt => ret rfl nt⟩⟩
    | @len a xs h l =>
      refine ⟨.ref a, rfl, _, _, _, _, true, rfl, .ty "tuple", ty_tup h, kit_ty (by decide +kernel), true, rfl, iteF ?_⟩
      refine ⟨.ref a, rfl, a, _, rfl, .inr h, rfl, true, ?_, iteT ⟨by show 2 ≤ sizeLine; decide, fun t nt => ret rfl nt⟩⟩
      rw [decide_eq_false (by intro z; exact l (by injection z with z; omega))]
      rfl
    | @two a n e h kn ke =>
      have se := hs n e rfl
      refine ⟨.ref a, rfl, _, _, _, _, true, rfl, .ty "tuple", ty_tup h, kit_ty (by decide +kernel), true, rfl, iteF ?_⟩
      refine ⟨.ref a, rfl, a, _, rfl, .inr h, rfl, false, rfl, iteF ?_⟩
      refine ⟨.ref a, rfl, a, _, rfl, h, rfl, _, _, rfl, _, _, rfl, rfl, ?_⟩
      refine ⟨n, rfl, n, 0, 12, rfl, kn, numB 0 12 n, rfl, ?_⟩
      cases n with
      | int i =>
        have ef : forE so (some (.int i, e)) = if 0 ≤ i ∧ i ≤ 12 then edE i.toNat so else .tuple [.none, .str (Str.ofString "vertices")] := rfl
        show if (!decide (0 ≤ i ∧ i ≤ 12)) = true then _ else _
        by_cases c1 : 0 ≤ i ∧ i ≤ 12
        case neg =>
          rw [decide_eq_false c1]
          rw [if_neg c1] at ef
          exact iteT ⟨by show 2 ≤ sizeLine; decide, fun t nt => ret ef nt⟩
        rw [decide_eq_true c1]
        rw [if_pos c1] at ef
        refine iteF ?_
        cases se with
        | no h2 k2 => exact ⟨e, rfl, _, _, _, _, false, rfl, .ty "tuple", h2, k2, false, rfl, iteT ⟨by show 2 ≤ sizeLine; decide, fun t nt => ret ef nt⟩⟩
        | @yes b xs os hb hi lx =>
        refine ⟨.ref b, rfl, _, _, _, _, true, rfl, .ty "tuple", ty_tup hb, kit_ty (by decide +kernel), true, rfl, iteF ?_⟩
        obtain ⟨m, rfl⟩ : ∃ m : Nat, i = (m : Int) := ⟨i.toNat, by omega⟩
        have ef : forE (some os) (some (.int (m : Int), .ref b)) = errD (errL m [] os) := ef
        rw [ef] at q
        clear ret ef hs
        refine ⟨.ref b, rfl, b, xs, rfl, hb, for_enumT (K := K) (a := b) (xs := xs) (fun i σ H' => ∃ (y3 y4 : Option V) (es : List (Int × Int)), σ = [some (.ref a), some (.int (m : Int)), some (.ref b), y3, y4, none] ∧
          Same H H' ∧ Gd K H' m xs es i ∧ errL m [] os = errL m es (os.drop i)) ?_ ?_ ?_ ?_⟩
        · exact ⟨none, none, [], rfl, Same.refl _, ⟨rfl, fun _ _ e => by simp at e, fun _ h => nomatch h⟩, rfl⟩
        · rintro i σ H' ⟨y3, y4, es, rfl, s2, _⟩
          exact Same.tup s2 hb
        · rintro i v T σ H2 hv nT ⟨y3, y4, es, rfl, s2, gd, he⟩
          have sT := same_upd (o := .tup [.int (i : Nat), v]) nT
          have et := same_at (o := .tup [.int (i : Nat), v]) nT
          have s3 := s2.trans sT
          have gd := gd.same sT
          have gl := gd.len
          have hix := (List.getElem?_eq_some_iff.mp hv).1
          obtain ⟨o, ho, hio⟩ := hi.drop i hv
          have hio := hio.same s3
          rw [ho] at he
          have ret : ∀ {H' : Hp} {t : Addr} {c : String}, errL m es (o :: os.drop (i + 1)) = some (es.length, Str.ofString c) → Same H H' → H' t = none → Q (.ref t) (upd H' t (.tup [.int (i : Nat), .str (Str.ofString c)])) := fun {H' t c} e s nt => by
            refine q _ _ (s.trans (same_upd nt)) ?_
            rw [he, e, gl]
            exact .tup (SqT.of upd_same) (.cons (.int _) (.cons (.str _) .nil))
          generalize upd H2 T (.tup [.int (i : Nat), v]) = H3 at sT s3 et gd hio ⊢
          refine ⟨T, _, rfl, SqT.of et, rfl, _, _, rfl, _, _, rfl, rfl, ?_⟩
          cases hio with
          | no h k => exact ⟨v, rfl, _, _, _, _, false, rfl, .ty "tuple", h, k, false, rfl, iteT ⟨.int (i : Int), rfl, by show 2 ≤ sizeLine; decide, fun t nt => ret (errL_edge rfl) s3 nt⟩⟩
          | @len c ys h l =>
            refine ⟨.ref c, rfl, _, _, _, _, true, rfl, .ty "tuple", ty_tup h, kit_ty (by decide +kernel), true, rfl, iteF ?_⟩
            refine ⟨.ref c, rfl, c, _, rfl, .inr h, rfl, true, ?_, iteT ⟨.int (i : Int), rfl, by show 2 ≤ sizeLine; decide, fun t nt => ret (errL_edge rfl) s3 nt⟩⟩
            rw [decide_eq_false (by intro z; injection z with z; exact l (by omega))]
            rfl
          | @two c u v h ku kv =>
          refine ⟨.ref c, rfl, _, _, _, _, true, rfl, .ty "tuple", ty_tup h, kit_ty (by decide +kernel), true, rfl, iteF ?_⟩
          refine ⟨.ref c, rfl, c, _, rfl, .inr h, rfl, false, rfl, iteF ?_⟩
          refine ⟨.ref c, rfl, c, rfl, ⟨_, h⟩, fun D nD => ?_⟩
          have sD := same_upd (o := .lst []) nD
          refine lc_tup (K := K) (a := c) (xs := [u, v]) (fun j H' => Same H3 H' ∧ H' D = some (.lst (([u, v].take j).filter fun v => !numB 0 ((m : Int) - 1) v))) ?_ ?_ ?_ ?_
          · exact ⟨sD, upd_same⟩
          · exact fun j H' _ p => Same.tup p.1 h
          · rintro j one H' hone ⟨s', eD⟩
            have kd : Kd K H3 one := by
              rcases List.mem_cons.mp (List.mem_of_getElem? hone) with e | e
              · rw [e]; exact ku
              · rw [List.mem_singleton.mp e]; exact kv
            refine ⟨rfl, ?_⟩
            refine ⟨one, rfl, .int (m : Int), rfl, _, _, rfl, rfl, one, 0, (m : Int) - 1, rfl, kd.same s', numB 0 ((m : Int) - 1) one, rfl, ?_⟩
            have tk : [u, v].take (j + 1) = [u, v].take j ++ [one] := by rw [List.take_add_one, hone]; rfl
            have ll : (([u, v].take j).filter fun v => !numB 0 ((m : Int) - 1) v).length ≤ 2 := Nat.le_trans (List.length_filter_le _ _) (by rw [List.length_take]; show min j 2 ≤ 2; omega)
            cases hbn : numB 0 ((m : Int) - 1) one with
            | true =>
              refine iteF ⟨s', ?_⟩
              rw [tk, List.filter_append, List.filter_cons_of_neg (by rw [hbn]; decide), List.filter_nil, List.append_nil]
              exact eD
            | false =>
              refine iteT ⟨one, rfl, _, eD, small1000 (by omega), fun h u eh => ?_, ?_⟩
              · rw [upd_ne (ne_of_none eh nD)]
                exact s' _ _ eh
              · rw [tk, List.filter_append, List.filter_cons_of_pos (by rw [hbn]; decide), List.filter_nil]
                exact upd_same
          · rintro H4 ⟨s4, eD⟩
            rw [List.take_length] at eD
            refine ⟨Nat.zero_le _, fun Z nZ => ?_⟩
            have sZ := same_upd (o := .lst []) nZ
            refine ⟨D, Z, _, rfl, rfl, SqL.of (sZ _ _ eD), SqL.of upd_same, _, rfl, ?_⟩
            have s5 := s4.trans sZ
            have s35 := s3.trans s5
            have gd := gd.same s5
            have h5 := Same.tup s5 h
            generalize upd H4 Z _ = H5 at s5 s35 gd h5 ⊢
            clear sZ nZ eD s4 sD nD
            by_cases hn : numB 0 ((m : Int) - 1) u = true ∧ numB 0 ((m : Int) - 1) v = true
            case neg =>
              have e1 : ([u, v].filter fun v => !numB 0 ((m : Int) - 1) v).isEmpty = false := by
                rw [List.isEmpty_eq_false_iff_exists_mem]
                by_cases c1 : numB 0 ((m : Int) - 1) u = true
                · have c2 : numB 0 ((m : Int) - 1) v = false := by
                    cases c : numB 0 ((m : Int) - 1) v with
                    | true => exact absurd ⟨c1, c⟩ hn
                    | false => rfl
                  exact ⟨v, List.mem_filter.mpr ⟨by simp, by rw [c2]; rfl⟩⟩
                · exact ⟨u, List.mem_filter.mpr ⟨by simp, by rw [Bool.eq_false_iff.mpr c1]; rfl⟩⟩
              rw [e1]
              have e0 : edgeO m (some (u, v)) = none := by
                cases u with
                | int a1 => cases v with
                  | int b1 =>
                    refine if_neg fun z => hn ⟨decide_eq_true ?_, decide_eq_true ?_⟩
                    · exact ⟨z.1, by have := z.2.1; have := z.2.2; show a1 ≤ _; omega⟩
                    · exact ⟨by have := z.1; have := z.2.1; show (0 : Int) ≤ b1; omega, by have := z.2.2; show b1 ≤ _; omega⟩
                  | _ => rfl
                | _ => rfl
              exact iteT ⟨.int (i : Int), rfl, by show 2 ≤ sizeLine; decide, fun t nt => ret (errL_edge e0) s35 nt⟩
            have e1 : ([u, v].filter fun v => !numB 0 ((m : Int) - 1) v).isEmpty = true := by
              rw [List.isEmpty_iff, List.filter_eq_nil_iff]
              intro w hw
              rcases List.mem_cons.mp hw with rfl | hw
              · rw [hn.1]; decide
              · rw [List.mem_singleton.mp hw, hn.2]; decide
            rw [e1]
            obtain ⟨a1, rfl⟩ : ∃ a1 : Int, u = .int a1 := by cases u <;> first | exact ⟨_, rfl⟩ | exact absurd hn.1 (show ¬ false = true by decide)
            obtain ⟨b1, rfl⟩ : ∃ b1 : Int, v = .int b1 := by cases v <;> first | exact ⟨_, rfl⟩ | exact absurd hn.2 (show ¬ false = true by decide)
            have r1 : 0 ≤ a1 ∧ a1 ≤ (m : Int) - 1 := of_decide_eq_true hn.1
            have r2 : 0 ≤ b1 ∧ b1 ≤ (m : Int) - 1 := of_decide_eq_true hn.2
            refine iteF ⟨.ref c, rfl, c, _, 0, .int a1, rfl, rfl, h5, atI_nat (j := 0) rfl, .ref c, rfl, c, _, 1, .int b1, rfl, rfl, h5, atI_nat (j := 1) rfl, _, _, rfl, rfl, _, rfl, ?_⟩
            by_cases cab : b1 ≤ a1
            · rw [decide_eq_true cab]
              have e0 : edgeO m (some (V.int a1, V.int b1)) = none := if_neg fun z => by have := z.2.1; exact absurd this (by show ¬ a1 < b1; omega)
              exact iteT ⟨.int (i : Int), rfl, by show 2 ≤ sizeLine; decide, fun t nt => ret (errL_edge e0) s35 nt⟩
            rw [decide_eq_false cab]
            refine iteF ?_
            have heo : edgeO m (some (V.int a1, V.int b1)) = some (a1, b1) := if_pos ⟨r1.1, by show a1 < b1; omega, by show b1 < _; omega⟩
            dsimp only [tNext]
            have ords : ∀ q, es.getLast? = some q → ∃ j t2, i = j + 1 ∧ xs[j]? = some (.ref t2) ∧ SqT K H5 t2 [.int q.1, .int q.2] := fun q hq => by
              rw [List.getLast?_eq_getElem?] at hq
              have hl := (List.getElem?_eq_some_iff.mp hq).1
              obtain ⟨t2, h1, h2⟩ := gd.at' _ q hq
              exact ⟨es.length - 1, t2, by omega, h1, h2⟩
            refine ifJ (R := fun c0 H4 => H4 = H5 ∧ ((c0 = false ∧ ∀ q, es.getLast? = some q → Bef q (a1, b1)) ∨ (c0 = true ∧ ∃ q, es.getLast? = some q ∧ ¬ Bef q (a1, b1)))) (fun R hR => ?_) (fun H4 h => ?_) (fun H4 h => ?_)
            · refine ⟨.int (i : Int), rfl, _, _, rfl, rfl, _, rfl, ?_⟩
              by_cases h0 : i = 0
              · subst h0
                rw [decide_eq_false (by decide)]
                refine iteF (hR _ _ ⟨rfl, .inl ⟨rfl, fun q hq => ?_⟩⟩)
                obtain ⟨j, _, hj, _⟩ := ords q hq
                omega
              · rw [decide_eq_true (show (0 : Int) < (i : Int) by omega)]
                obtain ⟨q, hq⟩ : ∃ q, es.getLast? = some q := by
                  cases e : es.getLast? with
                  | some q => exact ⟨q, rfl⟩
                  | none =>
                    have := List.getLast?_eq_none_iff.mp e
                    rw [this] at gl
                    exact absurd gl (by show ¬ 0 = i; omega)
                obtain ⟨j, t2, ej, hj, ht2⟩ := ords q hq
                refine iteT ⟨.ref b, rfl, .int (i : Int), rfl, _, _, rfl, rfl, b, _, _, _, rfl, rfl, Same.tup s35 hb, at_of (j := j) (by omega) hj, .ref c, rfl, t2, c, q, (a1, b1), rfl, rfl, ht2, h5, _, rfl, ?_⟩
                by_cases cb : Bef q (a1, b1)
                · rw [decide_eq_false (show ¬ (a1 < q.1 ∨ (a1 = q.1 ∧ b1 ≤ q.2)) from fun z => by unfold Bef at cb; have cb : q.1 < a1 ∨ (q.1 = a1 ∧ q.2 < b1) := cb; omega)]
                  refine hR _ _ ⟨rfl, .inl ⟨rfl, fun q' hq' => ?_⟩⟩
                  rw [hq] at hq'
                  cases hq'
                  exact cb
                · rw [decide_eq_true (show a1 < q.1 ∨ (a1 = q.1 ∧ b1 ≤ q.2) by
                    unfold Bef at cb
                    have cb : ¬ (q.1 < a1 ∨ (q.1 = a1 ∧ q.2 < b1)) := cb
                    omega)]
                  exact hR _ _ ⟨rfl, .inr ⟨rfl, q, hq, cb⟩⟩
            · obtain ⟨rfl, ⟨z, _⟩ | ⟨_, q', hq', hn⟩⟩ := h
              · cases z
              · exact ⟨.int (i : Int), rfl, by show 2 ≤ sizeLine; decide, fun t nt => ret (errL_order heo hq' hn) s35 nt⟩
            obtain ⟨rfl, ⟨_, hbf⟩ | ⟨z, _⟩⟩ := h
            rotate_left
            · cases z
            refine ⟨.ref c, rfl, c, _, 1, .int b1, rfl, rfl, h5, atI_nat (j := 1) rfl, .ref b, rfl, ?_⟩
            dsimp only [tNoPart]
            refine ⟨.int (i : Int), rfl, (i : Int), rfl, slV (Same.tup s35 hb) fun H6 z6 i6 j6 ei6 ej6 s6 e6 => ?_⟩
            have e0 : HT.sIx xs.length 0 (none : Option Int) = 0 := rfl
            rw [e0] at ei6 ej6
            rw [six_nn _ _ (by omega)] at ej6
            have ez : (xs.drop i6).take j6 = xs.take es.length := by
              rw [ei6, List.drop_zero, ej6, gl]
              congr 1
              omega
            rw [ez] at e6
            have gd6 := gd.same s6
            refine ⟨.ref c, rfl, c, _, 0, .int a1, rfl, rfl, Same.tup s6 h5, atI_nat (j := 0) rfl, z6, xs.take es.length, es, a1, rfl, e6, gd_all gd6.at', by omega, fun H7 D s7 nD eD => ?_⟩
            refine ⟨D, _, rfl, .inl (SqL.of eD), rfl, flat_ints _, _, rfl, ?_⟩
            have s37 := (s35.trans s6).trans s7
            simp only [Bool.false_eq_true, if_false, inV_ints]
            by_cases cn : Conn es a1 b1
            · rw [decide_eq_true (conn_pass.mpr cn)]
              exact iteT ⟨.int (i : Int), rfl, by show 2 ≤ sizeLine; decide, fun t nt => ret (errL_cycle heo hbf cn) s37 nt⟩
            · rw [decide_eq_false (fun z => cn (conn_pass.mp z))]
              exact iteF ⟨_, _, es ++ [(a1, b1)], rfl, s37, (gd6.same s7).add hv (Same.tup (s6.trans s7) h5) (mem_rng.mpr (by omega)) (mem_rng.mpr (by omega)), he.trans (errL_go heo hbf cn)⟩
        · rintro σ H2 ⟨y3, y4, es, rfl, s2, gd, he⟩
          rw [hi.len, List.drop_length] at he
          refine q _ _ s2 ?_
          rw [he]
          exact .non
      | _ => exact iteT ⟨by show 2 ≤ sizeLine; decide, fun t nt => ret rfl nt⟩
end
end TL
namespace TL
open PySem PySem.Spec PyProof.Rows L2
section
variable {P : Program} {w : World} {K : PySem.W.Frag} {mg : Str → Option Value} {base : Heap}
/-! ### changed forests -/
theorem catV {H : Hp} {a b : Addr} {xs ys : List V} {Q : VK} (hx : SqT K H a xs) (hy : SqT K H b ys) (hl : xs.length + ys.length ≤ 900) (q : ∀ H' z, Same H H' → SqT K H' z (xs ++ ys) → Q (.ref z) H') : rCatA K (.ref a) (.ref b) H Q := by
  refine ⟨a, b, xs, ys, rfl, rfl, hx, hy, Nat.le_of_lt (small1000 (by omega)), fun e => ?_, fun _ e => ?_, fun _ _ p np => ?_⟩
  · subst e
    exact q H b (Same.refl H) hy
  · subst e
    rw [List.append_nil] at q
    exact q H a (Same.refl H) hx
  · exact q _ p (same_upd np) (SqT.of upd_same)
/-- a value of a known size -/
def Gx (K : PySem.W.Frag) (d l g : Addr) (N k : Nat) (H : Hp) (v : V) : Prop := ∃ x, Bv K d l g 20 H v x ∧ Sw x N k
section
variable {d l g : Addr} {N k M j : Nat} {H H' : Hp} {v : V}
theorem Gx.same (s : Same H H') (h : Gx K d l g N k H v) : Gx K d l g N k H' v := h.imp fun _ z => ⟨z.1.same s, z.2⟩
theorem Gx.fm {n : Nat} (f : Fm d l H H') (D : Deck H d l n) (h : Gx K d l g N k H v) : Gx K d l g N k H' v := h.imp fun _ z => ⟨z.1.fm f D, z.2⟩
theorem Gx.le (h : Gx K d l g N k H v) (hN : N ≤ M) (hk : k ≤ j) : Gx K d l g M j H v := h.imp fun _ z => ⟨z.1, z.2.le hN hk⟩
theorem Ov.gx {x : PyData} (h : Ov K d l H v x) (fr : ∀ a, v = .ref a → a ≠ g) : Gx K d l g 300 3 H v := ⟨x, (h.bv fr).1.le (by decide), (h.bv fr).2⟩
theorem Gx.int {i : Int} (h : i.natAbs ≤ 1000) : Gx K d l g 300 3 H (.int i) := ⟨_, .int i (by omega), (sw_intB (by omega)).le (by decide) (by decide)⟩
theorem Gx.tup1 {a : Addr} {u : V} (e : SqT K H a [u]) (h : Gx K d l g N k H u) : Gx K d l g (N + 1) (k + 1) H (.ref a) := by
  obtain ⟨x, b, s⟩ := h
  exact ⟨_, .tup e (.cons b .nil) (by show 1 ≤ 40; decide), (SwB.one s).tup⟩
theorem Gx.tup2 {a : Addr} {u w : V} (e : SqT K H a [u, w]) (h : Gx K d l g N k H u) (g2 : Gx K d l g M k H w) : Gx K d l g (N + 1 + (M + 1)) (k + 1) H (.ref a) := by
  obtain ⟨x, b, s⟩ := h
  obtain ⟨y, c, t⟩ := g2
  exact ⟨_, .tup e (.cons b (.cons c .nil)) (by show 2 ≤ 40; decide), ((SwB.one s).app (SwB.one t)).tup⟩
theorem Gx.lst2 {a : Addr} {u w : V} (np : a ≠ sysModules) (e : H a = some (.lst [u, w])) (h1 : a ≠ d) (h2 : a ≠ l ∧ a ≠ g) (h : Gx K d l g N k H u) (g2 : Gx K d l g M k H w) : Gx K d l g (N + 1 + (M + 1)) (k + 1) H (.ref a) := by
  obtain ⟨x, b, s⟩ := h
  obtain ⟨y, c, t⟩ := g2
  exact ⟨_, .lst np e h1 h2 (.cons b (.cons c .nil)) (by show 2 ≤ 40; decide), ((SwB.one s).app (SwB.one t)).lst⟩
/-- items of a known size -/
def Ga (K : PySem.W.Frag) (d l g : Addr) (N k : Nat) (H : Hp) (vs : List V) : Prop := ∃ xs, BvAll K d l g 20 H vs xs ∧ SwB xs N k
theorem Ga.same {vs : List V} (s : Same H H') (h : Ga K d l g N k H vs) : Ga K d l g N k H' vs := h.imp fun _ z => ⟨z.1.same s, z.2⟩
theorem Ga.fm {n : Nat} {vs : List V} (f : Fm d l H H') (D : Deck H d l n) (h : Ga K d l g N k H vs) : Ga K d l g N k H' vs := h.imp fun _ z => ⟨z.1.fm f D, z.2⟩
theorem Ga.le {vs : List V} (h : Ga K d l g N k H vs) (hN : N ≤ M) (hk : k ≤ j) : Ga K d l g M j H vs := h.imp fun _ z => ⟨z.1, z.2.le hN hk⟩
theorem Ga.app {vs us : List V} (h : Ga K d l g N k H vs) (g2 : Ga K d l g M k H us) : Ga K d l g (N + M) k H (vs ++ us) := by
  obtain ⟨x, b, s⟩ := h
  obtain ⟨y, c, t⟩ := g2
  exact ⟨_, b.append c, s.app t⟩
theorem Ga.one {u : V} (h : Gx K d l g N k H u) : Ga K d l g (N + 1) k H [u] := by
  obtain ⟨x, b, s⟩ := h
  exact ⟨_, .cons b .nil, SwB.one s⟩
theorem Ga.cut {vs : List V} (i j : Nat) (h : Ga K d l g N k H vs) : Ga K d l g N k H ((vs.drop i).take j) := by
  obtain ⟨x, b, s⟩ := h
  exact ⟨_, (b.drop i).take j, s.cut i j⟩
theorem Ga.rev {vs : List V} (h : Ga K d l g N k H vs) : Ga K d l g N k H vs.reverse := by
  obtain ⟨x, b, s⟩ := h
  exact ⟨_, b.rev, s.rev⟩
theorem Ga.tup {a : Addr} {vs : List V} (e : SqT K H a vs) (h : Ga K d l g N k H vs) (len : vs.length ≤ 40) : Gx K d l g N (k + 1) H (.ref a) := by
  obtain ⟨x, b, s⟩ := h
  exact ⟨_, .tup e b len, s.tup⟩
theorem Ga.lst {a : Addr} {vs : List V} (np : a ≠ sysModules) (e : H a = some (.lst vs)) (h1 : a ≠ d) (h2 : a ≠ l ∧ a ≠ g) (h : Ga K d l g N k H vs) (len : vs.length ≤ 40) : Gx K d l g N (k + 1) H (.ref a) := by
  obtain ⟨x, b, s⟩ := h
  exact ⟨_, .lst np e h1 h2 b len, s.lst⟩
theorem Ga.get {vs : List V} {i : Nat} (h : Ga K d l g N k H vs) (e : vs[i]? = some v) : Gx K d l g N k H v := by
  obtain ⟨x, b, s⟩ := h
  obtain ⟨y, hy, by_⟩ := b.get e
  exact ⟨_, by_, s.get hy⟩
end
def okP (p : Int × Int) : Prop := (0 ≤ p.1 ∧ p.1 ≤ 20) ∧ 0 ≤ p.2 ∧ p.2 ≤ 20
theorem bvPr {d l g : Addr} {b : Nat} {H : Hp} {t : Addr} {p : Int × Int} (h : SqT K H t [.int p.1, .int p.2]) (o : okP p) : Bv K d l g b H (.ref t) (prD p) := by
  unfold okP at o
  exact .tup h (.cons (.int _ (by omega)) (.cons (.int _ (by omega)) .nil)) (by show 2 ≤ 20 + b; omega)
theorem swPr {p : Int × Int} (o : okP p) : Sw (prD p) 22 1 := by
  unfold okP at o
  exact Sw.tup (n := 10) (k := 0) (m := 2) (fun z hz => by
    rcases List.mem_cons.mp hz with rfl | hz
    · exact (Sm.int (by unfold sm; omega)).sw
    · rw [List.mem_singleton.mp hz]
      exact (Sm.int (by unfold sm; omega)).sw) (Nat.le_refl _)
theorem gaPrs {d l g : Addr} {H : Hp} : ∀ {ps : List (Int × Int)} {vs : List V}, DpAll K H vs (ps.map prD) → (∀ p ∈ ps, okP p) → Ga K d l g (23 * ps.length) 1 H vs
  | [], _, h, _ => by
    cases h
    exact ⟨[], .nil, ⟨fun _ z => (nomatch z), by simp [PyData.weightAll]⟩⟩
  | p :: ps, _, h, o => by
    cases h with
    | @cons v vs _ _ h1 h2 =>
      obtain ⟨t, rfl, ht⟩ := Dp.prI h1
      have g2 := gaPrs (d := d) (l := l) (g := g) h2 fun q hq => o q (List.mem_cons_of_mem _ hq)
      have g1 : Ga K d l g (22 + 1) 1 H [.ref t] := Ga.one ⟨_, bvPr ht (o p List.mem_cons_self), swPr (o p List.mem_cons_self)⟩
      exact (g1.app g2).le (by rw [List.length_cons]; omega) (Nat.le_refl _)
theorem rows_of {H : Hp} : ∀ {ys : List V} {bs : List (List Int)}, DpAll K H ys (bs.map intsD) → ∃ ks : List (Addr × List Int), ys = ks.map (fun p => V.ref p.1) ∧ ks.map (·.2) = bs ∧ ∀ p ∈ ks, SqT K H p.1 (p.2.map V.int)
  | [], [], _ => ⟨[], rfl, rfl, fun _ z => nomatch z⟩
  | _ :: _, b :: bs, .cons h a => by
    obtain ⟨c, rfl, hc⟩ := Dp.intsI h
    obtain ⟨ks, e1, e2, h3⟩ := rows_of a
    refine ⟨(c, b) :: ks, by rw [List.map_cons, e1], by rw [List.map_cons, e2], fun p hp => ?_⟩
    rcases List.mem_cons.mp hp with z | z
    · rw [z]; exact hc
    · exact h3 p z
theorem nd_len {α : Type} [DecidableEq α] : ∀ {l D : List α}, l.Nodup → (∀ x ∈ l, x ∈ D) → l.length ≤ D.length
  | [], _, _, _ => Nat.zero_le _
  | a :: l, D, nd, s => by
    obtain ⟨na, nd⟩ := List.nodup_cons.mp nd
    have ha := s a List.mem_cons_self
    have ih := nd_len (D := D.erase a) nd fun x hx => (List.mem_erase_of_ne (fun z : x = a => na (by rw [← z]; exact hx))).mpr (s x (List.mem_cons_of_mem _ hx))
    rw [List.length_erase_of_mem ha] at ih
    have : 0 < D.length := List.length_pos_of_mem ha
    rw [List.length_cons]
    omega
def rw2 (p : Int × Int) : List Int := [p.1, p.2]
theorem of_rows : ∀ {R : List (List Int)} {E : List (Int × Int)}, (∀ r ∈ R, r ∈ E.map rw2) → ∃ ps : List (Int × Int), R = ps.map rw2 ∧ ∀ p ∈ ps, p ∈ E
  | [], _, _ => ⟨[], rfl, fun _ h => nomatch h⟩
  | r :: R, E, h => by
    obtain ⟨p, hp, rfl⟩ := List.mem_map.mp (h r List.mem_cons_self)
    obtain ⟨ps, rfl, hps⟩ := of_rows fun r hr => h r (List.mem_cons_of_mem _ hr)
    refine ⟨p :: ps, rfl, fun q hq => ?_⟩
    rcases List.mem_cons.mp hq with rfl | hq
    · exact hp
    · exact hps q hq
theorem Gx.pr {d l g : Addr} {H : Hp} {t : Addr} {a b : Int} (h : SqT K H t [.int a, .int b]) (ha : 0 ≤ a ∧ a ≤ 20) (hb : 0 ≤ b ∧ b ≤ 20) : Gx K d l g 300 3 H (.ref t) :=
  ⟨_, bvPr (p := (a, b)) h ⟨ha, hb⟩, (swPr (p := (a, b)) ⟨ha, hb⟩).le (by decide) (by decide)⟩
/-- what stays while the values are made -/
structure Es (K : PySem.W.Frag) (d l g : Addr) (n : Nat) (eb : Addr) (exs : List V) (it : V) (H0 H : Hp) (vs : List V) : Prop where
  st : SqT K H eb exs
  ga : Ga K d l g 300 2 H exs
  gi : Gx K d l g 300 3 H it
  dk : Deck H d l n
  f0 : Fm d l H0 H
  al : ∀ v ∈ vs, Gx K d l g 4000 15 H v
  he : ∃ o, H g = some o
section
variable {d l g : Addr} {n : Nat} {eb : Addr} {exs : List V} {it : V} {H0 H H' : Hp} {vs : List V}
theorem Es.same (s : Same H H') (h : Es K d l g n eb exs it H0 H vs) : Es K d l g n eb exs it H0 H' vs := ⟨Same.tup s h.st, h.ga.same s, h.gi.same s, h.dk.same s, h.f0.trans (Same.fm s), fun v hv => (h.al v hv).same s, h.he.imp fun _ z => s _ _ z⟩
theorem Es.add {v : V} (h : Es K d l g n eb exs it H0 H vs) (gg : Gx K d l g 4000 15 H v) : Es K d l g n eb exs it H0 H (vs ++ [v]) := ⟨h.st, h.ga, h.gi, h.dk, h.f0, fun u hu => by
  rcases List.mem_append.mp hu with hu | hu
  · exact h.al u hu
  · rw [List.mem_singleton.mp hu]; exact gg, h.he⟩
end
def spLChanged (K : PySem.W.Frag) : Sp := fun vs H Q _ => ∃ (d l g : Addr) (n : Nat) (x : V) (m : Nat) (es : List (Int × Int)), vs = [.ref d, x] ∧ Deck H d l n ∧ n < 800000 ∧ m ≤ 12 ∧ IsFor m es ∧ Dp K H x (forD m es) ∧ (∀ (H' : Hp) (n' : Nat), Deck H' d l n' → Fm d l H H' → ∃ o, H' g = some o) ∧
  ∀ H' v, Fm d l H H' → Deck H' d l (n + 12) → Gx K d l g 5000 20 H' v → Q v H'
theorem ok_LChanged {f : Addr} {fd : FuncData} (F : Fun K "_law_changed" "_law_changed" sLChanged f fd) (m_len : mg "len" = none) (m_max : mg "max" = none) (m_min : mg "min" = none) (m_list : mg "list" = none) (m_tuple : mg "tuple" = none) (m_sorted : mg "sorted" = none) (m_set : mg "set" = none)
    (oLDraw : Own P w K mg base "_law_draw" 1 ["_law_deck_here", "_law_limit"] spLDraw) (oLOdd : Own P w K mg base "_law_odd" 2 ["_law_deck_here"] (spLOdd K)) :
    FnOk P w K mg base CX0 3 f fd ["_law_deck_here", "_law_forest_here"] (spLChanged K) := by
  refine F.ok scLChanged (fun vs H Q E h => ?_) (fun cdv A outer s H vs Q E hr h => ?_)
  · obtain ⟨d, l, g, n, x, m, es, rfl, _⟩ := h
    rfl
  · obtain ⟨d, l, g, n, x, m, es, rfl, hD, hn, hm, isf, hx, hg, q⟩ := h
    obtain ⟨fa, eb, exs, rfl, hfa, heb, hA⟩ := Dp.forI hx
    have ec := isf.count
    have lxs : exs.length = es.length := by rw [DpAll.length hA, List.length_map]
    have oks : ∀ p ∈ es, okP p := fun p hp => by
      have := isf.rng p hp
      exact ⟨by omega, by omega⟩
    have g0 : Ga K d l g 300 2 H exs := (gaPrs hA oks).le (by omega) (by decide)
    refine ⟨_, (pss_cons (ps_asg (pv 1) (pgTK K (pgs_cons (pg_name (i := 2) scLChanged.nd rfl (Or.inl rfl)) (pgs_cons (pg_name (i := 3) scLChanged.nd rfl (Or.inl rfl)) pgs_nil))))
    (pss_cons (ps_par (by rfl) scLChanged.nd (i := 4) (j := 5) rfl rfl (by decide) rfl rfl (pa_cons (pe_own oLDraw (hr.mono (by decide)) (by rfl) (pa_cons (pv 0) (pa_cons (pe_op op_add (pe_callB (lenK K) (by rfl) m_len (by decide +kernel) (pa_cons (pv 3) pa_nil)) pe_int) pa_nil))) (pa_cons (pe_own oLDraw (hr.mono (by decide)) (by rfl) (pa_cons (pv 0) (pa_cons (pe_op op_add (pe_callB (lenK K) (by rfl) m_len (by decide +kernel) (pa_cons (pv 3) pa_nil)) pe_int) pa_nil))) pa_nil)) (by rfl))
    (pss_cons (ps_par (by rfl) scLChanged.nd (i := 6) (j := 7) rfl rfl (by decide) rfl rfl (pa_cons (pe_own oLDraw (hr.mono (by decide)) (by rfl) (pa_cons (pv 0) (pa_cons pe_int pa_nil))) (pa_cons (pe_own oLDraw (hr.mono (by decide)) (by rfl) (pa_cons (pv 0) (pa_cons pe_int pa_nil))) pa_nil)) (by rfl))
    (pss_cons (ps_set (i := 8) scLChanged.nd rfl (.inl rfl) (pe_lst (pa_cons (pe_own oLOdd (hr.mono (by decide)) (by rfl) (pa_cons (pv 0) pa_nil)) (pa_cons (pe_tup (pa_cons (pe_callB (call_min2 rfl) (by rfl) m_min (by decide +kernel) (pa_cons (pv 6) (pa_cons (pv 7) pa_nil))) (pa_cons (pe_callB (call_max2 rfl) (by rfl) m_max (by decide +kernel) (pa_cons (pv 6) (pa_cons (pv 7) pa_nil))) pa_nil))) (pa_cons (pe_tup (pa_cons (pv 6) (pa_cons (pv 7) pa_nil))) (pa_cons (pe_tup (pa_cons pe_int (pa_cons (pe_callB (call_max2 rfl) (by rfl) m_max (by decide +kernel) (pa_cons pe_int (pa_cons (pe_op op_sub (pv 2) pe_int) pa_nil))) pa_nil))) pa_nil))))))
    (pss_cons (ps_set (i := 9) scLChanged.nd rfl (.inl rfl) (pe_ix (ixLK K) (pv 8) (pe_own oLDraw (hr.mono (by decide)) (by rfl) (pa_cons (pv 0) (pa_cons pe_int pa_nil))) (fun _ _ => rfl)))
    (pss_cons (ps_set (i := 10) scLChanged.nd rfl (.inl rfl) (pe_callTy (tupleK K) (by rfl) m_tuple (by decide +kernel) (pa_cons (pe_callB (cr_sortSet rfl hr.units) (by rfl) m_sorted (by decide +kernel) (pa_cons (pe_callTy (cr_setP rfl hr.units) (by rfl) m_set (by decide +kernel) (pa_cons (pe_op (catAK K) (pv 3) (pe_tup (pa_cons (pe_tup (pa_cons (pe_callB (call_min2 rfl) (by rfl) m_min (by decide +kernel) (pa_cons (pv 6) (pa_cons (pv 7) pa_nil))) (pa_cons (pe_callB (call_max2 rfl) (by rfl) m_max (by decide +kernel) (pa_cons (pv 6) (pa_cons (pv 7) pa_nil))) pa_nil))) pa_nil))) pa_nil)) pa_nil)) pa_nil)))
    (pss_cons (ps_set (i := 11) scLChanged.nd rfl (.inl rfl) (pe_lst (pa_cons (pe_op (catAK K) (pe_op (catAK K) (pe_slice (slTK K) (pv 3) po_none (po_some (pv 4))) (pe_tup (pa_cons (pv 9) pa_nil))) (pe_slice (slTK K) (pv 3) (po_some (pv 4)) po_none)) (pa_cons (pe_op (catAK K) (pe_op (catAK K) (pe_slice (slTK K) (pv 3) po_none (po_some (pv 4))) (pe_tup (pa_cons (pv 9) pa_nil))) (pe_slice (slTK K) (pv 3) (po_some (pe_op op_add (pv 4) pe_int)) po_none)) (pa_cons (revTK K (pv 3)) (pa_cons (pv 10) pa_nil))))))
    (pss_cons (ps_set (i := 11) scLChanged.nd rfl (.inl rfl) (pe_op op_cat (pv 11) (pe_lst (pa_cons (pe_op (catAK K) (pv 3) (pe_slice (slTK K) (pv 3) (po_some (pe_un un_neg pe_int)) po_none)) (pa_cons (pe_op (catAK K) (pe_slice (slTK K) (pv 3) (po_some (pv 5)) po_none) (pe_slice (slTK K) (pv 3) po_none (po_some (pv 5)))) (pa_cons (pe_callTy (listSK K) (by rfl) m_list (by decide +kernel) (pa_cons (pv 3) pa_nil)) (pa_cons (pv 9) (pa_cons (pe_tup (pa_cons (pv 3) pa_nil)) pa_nil))))))))
    (pss_cons (ps_set (i := 12) scLChanged.nd rfl (.inl rfl) (pe_lst (pa_cons (pe_tup (pa_cons (pv 2) (pa_cons (pe_ix (ixLK K) (pv 11) (pe_own oLDraw (hr.mono (by decide)) (by rfl) (pa_cons (pv 0) (pa_cons pe_int pa_nil))) (fun _ _ => rfl)) pa_nil))) (pa_cons (pe_tup (pa_cons (pv 2) (pa_cons (pv 10) pa_nil))) (pa_cons (pe_tup (pa_cons (pe_op op_sub (pv 2) pe_int) (pa_cons (pv 3) pa_nil))) (pa_cons (pe_tup (pa_cons (pe_op op_add (pv 2) pe_int) (pa_cons (pv 3) pa_nil))) (pa_cons (pe_tup (pa_cons (pe_own oLOdd (hr.mono (by decide)) (by rfl) (pa_cons (pv 0) pa_nil)) (pa_cons (pv 3) pa_nil))) pa_nil)))))))
    (pss_cons (ps_set (i := 12) scLChanged.nd rfl (.inl rfl) (pe_op op_cat (pv 12) (pe_lst (pa_cons (pe_tup (pa_cons (pv 2) (pa_cons (pv 3) (pa_cons (pe_tup pa_nil) pa_nil)))) (pa_cons (pe_tup (pa_cons (pv 3) (pa_cons (pv 2) pa_nil))) (pa_cons (pe_lstS (pa_cons (pv 2) (pa_cons (pv 3) pa_nil))) (pa_cons (pe_tup (pa_cons (pv 2) pa_nil)) (pa_cons (pv 3) pa_nil))))))))
    (pss_one (ps_ret (pe_ix (ixLK K) (pv 12) (pe_own oLDraw (hr.mono (by decide)) (by rfl) (pa_cons (pv 0) (pa_cons pe_int pa_nil))) (fun _ _ => rfl)))))))))))))), ?_⟩
    refine ⟨.ref fa, rfl, fa, _, rfl, hfa, rfl, _, _, rfl, _, _, rfl, rfl, ?_⟩
    -- at, to, a, b
    refine ⟨.ref d, rfl, .ref eb, rfl, eb, _, rfl, .inr heb, _, _, rfl, rfl, d, l, n, _, rfl, by omega, by omega, hD, by omega, fun H1 at' a0 a1 f1 d1 => ?_⟩
    have k1 : KT K H H1 := f1.kt hD
    refine ⟨.ref d, rfl, .ref eb, rfl, eb, _, rfl, .inr (k1 _ _ heb), _, _, rfl, rfl, d, l, _, _, rfl, by omega, by omega, d1, by omega, fun H2 to' t0 t1 f2 d2 => ⟨.int at', .int to', rfl, ?_⟩⟩
    refine ⟨.ref d, rfl, d, l, _, 13, rfl, by decide, by decide, d2, by omega, fun H3 a a0' a1' f3 d3 => ?_⟩
    refine ⟨.ref d, rfl, d, l, _, 13, rfl, by decide, by decide, d3, by omega, fun H4 b b0 b1 f4 d4 => ⟨.int a, .int b, rfl, ?_⟩⟩
    have f04 := ((f1.trans f2).trans f3).trans f4
    have k04 : KT K H H4 := f04.kt hD
    -- items
    refine ⟨.ref d, rfl, d, l, _, rfl, d4, by omega, fun H5 od xo f5 d5 ov fr0 => ?_⟩
    have fr : ∀ a, od = .ref a → a ≠ g := fun a z e => by
      subst e
      have z2 := fr0 _ z
      obtain ⟨o, ho⟩ := hg _ _ d4 f04
      rw [ho] at z2
      cases z2
    obtain ⟨mn, emn⟩ : ∃ mn : Int, mn = if b < a then b else a := ⟨_, rfl⟩
    obtain ⟨mx, emx⟩ : ∃ mx : Int, mx = if b > a then b else a := ⟨_, rfl⟩
    have rmn : 0 ≤ mn ∧ mn ≤ 13 := by rw [emn]; split <;> omega
    have rmx : 0 ≤ mx ∧ mx ≤ 13 := by rw [emx]; split <;> omega
    refine ⟨.int a, rfl, .int b, rfl, a, b, rfl, .int a, rfl, .int b, rfl, a, b, rfl, by show 2 ≤ sizeLine; decide, fun t1 n1 => ?_⟩
    rw [← emn, ← emx]
    have s1 := same_upd (o := .tup [V.int mn, V.int mx]) n1
    have e1 := same_at (o := .tup [V.int mn, V.int mx]) n1
    refine ⟨.int a, rfl, .int b, rfl, by show 2 ≤ sizeLine; decide, fun t2 n2 => ?_⟩
    have s2 := same_upd (o := .tup [V.int a, V.int b]) n2
    have e2 := same_at (o := .tup [V.int a, V.int b]) n2
    refine ⟨.int (m : Int), rfl, _, _, rfl, rfl, 1, (m : Int) - 1, rfl, by show 2 ≤ sizeLine; decide, fun t3 n3 => ?_⟩
    obtain ⟨mz, emz⟩ : ∃ mz : Int, mz = if (m : Int) - 1 > 1 then (m : Int) - 1 else 1 := ⟨_, rfl⟩
    have rmz : 0 ≤ mz ∧ mz ≤ 20 := by rw [emz]; split <;> omega
    rw [← emz]
    have s3 := same_upd (o := .tup [V.int 0, V.int mz]) n3
    have e3 := same_at (o := .tup [V.int 0, V.int mz]) n3
    refine ⟨by show 4 ≤ sizeLine; decide, fun L nL => ?_⟩
    have sL := same_upd (o := .lst [od, V.ref t1, V.ref t2, V.ref t3]) nL
    have eL := same_at (o := .lst [od, V.ref t1, V.ref t2, V.ref t3]) nL
    have s23 := (s2.trans s3).trans sL
    have items : ∀ u ∈ [od, V.ref t1, V.ref t2, V.ref t3], Gx K d l g 300 3 (upd (upd (upd (upd H5 t1 (.tup [V.int mn, V.int mx])) t2 (.tup [V.int a, V.int b])) t3 (.tup [V.int 0, V.int mz])) L (.lst [od, V.ref t1, V.ref t2, V.ref t3])) u := fun u hu => by
      rcases List.mem_cons.mp hu with rfl | hu
      · exact (ov.gx fr).same (s1.trans s23)
      rcases List.mem_cons.mp hu with rfl | hu
      · exact .pr (SqT.of (s23 _ _ e1)) (by omega) (by omega)
      rcases List.mem_cons.mp hu with rfl | hu
      · exact .pr (SqT.of ((s3.trans sL) _ _ e2)) (by omega) (by omega)
      · rw [List.mem_singleton.mp hu]
        exact .pr (SqT.of (sL _ _ e3)) (by omega) rmz
    have li : [od, V.ref t1, V.ref t2, V.ref t3].length = 4 := rfl
    have d6 := d5.same (s1.trans s23)
    have f06 := (f04.trans f5).trans (Same.fm (s1.trans s23))
    have oL := (((d5.same s1).same s2).same s3).off nL
    generalize [od, V.ref t1, V.ref t2, V.ref t3] = its at eL items li d6 f06 ⊢
    generalize upd (upd (upd (upd H5 t1 _) t2 _) t3 _) L _ = H6 at eL items d6 f06 ⊢
    clear s23 sL s3 e3 n3 s2 e2 n2 s1 e1 n1
    refine ⟨.ref L, rfl, .ref d, rfl, d, l, _, 4, rfl, by decide, by decide, d6, by omega, fun H7 i i0 i1 f7 d7 => ?_⟩
    have hi4 : i.toNat < its.length := by omega
    refine ⟨L, its, i, its[i.toNat], rfl, rfl, SqL.of (f7 _ _ oL.1 oL.2 eL), at_of (j := i.toNat) (by omega) (List.getElem?_eq_getElem hi4), ?_⟩
    have git := (items _ (List.getElem_mem hi4)).fm f7 d6
    generalize its[i.toNat] = it at git ⊢
    have f07 := f06.trans f7
    have k07 : KT K H H7 := f07.kt hD
    have hA7 := DpAll.kt k07 hA (only_prs _)
    have en : Es K d l g (n + 6) eb exs it H H7 [] := ⟨k07 _ _ heb, g0.fm f07 hD, git, d7.le (by omega), f07, (fun _ h => nomatch h), hg _ _ d7 f07⟩
    clear git f7 d7 hi4 eL items li d6 f06 oL
    -- one edge more, sorted
    refine ⟨.ref eb, rfl, .int a, rfl, .int b, rfl, a, b, rfl, .int a, rfl, .int b, rfl, a, b, rfl, by show 2 ≤ sizeLine; decide, fun t4 n4 => ⟨by show 1 ≤ sizeLine; decide, fun t5 n5 => ?_⟩⟩
    rw [← emn, ← emx] at n5 ⊢
    have s4 := same_upd (o := .tup [V.int mn, V.int mx]) n4
    have e4 := same_at (o := .tup [V.int mn, V.int mx]) n4
    have s5 := same_upd (o := .tup [V.ref t4]) n5
    have e5 := same_at (o := .tup [V.ref t4]) n5
    refine catV (Same.tup (s4.trans s5) en.st) (SqT.of e5) (by show exs.length + 1 ≤ 900; omega) fun H8 z8 s8 e8 => ?_
    have s48 := (s4.trans s5).trans s8
    have dE : DpAll K H8 (exs ++ [V.ref t4]) (((es ++ [(mn, mx)]).map rw2).map intsD) := by
      have e : ((es ++ [(mn, mx)]).map rw2).map intsD = es.map prD ++ [prD (mn, mx)] := by rw [List.map_map, List.map_append]; rfl
      rw [e]
      exact DpAll.append (DpAll.same s48 hA7) (.cons (Dp.pr (SqT.of ((s5.trans s8) _ _ e4))) .nil)
    obtain ⟨ks, eks, ek, hk⟩ := rows_of dE
    rw [eks] at e8
    have lk : ks.length = es.length + 1 := by
      have := congrArg List.length ek
      rw [List.length_map, List.length_map, List.length_append] at this
      exact this
    refine ⟨z8, ks, rfl, e8, hk, by omega, fun St Ls nS hsub hall => ?_⟩
    have sS := same_upd (o := SetTO P w St Ls) nS
    have inE : ∀ p ∈ Ls, p.2 ∈ (es ++ [(mn, mx)]).map rw2 := fun p hp => by rw [← ek]; exact List.mem_map.mpr ⟨p, hsub p hp, rfl⟩
    refine ⟨St, Ls, rfl, upd_same, fun p hp => Same.tup sS (hk p (hsub p hp)), fun p hp => ?_, fun L' p zs np pm nd dz => ?_⟩
    · obtain ⟨pp, _, e⟩ := List.mem_map.mp (inE p hp)
      rw [← e]
      exact fun z => nomatch z
    have dz : DpAll K (upd H8 St (SetTO P w St Ls)) zs (((L'.map fun x : Addr × List Int => x.2).mergeSort (PySem.W.dataLe false intsD)).map intsD) := dz
    have inR : ∀ r ∈ L'.map (fun x : Addr × List Int => x.2), r ∈ (es ++ [(mn, mx)]).map rw2 := fun r hr => by
      obtain ⟨q, hq, rfl⟩ := List.mem_map.mp hr
      exact inE q (pm.mem_iff.mp hq)
    have lR : (L'.map fun x : Addr × List Int => x.2).length ≤ es.length + 1 := by
      have := nd_len nd inR
      rw [List.length_map (f := rw2), List.length_append] at this
      exact this
    obtain ⟨ps, eR, hps⟩ := of_rows (R := (L'.map fun x : Addr × List Int => x.2).mergeSort (PySem.W.dataLe false intsD)) (E := es ++ [(mn, mx)]) fun r hr => inR r ((List.mergeSort_perm _ _).mem_iff.mp hr)
    have lps : ps.length ≤ es.length + 1 := by
      have := (List.mergeSort_perm (L'.map fun x : Addr × List Int => x.2) (PySem.W.dataLe false intsD)).length_eq
      rw [eR, List.length_map] at this
      omega
    rw [eR, List.map_map] at dz
    have dz : DpAll K (upd H8 St (SetTO P w St Ls)) zs (ps.map prD) := dz
    have sp := same_upd (o := .lst zs) np
    refine ⟨p, zs, rfl, .inl ⟨SqL.of upd_same, fun mt nmt => ?_⟩⟩
    have st := same_upd (o := .tup zs) nmt
    have et := same_at (o := .tup zs) nmt
    have okE : ∀ p ∈ ps, okP p := fun p hp => by
      rcases List.mem_append.mp (hps p hp) with h | h
      · exact oks p h
      · rw [List.mem_singleton.mp h]
        exact ⟨by show 0 ≤ mn ∧ mn ≤ 20; omega, by show 0 ≤ mx ∧ mx ≤ 20; omega⟩
    have lzs : zs.length = ps.length := by rw [DpAll.length dz, List.length_map]
    have gm : Gx K d l g 300 3 (upd (upd _ p (.lst zs)) mt (.tup zs)) (.ref mt) := (Ga.tup (SqT.of et) (((gaPrs dz okE).same (sp.trans st)).le (M := 300) (by omega) (show 1 ≤ 2 by decide)) (by omega))
    have en := en.same (((s48.trans sS).trans sp).trans st)
    generalize upd (upd _ p (.lst zs)) mt (.tup zs) = H9 at gm en ⊢
    have en := en.add (gm.le (by decide) (by decide))
    clear gm st et sp dz lps eR inR lR inE sS hsub hall nS e8 hk dE s48 s8 s4 s5 e4 e5 n4 n5 hA7 np nmt pm nd
    -- the first four
    refine ⟨.ref eb, rfl, ?_⟩
    dsimp only [tNoPart]
    refine ⟨.int at', rfl, at', rfl, slV en.st fun Haa p1 i1 j1 _ _ sa ea => ?_⟩
    have la : ((exs.drop i1).take j1).length ≤ exs.length := by rw [List.length_take, List.length_drop]; omega
    have en := en.same sa
    refine ⟨it, rfl, by show 1 ≤ sizeLine; decide, fun o1 no1 => ?_⟩
    have so1 := same_upd (o := .tup [it]) no1
    refine catV (Same.tup so1 ea) (SqT.of (same_at (o := .tup [it]) no1)) (by show _ + 1 ≤ 900; omega) fun Hab q1 sb eq1 => ?_
    have en := en.same (so1.trans sb)
    clear so1 no1 sb sa ea
    refine ⟨.ref eb, rfl, ?_⟩
    dsimp only [tNoPart]
    refine ⟨.int at', rfl, at', rfl, slV en.st fun Hac p2 i2 j2 _ _ sc ec2 => ?_⟩
    have lb : ((exs.drop i2).take j2).length ≤ exs.length := by rw [List.length_take, List.length_drop]; omega
    have en := en.same sc
    refine catV (Same.tup sc eq1) ec2 (by rw [List.length_append]; show _ + 1 + _ ≤ 900; omega) fun Had v1 sd ed => ?_
    have en := en.same sd
    have gv : Gx K d l g 4000 15 Had (.ref v1) := (Ga.tup ed ((((en.ga.cut i1 j1).le (Nat.le_refl 300) (show 2 ≤ 3 by decide)).app (.one en.gi)).app ((en.ga.cut i2 j2).le (Nat.le_refl 300) (show 2 ≤ 3 by decide))) (by rw [List.length_append, List.length_append, List.length_singleton]; omega)).le (by decide) (by decide)
    have en := en.add gv
    clear gv eq1 sc ec2 sd ed lb la
    refine ⟨.ref eb, rfl, ?_⟩
    dsimp only [tNoPart]
    refine ⟨.int at', rfl, at', rfl, slV en.st fun Hba p1 i1 j1 _ _ sa ea => ?_⟩
    have la : ((exs.drop i1).take j1).length ≤ exs.length := by rw [List.length_take, List.length_drop]; omega
    have en := en.same sa
    refine ⟨it, rfl, by show 1 ≤ sizeLine; decide, fun o1 no1 => ?_⟩
    have so1 := same_upd (o := .tup [it]) no1
    refine catV (Same.tup so1 ea) (SqT.of (same_at (o := .tup [it]) no1)) (by show _ + 1 ≤ 900; omega) fun Hbb q1 sb eq1 => ?_
    have en := en.same (so1.trans sb)
    clear so1 no1 sb sa ea
    refine ⟨.ref eb, rfl, ?_⟩
    dsimp only [tNoPart]
    refine ⟨.int at', rfl, _, _, rfl, rfl, at' + 1, rfl, slV en.st fun Hbc p2 i2 j2 _ _ sc ec2 => ?_⟩
    have lb : ((exs.drop i2).take j2).length ≤ exs.length := by rw [List.length_take, List.length_drop]; omega
    have en := en.same sc
    refine catV (Same.tup sc eq1) ec2 (by rw [List.length_append]; show _ + 1 + _ ≤ 900; omega) fun Hbd v2 sd ed => ?_
    have en := en.same sd
    have gv : Gx K d l g 4000 15 Hbd (.ref v2) := (Ga.tup ed ((((en.ga.cut i1 j1).le (Nat.le_refl 300) (show 2 ≤ 3 by decide)).app (.one en.gi)).app ((en.ga.cut i2 j2).le (Nat.le_refl 300) (show 2 ≤ 3 by decide))) (by rw [List.length_append, List.length_append, List.length_singleton]; omega)).le (by decide) (by decide)
    have en := en.add gv
    clear gv eq1 sc ec2 sd ed lb la
    refine ⟨.ref eb, rfl, eb, _, rfl, en.st, fun v3 n3 => ?_⟩
    have s3 := same_upd (o := .tup exs.reverse) n3
    have e3 := same_at (o := .tup exs.reverse) n3
    have en := en.same s3
    have en := en.add (v := .ref v3) ((Ga.tup (SqT.of e3) en.ga.rev (by rw [List.length_reverse]; omega)).le (by decide) (by decide))
    generalize upd _ v3 _ = H10 at en ⊢
    clear s3 e3 n3
    refine ⟨.ref mt, rfl, by show 4 ≤ sizeLine; decide, fun L1 nL1 => ?_⟩
    have sL1 := same_upd (o := .lst [V.ref v1, V.ref v2, V.ref v3, V.ref mt]) nL1
    have eL1 := same_at (o := .lst [V.ref v1, V.ref v2, V.ref v3, V.ref mt]) nL1
    have en := en.same sL1
    generalize upd H10 L1 _ = H11 at en eL1 ⊢
    clear sL1 nL1
    -- five more
    refine ⟨.ref L1, rfl, .ref eb, rfl, .ref eb, rfl, ?_⟩
    have sF : Same H11 H11 := Same.refl _
    dsimp only [tNoPart]
    refine ⟨1, rfl, -1, rfl, slV en.st fun H12 p1 i1 j1 _ _ sa ea => ?_⟩
    have la : ((exs.drop i1).take j1).length ≤ exs.length := by rw [List.length_take, List.length_drop]; omega
    have en := en.same sa
    refine catV en.st ea (by omega) fun H13 v5 sb eb5 => ?_
    have en := en.same sb
    have en := en.add (v := .ref v5) ((Ga.tup eb5 (en.ga.app (en.ga.cut i1 j1)) (by rw [List.length_append]; omega)).le (by decide) (by decide))
    have sF := (sF.trans sa).trans sb
    clear sa ea la sb eb5
    refine ⟨.ref eb, rfl, ?_⟩
    dsimp only [tNoPart]
    refine ⟨.int to', rfl, to', rfl, slV en.st fun H14 p1 i1 j1 _ _ sa ea => ?_⟩
    have la : ((exs.drop i1).take j1).length ≤ exs.length := by rw [List.length_take, List.length_drop]; omega
    have en := en.same sa
    refine ⟨.ref eb, rfl, ?_⟩
    dsimp only [tNoPart]
    refine ⟨.int to', rfl, to', rfl, slV en.st fun H15 p2 i2 j2 _ _ sb eb6 => ?_⟩
    have lb : ((exs.drop i2).take j2).length ≤ exs.length := by rw [List.length_take, List.length_drop]; omega
    have en := en.same sb
    refine catV (Same.tup sb ea) eb6 (by omega) fun H16 v6 sc ec6 => ?_
    have en := en.same sc
    have en := en.add (v := .ref v6) ((Ga.tup ec6 ((en.ga.cut i1 j1).app (en.ga.cut i2 j2)) (by rw [List.length_append]; omega)).le (by decide) (by decide))
    have sF := ((sF.trans sa).trans sb).trans sc
    clear sa ea la sb eb6 lb sc ec6
    refine ⟨.ref eb, rfl, eb, _, rfl, .inr en.st, fun v7 n7 np7 => ?_⟩
    have s7 := same_upd (o := .lst exs) n7
    have e7 := same_at (o := .lst exs) n7
    have o7 := en.dk.off n7
    have g7 : v7 ≠ g := by
      obtain ⟨o, ho⟩ := en.he
      exact fun z => by rw [z, ho] at n7; cases n7
    have en := en.same s7
    have en := en.add (v := .ref v7) ((Ga.lst np7 e7 o7.1 ⟨o7.2, g7⟩ en.ga (by omega)).le (by decide) (by decide))
    have sF := sF.trans s7
    generalize upd H16 v7 _ = H17 at en sF ⊢
    clear s7 e7 n7
    have en := en.add (v := it) (en.gi.le (by decide) (by decide))
    refine ⟨it, rfl, .ref eb, rfl, by show 1 ≤ sizeLine; decide, fun v9 n9 => ?_⟩
    have s9 := same_upd (o := .tup [V.ref eb]) n9
    have e9 := same_at (o := .tup [V.ref eb]) n9
    have en := en.same s9
    have en := en.add (v := .ref v9) ((Gx.tup1 (SqT.of e9) (Ga.tup en.st en.ga (by omega))).le (by decide) (by decide))
    have sF := sF.trans s9
    generalize upd H17 v9 _ = H18 at en sF ⊢
    clear s9 e9 n9
    refine ⟨by show 5 ≤ sizeLine; decide, fun L2 nL2 => ?_⟩
    have sL2 := same_upd (o := .lst [V.ref v5, V.ref v6, V.ref v7, it, V.ref v9]) nL2
    have eL2 := same_at (o := .lst [V.ref v5, V.ref v6, V.ref v7, it, V.ref v9]) nL2
    have en := en.same sL2
    have eL1 := (sF.trans sL2) _ _ eL1
    generalize upd H18 L2 _ = H19 at en eL1 eL2 ⊢
    clear sL2 nL2 sF
    refine ⟨L1, L2, _, _, rfl, rfl, eL1, eL2, by show 4 + 5 ≤ sizeLine; decide, fun P nP => ?_⟩
    have sP := same_upd (o := .lst ([V.ref v1, V.ref v2, V.ref v3, V.ref mt] ++ [V.ref v5, V.ref v6, V.ref v7, it, V.ref v9])) nP
    have eP := same_at (o := .lst ([V.ref v1, V.ref v2, V.ref v3, V.ref mt] ++ [V.ref v5, V.ref v6, V.ref v7, it, V.ref v9])) nP
    have oP := en.dk.off nP
    have en := en.same sP
    have all : ∀ u ∈ [V.ref v1, V.ref v2, V.ref v3, V.ref mt] ++ [V.ref v5, V.ref v6, V.ref v7, it, V.ref v9], Gx K d l g 4000 15 (upd H19 P (.lst ([V.ref v1, V.ref v2, V.ref v3, V.ref mt] ++ [V.ref v5, V.ref v6, V.ref v7, it, V.ref v9]))) u := fun u hu => en.al u (by
      simp only [List.mem_append, List.mem_cons, List.not_mem_nil, or_false, false_or, List.nil_append] at hu ⊢
      rcases hu with (h | h | h | h) | h | h | h | h | h <;> simp [h])
    have gmt : Gx K d l g 4000 15 (upd H19 P (.lst ([V.ref v1, V.ref v2, V.ref v3, V.ref mt] ++ [V.ref v5, V.ref v6, V.ref v7, it, V.ref v9]))) (.ref mt) := en.al _ (by simp)
    have lv : ([V.ref v1, V.ref v2, V.ref v3, V.ref mt] ++ [V.ref v5, V.ref v6, V.ref v7, it, V.ref v9]).length = 9 := rfl
    have en : Es K d l g (n + 6) eb exs it H _ [] := ⟨en.st, en.ga, en.gi, en.dk, en.f0, (fun _ h => nomatch h), en.he⟩
    generalize [V.ref v1, V.ref v2, V.ref v3, V.ref mt] ++ [V.ref v5, V.ref v6, V.ref v7, it, V.ref v9] = us at eP all lv gmt en ⊢
    generalize upd H19 P _ = H20 at eP all gmt en ⊢
    clear eL1 eL2 sP nP
    -- pairs
    have add5 : ∀ {H' : Hp} {vs : List V} {v : V}, (∀ u ∈ vs, Gx K d l g 5000 20 H' u) → Gx K d l g 5000 20 H' v → ∀ u ∈ vs ++ [v], Gx K d l g 5000 20 H' u := fun h g u hu => by
      rcases List.mem_append.mp hu with hu | hu
      · exact h u hu
      · rw [List.mem_singleton.mp hu]; exact g
    refine ⟨.int (m : Int), rfl, .ref P, rfl, .ref d, rfl, d, l, _, 9, rfl, by decide, by decide, en.dk, by omega, fun H21 i i0 i1 f21 d21 => ?_⟩
    have hi9 : i.toNat < us.length := by omega
    refine ⟨P, us, i, us[i.toNat], rfl, rfl, SqL.of (f21 _ _ oP.1 oP.2 eP), at_of (j := i.toNat) (by omega) (List.getElem?_eq_getElem hi9), ?_⟩
    have gs := (all _ (List.getElem_mem hi9)).fm f21 en.dk
    have gmt := gmt.fm f21 en.dk
    have en : Es K d l g (n + 7) eb exs it H H21 [] := ⟨f21.kt en.dk _ _ en.st, en.ga.fm f21 en.dk, en.gi.fm f21 en.dk, d21, en.f0.trans f21, (fun _ h => nomatch h), hg _ _ d21 (en.f0.trans f21)⟩
    generalize us[i.toNat] = sv at gs ⊢
    clear eP all lv hi9 f21 d21
    have sF : Same H21 H21 := Same.refl _
    have gp : ∀ u ∈ ([] : List V), Gx K d l g 5000 20 H21 u := fun _ h => nomatch h
    refine ⟨by show 2 ≤ sizeLine; decide, fun w1 nw1 => ?_⟩
    have sw1 := same_upd (o := .tup [V.int (m : Int), sv]) nw1
    have ew1 := same_at (o := .tup [V.int (m : Int), sv]) nw1
    have en := en.same sw1
    have gp := add5 (fun u hu => (gp u hu).same sw1) (v := .ref w1) ((Gx.tup2 (SqT.of ew1) ((Gx.int (i := (m : Int)) (by omega)).le (Nat.le_refl 300) (show 3 ≤ 15 by decide)) (gs.same sw1)).le (by decide) (by decide))
    have gmt := gmt.same sw1
    have sF := sF.trans sw1
    generalize upd H21 w1 _ = H22 at en gp gmt sF ⊢
    clear sw1 ew1 nw1 gs
    refine ⟨.int (m : Int), rfl, .ref mt, rfl, by show 2 ≤ sizeLine; decide, fun w2 nw2 => ?_⟩
    have sw2 := same_upd (o := .tup [V.int (m : Int), V.ref mt]) nw2
    have ew2 := same_at (o := .tup [V.int (m : Int), V.ref mt]) nw2
    have en := en.same sw2
    have gp := fun u hu => (gp u hu : Gx K d l g 5000 20 H22 u).same sw2
    have gp := add5 gp (v := .ref w2) ((Gx.tup2 (SqT.of ew2) ((Gx.int (i := (m : Int)) (by omega)).le (Nat.le_refl 300) (show 3 ≤ 15 by decide)) (gmt.same sw2)).le (by decide) (by decide))
    have gmt := gmt.same sw2
    have sF := sF.trans sw2
    generalize upd H22 w2 _ = H23 at en gp gmt sF ⊢
    clear sw2 ew2 nw2
    refine ⟨.int (m : Int), rfl, _, _, rfl, rfl, .ref eb, rfl, by show 2 ≤ sizeLine; decide, fun w3 nw3 => ?_⟩
    have sw3 := same_upd (o := .tup [V.int ((m : Int) - 1), V.ref eb]) nw3
    have ew3 := same_at (o := .tup [V.int ((m : Int) - 1), V.ref eb]) nw3
    have en := en.same sw3
    have gp := fun u hu => (gp u hu : Gx K d l g 5000 20 H23 u).same sw3
    have gp := add5 gp (v := .ref w3) ((Gx.tup2 (SqT.of ew3) (Gx.int (i := (m : Int) - 1) (by omega)) (Ga.tup en.st en.ga (by omega))).le (by decide) (by decide))
    have gmt := gmt.same sw3
    have sF := sF.trans sw3
    generalize upd H23 w3 _ = H24 at en gp gmt sF ⊢
    clear sw3 ew3 nw3
    refine ⟨.int (m : Int), rfl, _, _, rfl, rfl, .ref eb, rfl, by show 2 ≤ sizeLine; decide, fun w4 nw4 => ?_⟩
    have sw4 := same_upd (o := .tup [V.int ((m : Int) + 1), V.ref eb]) nw4
    have ew4 := same_at (o := .tup [V.int ((m : Int) + 1), V.ref eb]) nw4
    have en := en.same sw4
    have gp := fun u hu => (gp u hu : Gx K d l g 5000 20 H24 u).same sw4
    have gp := add5 gp (v := .ref w4) ((Gx.tup2 (SqT.of ew4) (Gx.int (i := (m : Int) + 1) (by omega)) (Ga.tup en.st en.ga (by omega))).le (by decide) (by decide))
    have gmt := gmt.same sw4
    have sF := sF.trans sw4
    generalize upd H24 w4 _ = H25 at en gp gmt sF ⊢
    clear sw4 ew4 nw4
    refine ⟨.ref d, rfl, d, l, _, rfl, en.dk, by omega, fun H26 od2 xo2 f26 d26 ov2 fr2 => ?_⟩
    have fr3 : ∀ a, od2 = .ref a → a ≠ g := fun a z e => by
      subst e
      obtain ⟨o, ho⟩ := en.he
      have z2 := fr2 _ z
      rw [ho] at z2
      cases z2
    have gp := fun u hu => (gp u hu : Gx K d l g 5000 20 H25 u).fm f26 en.dk
    have en : Es K d l g (n + 8) eb exs it H H26 [] := ⟨f26.kt en.dk _ _ en.st, en.ga.fm f26 en.dk, en.gi.fm f26 en.dk, d26, en.f0.trans f26, (fun _ h => nomatch h), hg _ _ d26 (en.f0.trans f26)⟩
    have god := ov2.gx fr3
    clear sF gmt f26 d26 ov2
    have sF : Same H26 H26 := Same.refl _
    refine ⟨.ref eb, rfl, by show 2 ≤ sizeLine; decide, fun w5 nw5 => ?_⟩
    have sw5 := same_upd (o := .tup [od2, V.ref eb]) nw5
    have ew5 := same_at (o := .tup [od2, V.ref eb]) nw5
    have en := en.same sw5
    have gp := add5 (fun u hu => (gp u hu).same sw5) (v := .ref w5) ((Gx.tup2 (SqT.of ew5) (god.same sw5) (Ga.tup en.st en.ga (by omega))).le (by decide) (by decide))
    have sF := sF.trans sw5
    generalize upd H26 w5 _ = H27 at en gp sF ⊢
    clear sw5 ew5 nw5 god
    refine ⟨by show 5 ≤ sizeLine; decide, fun L3 nL3 => ?_⟩
    have sL3 := same_upd (o := .lst [V.ref w1, V.ref w2, V.ref w3, V.ref w4, V.ref w5]) nL3
    have eL3 := same_at (o := .lst [V.ref w1, V.ref w2, V.ref w3, V.ref w4, V.ref w5]) nL3
    have en := en.same sL3
    have gp := fun u hu => (gp u hu : Gx K d l g 5000 20 H27 u).same sL3
    generalize upd H27 L3 _ = H28 at en gp eL3 ⊢
    clear sL3 nL3 sF
    have sF : Same H28 H28 := Same.refl _
    -- five more pairs
    refine ⟨.ref L3, rfl, .int (m : Int), rfl, .ref eb, rfl, Nat.zero_le _, fun e0 ne0 => ⟨by show 3 ≤ sizeLine; decide, fun w6 nw6 => ?_⟩⟩
    have se0 := same_upd (o := .tup []) ne0
    have ee0 := same_at (o := .tup []) ne0
    have sw6 := same_upd (o := .tup [V.int (m : Int), V.ref eb, V.ref e0]) nw6
    have ew6 := same_at (o := .tup [V.int (m : Int), V.ref eb, V.ref e0]) nw6
    have en := (en.same se0).same sw6
    have gp := fun u hu => ((gp u hu : Gx K d l g 5000 20 H28 u).same se0).same sw6
    have gE : Gx K d l g 300 3 (upd (upd H28 e0 (.tup [])) w6 (.tup [V.int (m : Int), V.ref eb, V.ref e0])) (.ref e0) := ⟨.tuple [], .tup (SqT.of (sw6 _ _ ee0)) .nil (by decide), (SwB.tup (ds := []) (n := 0) (k := 0) ⟨(fun _ z => nomatch z), by simp [PyData.weightAll]⟩).le (by decide) (by decide)⟩
    have gp := add5 gp (v := .ref w6) ((Ga.tup (SqT.of ew6) (((Ga.one (Gx.int (i := (m : Int)) (by omega))).app (.one (Ga.tup en.st en.ga (by omega)))).app (.one gE)) (by show 3 ≤ 40; decide)).le (by decide) (by decide))
    have sF := (sF.trans se0).trans sw6
    generalize upd (upd H28 e0 _) w6 _ = H29 at en gp sF ⊢
    clear se0 ee0 sw6 ew6 ne0 nw6 gE
    refine ⟨.ref eb, rfl, .int (m : Int), rfl, by show 2 ≤ sizeLine; decide, fun w7 nw7 => ?_⟩
    have sw7 := same_upd (o := .tup [V.ref eb, V.int (m : Int)]) nw7
    have ew7 := same_at (o := .tup [V.ref eb, V.int (m : Int)]) nw7
    have en := en.same sw7
    have gp := add5 (fun u hu => (gp u hu : Gx K d l g 5000 20 H29 u).same sw7) (v := .ref w7) ((Gx.tup2 (SqT.of ew7) (Ga.tup en.st en.ga (by omega)) (Gx.int (i := (m : Int)) (by omega))).le (by decide) (by decide))
    have sF := sF.trans sw7
    generalize upd H29 w7 _ = H30 at en gp sF ⊢
    clear sw7 ew7 nw7
    refine ⟨.int (m : Int), rfl, .ref eb, rfl, by show 2 ≤ sizeLine; decide, fun w8 nw8 npw8 => ?_⟩
    have sw8 := same_upd (o := .lst [V.int (m : Int), V.ref eb]) nw8
    have ew8 := same_at (o := .lst [V.int (m : Int), V.ref eb]) nw8
    have ow8 := en.dk.off nw8
    have g8 : w8 ≠ g := by
      obtain ⟨o, ho⟩ := en.he
      exact fun z => by rw [z, ho] at nw8; cases nw8
    have en := en.same sw8
    have gp := add5 (fun u hu => (gp u hu : Gx K d l g 5000 20 H30 u).same sw8) (v := .ref w8) ((Gx.lst2 npw8 ew8 ow8.1 ⟨ow8.2, g8⟩ (Gx.int (i := (m : Int)) (by omega)) (Ga.tup en.st en.ga (by omega))).le (by decide) (by decide))
    have sF := sF.trans sw8
    generalize upd H30 w8 _ = H31 at en gp sF ⊢
    clear sw8 ew8 nw8
    refine ⟨.int (m : Int), rfl, by show 1 ≤ sizeLine; decide, fun w9 nw9 => ?_⟩
    have sw9 := same_upd (o := .tup [V.int (m : Int)]) nw9
    have ew9 := same_at (o := .tup [V.int (m : Int)]) nw9
    have en := en.same sw9
    have gp := add5 (fun u hu => (gp u hu : Gx K d l g 5000 20 H31 u).same sw9) (v := .ref w9) ((Gx.tup1 (SqT.of ew9) (Gx.int (i := (m : Int)) (by omega))).le (by decide) (by decide))
    have gp := add5 gp (v := .ref eb) ((Ga.tup en.st en.ga (by omega)).le (by decide) (by decide))
    have sF := sF.trans sw9
    generalize upd H31 w9 _ = H32 at en gp sF ⊢
    clear sw9 ew9 nw9
    refine ⟨.ref eb, rfl, by show 5 ≤ sizeLine; decide, fun L4 nL4 => ?_⟩
    have sL4 := same_upd (o := .lst [V.ref w6, V.ref w7, V.ref w8, V.ref w9, V.ref eb]) nL4
    have eL4 := same_at (o := .lst [V.ref w6, V.ref w7, V.ref w8, V.ref w9, V.ref eb]) nL4
    have en := en.same sL4
    have eL3 := (sF.trans sL4) _ _ eL3
    refine ⟨L3, L4, _, _, rfl, rfl, eL3, eL4, by show 5 + 5 ≤ sizeLine; decide, fun R nR => ?_⟩
    have sR := same_upd (o := .lst ([V.ref w1, V.ref w2, V.ref w3, V.ref w4, V.ref w5] ++ [V.ref w6, V.ref w7, V.ref w8, V.ref w9, V.ref eb])) nR
    have eR := same_at (o := .lst ([V.ref w1, V.ref w2, V.ref w3, V.ref w4, V.ref w5] ++ [V.ref w6, V.ref w7, V.ref w8, V.ref w9, V.ref eb])) nR
    have oR := en.dk.off nR
    have en := en.same sR
    have gp : ∀ u ∈ [V.ref w1, V.ref w2, V.ref w3, V.ref w4, V.ref w5] ++ [V.ref w6, V.ref w7, V.ref w8, V.ref w9, V.ref eb], Gx K d l g 5000 20 _ u := fun u hu => ((gp u hu : Gx K d l g 5000 20 H32 u).same sL4).same sR
    have lr : ([V.ref w1, V.ref w2, V.ref w3, V.ref w4, V.ref w5] ++ [V.ref w6, V.ref w7, V.ref w8, V.ref w9, V.ref eb]).length = 10 := rfl
    generalize [V.ref w1, V.ref w2, V.ref w3, V.ref w4, V.ref w5] ++ [V.ref w6, V.ref w7, V.ref w8, V.ref w9, V.ref eb] = rs at eR gp lr en ⊢
    generalize upd (upd H32 L4 _) R _ = H33 at eR gp en ⊢
    refine ⟨.ref R, rfl, .ref d, rfl, d, l, _, 10, rfl, by decide, by decide, en.dk, by omega, fun H34 i i0 i1 f34 d34 => ?_⟩
    have hi10 : i.toNat < rs.length := by omega
    refine ⟨R, rs, i, rs[i.toNat], rfl, rfl, SqL.of (f34 _ _ oR.1 oR.2 eR), at_of (j := i.toNat) (by omega) (List.getElem?_eq_getElem hi10), ?_⟩
    exact q _ _ (en.f0.trans f34) (d34.le (by omega)) ((gp _ (List.getElem_mem hi10)).fm f34 en.dk)
end
end TL
namespace TL
open PySem PySem.Spec PyProof.Rows L2
section
variable {P : Program} {w : World} {K : PySem.W.Frag} {mg : Str → Option Value} {base : Heap}
section
variable {d l g : Addr} {b : Nat} {H H' : Hp}
mutual
theorem Bv.put {ys zs : List V} (hg : H g = some (.lst ys)) : ∀ {v : V} {x : PyData}, Bv K d l g b H v x → Bv K d l g b (upd H g (.lst zs)) v x
  | _, _, .non => .non
  | _, _, .bl x => .bl x
  | _, _, .int i hi => .int i hi
  | _, _, .str x => .str x
  | _, _, .tup e al n => .tup (kt_lst hg _ _ e) (BvAll.put hg al) n
  | _, _, .lst np e h1 h2 al n => .lst np (by rw [upd_ne h2.2]; exact e) h1 h2 (BvAll.put hg al) n
  | _, _, .dct e o h1 h2 => .dct (by rw [upd_ne h2.2]; exact e) o h1 h2
theorem BvAll.put {ys zs : List V} (hg : H g = some (.lst ys)) : ∀ {vs : List V} {xs : List PyData}, BvAll K d l g b H vs xs → BvAll K d l g b (upd H g (.lst zs)) vs xs
  | _, _, .nil => .nil
  | _, _, .cons p q => .cons (Bv.put hg p) (BvAll.put hg q)
end
end
/-! ### bent forests -/
theorem Ga.all {d l g : Addr} {M k : Nat} {H : Hp} : ∀ {vs : List V}, (∀ v ∈ vs, Gx K d l g M k H v) → Ga K d l g (vs.length * (M + 1)) k H vs
  | [], _ => ⟨[], .nil, ⟨(fun _ z => nomatch z), by simp [PyData.weightAll]⟩⟩
  | v :: vs, h => by
    have h1 := Ga.one (h v List.mem_cons_self)
    have h2 := Ga.all fun u hu => h u (List.mem_cons_of_mem _ hu)
    refine (h1.app h2).le ?_ (Nat.le_refl _)
    rw [List.length_cons, Nat.add_mul]
    omega
def Fg (K : PySem.W.Frag) (d l g : Addr) (c : Nat) (H : Hp) (x : V) (m : Nat) : Prop := ∃ (fa eb : Addr) (exs : List V), x = .ref fa ∧ SqT K H fa [.int (m : Int), .ref eb] ∧ SqT K H eb exs ∧ (∀ v ∈ exs, Gx K d l g 300 4 H v) ∧ exs.length ≤ c
theorem Fg.fm {d l g : Addr} {c n m : Nat} {H H' : Hp} {x : V} (f : Fm d l H H') (D : Deck H d l n) (h : Fg K d l g c H x m) : Fg K d l g c H' x m := by
  obtain ⟨fa, eb, exs, e, h1, h2, h3, h4⟩ := h
  exact ⟨fa, eb, exs, e, f.kt D _ _ h1, f.kt D _ _ h2, fun v hv => (h3 v hv).fm f D, h4⟩
theorem Fg.gx {d l g : Addr} {c m : Nat} {H : Hp} {x : V} (hm : m ≤ 12) (hc : c ≤ 15) (h : Fg K d l g c H x m) : Gx K d l g 5000 20 H x := by
  obtain ⟨fa, eb, exs, rfl, h1, h2, h3, h4⟩ := h
  have := Nat.mul_le_mul_right 301 (Nat.le_trans h4 hc)
  exact (Gx.tup2 h1 ((Gx.int (i := (m : Int)) (by omega)).le (Nat.le_refl 300) (show 3 ≤ 5 by decide)) (Ga.tup h2 (Ga.all h3) (by omega))).le (by omega) (by decide)
theorem Ov.gd {d l g : Addr} {H : Hp} {v : V} {x : PyData} (h : Ov K d l H v x) (fr : ∀ a, v = .ref a → a ≠ g) : Gx K d l g 300 4 H v := (h.gx fr).le (by decide) (by decide)
theorem Fm.putN {d l a : Addr} {H H' : Hp} {o : HO} (h : Fm d l H H') (ha : H a = none) : Fm d l H (upd H' a o) := fun b u n1 n2 e => by
  rw [upd_ne (ne_of_none e ha)]
  exact h b u n1 n2 e
theorem Gx.putd {d l L : Addr} {N k : Nat} {H : Hp} {v : V} {ys zs : List V} (e : H L = some (.lst ys)) (h : Gx K d l L N k H v) : Gx K d l L N k (upd H L (.lst zs)) v := h.imp fun _ z => ⟨z.1.put e, z.2⟩
def spLBent (K : PySem.W.Frag) : Sp := fun vs H Q _ => ∃ (d l g : Addr) (n c : Nat) (x : V) (m : Nat), vs = [.ref d, x] ∧ Deck H d l n ∧ n < 800000 ∧ m ≤ 12 ∧ c ≤ 30 ∧ Fg K d l g c H x m ∧ (∀ (H' : Hp) (n' : Nat), Deck H' d l n' → Fm d l H H' → ∃ o, H' g = some o) ∧
  ∀ H' v, Fm d l H H' → Deck H' d l (n + 12) → Fg K d l g (c + 1) H' v m → Q v H'
theorem ok_LBent {f : Addr} {fd : FuncData} (F : Fun K "_law_bent" "_law_bent" sLBent f fd) (m_list : mg "list" = none) (m_max : mg "max" = none) (m_min : mg "min" = none) (m_len : mg "len" = none) (m_tuple : mg "tuple" = none)
    (oLDraw : Own P w K mg base "_law_draw" 1 ["_law_deck_here", "_law_limit"] spLDraw) (oLOdd : Own P w K mg base "_law_odd" 2 ["_law_deck_here"] (spLOdd K)) :
    FnOk P w K mg base CX0 3 f fd ["_law_deck_here", "_law_forest_here"] (spLBent K) := by
  refine F.ok scLBent (fun vs H Q E h => ?_) (fun cdv A outer s H vs Q E hr h => ?_)
  · obtain ⟨d, l, g, n, c, x, m, rfl, _⟩ := h
    rfl
  · obtain ⟨d, l, g, n, c, x, m, rfl, hD, hn, hm, hc, ⟨fa, eb, exs, rfl, hfa, heb, gaH, lx⟩, hg, q⟩ := h
    refine ⟨_, (pss_cons (ps_par (by rfl) scLBent.nd (i := 2) (j := 3) rfl rfl (by decide) rfl rfl (pa_cons (pe_callTy (listSK K) (by rfl) m_list (by decide +kernel) (pa_cons (pe_ix (ixTK K) (pv 1) pe_int (fun _ _ => rfl)) pa_nil)) (pa_cons (pe_ix (ixTK K) (pv 1) pe_int (fun _ _ => rfl)) pa_nil)) (by rfl))
    (pss_cons (ps_par (by rfl) scLBent.nd (i := 4) (j := 5) rfl rfl (by decide) rfl rfl (pa_cons (pe_own oLDraw (hr.mono (by decide)) (by rfl) (pa_cons (pv 0) (pa_cons (pe_callB (call_max2 rfl) (by rfl) m_max (by decide +kernel) (pa_cons pe_int (pa_cons (pv 3) pa_nil))) pa_nil))) (pa_cons (pe_own oLDraw (hr.mono (by decide)) (by rfl) (pa_cons (pv 0) (pa_cons (pe_callB (call_max2 rfl) (by rfl) m_max (by decide +kernel) (pa_cons pe_int (pa_cons (pv 3) pa_nil))) pa_nil))) pa_nil)) (by rfl))
    (pss_cons (ps_set (i := 6) scLBent.nd rfl (.inl rfl) (pe_own oLDraw (hr.mono (by decide)) (by rfl) (pa_cons (pv 0) (pa_cons pe_int pa_nil))))
    (pss_cons (ps_if (PW.pt (pw_or (pt_cmpR op_eq (pv 6) pe_int (nomark _)) (pw_or1 (pt_cmpR (eqLK K hr.units) (pv 2) (pe_lst pa_nil) (nomark _))))) (pss_one (ps_ret (pe_tup (pa_cons (pv 3) (pa_cons (pe_callTy (tupleK K) (by rfl) m_tuple (by decide +kernel) (pa_cons (pe_op op_cat (pv 2) (pe_lst (pa_cons (pe_own oLOdd (hr.mono (by decide)) (by rfl) (pa_cons (pv 0) pa_nil)) pa_nil))) pa_nil)) pa_nil))))) pss_nil)
    (pss_cons (ps_par (by rfl) scLBent.nd (i := 7) (j := 8) rfl rfl (by decide) rfl rfl (pa_cons (pe_own oLDraw (hr.mono (by decide)) (by rfl) (pa_cons (pv 0) (pa_cons (pe_callB (lenK K) (by rfl) m_len (by decide +kernel) (pa_cons (pv 2) pa_nil)) pa_nil))) (pa_cons (pe_own oLDraw (hr.mono (by decide)) (by rfl) (pa_cons (pv 0) (pa_cons (pe_callB (lenK K) (by rfl) m_len (by decide +kernel) (pa_cons (pv 2) pa_nil)) pa_nil))) pa_nil)) (by rfl))
    (pss_cons (ps_if (pt_cmpR op_eq (pv 6) pe_int (nomark _)) (pss_cons (ps_asg (pe_tup (pa_cons (pe_ix (ixLK K) (pv 2) (pv 8) (fun _ _ => rfl)) (pa_cons (pe_ix (ixLK K) (pv 2) (pv 7) (fun _ _ => rfl)) pa_nil))) (pgTK K (pgs_cons (pg_sub (pv 2) (pv 7) set_list) (pgs_cons (pg_sub (pv 2) (pv 8) set_list) pgs_nil))))
    (pss_one (ps_ret (pe_tup (pa_cons (pv 3) (pa_cons (pe_callTy (tupleK K) (by rfl) m_tuple (by decide +kernel) (pa_cons (pv 2) pa_nil)) pa_nil)))))) pss_nil)
    (pss_cons (ps_if (pt_cmpR op_eq (pv 6) pe_int (nomark _)) (pss_cons (ps_asg (pe_tup (pa_cons (pe_callB (call_min2 rfl) (by rfl) m_min (by decide +kernel) (pa_cons (pv 4) (pa_cons (pv 5) pa_nil))) (pa_cons (pe_callB (call_max2 rfl) (by rfl) m_max (by decide +kernel) (pa_cons (pv 4) (pa_cons (pv 5) pa_nil))) pa_nil))) (pg_sub (pv 2) (pv 7) set_list))
    (pss_one (ps_ret (pe_tup (pa_cons (pv 3) (pa_cons (pe_callTy (tupleK K) (by rfl) m_tuple (by decide +kernel) (pa_cons (pv 2) pa_nil)) pa_nil)))))) pss_nil)
    (pss_cons (ps_expr (bmK K PySem.F.plainAttrs_list PySem.F.slot_list_insert PySem.F.type_list_insert mt_insert (pv 2) (pa_cons (pv 7) (pa_cons (pe_tup (pa_cons (pe_callB (call_min2 rfl) (by rfl) m_min (by decide +kernel) (pa_cons (pv 4) (pa_cons (pv 5) pa_nil))) (pa_cons (pe_callB (call_max2 rfl) (by rfl) m_max (by decide +kernel) (pa_cons (pv 4) (pa_cons (pv 5) pa_nil))) pa_nil))) pa_nil))))
    (pss_one (ps_ret (pe_tup (pa_cons (pv 3) (pa_cons (pe_callTy (tupleK K) (by rfl) m_tuple (by decide +kernel) (pa_cons (pv 2) pa_nil)) pa_nil))))))))))))), ?_⟩
    refine ⟨.ref fa, rfl, fa, _, 1, .ref eb, rfl, rfl, hfa, atI_nat (j := 1) rfl, eb, _, rfl, .inr heb, fun L nL npL => ?_⟩
    have sL := same_upd (o := .lst exs) nL
    have eL := same_at (o := .lst exs) nL
    have oL := hD.off nL
    have d0 := hD.same sL
    have ga := fun v hv => (gaH v hv).same sL
    have hfa := Same.tup sL hfa
    have f0 : Fm d l H (upd H L (.lst exs)) := Same.fm sL
    generalize upd H L _ = H0 at eL d0 ga hfa f0 ⊢
    refine ⟨.ref fa, rfl, fa, _, 0, .int (m : Int), rfl, rfl, hfa, atI_nat (j := 0) rfl, .ref L, .int (m : Int), rfl, ?_⟩
    refine ⟨.ref d, rfl, .int (m : Int), rfl, 1, (m : Int), rfl, d, l, _, _, rfl, by split <;> omega, by split <;> omega, d0, by omega, fun H1 a a0 a1 f1 d1 => ?_⟩
    refine ⟨.ref d, rfl, .int (m : Int), rfl, 1, (m : Int), rfl, d, l, _, _, rfl, by split <;> omega, by split <;> omega, d1, by omega, fun H2 b b0 b1 f2 d2 => ⟨.int a, .int b, rfl, ?_⟩⟩
    have a1 : a ≤ 12 := by split at a1 <;> omega
    have b1 : b ≤ 12 := by split at b1 <;> omega
    refine ⟨.ref d, rfl, d, l, _, 4, rfl, by decide, by decide, d2, by omega, fun H3 wy w0 w1 f3 d3 => ?_⟩
    have f03 := (f1.trans f2).trans f3
    have eL3 := f03 _ _ oL.1 oL.2 eL
    have fH3 := f0.trans f03
    have ga3 : ∀ v ∈ exs, Gx K d l g 300 4 H3 v := fun v hv => (ga v hv).fm f03 d0
    obtain ⟨og, hg3⟩ := hg _ _ d3 fH3
    clear ga f1 f2 f3 f03 eL d1 d2 d0
    obtain ⟨mn, emn⟩ : ∃ mn : Int, mn = if b < a then b else a := ⟨_, rfl⟩
    obtain ⟨mx, emx⟩ : ∃ mx : Int, mx = if b > a then b else a := ⟨_, rfl⟩
    have rmn : 0 ≤ mn ∧ mn ≤ 20 := by rw [emn]; split <;> omega
    have rmx : 0 ≤ mx ∧ mx ≤ 20 := by rw [emx]; split <;> omega
    -- the end of each way: tuple(edges), edges a list of good items at L
    have fin : ∀ {H' : Hp} {ys : List V} {t tz : Addr}, Fm d l H H' → Deck H' d l (n + 12) → (∀ v ∈ ys, Gx K d l g 300 4 H' v) → ys.length ≤ c + 1 → H' t = none → (upd H' t (.tup ys)) tz = none → Q (.ref tz) (upd (upd H' t (.tup ys)) tz (.tup [.int (m : Int), .ref t])) := fun {H' ys t tz} f D g lys nt ntz => by
      have s1 := same_upd (o := .tup ys) nt
      have s2 := same_upd (o := .tup [.int (m : Int), .ref t]) ntz
      have s12 := s1.trans s2
      exact q _ _ (f.trans (Same.fm s12)) (D.same s12) ⟨tz, t, ys, rfl, SqT.of upd_same, SqT.of (s2 _ _ upd_same), fun v hv => (g v hv).same s12, lys⟩
    refine ⟨.int wy, rfl, rfl, _, rfl, ?_⟩
    by_cases cw : V.int wy = V.int 0
    · rw [decide_eq_true cw]
      refine iteT ⟨.int (m : Int), rfl, .ref L, rfl, .ref d, rfl, d, l, _, rfl, d3, by omega, fun H5 o xo f5 d5 ov fr => ⟨by show 1 ≤ sizeLine; decide, fun D1 nD1 => ?_⟩⟩
      have s6 := same_upd (o := .lst [o]) nD1
      have e6 := same_at (o := .lst [o]) nD1
      have eL5 := f5 _ _ oL.1 oL.2 eL3
      refine ⟨L, D1, _, _, rfl, rfl, s6 _ _ eL5, e6, Nat.le_of_lt (small1000 (by show exs.length + 1 ≤ 1000; omega)), fun P nP => ?_⟩
      have s7 := same_upd (o := .lst (exs ++ [o])) nP
      have e7 := same_at (o := .lst (exs ++ [o])) nP
      have s67 := s6.trans s7
      have g7 : ∀ v ∈ exs ++ [o], Gx K d l g 300 4 (upd (upd H5 D1 (.lst [o])) P (.lst (exs ++ [o]))) v := fun v hv => by
        rcases List.mem_append.mp hv with hv | hv
        · exact ((ga3 v hv).fm f5 d3).same s67
        · rw [List.mem_singleton.mp hv]
          exact (ov.gd fun a z w => by rw [w] at z; exact nomatch (fr g z).symm.trans hg3).same s67
      refine ⟨P, _, rfl, .inl ⟨SqL.of e7, fun t nt => ⟨by show 2 ≤ sizeLine; decide, fun tz ntz => ?_⟩⟩⟩
      exact fin ((fH3.trans f5).trans (Same.fm s67)) ((d5.same s67).le (by omega)) g7 (by rw [List.length_append, List.length_singleton]; omega) nt ntz
    rw [decide_eq_false cw]
    refine iteF ⟨.ref L, rfl, Nat.zero_le _, fun e0 ne0 => ⟨L, e0, exs, rfl, rfl, ?_⟩⟩
    have s4 := same_upd (o := .lst []) ne0
    have x4 := same_at (o := .lst []) ne0
    have eL4 := s4 _ _ eL3
    refine ⟨SqL.of eL4, SqL.of x4, _, rfl, ?_⟩
    have d4 := d3.same s4
    have ga4 : ∀ v ∈ exs, Gx K d l g 300 4 (upd H3 e0 (.lst [])) v := fun v hv => (ga3 v hv).same s4
    have fH4 := fH3.trans (Same.fm s4)
    generalize upd H3 e0 _ = H4 at eL4 d4 ga4 fH4 ⊢
    obtain ⟨og4, hg4⟩ := hg _ _ d4 fH4
    clear s4 x4 eL3 d3 ga3 fH3
    cases hxs : exs.isEmpty with
    | true =>
      refine iteT ⟨.int (m : Int), rfl, .ref L, rfl, .ref d, rfl, d, l, _, rfl, d4, by omega, fun H5 o xo f5 d5 ov fr => ⟨by show 1 ≤ sizeLine; decide, fun D1 nD1 => ?_⟩⟩
      have s6 := same_upd (o := .lst [o]) nD1
      have e6 := same_at (o := .lst [o]) nD1
      have eL5 := f5 _ _ oL.1 oL.2 eL4
      refine ⟨L, D1, _, _, rfl, rfl, s6 _ _ eL5, e6, Nat.le_of_lt (small1000 (by show exs.length + 1 ≤ 1000; omega)), fun P nP => ?_⟩
      have s7 := same_upd (o := .lst (exs ++ [o])) nP
      have e7 := same_at (o := .lst (exs ++ [o])) nP
      have s67 := s6.trans s7
      have g7 : ∀ v ∈ exs ++ [o], Gx K d l g 300 4 (upd (upd H5 D1 (.lst [o])) P (.lst (exs ++ [o]))) v := fun v hv => by
        rcases List.mem_append.mp hv with hv | hv
        · exact ((ga4 v hv).fm f5 d4).same s67
        · rw [List.mem_singleton.mp hv]
          exact (ov.gd fun a z w => by rw [w] at z; exact nomatch (fr g z).symm.trans hg4).same s67
      refine ⟨P, _, rfl, .inl ⟨SqL.of e7, fun t nt => ⟨by show 2 ≤ sizeLine; decide, fun tz ntz => ?_⟩⟩⟩
      exact fin ((fH4.trans f5).trans (Same.fm s67)) ((d5.same s67).le (by omega)) g7 (by rw [List.length_append, List.length_singleton]; omega) nt ntz
    | false =>
    have pos : 0 < exs.length := by
      cases exs with
      | nil => cases hxs
      | cons _ _ => rw [List.length_cons]; omega
    refine iteF ⟨.ref d, rfl, .ref L, rfl, L, _, rfl, .inl (SqL.of eL4), d, l, _, exs.length, rfl, by omega, by omega, d4, by omega, fun H5 at' t0 t1 f5 d5 => ?_⟩
    have eL5 := f5 _ _ oL.1 oL.2 eL4
    refine ⟨.ref d, rfl, .ref L, rfl, L, _, rfl, .inl (SqL.of eL5), d, l, _, exs.length, rfl, by omega, by omega, d5, by omega, fun H6 to' u0 u1 f6 d6 => ⟨.int at', .int to', rfl, ?_⟩⟩
    have eL6 := f6 _ _ oL.1 oL.2 eL5
    have f46 := f5.trans f6
    have ga6 : ∀ v ∈ exs, Gx K d l g 300 4 H6 v := fun v hv => (ga4 v hv).fm f46 d4
    have fH6 := fH4.trans f46
    clear f5 f6 f46 eL5 eL4 d5 d4 ga4 fH4
    have hat : at'.toNat < exs.length := by omega
    have hto : to'.toNat < exs.length := by omega
    refine ⟨.int wy, rfl, rfl, _, rfl, ?_⟩
    by_cases c1 : V.int wy = V.int 1
    · rw [decide_eq_true c1]
      refine iteT ⟨.ref L, rfl, .int to', rfl, L, exs, to', exs[to'.toNat], rfl, rfl, SqL.of eL6, at_of (j := to'.toNat) (by omega) (List.getElem?_eq_getElem hto), .ref L, rfl, .int at', rfl, L, exs, at', exs[at'.toNat], rfl, rfl, SqL.of eL6, at_of (j := at'.toNat) (by omega) (List.getElem?_eq_getElem hat), by show 2 ≤ sizeLine; decide, fun tp ntp => ?_⟩
      have s7 := same_upd (o := .tup [exs[to'.toNat], exs[at'.toNat]]) ntp
      have e7 := same_at (o := .tup [exs[to'.toNat], exs[at'.toNat]]) ntp
      have eL7 := s7 _ _ eL6
      have gto := List.getElem_mem hto
      have gat := List.getElem_mem hat
      generalize exs[to'.toNat] = vt at s7 e7 eL7 gto ntp ⊢
      generalize exs[at'.toNat] = va at s7 e7 eL7 gat ntp ⊢
      have d7 := d6.same s7
      have fH7 := fH6.trans (Same.fm s7)
      have nLt : L ≠ tp := ne_of_none eL6 ntp
      refine ⟨tp, _, rfl, SqT.of e7, rfl, ?_⟩
      generalize upd H6 tp _ = H7 at eL7 d7 fH7 ⊢
      have ix1 : ixN exs.length at' = some at'.toNat := by unfold ixN; (repeat' split) <;> first | rfl | omega | (congr 1; omega)
      refine ⟨vt, [va], rfl, .ref L, rfl, .int at', rfl, L, exs, at', at'.toNat, rfl, rfl, eL7, ix1, ?_⟩
      have e8 : upd H7 L (.lst (exs.set at'.toNat vt)) L = some (.lst (exs.set at'.toNat vt)) := upd_same
      have ix2 : ixN (exs.set at'.toNat vt).length to' = some to'.toNat := by rw [List.length_set]; unfold ixN; (repeat' split) <;> first | rfl | omega | (congr 1; omega)
      refine ⟨va, [], rfl, .ref L, rfl, .int to', rfl, L, exs.set at'.toNat vt, to', to'.toNat, rfl, rfl, e8, ix2, ?_⟩
      refine ⟨rfl, ?_⟩
      refine ⟨.int (m : Int), rfl, .ref L, rfl, L, _, rfl, .inl ⟨SqL.of upd_same, fun t nt => ⟨by show 2 ≤ sizeLine; decide, fun tz ntz => ?_⟩⟩⟩
      have fH9 := (fH7.putN (o := .lst (exs.set at'.toNat vt)) nL).putN (o := .lst ((exs.set at'.toNat vt).set to'.toNat va)) nL
      refine fin fH9 (((d7.put oL.1 oL.2).put oL.1 oL.2).le (by omega)) (fun v hv => ?_) (by rw [List.length_set, List.length_set]; omega) nt ntz
      have hv : v ∈ exs := by
        rcases List.mem_or_eq_of_mem_set hv with hv | rfl
        · rcases List.mem_or_eq_of_mem_set hv with hv | rfl
          · exact hv
          · exact gto
        · exact gat
      exact (gaH v hv).fm fH9 hD
    rw [decide_eq_false c1]
    refine iteF ⟨.int wy, rfl, rfl, _, rfl, ?_⟩
    by_cases c2 : V.int wy = V.int 2
    · rw [decide_eq_true c2]
      refine iteT ⟨.int a, rfl, .int b, rfl, a, b, rfl, .int a, rfl, .int b, rfl, a, b, rfl, by show 2 ≤ sizeLine; decide, fun tp ntp => ?_⟩
      rw [← emn, ← emx]
      have s7 := same_upd (o := .tup [V.int mn, V.int mx]) ntp
      have e7 := same_at (o := .tup [V.int mn, V.int mx]) ntp
      have eL7 := s7 _ _ eL6
      have ix1 : ixN exs.length at' = some at'.toNat := by unfold ixN; (repeat' split) <;> first | rfl | omega | (congr 1; omega)
      refine ⟨.ref L, rfl, .int at', rfl, L, exs, at', at'.toNat, rfl, rfl, eL7, ix1, ?_⟩
      refine ⟨.int (m : Int), rfl, .ref L, rfl, L, _, rfl, .inl ⟨SqL.of upd_same, fun t nt => ⟨by show 2 ≤ sizeLine; decide, fun tz ntz => ?_⟩⟩⟩
      have fH9 := ((fH6.trans (Same.fm s7)).putN (o := .lst (exs.set at'.toNat (V.ref tp))) nL)
      refine fin fH9 (((d6.same s7).put oL.1 oL.2).le (by omega)) (fun v hv => ?_) (by rw [List.length_set]; omega) nt ntz
      rcases List.mem_or_eq_of_mem_set hv with hv | rfl
      · exact (gaH v hv).fm fH9 hD
      · exact (Gx.pr (kt_lst eL7 _ _ (SqT.of e7)) rmn rmx).le (by decide) (by decide)
    rw [decide_eq_false c2]
    refine iteF ⟨.ref L, rfl, .inl ⟨rfl, _, SqL.of eL6⟩, .int at', rfl, .int a, rfl, .int b, rfl, a, b, rfl, .int a, rfl, .int b, rfl, a, b, rfl, by show 2 ≤ sizeLine; decide, fun tp ntp => ?_⟩
    rw [← emn, ← emx]
    have s7 := same_upd (o := .tup [V.int mn, V.int mx]) ntp
    have e7 := same_at (o := .tup [V.int mn, V.int mx]) ntp
    have eL7 := s7 _ _ eL6
    refine ⟨L, exs, at', .ref tp, rfl, rfl, eL7, small1000 (by omega), by omega, by omega, ?_⟩
    refine ⟨.int (m : Int), rfl, .ref L, rfl, L, _, rfl, .inl ⟨SqL.of upd_same, fun t nt => ⟨by show 2 ≤ sizeLine; decide, fun tz ntz => ?_⟩⟩⟩
    have fH9 := ((fH6.trans (Same.fm s7)).putN (o := .lst (exs.take at'.toNat ++ [V.ref tp] ++ exs.drop at'.toNat)) nL)
    refine fin fH9 (((d6.same s7).put oL.1 oL.2).le (by omega)) (fun v hv => ?_) (by rw [List.length_append, List.length_append, List.length_take, List.length_drop, List.length_singleton]; omega) nt ntz
    rcases List.mem_append.mp hv with hv | hv
    · rcases List.mem_append.mp hv with hv | hv
      · exact (gaH v (List.mem_of_mem_take hv)).fm fH9 hD
      · rw [List.mem_singleton.mp hv]
        exact (Gx.pr (kt_lst eL7 _ _ (SqT.of e7)) rmn rmx).le (by decide) (by decide)
    · exact (gaH v (List.mem_of_mem_drop hv)).fm fH9 hD
end
end TL
namespace TL
open PySem PySem.Spec PyProof.Rows L2
section
variable {P : Program} {w : World} {K : PySem.W.Frag} {mg : Str → Option Value} {base : Heap}
section
variable {d l g : Addr} {b : Nat} {H H' : Hp}
theorem Bv.iw {v : V} {x : PyData} (h : Bv K d l g b H v x) : ∃ oi, Iw K H v oi := by
  rcases h.tq with ⟨a, xs, ds, rfl, _, ha, al, len⟩ | ⟨t, ty, kt, _⟩
  · by_cases l2 : xs.length = 2
    · match xs, l2, ha, al with
      | [k, p], _, ha, al => exact ⟨_, .two ha (al.kd k (by simp)) (al.kd p (by simp))⟩
    · exact ⟨_, .len ha l2⟩
  · exact ⟨_, .no ty kt⟩
theorem BvAll.iws : ∀ {vs : List V} {xs : List PyData}, BvAll K d l g b H vs xs → ∃ os, Iws K H vs os
  | _, _, .nil => ⟨[], .nil⟩
  | _, _, .cons p q => by
    obtain ⟨o, ho⟩ := p.iw
    obtain ⟨os, hos⟩ := BvAll.iws q
    exact ⟨_, .cons ho hos⟩
theorem Bv.sv {v : V} {x : PyData} (h : Bv K d l g b H v x) (hb : b ≤ 100) : ∃ so, Sv K H v so := by
  rcases h.tq with ⟨a, xs, ds, rfl, _, ha, al, len⟩ | ⟨t, ty, kt, _⟩
  · obtain ⟨os, hos⟩ := al.iws
    exact ⟨_, .yes ha hos (by omega)⟩
  · exact ⟨_, .no ty kt⟩
theorem Bv.lk {v : V} {x : PyData} (h : Bv K d l g b H v x) (hb : b ≤ 100) : ∃ oi so, Iw K H v oi ∧ ∀ n e, oi = some (n, e) → Sv K H e so := by
  rcases h.tq with ⟨a, xs, ds, rfl, _, ha, al, len⟩ | ⟨t, ty, kt, _⟩
  · by_cases l2 : xs.length = 2
    · match xs, l2, ha, al with
      | [k, p], _, ha, al =>
        obtain ⟨xp, _, bp⟩ := al.get (i := 1) (v := p) rfl
        obtain ⟨so, hso⟩ := bp.sv hb
        refine ⟨_, so, .two ha (al.kd k (by simp)) (al.kd p (by simp)), fun k' p' e => ?_⟩
        injection e with e
        injection e with e1 e2
        subst e1 e2
        exact hso
    · exact ⟨_, none, .len ha l2, fun _ _ e => nomatch e⟩
  · exact ⟨_, none, .no ty kt, fun _ _ e => nomatch e⟩
theorem Ov.new {v : V} {x : PyData} (h : Ov K d l H v x) (n : H g = none) : Gx K d l g 300 3 H v := by
  cases h with
  | dat h o sh i => exact ⟨_, (Bv.ofDp h i).le (by decide), sh⟩
  | obj e h h1 h2 np =>
    have := Ov.bv (g := g) (.obj e h h1 h2 np : Ov K d l H _ _) fun a z => by cases z; exact ne_of_none e n
    exact ⟨_, this.1.le (by decide), this.2⟩
  | obd e h h1 h2 =>
    have := Ov.bv (g := g) (.obd e h h1 h2 : Ov K d l H _ _) fun a z => by cases z; exact ne_of_none e n
    exact ⟨_, this.1.le (by decide), this.2⟩
theorem Iw.sv_same {oi : Option (V × V)} {so : Option (List (Option (V × V)))} (s : Same H H') (h : ∀ n e, oi = some (n, e) → Sv K H e so) : ∀ n e, oi = some (n, e) → Sv K H' e so := fun n e z => (h n e z).same s
end
/-! ### items at a new list -/
section
variable {d l g g' : Addr} {b : Nat} {H H' : Hp}
mutual
theorem Bv.newg (n : H g' = none) : ∀ {v : V} {x : PyData}, Bv K d l g b H v x → Bv K d l g' b H v x
  | _, _, .non => .non
  | _, _, .bl x => .bl x
  | _, _, .int i hi => .int i hi
  | _, _, .str x => .str x
  | _, _, .tup e al len => .tup e (BvAll.newg n al) len
  | _, _, .lst np e h1 h2 al len => .lst np e h1 ⟨h2.1, ne_of_none e n⟩ (BvAll.newg n al) len
  | _, _, .dct e o h1 h2 => .dct e o h1 ⟨h2.1, ne_of_none e n⟩
theorem BvAll.newg (n : H g' = none) : ∀ {vs : List V} {xs : List PyData}, BvAll K d l g b H vs xs → BvAll K d l g' b H vs xs
  | _, _, .nil => .nil
  | _, _, .cons p q => .cons (Bv.newg n p) (BvAll.newg n q)
end
theorem Gx.newg {N k : Nat} {v : V} (n : H g' = none) (h : Gx K d l g N k H v) : Gx K d l g' N k H v := h.imp fun _ z => ⟨z.1.newg n, z.2⟩
end
theorem Fg.put {d l L : Addr} {c m : Nat} {H : Hp} {x : V} {ys zs : List V} (e : H L = some (.lst ys)) (h : Fg K d l L c H x m) : Fg K d l L c (upd H L (.lst zs)) x m := by
  obtain ⟨fa, eb, exs, rfl, h1, h2, h3, h4⟩ := h
  exact ⟨fa, eb, exs, rfl, kt_lst e _ _ h1, kt_lst e _ _ h2, fun v hv => (h3 v hv).putd e, h4⟩
/-! ### the error shows -/
theorem errL_shape {m : Nat} : ∀ {os : List (Option (V × V))} {es : List (Int × Int)} {k : Nat} {s : Str}, errL m es os = some (k, s) → k ≤ es.length + os.length ∧ (s = Str.ofString "edge" ∨ s = Str.ofString "order" ∨ s = Str.ofString "cycle")
  | [], es, k, s, h => by unfold errL at h; cases h
  | o :: os, es, k, s, h => by
    unfold errL at h
    split at h
    · cases h
      exact ⟨by omega, .inl rfl⟩
    · split at h
      · cases h
        exact ⟨by omega, .inr (.inl rfl)⟩
      · split at h
        · cases h
          exact ⟨by omega, .inr (.inr rfl)⟩
        · have := errL_shape h
          rw [List.length_append, List.length_singleton] at this
          rw [List.length_cons]
          exact ⟨by omega, this.2⟩
theorem swErr {x : PyData} {s : Str} (hx : Sw x 300 3) (nod : x.hasDict = false) (hs : Sw (.str s) 300 3) : Shows (.tuple [x, .str s]) := by
  have h := ((SwB.one hx).app (SwB.one hs)).tup
  refine h.shows ?_ (by decide) (by decide)
  show PyData.hasDictAll _ = false
  simp only [PyData.hasDict, PyData.hasDictAll, nod, List.cons_append, List.nil_append, Bool.or_self]
theorem showsNon : Shows .none := Sw.shows (n := 300) (k := 3) ⟨rfl, by simp [PyData.depth], rfl, by simp [PyData.weight]⟩ rfl (by decide) (by decide)
theorem swNon : Sw .none 300 3 := ⟨rfl, by simp [PyData.depth], rfl, by simp [PyData.weight]⟩
theorem swStr {s : String} (h : s ∈ ["edge", "order", "cycle", "edges", "tuple", "vertices"]) : Sw (.str (Str.ofString s)) 300 3 := by
  simp only [List.mem_cons, List.not_mem_nil, or_false] at h
  rcases h with rfl | rfl | rfl | rfl | rfl | rfl <;> exact ⟨by decide +kernel, by decide +kernel, by decide +kernel, by decide +kernel⟩
theorem errShows {H : Hp} {oi : Option (V × V)} {so : Option (List (Option (V × V)))} (hs : ∀ n e, oi = some (n, e) → Sv K H e so) : Shows (forE so oi) := by
  have non : ∀ {s : String}, s ∈ ["edge", "order", "cycle", "edges", "tuple", "vertices"] → Shows (.tuple [.none, .str (Str.ofString s)]) := fun h => swErr swNon rfl (swStr h)
  cases oi with
  | none => exact non (by decide)
  | some p =>
    obtain ⟨n, e⟩ := p
    have hsv := hs n e rfl
    clear hs
    cases n with
    | int i =>
      show Shows (if 0 ≤ i ∧ i ≤ 12 then edE i.toNat so else _)
      split
      · cases so with
        | none => exact non (by decide)
        | some os =>
          show Shows (errD (errL i.toNat [] os))
          cases e' : errL i.toNat [] os with
          | none => exact showsNon
          | some q =>
            obtain ⟨k, s⟩ := q
            obtain ⟨h1, h2⟩ := errL_shape e'
            have lo : os.length ≤ 400 := by
              cases hsv with
              | yes h i l => rw [← i.len]; exact l
            have h1 : k ≤ 400 := by rw [List.length_nil] at h1; omega
            refine swErr ((sw_intB (i := (k : Int)) (by omega)).le (by decide) (by decide)) rfl ?_
            rcases h2 with rfl | rfl | rfl <;> exact swStr (by decide)
      · exact non (by decide)
    | _ => exact non (by decide)
def Rp (K : PySem.W.Frag) (H : Hp) (y : V) (d : PyData) : Prop := (Dp K H y d ∧ Shows d) ∨ (Dq K H y d ∧ ShowsQ d)
def spLSame (K : PySem.W.Frag) : Sp := fun vs H Q _ => ∃ (x y : V) (d : PyData), vs = [x, y] ∧ Rp K H x d ∧ Rp K H y d ∧ Q (.bl true) H
theorem ok_LSame {f : Addr} {fd : FuncData} {k : Nat} (F : Fun K "_law_same" "_law_same" sLSame f fd) (m_repr : mg "repr" = none) :
    FnG P w K mg base (k + 1) f fd ["_law_value", "_law_due"] (spLSame K) := by
  refine okG F scLSame (fun vs H Q E h => ?_) (fun cdv A outer s H vs Q E hr gd h => ?_)
  · obtain ⟨x, y, d, rfl, _⟩ := h
    rfl
  · obtain ⟨x, y, d, rfl, hx, hy, q⟩ := h
    refine ⟨_, (pss_one (ps_ret (pe_cmpR op_eq (pe_callB (reprO K gd hr.units) (by rfl) m_repr (by decide +kernel) (pa_cons (pv 0) pa_nil)) (pe_callB (reprO K gd hr.units) (by rfl) m_repr (by decide +kernel) (pa_cons (pv 1) pa_nil)) (nomark _)))), ?_⟩
    refine ⟨x, rfl, x, d, rfl, hx, y, rfl, y, d, rfl, hy, rfl, ?_⟩
    rw [decide_eq_true rfl]
    exact q
/-! ### the law -/
def spLaw (K : PySem.W.Frag) : Sp := fun vs H Q _ => ∃ (a : Addr) (ns : List Int), vs = [.ref a] ∧ SqL K H a (ns.map V.int) ∧ ns.length ≤ 63 ∧ ∀ H', Q (.bl true) H'
theorem ok_Law {f : Addr} {fd : FuncData} (F : Fun K "law" "law" sLaw f fd) (m_range : mg "range" = none) (m_repr : mg "repr" = none)
    (oLDeck : Own P w K mg base "_law_deck" 1 ["_law_script"] (spLDeck K)) (oLForest : Own P w K mg base "_law_forest" 3 ["_law_deck_here", "_law_most"] (spLForest K))
    (oLOdd : Own P w K mg base "_law_odd" 2 ["_law_deck_here"] (spLOdd K)) (oLChanged : Own P w K mg base "_law_changed" 3 ["_law_deck_here", "_law_forest_here"] (spLChanged K)) (oLBent : Own P w K mg base "_law_bent" 3 ["_law_deck_here", "_law_forest_here"] (spLBent K))
    (oForestError : Own P w K mg base "forest_error" 5 ["value"] (spForestError K)) (oLError : Own P w K mg base "_law_error" 2 ["_law_value"] (spLError K)) (oLSame : OwnG P w K mg base "_law_same" 1 ["_law_value", "_law_due"] (spLSame K)) :
    FnG P w K mg base 6 f fd ["_law_script"] (spLaw K) := by
  refine okG F scLaw (fun vs H Q E h => ?_) (fun cdv A outer s H vs Q E hr gd h => ?_)
  · obtain ⟨a, ns, rfl, _⟩ := h
    rfl
  · obtain ⟨a, ns, rfl, hS, hlen, q⟩ := h
    refine ⟨_, (pss_cons (ps_set (i := 1) scLaw.nd rfl (.inl rfl) (pe_own oLDeck (hr.mono (by decide)) (by rfl) (pa_cons (pv 0) pa_nil)))
    (pss_cons (ps_for PassesOwn.never rfl (pi_range1 (by rfl) m_range (pa_cons pe_int pa_nil)) (pg_name (i := 2) scLaw.nd rfl (Or.inl rfl))
    (pss_cons (ps_set (i := 3) scLaw.nd rfl (.inl rfl) (pe_own oLForest (hr.mono (by decide)) (by rfl) (pa_cons (pv 1) (pa_cons pe_int pa_nil))))
    (pss_cons (ps_set (i := 4) scLaw.nd rfl (.inl rfl) (pe_lst (pa_cons (pv 3) (pa_cons (pe_own oLOdd (hr.mono (by decide)) (by rfl) (pa_cons (pv 1) pa_nil)) (pa_cons (pe_own oLChanged (hr.mono (by decide)) (by rfl) (pa_cons (pv 1) (pa_cons (pv 3) pa_nil))) (pa_cons (pe_own oLChanged (hr.mono (by decide)) (by rfl) (pa_cons (pv 1) (pa_cons (pv 3) pa_nil))) pa_nil))))))
    (pss_cons (ps_for PassesOwn.never rfl (pi_range1 (by rfl) m_range (pa_cons pe_int pa_nil)) (pg_name (i := 5) scLaw.nd rfl (Or.inl rfl))
    (pss_cons (ps_set (i := 3) scLaw.nd rfl (.inl rfl) (pe_own oLBent (hr.mono (by decide)) (by rfl) (pa_cons (pv 1) (pa_cons (pv 3) pa_nil))))
    (pss_one (ps_expr (bmK K PySem.F.plainAttrs_list PySem.F.slot_list_append PySem.F.type_list_append mt_append (pv 4) (pa_cons (pv 3) pa_nil))))))
    (pss_one (ps_for PassesOwn.never rfl (piLK K (pv 4)) (pg_name (i := 6) scLaw.nd rfl (Or.inl rfl))
    (pss_cons (ps_par (by rfl) scLaw.nd (i := 7) (j := 8) rfl rfl (by decide) rfl rfl (pa_cons (pe_callB (reprO K gd hr.units) (by rfl) m_repr (by decide +kernel) (pa_cons (pv 6) pa_nil)) (pa_cons (pe_own oLError (hr.mono (by decide)) (by rfl) (pa_cons (pv 6) pa_nil)) pa_nil)) (by rfl))
    (pss_cons (ps_if (PW.pt (pw_or (pt_not (pt_val (pe_ownG oLSame (hr.mono (by decide)) gd (by rfl) (pa_cons (pe_own oForestError (hr.mono (by decide)) (by rfl) (pa_cons (pv 6) pa_nil)) (pa_cons (pv 8) pa_nil))))) (pw_or1 (pt_not (pt_val (pe_ownG oLSame (hr.mono (by decide)) gd (by rfl) (pa_cons (pe_own oForestError (hr.mono (by decide)) (by rfl) (pa_cons (pv 6) pa_nil)) (pa_cons (pv 8) pa_nil)))))))) (pss_one (ps_ret pe_bl)) pss_nil)
    (pss_one (ps_if (pt_cmpR op_ne (pe_callB (reprO K gd hr.units) (by rfl) m_repr (by decide +kernel) (pa_cons (pv 6) pa_nil)) (pv 7) (nomark _)) (pss_one (ps_ret pe_bl)) pss_nil))))))))))
    (pss_one (ps_ret pe_bl)))), ?_⟩
    refine ⟨.ref a, rfl, a, ns, rfl, hS, hlen, fun H1 d l s1 d1 => ?_⟩
    refine ⟨10, rfl, by decide, by decide, for_range (lo := 0) (n := 10) (fun i σ H' => ∃ y2 y3 y4 y5 y6 y7 y8, σ = [some (.ref a), some (.ref d), y2, y3, y4, y5, y6, y7, y8] ∧ Deck H' d l (200 * i)) ?_ ?_ ?_⟩
    · exact ⟨_, _, _, _, _, _, _, rfl, d1⟩
    · rintro i σ H2 hi ⟨y2, y3, y4, y5, y6, y7, y8, rfl, d2⟩
      refine ⟨.ref d, rfl, d, l, _, 12, rfl, Nat.le_refl _, d2, by omega, fun H3 x m es f3 d3 hm isf hx => ?_⟩
      refine ⟨x, rfl, .ref d, rfl, d, l, _, rfl, d3, by omega, fun H4 od xo f4 d4 ov fr4 => ?_⟩
      have hgd : ∀ {H0 : Hp} (H' : Hp) (n' : Nat), Deck H' d l n' → Fm d l H0 H' → ∃ o, H' d = some o := fun H' n' D _ => by
        obtain ⟨c, ns, _, h1, _⟩ := D
        exact ⟨_, h1⟩
      have hx4 := Dp.kt (f4.kt d3) hx (only_forD _ _)
      refine ⟨.ref d, rfl, x, rfl, d, l, d, _, x, m, es, rfl, d4, by omega, hm, isf, hx4, hgd, fun H5 z5 f5 d5 g5 => ?_⟩
      have hx5 := Dp.kt (f5.kt d4) hx4 (only_forD _ _)
      refine ⟨.ref d, rfl, x, rfl, d, l, d, _, x, m, es, rfl, d5, by omega, hm, isf, hx5, hgd, fun H6 z6 f6 d6 g6 => ⟨by show 4 ≤ sizeLine; decide, fun L nL => ?_⟩⟩
      have hx6 := Dp.kt (f6.kt d5) hx5 (only_forD _ _)
      obtain ⟨fa, eb, exs, rfl, hfa, heb, hA⟩ := Dp.forI hx6
      have ec := isf.count
      have lxs : exs.length = es.length := by rw [DpAll.length hA, List.length_map]
      have oks : ∀ p ∈ es, okP p := fun p hp => by
        have := isf.rng p hp
        exact ⟨by omega, by omega⟩
      have fg : Fg K d l L 12 H6 (.ref fa) m := ⟨fa, eb, exs, rfl, hfa, heb, fun v hv => by
        obtain ⟨j, hj⟩ := List.mem_iff_getElem?.mp hv
        exact ((gaPrs hA oks).get hj).le (by omega) (by decide), by omega⟩
      have al : ∀ v ∈ [V.ref fa, od, z5, z6], Gx K d l L 5000 20 H6 v := fun v hv => by
        rcases List.mem_cons.mp hv with rfl | hv
        · exact fg.gx hm (by decide)
        rcases List.mem_cons.mp hv with rfl | hv
        · exact ((ov.fm (f5.trans f6) d4).new nL).le (by decide) (by decide)
        rcases List.mem_cons.mp hv with rfl | hv
        · exact (g5.fm f6 d5).newg nL
        · rw [List.mem_singleton.mp hv]
          exact g6.newg nL
      have sL := same_upd (o := .lst [V.ref fa, od, z5, z6]) nL
      have eL := same_at (o := .lst [V.ref fa, od, z5, z6]) nL
      have oL := d6.off nL
      have d7 := d6.same sL
      have fg : Fg K d l L 12 (upd H6 L (.lst [V.ref fa, od, z5, z6])) (.ref fa) m := by
        obtain ⟨_, _, _, e, h1, h2, h3, h4⟩ := fg
        exact ⟨_, _, _, e, Same.tup sL h1, Same.tup sL h2, fun v hv => (h3 v hv).same sL, h4⟩
      have al : ∀ v ∈ [V.ref fa, od, z5, z6], Gx K d l L 5000 20 (upd H6 L (.lst [V.ref fa, od, z5, z6])) v := fun v hv => (al v hv).same sL
      have l4 : [V.ref fa, od, z5, z6].length = 4 := rfl
      generalize [V.ref fa, od, z5, z6] = us at eL al l4 d7 fg ⊢
      generalize upd H6 L _ = H7 at eL al d7 fg ⊢
      generalize V.ref fa = x at fg ⊢
      clear sL g5 g6 hx4 hx5 hx6 hx hA heb hfa ov
      refine ⟨3, rfl, by decide, by decide, for_range (lo := 0) (n := 3) (fun k σ H' => ∃ x y5 ys, σ = [some (.ref a), some (.ref d), some (.int (0 + (i : Int))), some x, some (.ref L), y5, y6, y7, y8] ∧ Deck H' d l (200 * i + 94 + 12 * k) ∧ H' L = some (.lst ys) ∧ ys.length = 4 + k ∧ Fg K d l L (12 + k) H' x m ∧ ∀ v ∈ ys, Gx K d l L 5000 20 H' v) ?_ ?_ ?_⟩
      · exact ⟨_, _, us, rfl, d7.le (by omega), eL, l4, fg, al⟩
      · rintro k σ H8 hk ⟨x, y5, ys, rfl, d8, e8, l8, fg8, al8⟩
        refine ⟨.ref d, rfl, x, rfl, d, l, L, _, 12 + k, x, m, rfl, d8, by omega, hm, by omega, fg8, fun H' n' _ f => ⟨_, f _ _ oL.1 oL.2 e8⟩, fun H9 v f9 d9 fg9 => ?_⟩
        have e9 := f9 _ _ oL.1 oL.2 e8
        have al9 : ∀ v ∈ ys, Gx K d l L 5000 20 H9 v := fun u hu => (al8 u hu).fm f9 d8
        refine ⟨.ref L, rfl, .inl ⟨rfl, _, SqL.of e9⟩, v, rfl, L, _, _, rfl, rfl, e9, small1000 (by omega), ?_⟩
        refine ⟨v, _, ys ++ [v], rfl, (d9.put oL.1 oL.2).le (by omega), upd_same, by rw [List.length_append, List.length_singleton]; omega, fg9.put e9, fun u hu => ?_⟩
        rcases List.mem_append.mp hu with hu | hu
        · exact (al9 u hu).putd e9
        · rw [List.mem_singleton.mp hu]
          exact (fg9.gx hm (by omega)).putd e9
      · rintro σ H8 ⟨x, y5, ys, rfl, d8, e8, l8, _, al8⟩
        have l8 : ys.length = 7 := l8
        refine ⟨.ref L, rfl, L, rfl, ⟨_, SqL.of e8⟩, for_list (K := K) (a := L) (xs := ys) (fun j σ H' => ∃ y6 y7 y8, σ = [some (.ref a), some (.ref d), some (.int (0 + (i : Int))), some x, some (.ref L), y5, y6, y7, y8] ∧ Same H8 H') ?_ ?_ ?_ ?_⟩
        · exact ⟨_, _, _, rfl, Same.refl _⟩
        · rintro j σ H' _ ⟨y6, y7, y8, rfl, s'⟩
          exact SqL.of (s' _ _ e8)
        · rintro j z σ H9 hz ⟨y6, y7, y8, rfl, s9⟩
          obtain ⟨X, bX, wX⟩ := (al8 z (List.mem_of_getElem? hz)).same s9
          obtain ⟨oi, so, hi', hs⟩ := bX.lk (by decide)
          have sh := wX.showsQ (by decide) (by decide)
          have es' := errShows hs
          refine ⟨z, rfl, z, X, rfl, .inr ⟨bX.dq, sh⟩, ?_⟩
          refine ⟨z, rfl, z, oi, so, rfl, hi', hs, fun H10 r s10 dr => ⟨_, _, rfl, ?_⟩⟩
          refine ⟨z, rfl, z, oi, so, rfl, hi'.same s10, Iw.sv_same s10 hs, fun H11 r2 s11 dr2 => ⟨r, rfl, r2, r, _, rfl, .inl ⟨dr2, es'⟩, .inl ⟨Dp.same s11 dr, es'⟩, ?_⟩⟩
          refine ⟨true, rfl, iteF ?_⟩
          refine ⟨z, rfl, z, oi, so, rfl, hi'.same (s10.trans s11), Iw.sv_same (s10.trans s11) hs, fun H12 r3 s12 dr3 => ⟨r, rfl, r3, r, _, rfl, .inl ⟨dr3, es'⟩, .inl ⟨Dp.same (s11.trans s12) dr, es'⟩, ?_⟩⟩
          refine ⟨true, rfl, iteF ?_⟩
          refine ⟨z, rfl, z, X, rfl, .inr ⟨(bX.same ((s10.trans s11).trans s12)).dq, sh⟩, ?_⟩
          exact ⟨_, rfl, rfl, false, by rw [decide_eq_true rfl]; rfl, iteF ⟨_, _, _, rfl, s9.trans ((s10.trans s11).trans s12)⟩⟩
        · rintro σ H9 ⟨y6, y7, y8, rfl, s9⟩
          exact ⟨_, _, _, _, _, _, _, rfl, (d8.same s9).le (by omega)⟩
    · rintro σ H2 ⟨y2, y3, y4, y5, y6, y7, y8, rfl, d2⟩
      exact q _
end
end TL
namespace TL
open PySem PySem.Spec PyProof.Rows L2
section
variable {P : Program} {w : World} {K : PySem.W.Frag} {mg : Str → Option Value} {base : Heap}
end
theorem all_mk {l : PySem.W.OpenLaw} {w : World} {K : PySem.W.Frag} {h : Heap} {mg : Str → Option Value} {fa f0 f1 f2 f3 f4 f5 f6 f7 f8 f9 f10 f11 f12 f13 f14 f15 f16 f17 f18 : Addr} (X : K.In h) (G : h.Ns mainGlobals mg) (hfa : mg "law" = some (.ref fa))
    {od0 an0 od1 an1 od2 an2 od3 an3 od4 an4 od5 an5 od6 an6 od7 an7 od8 an8 od9 an9 od10 an10 od11 an11 od12 an12 od13 an13 od14 an14 od15 an15 od16 an16 od17 an17 od18 an18 : Option Addr} {sl0 sl1 sl2 sl3 sl4 sl5 sl6 sl7 sl8 sl9 sl10 sl11 sl12 sl13 sl14 sl15 sl16 sl17 sl18 : Array (Option Value)} {oc0 kV0 dc0 pm0 cd0 ct0 oc1 kV1 dc1 pm1 cd1 ct1 oc2 kV2 dc2 pm2 cd2 ct2 oc3 kV3 dc3 pm3 cd3 ct3 oc4 kV4 dc4 pm4 cd4 ct4 oc5 kV5 dc5 pm5 cd5 ct5 oc6 kV6 dc6 pm6 cd6 ct6 oc7 kV7 dc7 pm7 cd7 ct7 oc8 kV8 dc8 pm8 cd8 ct8 oc9 kV9 dc9 pm9 cd9 ct9 oc10 kV10 dc10 pm10 cd10 ct10 oc11 kV11 dc11 pm11 cd11 ct11 oc12 kV12 dc12 pm12 cd12 ct12 oc13 kV13 dc13 pm13 cd13 ct13 oc14 kV14 dc14 pm14 cd14 ct14 oc15 kV15 dc15 pm15 cd15 ct15 oc16 kV16 dc16 pm16 cd16 ct16 oc17 kV17 dc17 pm17 cd17 ct17 oc18 kV18 dc18 pm18 cd18 ct18 : Value}
    (a0 : PySem.W.nsIn K mainGlobals "is_number" = some (some (.ref f0))) (l0 : K.lookup f0 = some ⟨oc0, od0, .func (PySem.W.fnOf "is_number" "is_number" (defArgs sIsNumber) (defBody sIsNumber) (defScope sIsNumber) .none kV0 dc0 pm0 an0 cd0 ct0), sl0⟩) (c0 : PySem.W.codeIn K cd0 "is_number" = true) (k0 : PySem.W.keepIn K (.ref f0) = true)
    (a1 : PySem.W.nsIn K mainGlobals "is_pair" = some (some (.ref f1))) (l1 : K.lookup f1 = some ⟨oc1, od1, .func (PySem.W.fnOf "is_pair" "is_pair" (defArgs sIsPair) (defBody sIsPair) (defScope sIsPair) .none kV1 dc1 pm1 an1 cd1 ct1), sl1⟩) (c1 : PySem.W.codeIn K cd1 "is_pair" = true) (k1 : PySem.W.keepIn K (.ref f1) = true)
    (a2 : PySem.W.nsIn K mainGlobals "is_vertex" = some (some (.ref f2))) (l2 : K.lookup f2 = some ⟨oc2, od2, .func (PySem.W.fnOf "is_vertex" "is_vertex" (defArgs sIsVertex) (defBody sIsVertex) (defScope sIsVertex) .none kV2 dc2 pm2 an2 cd2 ct2), sl2⟩) (c2 : PySem.W.codeIn K cd2 "is_vertex" = true) (k2 : PySem.W.keepIn K (.ref f2) = true)
    (a3 : PySem.W.nsIn K mainGlobals "is_edge" = some (some (.ref f3))) (l3 : K.lookup f3 = some ⟨oc3, od3, .func (PySem.W.fnOf "is_edge" "is_edge" (defArgs sIsEdge) (defBody sIsEdge) (defScope sIsEdge) .none kV3 dc3 pm3 an3 cd3 ct3), sl3⟩) (c3 : PySem.W.codeIn K cd3 "is_edge" = true) (k3 : PySem.W.keepIn K (.ref f3) = true)
    (a4 : PySem.W.nsIn K mainGlobals "merged" = some (some (.ref f4))) (l4 : K.lookup f4 = some ⟨oc4, od4, .func (PySem.W.fnOf "merged" "merged" (defArgs sMerged) (defBody sMerged) (defScope sMerged) .none kV4 dc4 pm4 an4 cd4 ct4), sl4⟩) (c4 : PySem.W.codeIn K cd4 "merged" = true) (k4 : PySem.W.keepIn K (.ref f4) = true)
    (a5 : PySem.W.nsIn K mainGlobals "edges_error" = some (some (.ref f5))) (l5 : K.lookup f5 = some ⟨oc5, od5, .func (PySem.W.fnOf "edges_error" "edges_error" (defArgs sEdgesError) (defBody sEdgesError) (defScope sEdgesError) .none kV5 dc5 pm5 an5 cd5 ct5), sl5⟩) (c5 : PySem.W.codeIn K cd5 "edges_error" = true) (k5 : PySem.W.keepIn K (.ref f5) = true)
    (a6 : PySem.W.nsIn K mainGlobals "forest_error" = some (some (.ref f6))) (l6 : K.lookup f6 = some ⟨oc6, od6, .func (PySem.W.fnOf "forest_error" "forest_error" (defArgs sForestError) (defBody sForestError) (defScope sForestError) .none kV6 dc6 pm6 an6 cd6 ct6), sl6⟩) (c6 : PySem.W.codeIn K cd6 "forest_error" = true) (k6 : PySem.W.keepIn K (.ref f6) = true)
    (a7 : PySem.W.nsIn K mainGlobals "_law_deck" = some (some (.ref f7))) (l7 : K.lookup f7 = some ⟨oc7, od7, .func (PySem.W.fnOf "_law_deck" "_law_deck" (defArgs sLDeck) (defBody sLDeck) (defScope sLDeck) .none kV7 dc7 pm7 an7 cd7 ct7), sl7⟩) (c7 : PySem.W.codeIn K cd7 "_law_deck" = true) (k7 : PySem.W.keepIn K (.ref f7) = true)
    (a8 : PySem.W.nsIn K mainGlobals "_law_draw" = some (some (.ref f8))) (l8 : K.lookup f8 = some ⟨oc8, od8, .func (PySem.W.fnOf "_law_draw" "_law_draw" (defArgs sLDraw) (defBody sLDraw) (defScope sLDraw) .none kV8 dc8 pm8 an8 cd8 ct8), sl8⟩) (c8 : PySem.W.codeIn K cd8 "_law_draw" = true) (k8 : PySem.W.keepIn K (.ref f8) = true)
    (a9 : PySem.W.nsIn K mainGlobals "_law_mixed" = some (some (.ref f9))) (l9 : K.lookup f9 = some ⟨oc9, od9, .func (PySem.W.fnOf "_law_mixed" "_law_mixed" (defArgs sLMixed) (defBody sLMixed) (defScope sLMixed) .none kV9 dc9 pm9 an9 cd9 ct9), sl9⟩) (c9 : PySem.W.codeIn K cd9 "_law_mixed" = true) (k9 : PySem.W.keepIn K (.ref f9) = true)
    (a10 : PySem.W.nsIn K mainGlobals "_law_forest" = some (some (.ref f10))) (l10 : K.lookup f10 = some ⟨oc10, od10, .func (PySem.W.fnOf "_law_forest" "_law_forest" (defArgs sLForest) (defBody sLForest) (defScope sLForest) .none kV10 dc10 pm10 an10 cd10 ct10), sl10⟩) (c10 : PySem.W.codeIn K cd10 "_law_forest" = true) (k10 : PySem.W.keepIn K (.ref f10) = true)
    (a11 : PySem.W.nsIn K mainGlobals "_law_same" = some (some (.ref f11))) (l11 : K.lookup f11 = some ⟨oc11, od11, .func (PySem.W.fnOf "_law_same" "_law_same" (defArgs sLSame) (defBody sLSame) (defScope sLSame) .none kV11 dc11 pm11 an11 cd11 ct11), sl11⟩) (c11 : PySem.W.codeIn K cd11 "_law_same" = true) (k11 : PySem.W.keepIn K (.ref f11) = true)
    (a12 : PySem.W.nsIn K mainGlobals "_law_is_number" = some (some (.ref f12))) (l12 : K.lookup f12 = some ⟨oc12, od12, .func (PySem.W.fnOf "_law_is_number" "_law_is_number" (defArgs sLIsNumber) (defBody sLIsNumber) (defScope sLIsNumber) .none kV12 dc12 pm12 an12 cd12 ct12), sl12⟩) (c12 : PySem.W.codeIn K cd12 "_law_is_number" = true) (k12 : PySem.W.keepIn K (.ref f12) = true)
    (a13 : PySem.W.nsIn K mainGlobals "_law_joined" = some (some (.ref f13))) (l13 : K.lookup f13 = some ⟨oc13, od13, .func (PySem.W.fnOf "_law_joined" "_law_joined" (defArgs sLJoined) (defBody sLJoined) (defScope sLJoined) .none kV13 dc13 pm13 an13 cd13 ct13), sl13⟩) (c13 : PySem.W.codeIn K cd13 "_law_joined" = true) (k13 : PySem.W.keepIn K (.ref f13) = true)
    (a14 : PySem.W.nsIn K mainGlobals "_law_odd" = some (some (.ref f14))) (l14 : K.lookup f14 = some ⟨oc14, od14, .func (PySem.W.fnOf "_law_odd" "_law_odd" (defArgs sLOdd) (defBody sLOdd) (defScope sLOdd) .none kV14 dc14 pm14 an14 cd14 ct14), sl14⟩) (c14 : PySem.W.codeIn K cd14 "_law_odd" = true) (k14 : PySem.W.keepIn K (.ref f14) = true)
    (a15 : PySem.W.nsIn K mainGlobals "_law_error" = some (some (.ref f15))) (l15 : K.lookup f15 = some ⟨oc15, od15, .func (PySem.W.fnOf "_law_error" "_law_error" (defArgs sLError) (defBody sLError) (defScope sLError) .none kV15 dc15 pm15 an15 cd15 ct15), sl15⟩) (c15 : PySem.W.codeIn K cd15 "_law_error" = true) (k15 : PySem.W.keepIn K (.ref f15) = true)
    (a16 : PySem.W.nsIn K mainGlobals "_law_changed" = some (some (.ref f16))) (l16 : K.lookup f16 = some ⟨oc16, od16, .func (PySem.W.fnOf "_law_changed" "_law_changed" (defArgs sLChanged) (defBody sLChanged) (defScope sLChanged) .none kV16 dc16 pm16 an16 cd16 ct16), sl16⟩) (c16 : PySem.W.codeIn K cd16 "_law_changed" = true) (k16 : PySem.W.keepIn K (.ref f16) = true)
    (a17 : PySem.W.nsIn K mainGlobals "_law_bent" = some (some (.ref f17))) (l17 : K.lookup f17 = some ⟨oc17, od17, .func (PySem.W.fnOf "_law_bent" "_law_bent" (defArgs sLBent) (defBody sLBent) (defScope sLBent) .none kV17 dc17 pm17 an17 cd17 ct17), sl17⟩) (c17 : PySem.W.codeIn K cd17 "_law_bent" = true) (k17 : PySem.W.keepIn K (.ref f17) = true)
    (a18 : PySem.W.nsIn K mainGlobals "law" = some (some (.ref f18))) (l18 : K.lookup f18 = some ⟨oc18, od18, .func (PySem.W.fnOf "law" "law" (defArgs sLaw) (defBody sLaw) (defScope sLaw) .none kV18 dc18 pm18 an18 cd18 ct18), sl18⟩) (c18 : PySem.W.codeIn K cd18 "law" = true) (k18 : PySem.W.keepIn K (.ref f18) = true)
    {yt0 : Tok} (y0 : PySem.W.nsIn K mainGlobals "MAX_VERTICES" = some (some (.int 12 yt0)))
    (z0 : PySem.W.nsIn K mainGlobals "abs" = some none) (z1 : PySem.W.nsIn K mainGlobals "len" = some none) (z2 : PySem.W.nsIn K mainGlobals "list" = some none) (z3 : PySem.W.nsIn K mainGlobals "range" = some none) (z4 : PySem.W.nsIn K mainGlobals "max" = some none) (z5 : PySem.W.nsIn K mainGlobals "min" = some none) (z6 : PySem.W.nsIn K mainGlobals "tuple" = some none) (z7 : PySem.W.nsIn K mainGlobals "sorted" = some none) (z8 : PySem.W.nsIn K mainGlobals "isinstance" = some none) (z9 : PySem.W.nsIn K mainGlobals "int" = some none) (z10 : PySem.W.nsIn K mainGlobals "bool" = some none) (z11 : PySem.W.nsIn K mainGlobals "repr" = some none) (z12 : PySem.W.nsIn K mainGlobals "set" = some none) (z13 : PySem.W.nsIn K mainGlobals "enumerate" = some none) :
    ∃ fd : FuncData, (∀ (s : Shared) (v : Value), BindsTo s fd ⟨[v], []⟩ [("_law_script", v)]) ∧ ∀ base : Heap, K.In base → base.Ns mainGlobals mg → FnG l.prog w K mg base 6 fa fd ["_law_script"] (spLaw K) := by
  cases hfa.symm.trans (PySem.W.mg_of X G a18)
  have FIsNumber := fun_mk (st := sIsNumber) l0 c0 k0
  have FIsPair := fun_mk (st := sIsPair) l1 c1 k1
  have FIsVertex := fun_mk (st := sIsVertex) l2 c2 k2
  have FIsEdge := fun_mk (st := sIsEdge) l3 c3 k3
  have FMerged := fun_mk (st := sMerged) l4 c4 k4
  have FEdgesError := fun_mk (st := sEdgesError) l5 c5 k5
  have FForestError := fun_mk (st := sForestError) l6 c6 k6
  have FLDeck := fun_mk (st := sLDeck) l7 c7 k7
  have FLDraw := fun_mk (st := sLDraw) l8 c8 k8
  have FLMixed := fun_mk (st := sLMixed) l9 c9 k9
  have FLForest := fun_mk (st := sLForest) l10 c10 k10
  have FLSame := fun_mk (st := sLSame) l11 c11 k11
  have FLIsNumber := fun_mk (st := sLIsNumber) l12 c12 k12
  have FLJoined := fun_mk (st := sLJoined) l13 c13 k13
  have FLOdd := fun_mk (st := sLOdd) l14 c14 k14
  have FLError := fun_mk (st := sLError) l15 c15 k15
  have FLChanged := fun_mk (st := sLChanged) l16 c16 k16
  have FLBent := fun_mk (st := sLBent) l17 c17 k17
  have FLaw := fun_mk (st := sLaw) l18 c18 k18
  have bIsNumber := FIsNumber.binds (ps := ["value"]) fun _ _ _ _ _ _ us hl => match us, hl with | [_], _ => rfl
  have bIsPair := FIsPair.binds (ps := ["value"]) fun _ _ _ _ _ _ us hl => match us, hl with | [_], _ => rfl
  have bIsVertex := FIsVertex.binds (ps := ["n", "value"]) fun _ _ _ _ _ _ us hl => match us, hl with | [_, _], _ => rfl
  have bIsEdge := FIsEdge.binds (ps := ["n", "value"]) fun _ _ _ _ _ _ us hl => match us, hl with | [_, _], _ => rfl
  have bMerged := FMerged.binds (ps := ["labels", "a", "b"]) fun _ _ _ _ _ _ us hl => match us, hl with | [_, _, _], _ => rfl
  have bEdgesError := FEdgesError.binds (ps := ["n", "edges"]) fun _ _ _ _ _ _ us hl => match us, hl with | [_, _], _ => rfl
  have bForestError := FForestError.binds (ps := ["value"]) fun _ _ _ _ _ _ us hl => match us, hl with | [_], _ => rfl
  have bLDeck := FLDeck.binds (ps := ["_law_script"]) fun _ _ _ _ _ _ us hl => match us, hl with | [_], _ => rfl
  have bLDraw := FLDraw.binds (ps := ["_law_deck_here", "_law_limit"]) fun _ _ _ _ _ _ us hl => match us, hl with | [_, _], _ => rfl
  have bLMixed := FLMixed.binds (ps := ["_law_deck_here", "_law_items"]) fun _ _ _ _ _ _ us hl => match us, hl with | [_, _], _ => rfl
  have bLForest := FLForest.binds (ps := ["_law_deck_here", "_law_most"]) fun _ _ _ _ _ _ us hl => match us, hl with | [_, _], _ => rfl
  have bLSame := FLSame.binds (ps := ["_law_value", "_law_due"]) fun _ _ _ _ _ _ us hl => match us, hl with | [_, _], _ => rfl
  have bLIsNumber := FLIsNumber.binds (ps := ["_law_value", "_law_low", "_law_high"]) fun _ _ _ _ _ _ us hl => match us, hl with | [_, _, _], _ => rfl
  have bLJoined := FLJoined.binds (ps := ["_law_edges", "_law_first"]) fun _ _ _ _ _ _ us hl => match us, hl with | [_, _], _ => rfl
  have bLOdd := FLOdd.binds (ps := ["_law_deck_here"]) fun _ _ _ _ _ _ us hl => match us, hl with | [_], _ => rfl
  have bLError := FLError.binds (ps := ["_law_value"]) fun _ _ _ _ _ _ us hl => match us, hl with | [_], _ => rfl
  have bLChanged := FLChanged.binds (ps := ["_law_deck_here", "_law_forest_here"]) fun _ _ _ _ _ _ us hl => match us, hl with | [_, _], _ => rfl
  have bLBent := FLBent.binds (ps := ["_law_deck_here", "_law_forest_here"]) fun _ _ _ _ _ _ us hl => match us, hl with | [_, _], _ => rfl
  have m_abs := PySem.W.mg_none_of X G z0
  have m_len := PySem.W.mg_none_of X G z1
  have m_list := PySem.W.mg_none_of X G z2
  have m_range := PySem.W.mg_none_of X G z3
  have m_max := PySem.W.mg_none_of X G z4
  have m_min := PySem.W.mg_none_of X G z5
  have m_tuple := PySem.W.mg_none_of X G z6
  have m_sorted := PySem.W.mg_none_of X G z7
  have m_isinstance := PySem.W.mg_none_of X G z8
  have m_int := PySem.W.mg_none_of X G z9
  have m_bool := PySem.W.mg_none_of X G z10
  have m_repr := PySem.W.mg_none_of X G z11
  have m_set := PySem.W.mg_none_of X G z12
  have m_enumerate := PySem.W.mg_none_of X G z13
  have m_MAX_VERTICES := PySem.W.mg_of X G y0
  refine ⟨PySem.W.fnOf "law" "law" (defArgs sLaw) (defBody sLaw) (defScope sLaw) .none kV18 dc18 pm18 an18 cd18 ct18, fun s v => .of_eq rfl, fun base _ _ => ?_⟩
  have ownIsNumber := fun {k : Nat} {sp : Sp} (G0 : FnOk l.prog w K mg base CX0 k f0 _ _ sp) => (Own.mk ⟨f0, _, G0, PySem.W.mg_of X G a0, k0, bIsNumber⟩ : Own l.prog w K mg base "is_number" k ["value"] sp)
  have ownIsPair := fun {k : Nat} {sp : Sp} (G0 : FnOk l.prog w K mg base CX0 k f1 _ _ sp) => (Own.mk ⟨f1, _, G0, PySem.W.mg_of X G a1, k1, bIsPair⟩ : Own l.prog w K mg base "is_pair" k ["value"] sp)
  have ownIsVertex := fun {k : Nat} {sp : Sp} (G0 : FnOk l.prog w K mg base CX0 k f2 _ _ sp) => (Own.mk ⟨f2, _, G0, PySem.W.mg_of X G a2, k2, bIsVertex⟩ : Own l.prog w K mg base "is_vertex" k ["n", "value"] sp)
  have ownIsEdge := fun {k : Nat} {sp : Sp} (G0 : FnOk l.prog w K mg base CX0 k f3 _ _ sp) => (Own.mk ⟨f3, _, G0, PySem.W.mg_of X G a3, k3, bIsEdge⟩ : Own l.prog w K mg base "is_edge" k ["n", "value"] sp)
  have ownMerged := fun {k : Nat} {sp : Sp} (G0 : FnOk l.prog w K mg base CX0 k f4 _ _ sp) => (Own.mk ⟨f4, _, G0, PySem.W.mg_of X G a4, k4, bMerged⟩ : Own l.prog w K mg base "merged" k ["labels", "a", "b"] sp)
  have ownEdgesError := fun {k : Nat} {sp : Sp} (G0 : FnOk l.prog w K mg base CX0 k f5 _ _ sp) => (Own.mk ⟨f5, _, G0, PySem.W.mg_of X G a5, k5, bEdgesError⟩ : Own l.prog w K mg base "edges_error" k ["n", "edges"] sp)
  have ownForestError := fun {k : Nat} {sp : Sp} (G0 : FnOk l.prog w K mg base CX0 k f6 _ _ sp) => (Own.mk ⟨f6, _, G0, PySem.W.mg_of X G a6, k6, bForestError⟩ : Own l.prog w K mg base "forest_error" k ["value"] sp)
  have ownLDeck := fun {k : Nat} {sp : Sp} (G0 : FnOk l.prog w K mg base CX0 k f7 _ _ sp) => (Own.mk ⟨f7, _, G0, PySem.W.mg_of X G a7, k7, bLDeck⟩ : Own l.prog w K mg base "_law_deck" k ["_law_script"] sp)
  have ownLDraw := fun {k : Nat} {sp : Sp} (G0 : FnOk l.prog w K mg base CX0 k f8 _ _ sp) => (Own.mk ⟨f8, _, G0, PySem.W.mg_of X G a8, k8, bLDraw⟩ : Own l.prog w K mg base "_law_draw" k ["_law_deck_here", "_law_limit"] sp)
  have ownLMixed := fun {k : Nat} {sp : Sp} (G0 : FnOk l.prog w K mg base CX0 k f9 _ _ sp) => (Own.mk ⟨f9, _, G0, PySem.W.mg_of X G a9, k9, bLMixed⟩ : Own l.prog w K mg base "_law_mixed" k ["_law_deck_here", "_law_items"] sp)
  have ownLForest := fun {k : Nat} {sp : Sp} (G0 : FnOk l.prog w K mg base CX0 k f10 _ _ sp) => (Own.mk ⟨f10, _, G0, PySem.W.mg_of X G a10, k10, bLForest⟩ : Own l.prog w K mg base "_law_forest" k ["_law_deck_here", "_law_most"] sp)
  have wngLSame := fun {k : Nat} {sp : Sp} (G0 : FnG l.prog w K mg base k f11 _ _ sp) => (OwnG.mk ⟨f11, _, G0, PySem.W.mg_of X G a11, k11, bLSame⟩ : OwnG l.prog w K mg base "_law_same" k ["_law_value", "_law_due"] sp)
  have ownLIsNumber := fun {k : Nat} {sp : Sp} (G0 : FnOk l.prog w K mg base CX0 k f12 _ _ sp) => (Own.mk ⟨f12, _, G0, PySem.W.mg_of X G a12, k12, bLIsNumber⟩ : Own l.prog w K mg base "_law_is_number" k ["_law_value", "_law_low", "_law_high"] sp)
  have ownLJoined := fun {k : Nat} {sp : Sp} (G0 : FnOk l.prog w K mg base CX0 k f13 _ _ sp) => (Own.mk ⟨f13, _, G0, PySem.W.mg_of X G a13, k13, bLJoined⟩ : Own l.prog w K mg base "_law_joined" k ["_law_edges", "_law_first"] sp)
  have ownLOdd := fun {k : Nat} {sp : Sp} (G0 : FnOk l.prog w K mg base CX0 k f14 _ _ sp) => (Own.mk ⟨f14, _, G0, PySem.W.mg_of X G a14, k14, bLOdd⟩ : Own l.prog w K mg base "_law_odd" k ["_law_deck_here"] sp)
  have ownLError := fun {k : Nat} {sp : Sp} (G0 : FnOk l.prog w K mg base CX0 k f15 _ _ sp) => (Own.mk ⟨f15, _, G0, PySem.W.mg_of X G a15, k15, bLError⟩ : Own l.prog w K mg base "_law_error" k ["_law_value"] sp)
  have ownLChanged := fun {k : Nat} {sp : Sp} (G0 : FnOk l.prog w K mg base CX0 k f16 _ _ sp) => (Own.mk ⟨f16, _, G0, PySem.W.mg_of X G a16, k16, bLChanged⟩ : Own l.prog w K mg base "_law_changed" k ["_law_deck_here", "_law_forest_here"] sp)
  have ownLBent := fun {k : Nat} {sp : Sp} (G0 : FnOk l.prog w K mg base CX0 k f17 _ _ sp) => (Own.mk ⟨f17, _, G0, PySem.W.mg_of X G a17, k17, bLBent⟩ : Own l.prog w K mg base "_law_bent" k ["_law_deck_here", "_law_forest_here"] sp)
  have oLDraw := ownLDraw (ok_LDraw (k := 0) FLDraw m_len)
  have oLDeck := ownLDeck (ok_LDeck (k := 0) FLDeck m_abs)
  have oLMixed := ownLMixed (ok_LMixed FLMixed m_list m_range m_len oLDraw)
  have oLForest := ownLForest (ok_LForest FLForest m_list m_range m_len m_max m_tuple m_sorted oLDraw oLMixed)
  have oIsNumber := ownIsNumber (ok_IsNumber (k := 0) FIsNumber m_isinstance m_int m_bool)
  have oIsPair := ownIsPair (ok_IsPair (k := 0) FIsPair m_isinstance m_tuple m_len)
  have oIsVertex := ownIsVertex (ok_IsVertex FIsVertex oIsNumber)
  have oIsEdge := ownIsEdge (ok_IsEdge FIsEdge oIsPair oIsVertex)
  have oMerged := ownMerged (ok_Merged (k := 0) FMerged)
  have oEdgesError := ownEdgesError (ok_EdgesError FEdgesError m_range m_enumerate oIsEdge oMerged)
  have oForestError := ownForestError (ok_ForestError FForestError m_isinstance m_tuple m_MAX_VERTICES oIsPair oIsNumber oEdgesError)
  have oLIsNumber := ownLIsNumber (ok_LIsNumber (k := 0) FLIsNumber m_isinstance m_int m_bool)
  have oLJoined := ownLJoined (ok_LJoined (k := 0) FLJoined m_range m_len m_int)
  have oLError := ownLError (ok_LError FLError m_isinstance m_tuple m_len m_enumerate oLIsNumber oLJoined)
  have oLOdd := ownLOdd (ok_LOdd FLOdd oLDraw)
  have oLChanged := ownLChanged (ok_LChanged FLChanged m_len m_max m_min m_list m_tuple m_sorted m_set oLDraw oLOdd)
  have oLBent := ownLBent (ok_LBent FLBent m_list m_max m_min m_len m_tuple oLDraw oLOdd)
  have oLSame := wngLSame (ok_LSame (k := 0) FLSame m_repr)
  exact ok_Law FLaw m_range m_repr oLDeck oLForest oLOdd oLChanged oLBent oForestError oLError oLSame
end TL
open PySem PySem.W PyProof.Rows
set_option maxHeartbeats 0 in
theorem PySem.Challenge.cw_treelamps_k01_first_error_of_forests_holds : PySem.Challenge.rw_treelamps_k01_first_error_of_forests.Holds := by
  w_on; o_law; k_head; (case hw => w_witness2)
  k_fill
  refine TL.walk_ofG (l := PySem.Challenge.rw_treelamps_k01_first_error_of_forests) (n := 63) (k := 6) (x := "_law_script") (sp := fun w => TL.spLaw _) rfl (by decide) rfl ⟨rfl, by decide, by decide⟩
    (fun w h Y => PySem.W.kIn_of Y) ?F (fun _ _ a ns hl _ hS => ⟨a, ns, rfl, hS, hl, fun _ => rfl⟩)
  case F =>
    intro w mg fa h KX G hmg
    refine' TL.all_mk KX G hmg ?a0 ?l0 ?c0 ?k0 ?a1 ?l1 ?c1 ?k1 ?a2 ?l2 ?c2 ?k2 ?a3 ?l3 ?c3 ?k3 ?a4 ?l4 ?c4 ?k4 ?a5 ?l5 ?c5 ?k5 ?a6 ?l6 ?c6 ?k6 ?a7 ?l7 ?c7 ?k7 ?a8 ?l8 ?c8 ?k8 ?a9 ?l9 ?c9 ?k9 ?a10 ?l10 ?c10 ?k10 ?a11 ?l11 ?c11 ?k11 ?a12 ?l12 ?c12 ?k12 ?a13 ?l13 ?c13 ?k13 ?a14 ?l14 ?c14 ?k14 ?a15 ?l15 ?c15 ?k15 ?a16 ?l16 ?c16 ?k16 ?a17 ?l17 ?c17 ?k17 ?a18 ?l18 ?c18 ?k18 ?y0 ?z0 ?z1 ?z2 ?z3 ?z4 ?z5 ?z6 ?z7 ?z8 ?z9 ?z10 ?z11 ?z12 ?z13
    (case a0 => k_is); (case l0 => k_is); (case c0 => k_is); (case k0 => k_is); (case a1 => k_is); (case l1 => k_is); (case c1 => k_is); (case k1 => k_is); (case a2 => k_is); (case l2 => k_is); (case c2 => k_is); (case k2 => k_is); (case a3 => k_is); (case l3 => k_is); (case c3 => k_is); (case k3 => k_is); (case a4 => k_is); (case l4 => k_is); (case c4 => k_is); (case k4 => k_is); (case a5 => k_is); (case l5 => k_is); (case c5 => k_is); (case k5 => k_is); (case a6 => k_is); (case l6 => k_is); (case c6 => k_is); (case k6 => k_is); (case a7 => k_is); (case l7 => k_is); (case c7 => k_is); (case k7 => k_is); (case a8 => k_is); (case l8 => k_is); (case c8 => k_is); (case k8 => k_is); (case a9 => k_is); (case l9 => k_is); (case c9 => k_is); (case k9 => k_is); (case a10 => k_is); (case l10 => k_is); (case c10 => k_is); (case k10 => k_is); (case a11 => k_is); (case l11 => k_is); (case c11 => k_is); (case k11 => k_is); (case a12 => k_is); (case l12 => k_is); (case c12 => k_is); (case k12 => k_is); (case a13 => k_is); (case l13 => k_is); (case c13 => k_is); (case k13 => k_is); (case a14 => k_is); (case l14 => k_is); (case c14 => k_is); (case k14 => k_is); (case a15 => k_is); (case l15 => k_is); (case c15 => k_is); (case k15 => k_is); (case a16 => k_is); (case l16 => k_is); (case c16 => k_is); (case k16 => k_is); (case a17 => k_is); (case l17 => k_is); (case c17 => k_is); (case k17 => k_is); (case a18 => k_is); (case l18 => k_is); (case c18 => k_is); (case k18 => k_is); (case y0 => k_is); (case z0 => k_is); (case z1 => k_is); (case z2 => k_is); (case z3 => k_is); (case z4 => k_is); (case z5 => k_is); (case z6 => k_is); (case z7 => k_is); (case z8 => k_is); (case z9 => k_is); (case z10 => k_is); (case z11 => k_is); (case z12 => k_is); (case z13 => k_is)
