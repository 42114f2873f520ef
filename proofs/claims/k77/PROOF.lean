import PyProof.Rows.All
import Wide.All
import OpenK.AllK
import Wide.FinOn
import HandS.ForMost
import HandS.Rev
import HandS.TupAny
import HandS.Wide
import PyProof.ReprRoads
import KE.SortData
import HandS.Conv
import HandS.IsInst
import HandS.Style
import KE.GoesMore
import PySem.Challenge.RW_treelamps_k77_whole_slides_of_different
set_option Elab.async false
set_option linter.all false
set_option maxRecDepth 100000
set_option maxHeartbeats 4000000
namespace TL
open PySem PySem.Spec PyProof.Rows L2

/-! ### defs that show data: they run where no text is being made -/
/-- as the layer's promise of a def, for callers outside of any showing -/
structure FnG (P : Program) (w : World) (K : PySem.W.Frag) (mg : Str → Option Value)
    (base : Heap) (k : Nat) (f : Addr) (fd : FuncData) (ps : List Str) (sp : Sp) : Prop where
  wide : ∀ vs H Q E, sp vs H Q E → vs.length = ps.length
  goes : ∀ (A : Around) (out : List Env) (s : Shared) (H : Hp) (args : Args) (us : List Value)
    (vs : List V) (Q : VK) (E : XK), Room k A → A.guards = some [] →
    Env0 P w K mg base A out s H → BindsTo s fd args (ps.zip us) → Vals vs us → sp vs H Q E →
    codeAny (model P w) A (.call (.ref f) args) (CR CX0 out P w H s Q E) s
section
variable {P : Program} {w : World} {K : PySem.W.Frag} {mg : Str → Option Value} {base : Heap}
theorem FnG.of {k : Nat} {f : Addr} {fd : FuncData} {ps : List Str} {sp : Sp}
    (F : FnOk P w K mg base CX0 k f fd ps sp) : FnG P w K mg base k f fd ps sp :=
  ⟨F.len, fun A out s H args us vs Q E hr _ => F.run A out s H args us vs Q E hr⟩

theorem okG {x qual : Str} {st : Stmt} {f : Addr} {fd : FuncData} {N ps : List Str} {k : Nat} {sp : Sp}
    (F : Fun K x qual st f fd) (S : FnScope N ps (defScope st))
    (len : ∀ vs H Q E, sp vs H Q E → vs.length = ps.length)
    (hb : ∀ (cdv : Value) (A : Around) (out : List Env) (s : Shared) (H : Hp) (vs : List V) (Q : VK) (E : XK),
      Room k (A.deeper (envOfC qual (defScope st) s.heap.objs.size f cdv)) → A.guards = some [] → sp vs H Q E →
      ∃ t, PSs (cxOf CX0 P w K mg base N qual (defScope st) f cdv A out s H E).nox (defBody st) t ∧
        t { nx := fun _ H' => Q .non H', rt := Q } (start N vs) H) :
    FnG P w K mg base (k + 1) f fd ps sp := by
  obtain ⟨oc, od, kV, doc, pm, an, cdv, ct, osl, rfl, lk, hcd⟩ := F.ex
  refine ⟨len, fun A out s H args us vs Q E hr gd e0 bnd r hsp => ?_⟩
  have stays : ∀ b o, base.get? b = some o → s.heap.get? b = some o := fun b o e => (e0.bs b o e).1
  have KX : K.In s.heap := e0.mod.kin.keeps stays
  have nl : s.heap.NoLimit := e0.mod.nolimit.keeps stays
  have kinds : ∀ y ∈ ps.zip us, (defScope st).names.lookup y.1 = some .local ∨
      ((defScope st).names.lookup y.1 = some .cell ∧
        ((cellsFrom (s.heap.objs.size + 1) (defScope st).names []).lookup y.1).isSome = true) := by
    rintro ⟨n, v⟩ hy
    exact (S.par n (List.of_mem_zip hy).1).imp id fun q => ⟨q, PySem.W.cellsFrom_some _ _ _ (.inl q)⟩
  refine codeAny_call_function hr.depth (KX _ _ lk) rfl S.co S.gen rfl
    (PySem.W.codeRec_of KX hcd) (bnd _ _ _ _ ?_)
  refine wpAny_newFunctionEnv_cells S.kind kinds fun env he s1 ic => ?_
  subst he
  refine ⟨nl.keeps ic.toInCall.keep, codeAny_func ?_⟩
  obtain ⟨t, ht, hq⟩ := hb cdv A out s H vs Q E (hr.deeper _) gd hsp
  have J := inv_start (CX := CX0) (E := E) S hr.hd e0 (len _ _ _ _ hsp) r ic
  refine wpAny_mono (ht.nox.run [] s1 (start N vs) H _ J hq) (fun fl s' hs => ?_) fun e s' hs => hs
  match fl, hs with
  | .ret u, ⟨v, σ', H', J', rv, q⟩ => exact ⟨v, H', J'.os, J'.bare, J'.base, J'.hok, rv, q⟩
  | .next, ⟨σ', H', J', q⟩ => exact ⟨V.non, H', J'.os, J'.bare, J'.base, J'.hok, rfl, q⟩
  | .brk, ⟨_, _, _, q⟩ => exact False.elim q
  | .cont, ⟨_, _, _, q⟩ => exact False.elim q
end

section
variable {X : Cx} {k : Nat} {f : Addr} {fd : FuncData} {ps : List Str} {sp : Sp} {x : Str} {p pos : Pos}
  {e : Expr} {es : List Expr} {t : TA}
theorem pe_callG (F : FnG X.prog X.w X.K X.mg X.base k f fd ps sp) (hr : Room k X.A) (gd : X.A.guards = some [])
    (hg : Gl X x) (hm : X.mg x = some (.ref f)) (hk : PySem.W.keepIn X.K (.ref f) = true) (hb : Binds X.K fd ps [])
    (ha : PA X (e :: es) t) (hdb : (x == ("__debug__" : Str)) = false := by decide)
    (he : starEach (e :: es) X.env = (false, eval e X.env) :: starEach es X.env := by rfl)
    (hpl : (backTo pos (starEach es X.env)).any (·.1) = false := by rfl) :
    PE X (.Call (.Name x p) (e :: es) [] pos) (tCall sp [] E0 t) := by
  refine ⟨fun pins s σ H Q I h => wpAny_Call_Name_kw (ld_glob I hg hm ?_ hdb)⟩
  refine PySem.W.callWith_K (h₀ := X.base) I.ok.mod.kin hk
    (thn (ha.run pos pins s σ H _ I h) fun us s1 ⟨vs, H1, I1, r, q⟩ => ⟨I1.kIn, ?_⟩) he hpl
  have q1 : sp (vs ++ []) H1 Q E0 := q
  have q2 : sp vs H1 Q E0 := by rw [List.append_nil] at q1; exact q1
  have bd := hb s1 us I1.kIn (by rw [List.append_nil, ← r.length]; exact F.wide _ _ _ _ q2)
  rw [List.append_nil] at bd
  refine wpAny_call (codeAny_mono (F.goes X.A X.stack s1 H1 ⟨us, []⟩ us vs Q E0 hr gd I1.env0 bd r q2)
    fun res s' hq => ?_)
  match res, hq with
  | .ok (.ret u), hq => exact I1.after hq
  | .ok .next, hq => exact False.elim hq
  | .ok .brk, hq => exact False.elim hq
  | .ok .cont, hq => exact False.elim hq
  | .error e, hq => exact False.elim hq
end

/-! ### the law's own call -/
theorem law_callG {P : Program} {w : World} {K : PySem.W.Frag} {mg mb : Str → Option Value} {k : Nat}
    {fa a : Addr} {fd : FuncData} {x : Str} {sp : Sp} {s : Shared} {vs : List Value} {ns : List Int}
    (KX : K.In s.heap) (hns : s.heap.Ns mainGlobals mg) (hb : s.heap.Ns builtinsNs mb)
    (hbb : ∀ x : Str, x ≠ "__name__" → mb x = bootBuiltins x) (nl : s.heap.NoLimit) (hg : s.gens = #[])
    (ha : s.heap.get? a = some { cls := .type "list", data := .seq vs.toArray }) (hi : IntsAre vs ns)
    (hl : ns.length ≤ sizeLine) (hr : Room k callerA)
    (F : ∀ base : Heap, K.In base → base.Ns mainGlobals mg → FnG P w K mg base k fa fd [x] sp)
    (bnd : ∀ (s : Shared) (u : Value), BindsTo s fd ⟨[u], []⟩ [(x, u)])
    (hsp : ∀ H : Hp, Only H → SqL K H a (ns.map V.int) → sp [.ref a] H (fun v _ => v = .bl true) E0) :
    codeAny (model P w) callerA (.call (.ref fa) ⟨[.ref a], []⟩)
      (fun r s' => r = .ok (.ret (.bool true)) ∧ OldK s.heap s'.heap ∧ s'.os = s.os ∧ AllBare s'.gens) s := by
  have rv := vals_ints hi
  have core : ∀ H : Hp, Only H → SqL K H a (ns.map V.int) → HOk P w H s.heap →
      (∀ b u, H b = some u → b = a) → ((∃ u, H a = some u) → K.lookup a = none) →
      codeAny (model P w) callerA (.call (.ref fa) ⟨[.ref a], []⟩)
        (fun r s' => r = .ok (.ret (.bool true)) ∧ OldK s.heap s'.heap ∧ s'.os = s.os ∧ AllBare s'.gens) s := by
    intro H hO hS hok hA hK
    have dictFree : ∀ {b : Addr} {o : Obj} {es : Array DictEntry} {ep : Nat},
        s.heap.get? b = some o → o.data = .dict es ep → H b = none := by
      intro b o es ep e d
      cases q : H b with
      | none => rfl
      | some u =>
        rw [hA b u q, ha] at e
        cases e
        exact nomatch d
    have nsK : ∀ {b : Addr} {m : Str → Option Value}, s.heap.Ns b m → (hidT s.heap H).Ns b m := by
      rintro b m ⟨o, es, ep, e, d, r⟩
      exact ⟨o, es, ep, hidT_get e (dictFree e d), d, r⟩
    have hKb : K.In (hidT s.heap H) := by
      intro b o e
      refine hidT_get (KX b o e) ?_
      cases q : H b with
      | none => rfl
      | some u =>
        have eb := hA b u q
        rw [eb] at e q
        rw [hK ⟨u, q⟩] at e
        cases e
    have hM : Mod K mg (hidT s.heap H) :=
      ⟨hKb, nsK hns, ⟨mb, nsK hb, hbb⟩, let ⟨mc, h1, h2⟩ := nl; ⟨mc, nsK h1, h2⟩⟩
    have e0 : Env0 P w K mg (hidT s.heap H) callerA [] s H :=
      ⟨rfl, hM, fun b o e => of_hidT e, Nat.le_of_eq (hidT_size _ _), trivial, fun b z => (nomatch z), hok, .of_eq hg⟩
    refine codeAny_mono ((F _ hKb (nsK hns)).goes callerA [] s H ⟨[.ref a], []⟩ [.ref a] [.ref a] _ _ hr rfl
      e0 (bnd s (.ref a)) (.cons rfl .nil) (hsp H hO hS)) fun r s' h => ?_
    match r, h with
    | .error e, h => exact False.elim h
    | .ok .next, h => exact False.elim h
    | .ok .brk, h => exact False.elim h
    | .ok .cont, h => exact False.elim h
    | .ok (.ret u), h =>
      obtain ⟨v, H', os, bare, un, hok', r', q⟩ := h
      obtain rfl : v = .bl true := q
      obtain rfl : u = Value.bool true := r'
      refine ⟨rfl, OldK.of_keep fun b o e => ?_, os, bare⟩
      rcases hO b with z | ⟨ob, xs, z⟩
      · exact un.keep b o e z (fun m => (nomatch m)) (fun m => (nomatch m))
      · have z2 := un.frzs b ob _ z
        have e1 := (hok b _ z).1
        have e2 := (hok' b _ z2).1
        rw [e] at e1
        cases e1
        exact e2
  cases hk : K.lookup a with
  | some o =>
    have e := KX a o hk
    rw [ha] at e
    cases e
    refine core (fun _ => none) (fun _ => .inl rfl) (.inr ⟨_, vs.toArray, _, hk, rfl, rfl, rfl, ?_, by simpa using rv⟩)
      (fun b u z => (nomatch z)) (fun b u z => (nomatch z)) fun ⟨u, z⟩ => (nomatch z)
    rw [List.size_toArray, hi.length]
    exact hl
  | none =>
    let ob : Obj := { cls := .type "list", data := .seq vs.toArray }
    let G : Hp := fun b => if b = a then some (.frz ob (.lst (ns.map V.int))) else none
    have at_a : G a = some (.frz ob (.lst (ns.map V.int))) := if_pos rfl
    have off : ∀ b, b ≠ a → G b = none := fun b z => if_neg z
    refine core G (fun b => ?_) (.inl (.inr ⟨ob, at_a⟩)) (fun b u z => ?_) (fun b u z => ?_) fun _ => hk
    · by_cases hb : b = a
      · exact .inr ⟨ob, _, by rw [hb]; exact at_a⟩
      · exact .inl (off b hb)
    · by_cases hb : b = a
      · rw [hb, at_a] at z
        cases z
        rw [hb]
        exact ⟨ha, by rw [List.length_map]; exact hl, vs, _, rv, ha⟩
      · rw [off b hb] at z
        cases z
    · by_cases hb : b = a
      · exact hb
      · rw [off b hb] at z
        cases z

theorem walk_ofG {l : PySem.W.OpenLaw} {n k : Nat} {q : Program} {loose : List Str}
    {XP : (Str → Option Value) → Heap → Prop} {YP : World → Heap → Prop} {d : DefRec}
    {K : Params → PySem.W.Frag} {sp : World → Sp} {x : Str}
    (hn : l.most = some n) (hn2 : n ≤ sizeLine) (hdf : d.params.defaults = []) (hr : Room k callerA)
    (hY : ∀ (w : World) (h : Heap), YP w h → (K w.params).In h)
    (F : ∀ (w : World) (mg : Str → Option Value) (fa : Addr) (h : Heap), (K w.params).In h →
      h.Ns mainGlobals mg → mg d.name = some (.ref fa) →
      ∃ fd : FuncData, (∀ (s : Shared) (u : Value), BindsTo s fd ⟨[u], []⟩ [(x, u)]) ∧
        ∀ base : Heap, (K w.params).In base → base.Ns mainGlobals mg →
          FnG l.prog w (K w.params) mg base k fa fd [x] (sp w))
    (hsp : ∀ (w : World) (H : Hp) (a : Addr) (ns : List Int), ns.length ≤ n → Only H →
      SqL (K w.params) H a (ns.map V.int) → sp w [.ref a] H (fun v _ => v = .bl true) E0) :
    PySem.W.WalkO q loose XP YP l.row.toRowW d [] (fun f vs => PySem.call f vs) := by
  refine Att.attach_call hn hdf fun w s₀ s₁ mg mb fa o pm cd doc a vs ns G Y ho hd hcd hmg hobj hints hlen hg => ?_
  obtain ⟨fd, hb, hF⟩ := F w mg fa _ (hY w _ Y) G.T.g hmg
  exact law_callG (hY w _ Y) G.T.g G.T.b G.T.builtins G.T.nolimit hg hobj hints
    (Nat.le_trans hlen hn2) hr hF hb fun H hO hS => hsp w H a ns hlen hO hS
end TL
namespace TL
open PySem PySem.Spec PyProof.Rows L2

/-! ### repr of data -/
structure Shows (d : PyData) : Prop where
  can : d.showable = true
  nod : d.hasDict = false
  deep : d.depth ≤ 60
  fits : d.shown.length ≤ sizeLine
def rRepr (K : PySem.W.Frag) : List V → Hp → VK → Prop := fun xs H Q =>
  ∃ (y : V) (d : PyData), xs = [y] ∧ Dp K H y d ∧ Shows d ∧ Q (.str d.shown) H
section
variable {X : Cx}
theorem call_reprD (gd : X.A.guards = some []) (hu : X.A.units + 64 < cLine) :
    CallR X (.builtin "repr") (rRepr X.K) := by
  intro pins s σ H xs us Q I r h
  obtain ⟨y, d, rfl, hd, sh, q⟩ := h
  cases r with
  | cons r1 r2 =>
    rename_i u us'
    cases r2
    obtain ⟨as, rd⟩ := Dp.reads I d y u hd r1
    have big : ∀ a, u = Value.ref a → wpAny (model X.prog X.w) X.A (call (.builtin "repr") [u]) (EP X pins σ Q) X.xe s := by
      intro a e
      subst e
      refine repr_of_reads' rd sh.can (fun z => ?_) gd (by have := sh.deep; omega) (fun _ _ e => e) (fun h' u tk hk => ?_) sh.fits
      · rw [sh.nod] at z
        cases z
      · exact ⟨.str d.shown, H, I.kept (t' := tk) hk, ⟨u, rfl⟩, q⟩
    cases hd with
    | non =>
      obtain rfl : u = Value.none := r1
      rw [PyData.shown_none] at q
      exact PySem.P.repr_of_none ⟨.str _, H, I.tok _, ⟨_, rfl⟩, q⟩
    | bl b =>
      obtain rfl : u = Value.bool b := r1
      rw [PyData.shown_bool] at q
      exact PySem.P.repr_of_bool ⟨.str _, H, I.tok _, ⟨_, rfl⟩, q⟩
    | int i =>
      obtain ⟨t, rfl⟩ := r1
      rw [PyData.shown_int] at q
      exact PySem.P.repr_of_int (by have := sh.can; simpa [PyData.showable] using this) ⟨.str _, H, I.tok _, ⟨_, rfl⟩, q⟩
    | str x =>
      obtain ⟨t, rfl⟩ := r1
      have z := sh.fits
      rw [PyData.shown_str] at q z
      exact PySem.P.repr_of_str ⟨.str _, H, I.tok _, ⟨_, rfl⟩, q⟩ z
    | lst hs ha => exact big _ r1
    | tup hs ha => exact big _ r1
end

/-! ### t[::-1], t a tuple -/
section
variable {prog : Program} {w : World} {A : Around} {E : Value → Shared → Prop} {s : Shared}
theorem fm_congr {α β : Type} (f g : α → Option β) : ∀ l : List α, (∀ x ∈ l, f x = g x) → l.filterMap f = l.filterMap g
  | [], _ => rfl
  | a :: r, h => by
    rw [List.filterMap_cons, List.filterMap_cons, h a List.mem_cons_self, fm_congr f g r fun x hx => h x (List.mem_cons_of_mem _ hx)]
theorem places_back (n : Nat) : Builtin.Slice.slicePlaces ((n : Int) - 1) (-1) (-1) = n := by
  unfold Builtin.Slice.slicePlaces
  rw [if_neg (by decide)]
  by_cases h : (n : Int) - 1 > -1
  · rw [if_pos h]
    have e : ((n : Int) - 1 - -1 - 1) / (- -1) + 1 = (n : Int) := by
      rw [show (- -1 : Int) = 1 by decide, Int.ediv_one]
      omega
    rw [e]
    exact Int.toNat_natCast n
  · rw [if_neg h]
    show (0 : Nat) = n
    omega
theorem pick_back (xs : Array Value) :
    ((List.range xs.size).filterMap fun (m : Nat) => xs[((xs.size : Int) - 1 + (m : Int) * (-1)).toNat]?).toArray = xs.toList.reverse.toArray := by
  have e : (List.range xs.size).filterMap (fun (m : Nat) => xs[((xs.size : Int) - 1 + (m : Int) * (-1)).toNat]?)
      = ((List.range xs.size).map fun k => xs.size - 1 - k).filterMap (xs[·]?) := by
    rw [List.filterMap_map]
    refine fm_congr _ _ _ fun m hm => ?_
    have := List.mem_range.mp hm
    have q : ((xs.size : Int) - 1 + (m : Int) * (-1)).toNat = xs.size - 1 - m := by omega
    rw [q]
    rfl
  rw [e, PySem.W.krv_range, List.filterMap_reverse, PySem.W.krv_all]
theorem back_applied {sl : Addr} {vk : Value} {n : Nat} {Q : Int × Int × Nat → Shared → Prop}
    (hs : s.heap.IsSliceOf sl .none .none vk) (pk : IsPart vk (some (-1)))
    (h : Q ((n : Int) - 1, -1, n) s) : wpAny (model prog w) A (Builtin.Slice.sliceApplied (.ref sl) (pure (n : Int))) Q E s := by
  obtain ⟨os, hos, hcs, hds⟩ := id hs
  unfold Builtin.Slice.sliceApplied Builtin.Slice.sliceFields
  refine wpAny_bind (wpAny_bind (wpAny_field hos hds (x := .none) rfl (wpAny_bind (wpAny_field hos hds (x := .none) rfl
    (wpAny_bind (wpAny_field hos hds (x := vk) rfl (wpAny_pure ?_)))))))
  refine wpAny_bind (HT.slicePart_ pk ?_)
  show wpAny _ _ (if ((-1 : Int) == 0) = true then _ else _) _ _ s
  rw [if_neg (by decide)]
  refine wpAny_bind (slicePart_none (wpAny_bind (slicePart_none (wpAny_bind (wpAny_pure ?_)))))
  show wpAny _ _ (pure ((n : Int) - 1, (-1 : Int), Builtin.Slice.slicePlaces ((n : Int) - 1) (-1) (-1))) _ _ s
  rw [places_back]
  exact wpAny_pure h
theorem getItem_back {t sl : Addr} {items : Array Value} {vk : Value} {Q : Value → Shared → Prop}
    (ht : IsTup s.heap t items) (hs : s.heap.IsSliceOf sl .none .none vk) (pk : IsPart vk (some (-1)))
    (h : Q (.ref s.heap.objs.size) { s with heap := s.heap.push { cls := .type "tuple", data := .seq items.toList.reverse.toArray } })
    (hsz : items.size ≤ sizeLine) : wpAny (model prog w) A (getItem (.ref t) (.ref sl)) Q E s := by
  have hz : sizeOk (.seq items.toList.reverse.toArray) := by
    show items.toList.reverse.toArray.size ≤ sizeLine
    rw [List.size_toArray, List.length_reverse, Array.length_toList]
    exact hsz
  obtain ⟨os, hos, hcs, hds⟩ := id hs
  have hTs : s.TypeIs (.ref sl) "slice" := ⟨os, hos, hcs⟩
  unfold getItem
  try with_reducible refine wpAny_holding ?_
  first | refine wpAny_bind (wpAny_pure ?_) | skip
  refine wpAny_bind (wpAny_sequenceKey ht.typeIs (by decide) ?_)
  refine wpAny_bind (wpAny_callSpecial?_slot (name := Str.ofString "__getitem__") ht.typeIs
    PyProof.Rows.slot_tuple_getitem (wpAny_call_entry PyProof.Rows.slot_tuple_getitem ht.typeIs
      entry_tuple_getitem ?_ (args_tuple_getitem _ _)))
  show wpAny _ _ (Builtin.Tuple.tupleItemsOf (.ref t) >>= _) _ _ s
  refine wpAny_bind (tupleItemsOf_ ht (wpAny_bind (wpAny_typeOf hTs ?_)))
  rw [if_pos (by decide)]
  refine wpAny_bind (back_applied hs pk ?_)
  show wpAny _ _ (if (((items.size : Int) - 1 == 0) && ((-1 : Int) == 1) && (items.size == items.size)) = true then _ else _) _ _ s
  rw [if_neg (by rw [show ((-1 : Int) == 1) = false by decide, Bool.and_false, Bool.false_and]; decide), pick_back]
  first
    | exact wpAny_bind (m := Builtin.Tuple.tupleExact _) (wpAny_newObj_type (wpAny_pure ⟨_, rfl, wpAny_pure h⟩) hz)
    | exact wpAny_bind (m := Builtin.Tuple.tupleExact _) (wpAny_newObj_type (wpAny_bind (wpAny_pure (wpAny_pure ⟨_, rfl, wpAny_pure h⟩))) hz)
    | exact wpAny_bind (wpAny_bind (m := Builtin.Tuple.tupleExact _) (wpAny_newObj_type (wpAny_pure (wpAny_pure ⟨_, rfl, wpAny_pure h⟩)) hz))
    | exact wpAny_bind (wpAny_bind (m := Builtin.Tuple.tupleExact _) (wpAny_newObj_type (wpAny_pure ⟨_, rfl, wpAny_pure h⟩) hz))
end
section
variable {X : Cx}
def tRevT (K : PySem.W.Frag) (te : TE) : TE := fun σ H Q => te σ H fun x H1 =>
  ∃ a xs, x = .ref a ∧ SqT K H1 a xs ∧ ∀ p, H1 p = none → Q (.ref p) (upd H1 p (.tup xs.reverse))
theorem pe_revT {e : Expr} {te : TE} {k : Nat} {p1 p2 p3 pos : Pos} (he : PE X e te) :
    PE X (.Subscript e (.Slice none none (some (.UnaryOp .USub (.Constant (.int 1) k p1) p2)) p3) pos) (tRevT X.K te) := by
  refine ⟨fun pins s σ H Q I h => Subscript_ (thn (he.run pins s σ H _ I h) fun v s1 ⟨x, H1, I1, r1, q1⟩ => ?_)⟩
  obtain ⟨a, xs, ex, hx, q⟩ := q1
  subst ex
  cases r1
  have hst : PO X (some (.UnaryOp .USub (.Constant (.int 1) k p1) p2))
    (tPart (tUn (rU fun i => .int (-i)) (tC (.int 1)))) := po_some (pe_un un_neg pe_int)
  refine wpAny_Slice ?_
  rw [evalPart_none]
  refine wpAny_pure ?_
  refine wpAny_pure ?_
  refine thn (hst.run pins s1 σ H1 (fun o H4 => o = some (-1) ∧ H4 = H1) I1 ⟨1, rfl, -1, rfl, rfl, rfl⟩)
    fun vk s4 ⟨o, H4, I4, pk, eo, e4⟩ => ?_
  subst eo e4
  have I5 : Inv X pins σ H4 { s4 with heap := s4.heap.push { cls := .type "slice", data := .fields #[.none, .none, vk] } } :=
    I4.kept (t' := s4.toks) fun b ob q => Heap.get?_push_of_some _ q
  obtain ⟨its, r, ht, hz⟩ := I5.tuple hx
  have hlen := r.length
  refine tail_any (ops := [.ref a, .ref s4.heap.objs.size]) ht.typeIs PyProof.Rows.slot_tuple_getitem.lookup ?_ (by with_unfolding_all rfl)
  refine getItem_back ht (Heap.IsSliceOf.new _ .none .none vk) pk ?_ (by rw [List.size_toArray]; omega)
  refine ⟨.ref _, _, I5.laid (t' := s4.toks) (o := .tup xs.reverse) (fun b ob q => Heap.get?_push_of_some _ q) (Nat.le_refl _) ?_,
    rfl, q _ (I5.hok.fresh (Nat.le_refl _))⟩
  exact ⟨by rw [List.length_reverse]; exact hz, _, r.reverse, IsTup.new _ _⟩
end
/-! ### the rules with the written part as a letter of its own (within comprehensions) -/
section
variable {X : Cx}
theorem ixTK (K : PySem.W.Frag) (h : X.K = K := by rfl) : IxR X (rIxT K) := h ▸ ix_tup
theorem ixLK (K : PySem.W.Frag) (h : X.K = K := by rfl) : IxR X (rIxL K) := h ▸ ix_list
def rLenK (K : PySem.W.Frag) : List V → Hp → VK → Prop := fun xs H Q => ∃ p ys, xs = [.ref p] ∧ (SqL K H p ys ∨ SqT K H p ys) ∧ Q (.int ys.length) H
theorem lenK (K : PySem.W.Frag) (h : X.K = K := by rfl) : CallR X (.builtin "len") (rLenK K) := h ▸ call_len_seq
def rTupK (K : PySem.W.Frag) : List V → Hp → VK → Prop := fun xs H Q => ∃ p ys, xs = [.ref p] ∧
  ((SqL K H p ys ∧ ∀ l, H l = none → Q (.ref l) (upd H l (.tup ys))) ∨ (SqT K H p ys ∧ Q (.ref p) H))
theorem tupleK (K : PySem.W.Frag) (h : X.K = K := by rfl) : CallR X (.type "tuple") (rTupK K) := h ▸ call_tuple_of
theorem catAK (K : PySem.W.Frag) (h : X.K = K := by rfl) : OpR X (binaryOp .Add) (rCatA K) := h ▸ op_catA
theorem revTK (K : PySem.W.Frag) {e : Expr} {te : TE} {k : Nat} {p1 p2 p3 pos : Pos} (he : PE X e te) (h : X.K = K := by rfl) :
    PE X (.Subscript e (.Slice none none (some (.UnaryOp .USub (.Constant (.int 1) k p1) p2)) p3) pos) (tRevT K te) := h ▸ pe_revT he
theorem reprK (K : PySem.W.Frag) (gd : X.A.guards = some []) (hu : X.A.units + 64 < cLine) (h : X.K = K := by rfl) :
    CallR X (.builtin "repr") (rRepr K) := h ▸ call_reprD gd hu
end
end TL
namespace TL
open PySem PySem.Spec PyProof.Rows L2

/-! ### heaps -/
theorem same_upd {H : Hp} {p : Addr} {o : HO} (h : H p = none) : Same H (upd H p o) := fun b x e => by
  rw [upd_ne (ne_of_none e h)]
  exact e
theorem same_at {H : Hp} {p : Addr} {o : HO} (_ : H p = none) : upd H p o p = some o := upd_same
theorem Same.tup {K : PySem.W.Frag} {H H' : Hp} {a : Addr} {xs : List V} (e : Same H H') (h : SqT K H a xs) : SqT K H' a xs := by
  rcases h with (h | ⟨o, h⟩) | h
  · exact .inl (.inl (e _ _ h))
  · exact .inl (.inr ⟨o, e _ _ h⟩)
  · exact .inr h
/-- every tuple stays -/
def KT (K : PySem.W.Frag) (H H' : Hp) : Prop := ∀ a xs, SqT K H a xs → SqT K H' a xs
theorem KT.refl {K : PySem.W.Frag} {H : Hp} : KT K H H := fun _ _ h => h
theorem KT.trans {K : PySem.W.Frag} {H H1 H2 : Hp} (a : KT K H H1) (b : KT K H1 H2) : KT K H H2 := fun c o h => b c o (a c o h)
theorem Same.kt {K : PySem.W.Frag} {H H' : Hp} (e : Same H H') : KT K H H' := fun _ _ h => Same.tup e h
/-- all but what stands at d and l is as it was -/
def Fm (d l : Addr) (H H' : Hp) : Prop := ∀ b o, b ≠ d → b ≠ l → H b = some o → H' b = some o
theorem Fm.refl {d l : Addr} {H : Hp} : Fm d l H H := fun _ _ _ _ h => h
theorem Fm.trans {d l : Addr} {H H1 H2 : Hp} (a : Fm d l H H1) (b : Fm d l H1 H2) : Fm d l H H2 :=
  fun c o h1 h2 h => b c o h1 h2 (a c o h1 h2 h)
theorem Same.fm {d l : Addr} {H H' : Hp} (e : Same H H') : Fm d l H H' := fun b o _ _ h => e b o h

/-! ### the deck: a list of cells and a count -/
def Deck (H : Hp) (d l : Addr) (n : Nat) : Prop := ∃ (c : Nat) (ns : List Int), c ≤ n ∧
  H d = some (.lst [.ref l, .int (c : Int)]) ∧ H l = some (.lst (ns.map V.int)) ∧ (∀ z ∈ ns, 0 ≤ z) ∧ ns.length ≤ 63
theorem Deck.ne {H : Hp} {d l : Addr} {n : Nat} (h : Deck H d l n) : d ≠ l := by
  obtain ⟨c, ns, _, h1, h2, _⟩ := h
  intro e
  rw [e, h2] at h1
  cases ns with
  | nil => cases h1
  | cons z r => cases h1
theorem Deck.same {H H' : Hp} {d l : Addr} {n : Nat} (h : Deck H d l n) (e : Same H H') : Deck H' d l n := by
  obtain ⟨c, ns, hc, h1, h2, h3⟩ := h
  exact ⟨c, ns, hc, e _ _ h1, e _ _ h2, h3⟩
theorem Deck.le {H : Hp} {d l : Addr} {n m : Nat} (h : Deck H d l n) (e : n ≤ m) : Deck H d l m := by
  obtain ⟨c, ns, hc, h3⟩ := h
  exact ⟨c, ns, Nat.le_trans hc e, h3⟩
theorem Fm.kt {K : PySem.W.Frag} {H H' : Hp} {d l : Addr} {n : Nat} (e : Fm d l H H') (h : Deck H d l n) : KT K H H' := by
  obtain ⟨c, ns, hc, h1, h2, h3⟩ := h
  intro a xs q
  rcases q with (q | ⟨o, q⟩) | q
  · refine .inl (.inl (e _ _ (fun z => ?_) (fun z => ?_) q))
    · rw [z, h1] at q; cases q
    · rw [z, h2] at q; cases q
  · refine .inl (.inr ⟨o, e _ _ (fun z => ?_) (fun z => ?_) q⟩)
    · rw [z, h1] at q; cases q
    · rw [z, h2] at q; cases q
  · exact .inr q
/-- a tracked thing that is neither -/
theorem Deck.off {H : Hp} {d l a : Addr} {n : Nat} (h : Deck H d l n) (ha : H a = none) : a ≠ d ∧ a ≠ l := by
  obtain ⟨c, ns, hc, h1, h2, h3⟩ := h
  exact ⟨fun z => (by rw [z, h1] at ha; cases ha), fun z => (by rw [z, h2] at ha; cases ha)⟩

theorem Deck.put {H : Hp} {d l a : Addr} {n : Nat} {o : HO} (h : Deck H d l n) (h1 : a ≠ d) (h2 : a ≠ l) : Deck (upd H a o) d l n := by
  obtain ⟨c, ns, hc, e1, e2, h3⟩ := h
  exact ⟨c, ns, hc, by rw [upd_ne h1.symm]; exact e1, by rw [upd_ne h2.symm]; exact e2, h3⟩
theorem kt_lst {K : PySem.W.Frag} {H : Hp} {a : Addr} {xs ys : List V} (h : H a = some (.lst xs)) : KT K H (upd H a (.lst ys)) := by
  intro b zs q
  rcases q with (q | ⟨o, q⟩) | q
  · refine .inl (.inl ?_)
    rw [upd_ne fun z => by rw [z, h] at q; cases q]
    exact q
  · refine .inl (.inr ⟨o, ?_⟩)
    rw [upd_ne fun z => by rw [z, h] at q; cases q]
    exact q
  · exact .inr q

/-! ### data -/
mutual
def only : PyData → Bool
  | .none => true
  | .bool _ => true
  | .int _ => true
  | .str _ => true
  | .tuple xs => onlyAll xs
  | .list _ => false
  | .dict _ => false
def onlyAll : List PyData → Bool
  | [] => true
  | x :: xs => only x && onlyAll xs
end
section
variable {K : PySem.W.Frag} {H H' : Hp}
mutual
theorem Dp.kt (e : KT K H H') : ∀ {v : V} {d : PyData}, Dp K H v d → only d = true → Dp K H' v d
  | _, _, .non, _ => .non
  | _, _, .bl b, _ => .bl b
  | _, _, .int i, _ => .int i
  | _, _, .str x, _ => .str x
  | _, _, .lst h a, o => by
    unfold only at o
    cases o
  | _, _, .tup h a, o => .tup (e _ _ h) (DpAll.kt e a (by unfold only at o; exact o))
theorem DpAll.kt (e : KT K H H') : ∀ {v : List V} {d : List PyData}, DpAll K H v d → onlyAll d = true → DpAll K H' v d
  | _, _, .nil, _ => .nil
  | _, _, .cons h a, o => by
    unfold onlyAll at o
    rw [Bool.and_eq_true] at o
    exact .cons (Dp.kt e h o.1) (DpAll.kt e a o.2)
end
mutual
theorem Dp.same (e : Same H H') : ∀ {v : V} {d : PyData}, Dp K H v d → Dp K H' v d
  | _, _, .non => .non
  | _, _, .bl b => .bl b
  | _, _, .int i => .int i
  | _, _, .str x => .str x
  | _, _, .lst h a => .lst (e.seq h) (DpAll.same e a)
  | _, _, .tup h a => .tup (Same.tup e h) (DpAll.same e a)
theorem DpAll.same (e : Same H H') : ∀ {v : List V} {d : List PyData}, DpAll K H v d → DpAll K H' v d
  | _, _, .nil => .nil
  | _, _, .cons h a => .cons (Dp.same e h) (DpAll.same e a)
end
theorem DpAll.length : ∀ {v : List V} {d : List PyData}, DpAll K H v d → v.length = d.length
  | _, _, .nil => rfl
  | _, _, .cons _ a => congrArg (· + 1) (DpAll.length a)
theorem DpAll.append : ∀ {v u : List V} {d e : List PyData}, DpAll K H v d → DpAll K H u e → DpAll K H (v ++ u) (d ++ e)
  | _, _, _, _, .nil, b => b
  | _, _, _, _, .cons h a, b => .cons h (DpAll.append a b)
theorem DpAll.reverse : ∀ {v : List V} {d : List PyData}, DpAll K H v d → DpAll K H v.reverse d.reverse
  | _, _, .nil => .nil
  | _, _, .cons h a => by
    rw [List.reverse_cons, List.reverse_cons]
    exact DpAll.append (DpAll.reverse a) (.cons h .nil)
theorem DpAll.get : ∀ {v : List V} {d : List PyData} {i : Nat} {x : V}, DpAll K H v d → v[i]? = some x → ∃ z, d[i]? = some z ∧ Dp K H x z
  | _, _, _, _, .nil, q => by simp at q
  | _, _, 0, _, .cons h a, q => by
    rw [List.getElem?_cons_zero] at q
    cases q
    exact ⟨_, List.getElem?_cons_zero, h⟩
  | _, _, i + 1, _, .cons h a, q => by
    rw [List.getElem?_cons_succ] at q
    obtain ⟨z, e, r⟩ := DpAll.get a q
    exact ⟨z, by rw [List.getElem?_cons_succ]; exact e, r⟩
theorem Dp.tupI {v : V} {ds : List PyData} (h : Dp K H v (.tuple ds)) : ∃ a xs, v = .ref a ∧ SqT K H a xs ∧ DpAll K H xs ds := by
  cases h with
  | tup h a => exact ⟨_, _, rfl, h, a⟩
theorem Dp.lstI {v : V} {ds : List PyData} (h : Dp K H v (.list ds)) : ∃ a xs, v = .ref a ∧ SqL K H a xs ∧ DpAll K H xs ds := by
  cases h with
  | lst h a => exact ⟨_, _, rfl, h, a⟩
theorem Dp.intI {v : V} {i : Int} (h : Dp K H v (.int i)) : v = .int i := by
  cases h
  rfl
theorem DpAll.ints : ∀ {xs : List V} {ns : List Int}, DpAll K H xs (ns.map .int) → xs = ns.map V.int
  | [], [], _ => rfl
  | _ :: _, n :: ns, .cons h a => by
    rw [Dp.intI h, DpAll.ints a]
    rfl
theorem DpAll.of_ints : ∀ (ns : List Int), DpAll K H (ns.map V.int) (ns.map .int)
  | [] => .nil
  | n :: ns => .cons (.int n) (DpAll.of_ints ns)
end

/-! ### pairs of ints -/
def prD (p : Int × Int) : PyData := .tuple [.int p.1, .int p.2]
def prsD (ps : List (Int × Int)) : PyData := .tuple (ps.map prD)
theorem only_pr (p : Int × Int) : only (prD p) = true := by simp [prD, only, onlyAll]
theorem only_prs : ∀ ps : List (Int × Int), onlyAll (ps.map prD) = true
  | [] => by simp [onlyAll]
  | p :: ps => by simp [onlyAll, only_pr p, only_prs ps]
theorem only_prsD (ps : List (Int × Int)) : only (prsD ps) = true := by
  unfold prsD only
  exact only_prs ps
section
variable {K : PySem.W.Frag} {H : Hp}
theorem Dp.prI {v : V} {p : Int × Int} (h : Dp K H v (prD p)) : ∃ a, v = .ref a ∧ SqT K H a [.int p.1, .int p.2] := by
  obtain ⟨a, xs, e, h1, h2⟩ := Dp.tupI h
  have q : xs = [p.1, p.2].map V.int := DpAll.ints (ns := [p.1, p.2]) h2
  subst q
  exact ⟨a, e, h1⟩
theorem Dp.pr {a : Addr} {i j : Int} (h : SqT K H a [.int i, .int j]) : Dp K H (.ref a) (prD (i, j)) :=
  .tup h (.cons (.int i) (.cons (.int j) .nil))
end

/-! ### showing small data -/
def sm (i : Int) : Prop := -1000 ≤ i ∧ i ≤ 1000
theorem sm_log {i : Int} (h : sm i) : i.natAbs.log2 < 10 := by
  have h2 : i.natAbs < 2 ^ 10 := by
    unfold sm at h
    omega
  exact PySem.Flt.log2_lt_of (by decide) h2
structure Sm (d : PyData) (n k : Nat) : Prop where
  can : d.showable = true
  nod : d.hasDict = false
  deep : d.depth ≤ k
  short : d.leavesShort 13 = true
  light : d.weight ≤ n
theorem Sm.shows {d : PyData} {n k : Nat} (h : Sm d n k) (hn : n ≤ 1000000) (hk : k ≤ 60) : Shows d :=
  ⟨h.can, h.nod, Nat.le_trans h.deep hk, PyData.shown_fits (by decide) (by decide) h.short (Nat.le_trans h.light (by omega))⟩
theorem Sm.le {d : PyData} {n k m j : Nat} (h : Sm d n k) (hn : n ≤ m) (hk : k ≤ j) : Sm d m j :=
  ⟨h.can, h.nod, Nat.le_trans h.deep hk, h.short, Nat.le_trans h.light hn⟩
theorem Sm.none : Sm .none 0 0 := ⟨rfl, rfl, Nat.le_refl _, rfl, Nat.le_refl _⟩
theorem Sm.bool (b : Bool) : Sm (.bool b) 0 0 := ⟨rfl, rfl, Nat.le_refl _, rfl, Nat.le_refl _⟩
theorem Sm.int {i : Int} (h : sm i) : Sm (.int i) 10 0 := by
  have h1 := sm_log h
  refine ⟨?_, by simp [PyData.hasDict], by simp [PyData.depth], ?_, ?_⟩
  · simp only [PyData.showable]
    exact decide_eq_true (by omega)
  · simp only [PyData.leavesShort]
    exact decide_eq_true (PyData.shown_int_le (by unfold sm at h; omega))
  · simp only [PyData.weight]
    split <;> omega
structure SmA (ds : List PyData) (n k : Nat) : Prop where
  can : PyData.showableAll ds = true
  nod : PyData.hasDictAll ds = false
  deep : PyData.depthAll ds ≤ k
  short : PyData.leavesShortAll 13 ds = true
  light : PyData.weightAll ds ≤ ds.length * (n + 1)
theorem SmA.of {n k : Nat} : ∀ {ds : List PyData}, (∀ d ∈ ds, Sm d n k) → SmA ds n k
  | [], _ => ⟨rfl, rfl, by simp [PyData.depthAll], rfl, by simp [PyData.weightAll]⟩
  | d :: ds, h => by
    have h1 := h d List.mem_cons_self
    have h2 := SmA.of (n := n) (k := k) fun e he => h e (List.mem_cons_of_mem _ he)
    refine ⟨?_, ?_, ?_, ?_, ?_⟩
    · simp only [PyData.showableAll, h1.can, h2.can, Bool.and_self]
    · simp only [PyData.hasDictAll, h1.nod, h2.nod, Bool.or_self]
    · simp only [PyData.depthAll]
      exact Nat.max_le.mpr ⟨h1.deep, h2.deep⟩
    · simp only [PyData.leavesShortAll, h1.short, h2.short, Bool.and_self]
    · have a := h1.light
      have b := h2.light
      simp only [PyData.weightAll, List.length_cons, Nat.add_mul, Nat.one_mul]
      omega
theorem Sm.tup {n k m : Nat} {ds : List PyData} (h : ∀ d ∈ ds, Sm d n k) (hm : ds.length ≤ m) : Sm (.tuple ds) (m * (n + 1)) (k + 1) := by
  have q := SmA.of h
  have z : ds.length * (n + 1) ≤ m * (n + 1) := Nat.mul_le_mul_right _ hm
  refine ⟨?_, ?_, ?_, ?_, ?_⟩
  · simp only [PyData.showable]; exact q.can
  · simp only [PyData.hasDict]; exact q.nod
  · simp only [PyData.depth]; have := q.deep; omega
  · simp only [PyData.leavesShort]; exact q.short
  · simp only [PyData.weight]; exact Nat.le_trans q.light z
theorem Sm.lst {n k m : Nat} {ds : List PyData} (h : ∀ d ∈ ds, Sm d n k) (hm : ds.length ≤ m) : Sm (.list ds) (m * (n + 1)) (k + 1) := by
  have q := SmA.of h
  have z : ds.length * (n + 1) ≤ m * (n + 1) := Nat.mul_le_mul_right _ hm
  refine ⟨?_, ?_, ?_, ?_, ?_⟩
  · simp only [PyData.showable]; exact q.can
  · simp only [PyData.hasDict]; exact q.nod
  · simp only [PyData.depth]; have := q.deep; omega
  · simp only [PyData.leavesShort]; exact q.short
  · simp only [PyData.weight]; exact Nat.le_trans q.light z
def smP (p : Int × Int) : Prop := sm p.1 ∧ sm p.2
theorem Sm.pr {p : Int × Int} (h : smP p) : Sm (prD p) 22 1 :=
  Sm.tup (n := 10) (k := 0) (m := 2) (fun d hd => by
    rcases List.mem_cons.mp hd with rfl | hd
    · exact Sm.int h.1
    · rcases List.mem_cons.mp hd with rfl | hd
      · exact Sm.int h.2
      · exact nomatch hd) (Nat.le_refl _)
theorem Sm.prs {ps : List (Int × Int)} {m : Nat} (h : ∀ p ∈ ps, smP p) (hm : ps.length ≤ m) : Sm (prsD ps) (m * 23) 2 :=
  Sm.tup (n := 22) (k := 1) (m := m) (fun d hd => by
    obtain ⟨p, hp, rfl⟩ := List.mem_map.mp hd
    exact Sm.pr (h p hp)) (by rw [List.length_map]; exact hm)
end TL
namespace TL
open PySem PySem.Spec PyProof.Rows L2
theorem yesI {σ : L2.St} {H : Hp} {Q : Bool → Hp → Prop} (h : Q true H) : tYes σ H Q := h
/-- what a comprehension asks of its turns -/
def LcGoal (J : It) (g : TG) (tt : TT) (te : TE) (vs : List Nat) (σ : L2.St) (H1 : Hp) (D : Addr) (Qd : Hp → Prop) : Prop :=
  ∃ W : Nat → Nat → Hp → Prop, (∃ m, W 0 m (upd H1 D (.lst []))) ∧ ∀ i m H, W i m H →
    (J.stop i H ∧ Qd H) ∨
    (J.go i H ∧ ∃ Nx : Hp → Prop, (∀ H', Nx H' → ∃ m', m' < m ∧ W (i + 1) m' H') ∧
      ∀ x H', J.yld i H x H' → g x (wipe σ vs) H' fun σ2 H2 =>
        wipe σ2 vs = wipe σ vs ∧ tt σ2 H2 fun b H3 =>
          if b = true then
            te σ2 H3 fun y H4 => ∃ acc, H4 D = some (.lst acc) ∧ acc.length < sizeLine ∧ Nx (upd H4 D (.lst (acc ++ [y])))
          else Nx H3)
/-- by the number of turns -/
theorem lc_by {J : It} {g : TG} {tt : TT} {te : TE} {vs : List Nat} {σ : L2.St} {H1 : Hp} {D : Addr} {Qd : Hp → Prop} (n : Nat)
    (Pv : Nat → Hp → Prop) (h0 : Pv 0 (upd H1 D (.lst []))) (hgo : ∀ i H, i < n → Pv i H → J.go i H) (hst : ∀ H, Pv n H → J.stop n H)
    (hs : ∀ i x H H', i < n → Pv i H → J.yld i H x H' → g x (wipe σ vs) H' fun σ2 H2 =>
      wipe σ2 vs = wipe σ vs ∧ tt σ2 H2 fun b H3 =>
        if b = true then
          te σ2 H3 fun y H4 => ∃ acc, H4 D = some (.lst acc) ∧ acc.length < sizeLine ∧ Pv (i + 1) (upd H4 D (.lst (acc ++ [y])))
        else Pv (i + 1) H3)
    (hd : ∀ H, Pv n H → Qd H) : LcGoal J g tt te vs σ H1 D Qd := by
  refine ⟨fun i m H => m = n - i ∧ i ≤ n ∧ Pv i H, ⟨n, rfl, Nat.zero_le _, h0⟩, fun i m H hW => ?_⟩
  obtain ⟨e, hi, p⟩ := hW
  by_cases hlt : i < n
  · refine .inr ⟨hgo i H hlt p, Pv (i + 1), fun H' p' => ⟨n - (i + 1), by omega, rfl, hlt, p'⟩, fun x H' y => hs i x H H' hlt p y⟩
  · obtain rfl : i = n := by omega
    exact .inl ⟨hst H p, hd H p⟩
/-- over reversed(a tuple) -/
theorem lc_revT {K : PySem.W.Frag} {a : Addr} {xs : List V} {g : TG} {tt : TT} {te : TE} {vs : List Nat} {σ : L2.St} {H1 : Hp} {D : Addr} {Qd : Hp → Prop}
    (Pv : Nat → Hp → Prop) (h0 : Pv 0 (upd H1 D (.lst []))) (hl : ∀ i H, Pv i H → SqT K H a xs)
    (hs : ∀ i x H, i < xs.length → xs[xs.length - 1 - i]? = some x → Pv i H → g x (wipe σ vs) H fun σ2 H2 =>
      wipe σ2 vs = wipe σ vs ∧ tt σ2 H2 fun b H3 =>
        if b = true then
          te σ2 H3 fun y H4 => ∃ acc, H4 D = some (.lst acc) ∧ acc.length < sizeLine ∧ Pv (i + 1) (upd H4 D (.lst (acc ++ [y])))
        else Pv (i + 1) H3)
    (hd : ∀ H, Pv xs.length H → Qd H) : LcGoal (RT.ItvT K a xs.length) g tt te vs σ H1 D Qd := by
  refine lc_by xs.length Pv h0 (fun i H hi p => ?_) (fun H p => Nat.le_refl _) (fun i x H H' hi p y => ?_) hd
  · have hj : xs.length - 1 - i < xs.length := by omega
    exact ⟨hi, xs, _, hl i H p, List.getElem?_eq_getElem hj⟩
  · obtain ⟨e, hy⟩ := y
    subst e
    exact hs i x _ hi (hy xs (hl i _ p)) p
end TL
namespace TL
open PySem PySem.Spec PyProof.Rows L2
/-! ### sorted, of any alike data -/
theorem each_of {K : PySem.W.Frag} {H : Hp} {β : Type} (enc : β → PyData) : ∀ {xs : List V} {us : List Value} {bs : List β},
    Vals xs us → DpAll K H xs (bs.map enc) → PySem.W.EachIs (fun (u : Value) (b : β) => ∃ x, RelV x u ∧ Dp K H x (enc b)) us bs
  | _, _, [], .nil, _ => .nil
  | _, _, _ :: _, .nil, h => nomatch h
  | _, _, [], .cons _ _, h => nomatch h
  | _, _, b :: bs, .cons r t, .cons h a => .cons ⟨_, r, h⟩ (each_of enc t a)
theorem of_each {K : PySem.W.Frag} {H : Hp} {β : Type} (enc : β → PyData) : ∀ {us : List Value} {bs : List β},
    PySem.W.EachIs (fun (u : Value) (b : β) => ∃ x, RelV x u ∧ Dp K H x (enc b)) us bs → ∃ ys, Vals ys us ∧ DpAll K H ys (bs.map enc)
  | _, _, .nil => ⟨[], .nil, .nil⟩
  | _, _, .cons ⟨x, r, h⟩ t => by
    obtain ⟨ys, a, b⟩ := of_each enc t
    exact ⟨x :: ys, .cons r a, .cons h b⟩
@[irreducible] def rSortD (K : PySem.W.Frag) : List V → Hp → VK → Prop := fun vs H Q => ∃ (β : Type) (enc : β → PyData) (bs : List β) (a : Addr) (xs : List V),
  vs = [.ref a] ∧ SqL K H a xs ∧ DpAll K H xs (bs.map enc) ∧ PySem.W.AllAlike (bs.map enc) ∧ PySem.W.Sortable (bs.map enc) ∧ (∀ b ∈ bs, (enc b).depth ≤ 50) ∧
  ∀ p ys, H p = none → DpAll K H ys ((bs.mergeSort (PySem.W.dataLe false enc)).map enc) → Q (.ref p) (upd H p (.lst ys))
section
variable {X : Cx}
theorem sorted_D (hu : X.A.units + 64 < cLine) : CallR X (.builtin "sorted") (rSortD X.K) := by
  intro pins s σ H vs us Q I r h
  unfold rSortD at h
  obtain ⟨β, enc, bs, a, xs, rfl, hs, ha, al, so, dp, q⟩ := h
  cases r with
  | cons r1 r2 =>
    cases r2
    rename_i u
    obtain rfl : u = Value.ref a := r1
    obtain ⟨its, rv, hl, hz⟩ := I.list hs
    have e1 := each_of enc rv ha
    have lb : xs.length = bs.length := by rw [DpAll.length ha, List.length_map]
    have e2 : PySem.W.EachIs (fun v b => ∃ as, Reads s.heap v (enc b) as) its bs :=
      e1.mono fun u b ⟨x, rx, hx⟩ => Dp.reads I _ x u hx rx
    refine PySem.W.sorted_data hl.isList e1 e2 al so (by omega) (fun b hb => by have := dp b hb; omega) fun out hlen eo => ?_
    obtain ⟨ys, ry, dy⟩ := of_each enc eo
    obtain ⟨c, hc⟩ := PyProof.Rows.sortedAll_at s.heap its out.toArray
    have fr : H (s.heap.objs.size + 1) = none := I.hok.fresh (Nat.le_succ _)
    refine ⟨.ref (s.heap.objs.size + 1), upd H (s.heap.objs.size + 1) (.lst ys), I.laid (t' := s.toks) (fun _ _ => PyProof.Rows.sortedAll_old) (Nat.le_succ _) ?_, rfl, q _ ys fr dy⟩
    exact ⟨by have := ry.length; omega, out, c, ry, hc⟩
/-! ### in, of data -/
def rInDt (K : PySem.W.Frag) (neg : Bool) : R2 := fun x y H Q => ∃ d ds, Dp K H x d ∧ (Dp K H y (.list ds) ∨ Dp K H y (.tuple ds)) ∧
  PyData.canLayAll0 ds = true ∧ d.canLay0 = true ∧ d.depth ≤ 50 ∧ Q (.bl (if neg then !(ds.any fun z => PyData.eqv z d) else ds.any fun z => PyData.eqv z d)) H
theorem room_in {d : PyData} {ds : List PyData} {u : Nat} (h : d.depth ≤ 50) (hu : u + 64 < cLine) : u + 1 + min (PyData.depthAll ds) d.depth < cLine := by
  have : min (PyData.depthAll ds) d.depth ≤ 50 := Nat.le_trans (Nat.min_le_right _ _) h
  omega
theorem op_inDt (hu : X.A.units + 64 < cLine) : OpR X (compareOp .In) (rInDt X.K false) := by
  intro pins s σ H x y v u Q I rx ry h
  obtain ⟨d, ds, hd, he, c1, c2, dp, q⟩ := h
  obtain ⟨as, r1⟩ := Dp.reads I d x v hd rx
  rcases he with he | he
  · obtain ⟨bs, r2⟩ := Dp.reads I _ y u he ry
    exact SeqAt.in_list_reads r2 r1 c1 c2 (room_in dp hu) ⟨.bl _, H, I, rfl, q⟩
  · obtain ⟨bs, r2⟩ := Dp.reads I _ y u he ry
    exact SeqAt.in_tuple_reads r2 r1 c1 c2 (room_in dp hu) ⟨.bl _, H, I, rfl, q⟩
theorem op_notInDt (hu : X.A.units + 64 < cLine) : OpR X (compareOp .NotIn) (rInDt X.K true) := by
  intro pins s σ H x y v u Q I rx ry h
  obtain ⟨d, ds, hd, he, c1, c2, dp, q⟩ := h
  obtain ⟨as, r1⟩ := Dp.reads I d x v hd rx
  rcases he with he | he
  · obtain ⟨bs, r2⟩ := Dp.reads I _ y u he ry
    exact SeqAt.notIn_list_reads r2 r1 c1 c2 (room_in dp hu) ⟨.bl _, H, I, rfl, q⟩
  · obtain ⟨bs, r2⟩ := Dp.reads I _ y u he ry
    exact SeqAt.notIn_tuple_reads r2 r1 c1 c2 (room_in dp hu) ⟨.bl _, H, I, rfl, q⟩
/-! ### the written part as a letter -/
theorem sortK (K : PySem.W.Frag) (hu : X.A.units + 64 < cLine) (h : X.K = K := by rfl) : CallR X (.builtin "sorted") (rSortD K) := h ▸ sorted_D hu
theorem inDK (K : PySem.W.Frag) (hu : X.A.units + 64 < cLine) (h : X.K = K := by rfl) : OpR X (compareOp .In) (rInDt K false) := h ▸ op_inDt hu
theorem notInDK (K : PySem.W.Frag) (hu : X.A.units + 64 < cLine) (h : X.K = K := by rfl) : OpR X (compareOp .NotIn) (rInDt K true) := h ▸ op_notInDt hu
theorem inK (K : PySem.W.Frag) (h : X.K = K := by rfl) : OpR X (compareOp .In) (rIn K false) := h ▸ op_in_seq
theorem notInK (K : PySem.W.Frag) (h : X.K = K := by rfl) : OpR X (compareOp .NotIn) (rIn K true) := h ▸ op_notIn_seq
theorem eqDK (K : PySem.W.Frag) (hu : X.A.units + 64 < cLine) (h : X.K = K := by rfl) : OpR X (compareOp .Eq) (rEqD K) := h ▸ op_eqD hu
theorem neDK (K : PySem.W.Frag) (hu : X.A.units + 64 < cLine) (h : X.K = K := by rfl) : OpR X (compareOp .NotEq) (rNeD K) := h ▸ op_neD hu
theorem anyK (K : PySem.W.Frag) (hc : X.calm = true) (h : X.K = K := by rfl) : CallR X (.builtin "any") (rAny K) := h ▸ cr_any hc
def rListK (K : PySem.W.Frag) : List V → Hp → VK → Prop := fun xs H Q => ∃ p ys, xs = [.ref p] ∧ (SqL K H p ys ∨ SqT K H p ys) ∧ ∀ l, H l = none → Q (.ref l) (upd H l (.lst ys))
theorem listK (K : PySem.W.Frag) (h : X.K = K := by rfl) : CallR X (.type "list") (rListK K) := h ▸ call_list_of
theorem slTK (K : PySem.W.Frag) (h : X.K = K := by rfl) : SlR X (rSlA K) := h ▸ sl_tupA
theorem slLK (K : PySem.W.Frag) (h : X.K = K := by rfl) : SlR X (rSlL K) := h ▸ sl_list
end
end TL
namespace TL
open PySem PySem.Spec PyProof.Rows L2
/-- a def of the text by its name, with its promise -/
structure Own (P : Program) (w : World) (K : PySem.W.Frag) (mg : Str → Option Value) (base : Heap)
    (x : Str) (k : Nat) (ps : List Str) (sp : Sp) : Prop where
  ex : ∃ (f : Addr) (fd : FuncData), FnOk P w K mg base CX0 k f fd ps sp ∧ mg x = some (.ref f) ∧
    PySem.W.keepIn K (.ref f) = true ∧ Binds K fd ps []
/-- .. that shows data -/
structure OwnG (P : Program) (w : World) (K : PySem.W.Frag) (mg : Str → Option Value) (base : Heap)
    (x : Str) (k : Nat) (ps : List Str) (sp : Sp) : Prop where
  ex : ∃ (f : Addr) (fd : FuncData), FnG P w K mg base k f fd ps sp ∧ mg x = some (.ref f) ∧
    PySem.W.keepIn K (.ref f) = true ∧ Binds K fd ps []
section
variable {X : Cx} {k : Nat} {ps : List Str} {sp : Sp} {x : Str} {p pos : Pos} {e : Expr} {es : List Expr} {t : TA}
theorem pe_own (O : Own X.prog X.w X.K X.mg X.base x k ps sp) (hr : Room k X.A) (hg : Gl X x) (ha : PA X (e :: es) t)
    (hdb : (x == ("__debug__" : Str)) = false := by decide)
    (he : starEach (e :: es) X.env = (false, eval e X.env) :: starEach es X.env := by rfl)
    (hpl : (backTo pos (starEach es X.env)).any (·.1) = false := by rfl) :
    PE X (.Call (.Name x p) (e :: es) [] pos) (tCall sp [] E0 t) := by
  obtain ⟨f, fd, F, hm, hk, hb⟩ := O.ex
  exact pe_call F hr hg hm hk hb .nil pass0 ha hdb he hpl
theorem pe_ownG (O : OwnG X.prog X.w X.K X.mg X.base x k ps sp) (hr : Room k X.A) (gd : X.A.guards = some []) (hg : Gl X x) (ha : PA X (e :: es) t)
    (hdb : (x == ("__debug__" : Str)) = false := by decide)
    (he : starEach (e :: es) X.env = (false, eval e X.env) :: starEach es X.env := by rfl)
    (hpl : (backTo pos (starEach es X.env)).any (·.1) = false := by rfl) :
    PE X (.Call (.Name x p) (e :: es) [] pos) (tCall sp [] E0 t) := by
  obtain ⟨f, fd, F, hm, hk, hb⟩ := O.ex
  exact pe_callG F hr gd hg hm hk hb ha hdb he hpl
theorem piTK (K : PySem.W.Frag) {tg a : Expr} {ta : TE} (ha : PE X a ta) (h : X.K = K := by rfl) : PI X tg a (iTup K ta) := h ▸ pi_tup ha
theorem piLK (K : PySem.W.Frag) {tg a : Expr} {ta : TE} (ha : PE X a ta) (h : X.K = K := by rfl) : PI X tg a (iList K ta) := h ▸ pi_list ha
theorem pgTK (K : PySem.W.Frag) {es : List Expr} {k : Nat} {t : TGs} {n : Nat} (h : PGs X es t) (hc : X.calm = true := by rfl) (hK : X.K = K := by rfl)
    (hn : (assignEach es X.env).length = n := by rfl) (hst : (assignEach es X.env).findIdx? (·.1) = none := by rfl) :
    PG X (.Tuple es k pos) (gTup K n t) := hK ▸ pg_tup hc h hn hst
theorem bmK (K : PySem.W.Frag) {o : Expr} {to : TE} {name : Str} {apos cpos : Pos} {T id : String}
    {r : V → List V → Hp → VK → Prop} (pa : PlainAttrs T) (slot : Slot T name id)
    (hty : typeOf (.builtin id) = pure (.type "method_descriptor")) (hm : MtR X id r) (ho : PE X o to)
    (ha : PA X (e :: es) t) (h : X.K = K := by rfl)
    (hbase : attributeBase o name X.env (eval o X.env) = eval o X.env := by rfl)
    (hfew : ((backTo cpos (starEach (e :: es) X.env)).all (fun x => !x.1)
        && (backToKw cpos (keywordEach [] X.env)).all (fun x => x.1.isSome)
        && decide ((e :: es).length + ([] : List Keyword).length
          + (if ([] : List Keyword).isEmpty then 0 else 1) < 30)) = true := by rfl)
    (hline : (apos.endLine == cpos.line) = true := by rfl)
    (hs : starEach (e :: es) X.env = (false, eval e X.env) :: starEach es X.env := by rfl)
    (hplain : (backTo cpos (starEach es X.env)).any (·.1) = false := by rfl) :
    PE X (.Call (.Attribute o name apos) (e :: es) [] cpos) (tBM K T r to t) :=
  h ▸ pe_bm pa slot hty hm ho ha hbase hfew hline hs hplain
theorem bm0K (K : PySem.W.Frag) {o : Expr} {to : TE} {name : Str} {apos cpos : Pos} {T id : String}
    {r : V → List V → Hp → VK → Prop} (pa : PlainAttrs T) (slot : Slot T name id)
    (hty : typeOf (.builtin id) = pure (.type "method_descriptor")) (hm : MtR X id r) (ho : PE X o to) (h : X.K = K := by rfl)
    (hbase : attributeBase o name X.env (eval o X.env) = eval o X.env := by rfl)
    (hline : (apos.endLine == cpos.line) = true := by rfl) :
    PE X (.Call (.Attribute o name apos) [] [] cpos) (tBM0 K T r to) := h ▸ pe_bm0 pa slot hty hm ho hbase hline
end
end TL
namespace TL
/-! ### ascending lists -/
abbrev Asc (l : List Int) : Prop := l.Pairwise (· < ·)
theorem asc_ext : ∀ {a b : List Int}, Asc a → Asc b → (∀ x, x ∈ a ↔ x ∈ b) → a = b
  | [], [], _, _, _ => rfl
  | [], y :: b, _, _, h => absurd ((h y).mpr List.mem_cons_self) (by simp)
  | x :: a, [], _, _, h => absurd ((h x).mp List.mem_cons_self) (by simp)
  | x :: a, y :: b, ha, hb, h => by
    have ha' := List.pairwise_cons.mp ha
    have hb' := List.pairwise_cons.mp hb
    have e : x = y := by
      rcases List.mem_cons.mp ((h x).mp List.mem_cons_self) with e | q
      · exact e
      · rcases List.mem_cons.mp ((h y).mpr List.mem_cons_self) with e | r
        · exact e.symm
        · have h1 := hb'.1 x q
          have h2 := ha'.1 y r
          omega
    subst e
    congr 1
    refine asc_ext ha'.2 hb'.2 fun z => ⟨fun hz => ?_, fun hz => ?_⟩
    · rcases List.mem_cons.mp ((h z).mp (List.mem_cons_of_mem _ hz)) with e | q
      · have := ha'.1 z hz
        omega
      · exact q
    · rcases List.mem_cons.mp ((h z).mpr (List.mem_cons_of_mem _ hz)) with e | q
      · have := hb'.1 z hz
        omega
      · exact q
theorem Asc.nodup {l : List Int} (h : Asc l) : l.Nodup := h.imp fun h => by omega
def leI (a b : Int) : Bool := decide (a ≤ b)
def srtI (l : List Int) : List Int := l.mergeSort leI
theorem srtI_perm (l : List Int) : (srtI l).Perm l := List.mergeSort_perm l _
theorem srtI_le (l : List Int) : (srtI l).Pairwise (· ≤ ·) :=
  (List.pairwise_mergeSort (le := leI) (fun a b c h1 h2 => by
    have h1 := of_decide_eq_true h1
    have h2 := of_decide_eq_true h2
    exact decide_eq_true (by omega)) (fun a b => by
    unfold leI
    by_cases h : a ≤ b
    · simp [h]
    · have : b ≤ a := by omega
      simp [this]) l).imp fun h => of_decide_eq_true h
theorem mem_srtI {l : List Int} {x : Int} : x ∈ srtI l ↔ x ∈ l := (srtI_perm l).mem_iff
theorem srtI_asc {l : List Int} (h : l.Nodup) : Asc (srtI l) := by
  have n : (srtI l).Nodup := (srtI_perm l).nodup_iff.mpr h
  exact ((srtI_le l).and n).imp fun h => by omega
theorem srtI_of_asc {l : List Int} (h : Asc l) : srtI l = l :=
  List.mergeSort_of_pairwise (h.imp fun h => decide_eq_true (by omega))
theorem srtI_congr {a b : List Int} (h : a.Perm b) : srtI a = srtI b := by
  have p : (srtI a).Perm (srtI b) := (srtI_perm a).trans (h.trans (srtI_perm b).symm)
  exact p.eq_of_pairwise (fun x y _ _ h1 h2 => by omega) (srtI_le a) (srtI_le b)
theorem srtI_length (l : List Int) : (srtI l).length = l.length := (srtI_perm l).length_eq
/-! ### pairs -/
abbrev LtP (p q : Int × Int) : Prop := p.1 < q.1 ∨ (p.1 = q.1 ∧ p.2 < q.2)
abbrev AscP (l : List (Int × Int)) : Prop := l.Pairwise LtP
def leP (p q : Int × Int) : Bool := decide (p.1 < q.1 ∨ (p.1 = q.1 ∧ p.2 ≤ q.2))
def srtP (l : List (Int × Int)) : List (Int × Int) := l.mergeSort leP
theorem srtP_perm (l : List (Int × Int)) : (srtP l).Perm l := List.mergeSort_perm l _
theorem srtP_le (l : List (Int × Int)) : (srtP l).Pairwise fun p q => p.1 < q.1 ∨ (p.1 = q.1 ∧ p.2 ≤ q.2) :=
  (List.pairwise_mergeSort (le := leP) (fun a b c h1 h2 => by
    have h1 := of_decide_eq_true h1
    have h2 := of_decide_eq_true h2
    exact decide_eq_true (by omega)) (fun a b => by
    unfold leP
    by_cases h : a.1 < b.1 ∨ (a.1 = b.1 ∧ a.2 ≤ b.2)
    · simp [h]
    · have : b.1 < a.1 ∨ (b.1 = a.1 ∧ b.2 ≤ a.2) := by omega
      simp [this]) l).imp fun h => of_decide_eq_true h
theorem mem_srtP {l : List (Int × Int)} {x : Int × Int} : x ∈ srtP l ↔ x ∈ l := (srtP_perm l).mem_iff
theorem srtP_asc {l : List (Int × Int)} (h : l.Nodup) : AscP (srtP l) := by
  have n : (srtP l).Nodup := (srtP_perm l).nodup_iff.mpr h
  refine ((srtP_le l).and n).imp fun {a b} h => ?_
  obtain ⟨h1, h2⟩ := h
  rcases h1 with h1 | ⟨h1, h3⟩
  · exact .inl h1
  · refine .inr ⟨h1, ?_⟩
    have : a.2 ≠ b.2 := fun e => h2 (Prod.ext h1 e)
    omega
theorem srtP_of_asc {l : List (Int × Int)} (h : AscP l) : srtP l = l :=
  List.mergeSort_of_pairwise (h.imp fun h => decide_eq_true (by rcases h with h | h <;> omega))
theorem srtP_length (l : List (Int × Int)) : (srtP l).length = l.length := (srtP_perm l).length_eq
/-! ### an edge between two vertices -/
def ordP (a b : Int) : Int × Int := if a ≤ b then (a, b) else (b, a)
theorem srt2 (a b : Int) : srtI [a, b] = [(ordP a b).1, (ordP a b).2] := by
  unfold ordP
  by_cases h : a ≤ b
  · rw [if_pos h]
    exact List.mergeSort_of_pairwise (le := leI) (List.pairwise_cons.mpr ⟨fun x hx => by
      obtain rfl := List.mem_singleton.mp hx
      exact decide_eq_true h, List.pairwise_singleton _ _⟩)
  · rw [if_neg h]
    have p : [a, b].Perm [b, a] := List.Perm.swap _ _ _
    rw [srtI_congr p]
    exact List.mergeSort_of_pairwise (le := leI) (List.pairwise_cons.mpr ⟨fun x hx => by
      obtain rfl := List.mem_singleton.mp hx
      exact decide_eq_true (by omega), List.pairwise_singleton _ _⟩)
theorem ordP_comm (a b : Int) : ordP a b = ordP b a := by
  unfold ordP
  by_cases h : a ≤ b
  · by_cases h2 : b ≤ a
    · obtain rfl : a = b := by omega
      rfl
    · rw [if_pos h, if_neg h2]
  · rw [if_neg h, if_pos (by omega)]
/-! ### forests as they are drawn -/
def rng (m : Nat) : List Int := (List.range m).map Int.ofNat
theorem mem_rng {m : Nat} {x : Int} : x ∈ rng m ↔ 0 ≤ x ∧ x < m := by
  unfold rng
  rw [List.mem_map]
  constructor
  · rintro ⟨i, hi, rfl⟩
    have := List.mem_range.mp hi
    simp only [Int.ofNat_eq_natCast]
    omega
  · intro h
    exact ⟨x.toNat, List.mem_range.mpr (by omega), by simp only [Int.ofNat_eq_natCast]; omega⟩
theorem rng_asc (m : Nat) : Asc (rng m) := by
  unfold rng Asc
  rw [List.pairwise_map]
  exact List.pairwise_lt_range.imp fun h => by simp only [Int.ofNat_eq_natCast]; omega
theorem rng_length (m : Nat) : (rng m).length = m := by
  unfold rng
  rw [List.length_map, List.length_range]
/-- edge k joins the k-th name with an earlier one -/
def edgeOf (nm : List Int) (q : Nat × Nat) : Int × Int := ordP (nm.getD q.1 0) (nm.getD q.2 0)
structure Grow (m : Nat) (nm : List Int) (ks : List (Nat × Nat)) : Prop where
  names : nm.Perm (rng m)
  up : ks.Pairwise fun a b => a.1 < b.1
  down : ∀ q ∈ ks, q.2 < q.1 ∧ q.1 < m
structure IsFor (m : Nat) (es : List (Int × Int)) : Prop where
  asc : AscP es
  rng : ∀ p ∈ es, 0 ≤ p.1 ∧ p.1 < p.2 ∧ p.2 < m
  grow : ∃ nm ks, Grow m nm ks ∧ es.Perm (ks.map (edgeOf nm))
theorem Grow.len {m : Nat} {nm : List Int} {ks : List (Nat × Nat)} (g : Grow m nm ks) : nm.length = m := by
  rw [g.names.length_eq, rng_length]
theorem Grow.nd {m : Nat} {nm : List Int} {ks : List (Nat × Nat)} (g : Grow m nm ks) : nm.Nodup := g.names.nodup_iff.mpr (rng_asc m).nodup
theorem Grow.name {m : Nat} {nm : List Int} {ks : List (Nat × Nat)} (g : Grow m nm ks) {i : Nat} (h : i < m) : 0 ≤ nm.getD i 0 ∧ nm.getD i 0 < m := by
  have hl : i < nm.length := by rw [g.len]; exact h
  have e : nm.getD i 0 = nm[i] := by rw [List.getD_eq_getElem?_getD, List.getElem?_eq_getElem hl]; rfl
  rw [e]
  exact mem_rng.mp (g.names.mem_iff.mp (List.getElem_mem hl))
theorem Grow.inj {m : Nat} {nm : List Int} {ks : List (Nat × Nat)} (g : Grow m nm ks) {i j : Nat} (hi : i < m) (hj : j < m) (e : nm.getD i 0 = nm.getD j 0) : i = j := by
  have hi' : i < nm.length := by rw [g.len]; exact hi
  have hj' : j < nm.length := by rw [g.len]; exact hj
  rw [List.getD_eq_getElem?_getD, List.getElem?_eq_getElem hi', List.getD_eq_getElem?_getD, List.getElem?_eq_getElem hj'] at e
  exact (List.getElem_inj g.nd).mp e
theorem Grow.edge {m : Nat} {nm : List Int} {ks : List (Nat × Nat)} (g : Grow m nm ks) {q : Nat × Nat} (h : q ∈ ks) :
    0 ≤ (edgeOf nm q).1 ∧ (edgeOf nm q).1 < (edgeOf nm q).2 ∧ (edgeOf nm q).2 < m := by
  obtain ⟨h1, h2⟩ := g.down q h
  have a := g.name h2
  have b := g.name (Nat.lt_trans h1 h2)
  have n : nm.getD q.1 0 ≠ nm.getD q.2 0 := fun e => by
    have := g.inj h2 (Nat.lt_trans h1 h2) e
    omega
  unfold edgeOf ordP
  split
  · exact ⟨a.1, by omega, b.2⟩
  · exact ⟨b.1, by omega, a.2⟩
theorem ordP_inj {a b c d : Int} (h : ordP a b = ordP c d) : (a = c ∧ b = d) ∨ (a = d ∧ b = c) := by
  unfold ordP at h
  split at h <;> split at h <;> (injection h with h1 h2; omega)
theorem Grow.nodup {m : Nat} {nm : List Int} {ks : List (Nat × Nat)} (g : Grow m nm ks) : (ks.map (edgeOf nm)).Nodup := by
  rw [List.Nodup, List.pairwise_map]
  have u := g.up
  have d := g.down
  refine (List.Pairwise.and_mem.mp u).imp ?_
  rintro a b ⟨ha, hb, hab⟩ e
  obtain ⟨a1, a2⟩ := d a ha
  obtain ⟨b1, b2⟩ := d b hb
  rcases ordP_inj e with ⟨e1, e2⟩ | ⟨e1, e2⟩
  · have := g.inj a2 b2 e1
    omega
  · have h1 := g.inj a2 (Nat.lt_trans b1 b2) e1
    have h2 := g.inj (Nat.lt_trans a1 a2) b2 e2
    omega
theorem Grow.isFor {m : Nat} {nm : List Int} {ks : List (Nat × Nat)} (g : Grow m nm ks) : IsFor m (srtP (ks.map (edgeOf nm))) where
  asc := srtP_asc g.nodup
  rng := fun p hp => by
    obtain ⟨q, hq, rfl⟩ := List.mem_map.mp (mem_srtP.mp hp)
    exact g.edge hq
  grow := ⟨nm, ks, g, srtP_perm _⟩
theorem rise_len {m : Nat} : ∀ {ks : List (Nat × Nat)} {lo : Nat}, ks.Pairwise (fun a b => a.1 < b.1) → (∀ q ∈ ks, lo ≤ q.1 ∧ q.1 < m) → ks.length ≤ m - lo
  | [], _, _, _ => Nat.zero_le _
  | q :: ks, lo, h, b => by
    have h' := List.pairwise_cons.mp h
    have hq := b q List.mem_cons_self
    have := rise_len (lo := q.1 + 1) h'.2 fun r hr => ⟨h'.1 r hr, (b r (List.mem_cons_of_mem _ hr)).2⟩
    rw [List.length_cons]
    omega
theorem Grow.count {m : Nat} {nm : List Int} {ks : List (Nat × Nat)} (g : Grow m nm ks) : ks.length ≤ m := by
  have := rise_len (lo := 0) g.up fun q hq => ⟨Nat.zero_le _, (g.down q hq).2⟩
  omega
theorem IsFor.count {m : Nat} {es : List (Int × Int)} (f : IsFor m es) : es.length ≤ m := by
  obtain ⟨nm, ks, g, p⟩ := f.grow
  rw [p.length_eq, List.length_map]
  exact g.count
/-! ### neighbours -/
def nearL (m : Nat) (es : List (Int × Int)) (v : Int) : List Int := (rng m).filter fun o => decide (ordP o v ∈ es)
def nbL (es : List (Int × Int)) (v : Int) : List Int := (es.filter fun p => decide (p.2 = v)).map (·.1) ++ (es.filter fun p => decide (p.1 = v)).map (·.2)
theorem nearL_asc (m : Nat) (es : List (Int × Int)) (v : Int) : Asc (nearL m es v) := (rng_asc m).filter _
theorem mem_nearL {m : Nat} {es : List (Int × Int)} {v o : Int} : o ∈ nearL m es v ↔ (0 ≤ o ∧ o < m) ∧ ordP o v ∈ es := by
  unfold nearL
  rw [List.mem_filter, mem_rng, decide_eq_true_eq]
theorem mem_nbL {es : List (Int × Int)} {v o : Int} : o ∈ nbL es v ↔ (o, v) ∈ es ∨ (v, o) ∈ es := by
  unfold nbL
  rw [List.mem_append, List.mem_map, List.mem_map]
  constructor
  · rintro (⟨⟨a, b⟩, h, rfl⟩ | ⟨⟨a, b⟩, h, rfl⟩)
    · obtain ⟨h1, h2⟩ := List.mem_filter.mp h
      have : b = v := of_decide_eq_true h2
      subst this
      exact .inl h1
    · obtain ⟨h1, h2⟩ := List.mem_filter.mp h
      have : a = v := of_decide_eq_true h2
      subst this
      exact .inr h1
  · rintro (h | h)
    · exact .inl ⟨(o, v), List.mem_filter.mpr ⟨h, decide_eq_true rfl⟩, rfl⟩
    · exact .inr ⟨(v, o), List.mem_filter.mpr ⟨h, decide_eq_true rfl⟩, rfl⟩
theorem IsFor.mem_ord {m : Nat} {es : List (Int × Int)} (f : IsFor m es) {o v : Int} : ordP o v ∈ es ↔ (o, v) ∈ es ∨ (v, o) ∈ es := by
  unfold ordP
  by_cases h : o ≤ v
  · rw [if_pos h]
    refine ⟨.inl, fun q => q.elim id fun q => ?_⟩
    have := f.rng _ q
    simp only at this
    omega
  · rw [if_neg h]
    refine ⟨.inr, fun q => q.elim (fun q => ?_) id⟩
    have := f.rng _ q
    simp only at this
    omega
theorem IsFor.nb {m : Nat} {es : List (Int × Int)} (f : IsFor m es) (v : Int) : nbL es v = nearL m es v := by
  refine asc_ext ?_ (nearL_asc m es v) fun o => ?_
  · unfold nbL
    refine List.pairwise_append.mpr ⟨?_, ?_, ?_⟩
    · rw [List.pairwise_map]
      refine (List.Pairwise.and_mem.mp (f.asc.filter fun p => decide (p.2 = v))).imp ?_
      rintro a b ⟨ha, hb, hab⟩
      have h1 : a.2 = v := of_decide_eq_true (List.mem_filter.mp ha).2
      have h2 : b.2 = v := of_decide_eq_true (List.mem_filter.mp hb).2
      rcases hab with h | h <;> omega
    · rw [List.pairwise_map]
      refine (List.Pairwise.and_mem.mp (f.asc.filter fun p => decide (p.1 = v))).imp ?_
      rintro a b ⟨ha, hb, hab⟩
      have h1 : a.1 = v := of_decide_eq_true (List.mem_filter.mp ha).2
      have h2 : b.1 = v := of_decide_eq_true (List.mem_filter.mp hb).2
      rcases hab with h | h <;> omega
    · intro x hx y hy
      obtain ⟨a, ha, rfl⟩ := List.mem_map.mp hx
      obtain ⟨b, hb, rfl⟩ := List.mem_map.mp hy
      have a1 := f.rng _ (List.mem_filter.mp ha).1
      have b1 := f.rng _ (List.mem_filter.mp hb).1
      have h1 : a.2 = v := of_decide_eq_true (List.mem_filter.mp ha).2
      have h2 : b.1 = v := of_decide_eq_true (List.mem_filter.mp hb).2
      omega
  · rw [mem_nbL, mem_nearL, f.mem_ord]
    refine ⟨fun h => ⟨?_, h⟩, fun h => h.2⟩
    rcases h with h | h
    · have := f.rng _ h
      simp only at this
      omega
    · have := f.rng _ h
      simp only at this
      omega
/-! ### settings -/
structure IsSet (m : Nat) (es : List (Int × Int)) (S : List Int) : Prop where
  asc : Asc S
  rng : ∀ v ∈ S, 0 ≤ v ∧ v < m
  free : ∀ u ∈ S, ∀ v ∈ S, ordP u v ∉ es
end TL
namespace TL
open PySem PySem.Spec PyProof.Rows L2
/-! ### sorting ints, pairs -/
theorem le_int_fun : PySem.W.dataLe false PyData.int = leI := by
  funext a b
  exact congrFun (congrFun (PySem.W.dataLe_int (β := Int) id) a) b
theorem le_pr_fun : PySem.W.dataLe false prD = leP := by
  funext p q
  exact congrFun (congrFun (PySem.W.dataLe_ii (β := Int × Int) Prod.fst Prod.snd) p) q
section
variable {K : PySem.W.Frag} {H : Hp} {Q : VK}
theorem sortInts {a : Addr} {ns : List Int} (hS : SqL K H a (ns.map V.int)) (q : ∀ p, H p = none → Q (.ref p) (upd H p (.lst ((srtI ns).map V.int)))) : rSortD K [.ref a] H Q := by
  unfold rSortD
  refine ⟨Int, PyData.int, ns, a, ns.map V.int, rfl, hS, DpAll.of_ints ns, ?_, .inr fun d hd => ?_, fun b _ => by simp [PyData.depth], fun p ys np dy => ?_⟩
  · intro d hd e he
    obtain ⟨x, _, rfl⟩ := List.mem_map.mp hd
    obtain ⟨y, _, rfl⟩ := List.mem_map.mp he
    simp [PySem.W.alike]
  · obtain ⟨x, _, rfl⟩ := List.mem_map.mp hd
    exact ⟨fun z => (nomatch z), fun _ z => (nomatch z)⟩
  · rw [le_int_fun] at dy
    have e := DpAll.ints dy
    subst e
    exact q p np
theorem sortPairs {a : Addr} {xs : List V} {ps : List (Int × Int)} (hS : SqL K H a xs) (hA : DpAll K H xs (ps.map prD))
    (q : ∀ p ys, H p = none → DpAll K H ys ((srtP ps).map prD) → Q (.ref p) (upd H p (.lst ys))) : rSortD K [.ref a] H Q := by
  unfold rSortD
  refine ⟨Int × Int, prD, ps, a, xs, rfl, hS, hA, ?_, .inl fun d hd => ?_, fun b _ => by simp [prD, PyData.depth, PyData.depthAll], fun p ys np dy => ?_⟩
  · intro d hd e he
    obtain ⟨x, _, rfl⟩ := List.mem_map.mp hd
    obtain ⟨y, _, rfl⟩ := List.mem_map.mp he
    simp [prD, PySem.W.alike, PySem.W.alikeAll]
  · obtain ⟨x, _, rfl⟩ := List.mem_map.mp hd
    exact ⟨_, _, rfl⟩
  · rw [le_pr_fun] at dy
    exact q p ys np dy
end
/-! ### forests as data -/
def forD (m : Nat) (es : List (Int × Int)) : PyData := .tuple [.int (m : Int), prsD es]
def intsD (ns : List Int) : PyData := .tuple (ns.map .int)
theorem only_ints : ∀ ns : List Int, onlyAll (ns.map .int) = true
  | [] => by simp [onlyAll]
  | n :: ns => by simp [onlyAll, only, only_ints ns]
theorem only_intsD (ns : List Int) : only (intsD ns) = true := by
  unfold intsD only
  exact only_ints ns
theorem only_forD (m : Nat) (es : List (Int × Int)) : only (forD m es) = true := by
  unfold forD
  simp [only, onlyAll, only_prsD]
section
variable {K : PySem.W.Frag} {H : Hp}
theorem Dp.forI {x : V} {m : Nat} {es : List (Int × Int)} (h : Dp K H x (forD m es)) :
    ∃ a b xs, x = .ref a ∧ SqT K H a [.int (m : Int), .ref b] ∧ SqT K H b xs ∧ DpAll K H xs (es.map prD) := by
  obtain ⟨a, xs, e, h1, h2⟩ := Dp.tupI h
  cases h2 with
  | cons ha hb =>
    cases hb with
    | cons hc hd =>
      cases hd
      obtain ⟨b, ys, e2, h3, h4⟩ := Dp.tupI hc
      subst e2
      rw [Dp.intI ha] at h1
      exact ⟨a, b, ys, e, h1, h3, h4⟩
theorem Dp.intsI {x : V} {ns : List Int} (h : Dp K H x (intsD ns)) : ∃ a, x = .ref a ∧ SqT K H a (ns.map V.int) := by
  obtain ⟨a, xs, e, h1, h2⟩ := Dp.tupI h
  have := DpAll.ints h2
  subst this
  exact ⟨a, e, h1⟩
theorem Dp.ints {a : Addr} {ns : List Int} (h : SqT K H a (ns.map V.int)) : Dp K H (.ref a) (intsD ns) := .tup h (DpAll.of_ints ns)
end
/-! ### equal data -/
theorem eqv_pr (a b : Int × Int) : PyData.eqv (prD a) (prD b) = decide (a = b) := by
  have e : PyData.eqv (prD a) (prD b) = ((a.1 == b.1) && ((a.2 == b.2) && true)) := by simp only [prD, PyData.eqv, PyData.eqvAll]
  rw [e]
  obtain ⟨x, y⟩ := a
  obtain ⟨u, v⟩ := b
  by_cases h1 : x = u
  · by_cases h2 : y = v
    · subst h1 h2; simp
    · have : ¬ ((x, y) : Int × Int) = (u, v) := fun z => h2 (Prod.mk.inj z).2
      rw [decide_eq_false this]; simp [h2]
  · have : ¬ ((x, y) : Int × Int) = (u, v) := fun z => h1 (Prod.mk.inj z).1
    rw [decide_eq_false this]; simp [h1]
theorem any_pr (p : Int × Int) : ∀ es : List (Int × Int), (es.map prD).any (fun z => PyData.eqv z (prD p)) = decide (p ∈ es)
  | [] => by simp
  | e :: es => by
    rw [List.map_cons, List.any_cons, any_pr p es, eqv_pr]
    by_cases h : e = p
    · subst h; simp
    · have h' : ¬ p = e := fun z => h z.symm
      simp [h, h']
theorem lay_pr (p : Int × Int) : (prD p).canLay0 = true := by simp [prD, PyData.canLay0, PyData.canLayAll0]
theorem lay_prs : ∀ es : List (Int × Int), PyData.canLayAll0 (es.map prD) = true
  | [] => by simp [PyData.canLayAll0]
  | e :: es => by simp [PyData.canLayAll0, lay_pr e, lay_prs es]
theorem dep_pr (p : Int × Int) : (prD p).depth ≤ 50 := by simp [prD, PyData.depth, PyData.depthAll]
theorem lay_ints : ∀ ns : List Int, PyData.canLayAll0 (ns.map PyData.int) = true
  | [] => by simp [PyData.canLayAll0]
  | n :: ns => by simp [PyData.canLayAll0, PyData.canLay0, lay_ints ns]
theorem dep_ints : ∀ ns : List Int, PyData.depthAll (ns.map PyData.int) = 0
  | [] => by simp [PyData.depthAll]
  | n :: ns => by simp [PyData.depthAll, PyData.depth, dep_ints ns]
theorem shaped_ints (ns : List Int) : SeqAt.shaped (.list (ns.map PyData.int)) = true := by
  unfold SeqAt.shaped
  simp only [PyData.canLay0, PyData.depth, lay_ints, dep_ints]
  decide
theorem eqv_nil (ns : List Int) : PyData.eqv (.list (ns.map PyData.int)) (.list []) = decide (ns = []) := by
  cases ns with
  | nil => simp [PyData.eqv, PyData.eqvAll]
  | cons n r => simp [PyData.eqv, PyData.eqvAll]
/-! ### ints in lists of ints -/
theorem flat_ints (ns : List Int) : (ns.map V.int).all flatV = true := by
  rw [List.all_map]
  exact List.all_eq_true.mpr fun _ _ => rfl
theorem inV_ints (x : Int) : ∀ ns : List Int, inV (.int x) (ns.map V.int) = decide (x ∈ ns)
  | [] => by simp [inV]
  | n :: ns => by
    have ih := inV_ints x ns
    unfold inV at ih ⊢
    rw [List.map_cons, List.any_cons, ih]
    show (decide (n = x) || decide (x ∈ ns)) = _
    by_cases h : n = x
    · subst h; simp
    · have h' : ¬ x = n := fun z => h z.symm
      simp [h, h']
/-! ### an if whose test is read for any end -/
theorem ifJ {c : TT} {t u : TS} {D : Ends} {σ : L2.St} {H : Hp} (R : Bool → Hp → Prop)
    (h1 : ∀ Q : Bool → Hp → Prop, (∀ b H1, R b H1 → Q b H1) → c σ H Q) (h2 : ∀ H1, R true H1 → t D σ H1) (h3 : ∀ H1, R false H1 → u D σ H1) : tIfS c t u D σ H := by
  refine h1 _ fun b H1 r => ?_
  cases b with
  | true => exact iteT (h2 H1 r)
  | false => exact iteF (h3 H1 r)
end TL
namespace TL
open PySem PySem.Spec PyProof.Rows L2
/-! ### comprehensions that leave all that was tracked as it was -/
theorem lc_gen {K : PySem.W.Frag} {J : It} {g : TG} {tt : TT} {te : TE} {vs : List Nat} {σ : L2.St} {H1 : Hp} {D : Addr} {Qd : Hp → Prop} {β : Type}
    (bs : List β) (σb : β → L2.St) (p : β → Bool) (d : β → PyData) (nD : H1 D = none)
    (hgo : ∀ j H', j < bs.length → Same H1 H' → J.go j H') (hst : ∀ H', Same H1 H' → J.stop bs.length H')
    (hg : ∀ j b x H' H'', bs[j]? = some b → Same H1 H' → J.yld j H' x H'' → H'' = H' ∧ ∀ Q : L2.St → Hp → Prop, Q (σb b) H' → g x (wipe σ vs) H' Q)
    (hw : ∀ b, wipe (σb b) vs = wipe σ vs)
    (ht : ∀ b ∈ bs, ∀ H' (Q : Bool → Hp → Prop), Same H1 H' → (∀ H2, Same H' H2 → Q (p b) H2) → tt (σb b) H' Q)
    (he : ∀ b ∈ bs, p b = true → ∀ H' (Q : VK), Same H1 H' → (∀ H2 y, Same H' H2 → Dp K H2 y (d b) → Q y H2) → te (σb b) H' Q)
    (ho : ∀ b, only (d b) = true) (hl : bs.length ≤ 1000)
    (hd : ∀ H' ys, Same H1 H' → H' D = some (.lst ys) → DpAll K H' ys ((bs.filter p).map d) → Qd H') : LcGoal J g tt te vs σ H1 D Qd := by
  have oa : ∀ l : List β, onlyAll (l.map d) = true := by
    intro l
    induction l with
    | nil => simp [onlyAll]
    | cons b l ih => simp [onlyAll, ho b, ih]
  refine lc_by bs.length (fun i H' => ∃ ys, Same H1 H' ∧ H' D = some (.lst ys) ∧ DpAll K H' ys (((bs.take i).filter p).map d) ∧ ys.length ≤ i) ?_ ?_ ?_ ?_ ?_
  · exact ⟨[], same_upd nD, upd_same, .nil, Nat.le_refl _⟩
  · rintro i H' hi ⟨ys, s, _⟩
    exact hgo i H' hi s
  · rintro H' ⟨ys, s, _⟩
    exact hst H' s
  · rintro i x H' H'' hi ⟨ys, s, eD, a, ln⟩ y
    obtain ⟨rfl, k⟩ := hg i bs[i] x H' H'' (List.getElem?_eq_getElem hi) s y
    have mb : bs[i] ∈ bs := List.getElem_mem hi
    have tk : bs.take (i + 1) = bs.take i ++ [bs[i]] := by rw [List.take_add_one, List.getElem?_eq_getElem hi]; rfl
    refine k _ ⟨hw _, ht _ mb _ _ s fun H2 s2 => ?_⟩
    by_cases hp : p bs[i] = true
    · rw [if_pos hp]
      refine he _ mb hp _ _ (s.trans s2) fun H3 z s3 dz => ?_
      have e3 := s3 _ _ (s2 _ _ eD)
      have kt : KT K H3 (upd H3 D (.lst (ys ++ [z]))) := kt_lst e3
      refine ⟨ys, e3, small1000 (by omega), ys ++ [z], ?_, upd_same, ?_, ?_⟩
      · intro b o e
        rw [upd_ne (ne_of_none e nD)]
        exact s3 _ _ (s2 _ _ (s _ _ e))
      · rw [tk, List.filter_append, List.map_append, List.filter_cons_of_pos hp]
        exact DpAll.append (DpAll.kt kt (DpAll.same (s2.trans s3) a) (oa _)) (.cons (Dp.kt kt dz (ho _)) .nil)
      · rw [List.length_append, List.length_singleton]
        omega
    · rw [if_neg hp]
      refine ⟨ys, s.trans s2, s2 _ _ eD, ?_, by omega⟩
      rw [tk, List.filter_append, List.filter_cons_of_neg hp, List.filter_nil, List.append_nil]
      exact DpAll.same s2 a
  · rintro H' ⟨ys, s, eD, a, _⟩
    rw [List.take_length] at a
    exact hd H' ys s eD a
section
variable {K : PySem.W.Frag} {tt : TT} {te : TE} {vs : List Nat} {σ : L2.St} {H1 : Hp} {D : Addr} {Qd : Hp → Prop}
/-- over a list of ints, the element any data -/
theorem lc_listI {a : Addr} {ns : List Int} {i : Nat} (p : Int → Bool) (d : Int → PyData) (nD : H1 D = none) (hS : SqL K H1 a (ns.map V.int))
    (hw : ∀ v, wipe ((wipe σ vs).set i (some v)) vs = wipe σ vs)
    (ht : ∀ o ∈ ns, ∀ H' (Q : Bool → Hp → Prop), Same H1 H' → (∀ H2, Same H' H2 → Q (p o) H2) → tt ((wipe σ vs).set i (some (.int o))) H' Q)
    (he : ∀ o ∈ ns, p o = true → ∀ H' (Q : VK), Same H1 H' → (∀ H2 y, Same H' H2 → Dp K H2 y (d o) → Q y H2) → te ((wipe σ vs).set i (some (.int o))) H' Q)
    (ho : ∀ o, only (d o) = true) (hl : ns.length ≤ 1000)
    (hd : ∀ H' ys, Same H1 H' → H' D = some (.lst ys) → DpAll K H' ys ((ns.filter p).map d) → Qd H') : LcGoal (Itl K a) (gName i) tt te vs σ H1 D Qd := by
  refine lc_gen ns (fun o => (wipe σ vs).set i (some (.int o))) p d nD (fun j H' hj s => ⟨_, _, s.seq hS, List.getElem?_eq_getElem (by rw [List.length_map]; exact hj)⟩)
    (fun H' s => ⟨_, s.seq hS, by rw [List.length_map]; exact Nat.le_refl _⟩) (fun j b x H' H'' hb s y => ?_) (fun b => hw _) ht he ho hl hd
  obtain ⟨e, hy⟩ := y
  have := hy _ (s.seq hS)
  rw [List.getElem?_map, hb] at this
  cases this
  exact ⟨e, fun Q q => q⟩
/-- over a tuple of ints -/
theorem lc_tupI {a : Addr} {ns : List Int} {i : Nat} (p : Int → Bool) (d : Int → PyData) (nD : H1 D = none) (hS : SqT K H1 a (ns.map V.int))
    (hw : ∀ v, wipe ((wipe σ vs).set i (some v)) vs = wipe σ vs)
    (ht : ∀ o ∈ ns, ∀ H' (Q : Bool → Hp → Prop), Same H1 H' → (∀ H2, Same H' H2 → Q (p o) H2) → tt ((wipe σ vs).set i (some (.int o))) H' Q)
    (he : ∀ o ∈ ns, p o = true → ∀ H' (Q : VK), Same H1 H' → (∀ H2 y, Same H' H2 → Dp K H2 y (d o) → Q y H2) → te ((wipe σ vs).set i (some (.int o))) H' Q)
    (ho : ∀ o, only (d o) = true) (hl : ns.length ≤ 1000)
    (hd : ∀ H' ys, Same H1 H' → H' D = some (.lst ys) → DpAll K H' ys ((ns.filter p).map d) → Qd H') : LcGoal (Itt K a) (gName i) tt te vs σ H1 D Qd := by
  refine lc_gen ns (fun o => (wipe σ vs).set i (some (.int o))) p d nD (fun j H' hj s => ⟨_, _, Same.tup s hS, List.getElem?_eq_getElem (by rw [List.length_map]; exact hj)⟩)
    (fun H' s => ⟨_, Same.tup s hS, by rw [List.length_map]; exact Nat.le_refl _⟩) (fun j b x H' H'' hb s y => ?_) (fun b => hw _) ht he ho hl hd
  obtain ⟨e, hy⟩ := y
  have := hy _ (Same.tup s hS)
  rw [List.getElem?_map, hb] at this
  cases this
  exact ⟨e, fun Q q => q⟩
/-- over range(m) -/
theorem lc_rng {m i : Nat} (p : Int → Bool) (d : Int → PyData) (nD : H1 D = none)
    (hw : ∀ v, wipe ((wipe σ vs).set i (some v)) vs = wipe σ vs)
    (ht : ∀ o ∈ rng m, ∀ H' (Q : Bool → Hp → Prop), Same H1 H' → (∀ H2, Same H' H2 → Q (p o) H2) → tt ((wipe σ vs).set i (some (.int o))) H' Q)
    (he : ∀ o ∈ rng m, p o = true → ∀ H' (Q : VK), Same H1 H' → (∀ H2 y, Same H' H2 → Dp K H2 y (d o) → Q y H2) → te ((wipe σ vs).set i (some (.int o))) H' Q)
    (ho : ∀ o, only (d o) = true) (hl : m ≤ 1000)
    (hd : ∀ H' ys, Same H1 H' → H' D = some (.lst ys) → DpAll K H' ys (((rng m).filter p).map d) → Qd H') : LcGoal (Itr 0 m) (gName i) tt te vs σ H1 D Qd := by
  refine lc_gen (rng m) (fun o => (wipe σ vs).set i (some (.int o))) p d nD (fun j H' hj s => by rw [rng_length] at hj; exact hj)
    (fun H' s => by rw [rng_length]; exact Nat.le_refl _) (fun j b x H' H'' hb s y => ?_) (fun b => hw _) ht he ho (by rw [rng_length]; exact hl) hd
  obtain ⟨e, hy⟩ := y
  unfold rng at hb
  rw [List.getElem?_map] at hb
  obtain ⟨z, hz, rfl⟩ := Option.map_eq_some_iff.mp hb
  obtain ⟨h1, rfl⟩ := List.getElem?_eq_some_iff.mp hz
  rw [List.getElem_range] at *
  subst hy
  refine ⟨e, fun Q q => ?_⟩
  show Q ((wipe σ vs).set i (some (.int (0 + (j : Int))))) H'
  rw [Int.zero_add]
  exact q
/-- over a tuple of pairs, the target two names -/
theorem lc_tupP {a : Addr} {xs : List V} {es : List (Int × Int)} {i j : Nat} (p : Int × Int → Bool) (d : Int × Int → PyData) (nD : H1 D = none) (hS : SqT K H1 a xs) (hA : DpAll K H1 xs (es.map prD))
    (hw : ∀ v u, wipe (((wipe σ vs).set i (some v)).set j (some u)) vs = wipe σ vs)
    (ht : ∀ o ∈ es, ∀ H' (Q : Bool → Hp → Prop), Same H1 H' → (∀ H2, Same H' H2 → Q (p o) H2) → tt (((wipe σ vs).set i (some (.int o.1))).set j (some (.int o.2))) H' Q)
    (he : ∀ o ∈ es, p o = true → ∀ H' (Q : VK), Same H1 H' → (∀ H2 y, Same H' H2 → Dp K H2 y (d o) → Q y H2) → te (((wipe σ vs).set i (some (.int o.1))).set j (some (.int o.2))) H' Q)
    (ho : ∀ o, only (d o) = true) (hl : es.length ≤ 1000)
    (hd : ∀ H' ys, Same H1 H' → H' D = some (.lst ys) → DpAll K H' ys ((es.filter p).map d) → Qd H') :
    LcGoal (Itt K a) (gTup K 2 (gCons (gName i) (gCons (gName j) gNil))) tt te vs σ H1 D Qd := by
  have xl : xs.length = es.length := by rw [DpAll.length hA, List.length_map]
  refine lc_gen es (fun o => ((wipe σ vs).set i (some (.int o.1))).set j (some (.int o.2))) p d nD (fun j H' hj s => ⟨_, _, Same.tup s hS, List.getElem?_eq_getElem (by rw [xl]; exact hj)⟩)
    (fun H' s => ⟨_, Same.tup s hS, by rw [xl]; exact Nat.le_refl _⟩) (fun k b x H' H'' hb s y => ?_) (fun b => hw _ _) ht he ho hl hd
  obtain ⟨e, hy⟩ := y
  obtain ⟨z, hz, dz⟩ := DpAll.get hA (hy _ (Same.tup s hS))
  rw [List.getElem?_map, hb] at hz
  cases hz
  obtain ⟨t, rfl, hT⟩ := Dp.prI (Dp.same s dz)
  exact ⟨e, fun Q q => ⟨t, _, rfl, hT, rfl, _, _, rfl, _, _, rfl, rfl, q⟩⟩
/-- over a list of pairs -/
theorem lc_listP {a : Addr} {xs : List V} {es : List (Int × Int)} {i j : Nat} (p : Int × Int → Bool) (d : Int × Int → PyData) (nD : H1 D = none) (hS : SqL K H1 a xs) (hA : DpAll K H1 xs (es.map prD))
    (hw : ∀ v u, wipe (((wipe σ vs).set i (some v)).set j (some u)) vs = wipe σ vs)
    (ht : ∀ o ∈ es, ∀ H' (Q : Bool → Hp → Prop), Same H1 H' → (∀ H2, Same H' H2 → Q (p o) H2) → tt (((wipe σ vs).set i (some (.int o.1))).set j (some (.int o.2))) H' Q)
    (he : ∀ o ∈ es, p o = true → ∀ H' (Q : VK), Same H1 H' → (∀ H2 y, Same H' H2 → Dp K H2 y (d o) → Q y H2) → te (((wipe σ vs).set i (some (.int o.1))).set j (some (.int o.2))) H' Q)
    (ho : ∀ o, only (d o) = true) (hl : es.length ≤ 1000)
    (hd : ∀ H' ys, Same H1 H' → H' D = some (.lst ys) → DpAll K H' ys ((es.filter p).map d) → Qd H') :
    LcGoal (Itl K a) (gTup K 2 (gCons (gName i) (gCons (gName j) gNil))) tt te vs σ H1 D Qd := by
  have xl : xs.length = es.length := by rw [DpAll.length hA, List.length_map]
  refine lc_gen es (fun o => ((wipe σ vs).set i (some (.int o.1))).set j (some (.int o.2))) p d nD (fun j H' hj s => ⟨_, _, s.seq hS, List.getElem?_eq_getElem (by rw [xl]; exact hj)⟩)
    (fun H' s => ⟨_, s.seq hS, by rw [xl]; exact Nat.le_refl _⟩) (fun k b x H' H'' hb s y => ?_) (fun b => hw _ _) ht he ho hl hd
  obtain ⟨e, hy⟩ := y
  obtain ⟨z, hz, dz⟩ := DpAll.get hA (hy _ (s.seq hS))
  rw [List.getElem?_map, hb] at hz
  cases hz
  obtain ⟨t, rfl, hT⟩ := Dp.prI (Dp.same s dz)
  exact ⟨e, fun Q q => ⟨t, _, rfl, hT, rfl, _, _, rfl, _, _, rfl, rfl, q⟩⟩
end
theorem only_int (i : Int) : only (.int i) = true := by simp [only]
theorem lst_ints {K : PySem.W.Frag} {H : Hp} {ys : List V} {ns : List Int} (h : DpAll K H ys (ns.map .int)) : ys = ns.map V.int := DpAll.ints h
end TL
namespace TL
open PySem PySem.Spec PyProof.Rows L2
theorem onlyAll_app : ∀ a b : List PyData, onlyAll (a ++ b) = (onlyAll a && onlyAll b)
  | [], b => by simp [onlyAll]
  | x :: a, b => by
    rw [List.cons_append]
    simp only [onlyAll, onlyAll_app a b, Bool.and_assoc]
theorem onlyAll_map {β : Type} {d : β → PyData} (h : ∀ b, only (d b) = true) : ∀ l : List β, onlyAll (l.map d) = true
  | [] => by simp [onlyAll]
  | x :: l => by simp [onlyAll, h x, onlyAll_map h l]
/-- [e for u in a tuple of ints for v in what f gives] -/
theorem lc2_tup {K : PySem.W.Frag} {a : Addr} {S : List Int} {i j : Nat} {wi1 : TI} {te : TE} {vs vs1 : List Nat} {σ : L2.St} {H1 : Hp} {D : Addr} {Qd : Hp → Prop}
    (f : Int → List Int) (d : Int → Int → PyData) (nD : H1 D = none) (hS : SqT K H1 a (S.map V.int))
    (hw : ∀ v, wipe ((wipe σ vs).set i (some v)) vs = wipe σ vs)
    (hw1 : ∀ u v, wipe ((wipe ((wipe σ vs).set i (some u)) vs1).set j (some v)) vs1 = wipe ((wipe σ vs).set i (some u)) vs1)
    (hin : ∀ u ∈ S, ∀ H' (R : It → Hp → Prop), Same H1 H' → (∀ H2 b, Same H' H2 → SqT K H2 b ((f u).map V.int) → R (Itt K b) H2) → wi1 ((wipe σ vs).set i (some (.int u))) H' R)
    (he : ∀ u ∈ S, ∀ v ∈ f u, ∀ H' (Q : VK), Same H1 H' → (∀ H2 y, Same H' H2 → Dp K H2 y (d u v) → Q y H2) → te ((wipe ((wipe σ vs).set i (some (.int u))) vs1).set j (some (.int v))) H' Q)
    (ho : ∀ u v, only (d u v) = true) (hl : S.length ≤ 100) (hf : ∀ u ∈ S, (f u).length ≤ 100)
    (hd : ∀ H' ys, Same H1 H' → H' D = some (.lst ys) → DpAll K H' ys (S.flatMap fun u => (f u).map (d u)) → Qd H') :
    ∃ W : Nat → Nat → Hp → Prop, (∃ m, W 0 m (upd H1 D (.lst []))) ∧ ∀ k m H, W k m H →
      ((Itt K a).stop k H ∧ Qd H) ∨
      ((Itt K a).go k H ∧ ∃ Nx : Hp → Prop, (∀ H', Nx H' → ∃ m', m' < m ∧ W (k + 1) m' H') ∧
        ∀ x H', (Itt K a).yld k H x H' → (gName i) x (wipe σ vs) H' fun σ2 H2 =>
          wipe σ2 vs = wipe σ vs ∧ tYes σ2 H2 fun b H3 =>
            if b = true then
              wi1 σ2 H3 fun J1 H4 => ∃ W1 : Nat → Nat → Hp → Prop, (∃ m, W1 0 m H4) ∧ ∀ j' k H, W1 j' k H →
                (J1.stop j' H ∧ Nx H) ∨
                (J1.go j' H ∧ ∃ Nx1 : Hp → Prop, (∀ H', Nx1 H' → ∃ k', k' < k ∧ W1 (j' + 1) k' H') ∧
                  ∀ x H', J1.yld j' H x H' → (gName j) x (wipe σ2 vs1) H' fun σ3 H5 =>
                    wipe σ3 vs1 = wipe σ2 vs1 ∧ tYes σ3 H5 fun b H6 =>
                      if b = true then
                        te σ3 H6 fun y H7 => ∃ acc, H7 D = some (.lst acc) ∧ acc.length < sizeLine ∧ Nx1 (upd H7 D (.lst (acc ++ [y])))
                      else Nx1 H6)
            else Nx H3) := by
  have ofl : ∀ l : List Int, onlyAll (l.flatMap fun u => (f u).map (d u)) = true := by
    intro l
    induction l with
    | nil => simp [onlyAll]
    | cons u l ih => rw [List.flatMap_cons, onlyAll_app, ih, onlyAll_map (ho u)]; rfl
  let Pv : Nat → Hp → Prop := fun k H' => ∃ ys, Same H1 H' ∧ H' D = some (.lst ys) ∧ DpAll K H' ys ((S.take k).flatMap fun u => (f u).map (d u)) ∧ ys.length ≤ 100 * k
  refine ⟨fun k m H => m = S.length - k ∧ k ≤ S.length ∧ Pv k H, ⟨S.length, rfl, Nat.zero_le _, [], same_upd nD, upd_same, .nil, Nat.le_refl _⟩, fun k m H hW => ?_⟩
  obtain ⟨em, hk, ys, s, eD, dy, ln⟩ := hW
  by_cases hlt : k < S.length
  · refine .inr ⟨⟨_, _, Same.tup s hS, List.getElem?_eq_getElem (by rw [List.length_map]; exact hlt)⟩, Pv (k + 1), fun H' p => ⟨S.length - (k + 1), by omega, rfl, hlt, p⟩, fun x H' y => ?_⟩
    obtain ⟨e, hy⟩ := y
    subst e
    have hx := hy _ (Same.tup s hS)
    rw [List.getElem?_map, List.getElem?_eq_getElem hlt] at hx
    cases hx
    have mu : S[k] ∈ S := List.getElem_mem hlt
    have tk : S.take (k + 1) = S.take k ++ [S[k]] := by rw [List.take_add_one, List.getElem?_eq_getElem hlt]; rfl
    refine ⟨hw _, yesI (iteT (hin _ mu _ _ s fun H4 b s4 hb => ?_))⟩
    refine ⟨fun j' m H => m = (f S[k]).length - j' ∧ j' ≤ (f S[k]).length ∧ ∃ zs, Same H1 H ∧ SqT K H b ((f S[k]).map V.int) ∧ H D = some (.lst zs) ∧
      DpAll K H zs (((S.take k).flatMap fun u => (f u).map (d u)) ++ ((f S[k]).take j').map (d S[k])) ∧ zs.length ≤ 100 * k + j', ⟨(f S[k]).length, rfl, Nat.zero_le _, ys, s.trans s4, hb, s4 _ _ eD, ?_, by omega⟩, fun j' m H hW => ?_⟩
    · rw [List.take_zero, List.map_nil, List.append_nil]
      exact DpAll.same s4 dy
    · obtain ⟨em', hj, zs, sj, hbj, eDj, dz, lz⟩ := hW
      have lf := hf _ mu
      by_cases hjl : j' < (f S[k]).length
      · refine .inr ⟨⟨_, _, hbj, List.getElem?_eq_getElem (by rw [List.length_map]; exact hjl)⟩, fun H => ∃ zs, Same H1 H ∧ SqT K H b ((f S[k]).map V.int) ∧ H D = some (.lst zs) ∧
          DpAll K H zs (((S.take k).flatMap fun u => (f u).map (d u)) ++ ((f S[k]).take (j' + 1)).map (d S[k])) ∧ zs.length ≤ 100 * k + (j' + 1),
          fun H' p => ⟨(f S[k]).length - (j' + 1), by omega, rfl, hjl, p⟩, fun x H' y => ?_⟩
        obtain ⟨e, hy⟩ := y
        subst e
        have hx := hy _ hbj
        rw [List.getElem?_map, List.getElem?_eq_getElem hjl] at hx
        cases hx
        have mv : (f S[k])[j'] ∈ f S[k] := List.getElem_mem hjl
        refine ⟨hw1 _ _, yesI (iteT (he _ mu _ mv _ _ sj fun H5 y5 s5 d5 => ?_))⟩
        have e5 := s5 _ _ eDj
        have kt : KT K H5 (upd H5 D (.lst (zs ++ [y5]))) := kt_lst e5
        refine ⟨zs, e5, Nat.lt_of_le_of_lt (show zs.length ≤ 20000 by omega) (by decide), zs ++ [y5], ?_, kt _ _ (Same.tup s5 hbj), upd_same, ?_, ?_⟩
        · intro c o e
          rw [upd_ne (ne_of_none e nD)]
          exact s5 _ _ (sj _ _ e)
        · rw [List.take_add_one, List.getElem?_eq_getElem hjl, List.map_append, ← List.append_assoc]
          refine DpAll.append (DpAll.kt kt (DpAll.same s5 dz) ?_) (.cons (Dp.kt kt d5 (ho _ _)) .nil)
          rw [onlyAll_app, ofl, onlyAll_map (ho _)]
          rfl
        · rw [List.length_append, List.length_singleton]
          omega
      · obtain rfl : j' = (f S[k]).length := by omega
        refine .inl ⟨⟨_, hbj, by rw [List.length_map]; exact Nat.le_refl _⟩, zs, sj, eDj, ?_, by omega⟩
        rw [List.take_length] at dz
        rw [tk, List.flatMap_append, List.flatMap_cons, List.flatMap_nil, List.append_nil]
        exact dz
  · obtain rfl : k = S.length := by omega
    rw [List.take_length] at dy
    exact .inl ⟨⟨_, Same.tup s hS, by rw [List.length_map]; exact Nat.le_refl _⟩, hd H ys s eD dy⟩
section
variable {X : Cx}
def tTruth (K : PySem.W.Frag) (ta : TE) : TT := fun σ H Q => ta σ H fun x H' => ∃ k, TruV K x H' k ∧ Q k H'
theorem truthK (K : PySem.W.Frag) {a : Expr} {ta : TE} (ha : PE X a ta)
    (he : ∀ whole, isTrue a X.env whole = (do let v ← whole; standAt a.pos; holding [v] (truthy v))) (h : X.K = K := by rfl) :
    PT X a (tTruth K ta) := h ▸ pt_truth ha he
theorem isiK (K : PySem.W.Frag) (h : X.K = K := by rfl) : CallR X (.builtin "isinstance") (rIsi K) := h ▸ call_isi
end
theorem ty_tup {K : PySem.W.Frag} {H : Hp} {a : Addr} {xs : List V} (h : SqT K H a xs) : TyX K H (.ref a) (.type "tuple") := by
  rcases h with (h | ⟨o, h⟩) | ⟨o, its, n, h, c, _⟩
  · exact .base (.tup h)
  · exact .fTuple h
  · exact .kTuple h c
end TL
namespace TL
/-! ### slides -/
def oth (m : Nat) (es : List (Int × Int)) (S : List Int) (u v : Int) : List Int := (nearL m es v).filter fun o => decide (o ∈ S) && !decide (o = u)
theorem mem_oth {m : Nat} {es : List (Int × Int)} {S : List Int} {u v o : Int} : o ∈ oth m es S u v ↔ o ∈ nearL m es v ∧ o ∈ S ∧ o ≠ u := by
  unfold oth
  rw [List.mem_filter, Bool.and_eq_true, decide_eq_true_eq, Bool.not_eq_true', decide_eq_false_iff_not]
def stepsL (m : Nat) (es : List (Int × Int)) (T : List Int) : List (Int × Int) := T.flatMap fun u => (nearL m es u).map fun v => (u, v)
def slidesP (m : Nat) (es : List (Int × Int)) (S : List Int) : List (Int × Int) := (stepsL m es S).filter fun p => decide (oth m es S p.1 p.2 = [])
def slidesT (m : Nat) (es : List (Int × Int)) (S T : List Int) : List (Int × Int) := T.flatMap fun u => ((nearL m es u).filter fun v => decide (oth m es S u v = [])).map fun v => (u, v)
theorem slides_eqT (m : Nat) (es : List (Int × Int)) (S : List Int) : ∀ T : List Int, (stepsL m es T).filter (fun p => decide (oth m es S p.1 p.2 = [])) = slidesT m es S T
  | [] => rfl
  | u :: T => by
    have ih := slides_eqT m es S T
    unfold stepsL slidesT at ih ⊢
    rw [List.flatMap_cons, List.flatMap_cons, List.filter_append, ih, List.filter_map]
    rfl
theorem slides_eq (m : Nat) (es : List (Int × Int)) (S : List Int) : slidesP m es S = slidesT m es S S := slides_eqT m es S S
theorem mem_slidesP {m : Nat} {es : List (Int × Int)} {S : List Int} {u v : Int} : (u, v) ∈ slidesP m es S ↔ u ∈ S ∧ v ∈ nearL m es u ∧ oth m es S u v = [] := by
  unfold slidesP stepsL
  rw [List.mem_filter, List.mem_flatMap, decide_eq_true_eq]
  constructor
  · rintro ⟨⟨a, ha, hb⟩, h⟩
    obtain ⟨b, hb, e⟩ := List.mem_map.mp hb
    cases e
    exact ⟨ha, hb, h⟩
  · rintro ⟨h1, h2, h3⟩
    exact ⟨⟨u, h1, List.mem_map.mpr ⟨v, h2, rfl⟩⟩, h3⟩
theorem ascP_steps (m : Nat) (es : List (Int × Int)) : ∀ {T : List Int}, Asc T → AscP (stepsL m es T)
  | [], _ => .nil
  | u :: T, h => by
    have h' := List.pairwise_cons.mp h
    unfold stepsL
    rw [List.flatMap_cons]
    refine List.pairwise_append.mpr ⟨?_, ascP_steps m es h'.2, ?_⟩
    · rw [List.pairwise_map]
      exact (nearL_asc m es u).imp fun h => .inr ⟨rfl, h⟩
    · intro a ha b hb
      obtain ⟨v, _, rfl⟩ := List.mem_map.mp ha
      obtain ⟨z, hz, hb⟩ := List.mem_flatMap.mp hb
      obtain ⟨y, _, rfl⟩ := List.mem_map.mp hb
      exact .inl (h'.1 z hz)
theorem ascP_slides {m : Nat} {es : List (Int × Int)} {S : List Int} (h : Asc S) : AscP (slidesP m es S) := (ascP_steps m es h).filter _
theorem nearL_len (m : Nat) (es : List (Int × Int)) (v : Int) : (nearL m es v).length ≤ m := by
  have := List.length_filter_le (fun o => decide (ordP o v ∈ es)) (rng m)
  rw [rng_length] at this
  exact this
theorem asc_len {m : Nat} : ∀ {S : List Int} {lo : Nat}, Asc S → (∀ v ∈ S, (lo : Int) ≤ v ∧ v < m) → S.length ≤ m - lo
  | [], _, _, _ => Nat.zero_le _
  | v :: S, lo, h, b => by
    have h' := List.pairwise_cons.mp h
    have hv := b v List.mem_cons_self
    have := asc_len (m := m) (lo := v.toNat + 1) h'.2 fun z hz => ⟨by have := h'.1 z hz; omega, (b z (List.mem_cons_of_mem _ hz)).2⟩
    rw [List.length_cons]
    omega
theorem IsSet.len {m : Nat} {es : List (Int × Int)} {S : List Int} (h : IsSet m es S) : S.length ≤ m := by
  have := asc_len (lo := 0) h.asc fun v hv => by have := h.rng v hv; omega
  omega
theorem steps_len (m : Nat) (es : List (Int × Int)) : ∀ T : List Int, (stepsL m es T).length ≤ T.length * m
  | [] => by simp [stepsL]
  | u :: T => by
    have ih := steps_len m es T
    unfold stepsL at ih ⊢
    rw [List.flatMap_cons, List.length_append, List.length_map, List.length_cons, Nat.add_mul, Nat.one_mul]
    have := nearL_len m es u
    omega
/-! ### the setting behind a slide -/
theorem move_perm {u v : Int} : ∀ {S : List Int}, S.Nodup → u ∈ S → (S.map fun l => if l = u then v else l).Perm (S.filter (fun l => !decide (l = u)) ++ [v])
  | [], _, h => nomatch h
  | a :: S, nd, h => by
    have nd' := List.nodup_cons.mp nd
    by_cases e : a = u
    · subst e
      rw [List.map_cons, if_pos rfl, List.filter_cons_of_neg (by simp)]
      have e1 : S.map (fun l => if l = a then v else l) = S := by
        have q : S.map (fun l => if l = a then v else l) = S.map id :=
          List.map_congr_left fun l hl => if_neg fun z => nd'.1 (by rw [← z]; exact hl)
        rw [q, List.map_id]
      have e2 : S.filter (fun l => !decide (l = a)) = S := List.filter_eq_self.mpr fun l hl => by
        have : l ≠ a := fun z => nd'.1 (z ▸ hl)
        simp [this]
      rw [e1, e2]
      exact (List.perm_append_singleton v S).symm
    · rw [List.map_cons, if_neg e, List.filter_cons_of_pos (by simp [e]), List.cons_append]
      exact List.Perm.cons a (move_perm nd'.2 ((List.mem_cons.mp h).resolve_left fun z => e z.symm))
def after (S : List Int) (u v : Int) : List Int := srtI (S.filter (fun l => !decide (l = u)) ++ [v])
theorem after_eq {S : List Int} {u v : Int} (nd : S.Nodup) (h : u ∈ S) : srtI (S.map fun l => if l = u then v else l) = after S u v := srtI_congr (move_perm nd h)
theorem IsFor.loop {m : Nat} {es : List (Int × Int)} (f : IsFor m es) (v : Int) : ordP v v ∉ es := fun h => by
  have := f.rng _ h
  unfold ordP at this
  rw [if_pos (Int.le_refl _)] at this
  simp only at this
  omega
theorem mem_after {S : List Int} {u v z : Int} : z ∈ after S u v ↔ (z ∈ S ∧ z ≠ u) ∨ z = v := by
  unfold after
  rw [mem_srtI, List.mem_append, List.mem_filter, List.mem_singleton, Bool.not_eq_true', decide_eq_false_iff_not]
theorem IsSet.after {m : Nat} {es : List (Int × Int)} {S : List Int} {u v : Int} (f : IsFor m es) (h : IsSet m es S) (hu : u ∈ S) (hv : v ∈ nearL m es u) (ho : oth m es S u v = []) :
    IsSet m es (after S u v) := by
  obtain ⟨rv, av⟩ := mem_nearL.mp hv
  have nv : v ∉ S := fun z => h.free v z u hu av
  have key : ∀ a ∈ S, a ≠ u → ordP a v ∉ es := fun a ha hne hin => by
    have : a ∈ oth m es S u v := mem_oth.mpr ⟨mem_nearL.mpr ⟨h.rng a ha, hin⟩, ha, hne⟩
    rw [ho] at this
    cases this
  refine ⟨srtI_asc ?_, fun z hz => ?_, fun a ha b hb => ?_⟩
  · refine List.nodup_append.mpr ⟨h.asc.nodup.filter _, List.pairwise_singleton _ _, fun a ha b hb e => ?_⟩
    rw [List.mem_singleton.mp hb] at e
    subst e
    exact nv (List.mem_filter.mp ha).1
  · rcases mem_after.mp hz with ⟨h1, _⟩ | rfl
    · exact h.rng z h1
    · exact rv
  · rcases mem_after.mp ha with ⟨h1, h2⟩ | rfl
    · rcases mem_after.mp hb with ⟨h3, h4⟩ | rfl
      · exact h.free a h1 b h3
      · exact key a h1 h2
    · rcases mem_after.mp hb with ⟨h3, h4⟩ | rfl
      · rw [ordP_comm]
        exact key b h3 h4
      · exact f.loop b
end TL
namespace TL
open PySem PySem.Spec PyProof.Rows L2
theorem Sm.ints {ns : List Int} {m : Nat} (h : ∀ v ∈ ns, sm v) (hm : ns.length ≤ m) : Sm (intsD ns) (m * 11) 1 :=
  Sm.tup (n := 10) (k := 0) (m := m) (fun d hd => by
    obtain ⟨p, hp, rfl⟩ := List.mem_map.mp hd
    exact Sm.int (h p hp)) (by rw [List.length_map]; exact hm)
theorem IsSet.shows {m : Nat} {es : List (Int × Int)} {S : List Int} (h : IsSet m es S) (hm : m ≤ 12) : Sm (intsD S) 132 1 :=
  Sm.ints (m := 12) (fun v hv => by have := h.rng v hv; unfold sm; omega) (by have := h.len; omega)
theorem IsFor.shows {m : Nat} {es : List (Int × Int)} (h : IsFor m es) (hm : m ≤ 12) : Sm (forD m es) 600 3 := by
  have h1 : Sm (prsD es) (12 * 23) 2 := Sm.prs (fun p hp => by have := h.rng p hp; unfold smP sm; omega) (by have := h.count; omega)
  have h2 : Sm (.int (m : Int)) (12 * 23) 2 := (Sm.int (by unfold sm; omega)).le (by decide) (by decide)
  refine (Sm.tup (n := 12 * 23) (k := 2) (m := 2) (fun d hd => ?_) (Nat.le_refl _)).le (by decide) (by decide)
  rcases List.mem_cons.mp hd with rfl | hd
  · exact h2
  · obtain rfl := List.mem_singleton.mp hd
    exact h1
theorem slides_small {m : Nat} {es : List (Int × Int)} {S : List Int} (h : IsSet m es S) (hm : m ≤ 12) : ∀ p ∈ slidesP m es S, smP p := by
  rintro ⟨u, v⟩ hp
  obtain ⟨h1, h2, _⟩ := mem_slidesP.mp hp
  have a := h.rng u h1
  have b := (mem_nearL.mp h2).1
  unfold smP sm
  exact ⟨⟨by show (-1000 : Int) ≤ u; omega, by show u ≤ 1000; omega⟩, by show (-1000 : Int) ≤ v; omega, by show v ≤ 1000; omega⟩
theorem slides_len {m : Nat} {es : List (Int × Int)} {S : List Int} (h : IsSet m es S) (hm : m ≤ 12) : (slidesP m es S).length ≤ 144 := by
  have h1 := List.length_filter_le (fun p => decide (oth m es S p.1 p.2 = [])) (stepsL m es S)
  have h2 := steps_len m es S
  have h3 : S.length * m ≤ 12 * 12 := Nat.mul_le_mul (by have := h.len; omega) hm
  unfold slidesP
  omega
theorem Sm.two {d e : PyData} {n k : Nat} (h1 : Sm d n k) (h2 : Sm e n k) : Sm (.list [d, e]) (2 * (n + 1)) (k + 1) :=
  Sm.lst (m := 2) (fun z hz => by
    rcases List.mem_cons.mp hz with rfl | hz
    · exact h1
    · obtain rfl := List.mem_singleton.mp hz
      exact h2) (Nat.le_refl _)
theorem show2 {m : Nat} {es : List (Int × Int)} {S : List Int} (f : IsFor m es) (h : IsSet m es S) (hm : m ≤ 12) : Shows (.list [forD m es, intsD S]) :=
  (Sm.two (f.shows hm) ((h.shows hm).le (by decide) (by decide))).shows (by decide) (by decide)
end TL
namespace TL
open PySem PySem.Spec PyProof.Rows L2
/-! ### enumerate(a tuple) -/
abbrev tupIt (l : Addr) : Obj := { cls := .type "tuple_iterator", data := .fields #[.ref l, .int 0 0] }
abbrev enumOb (it : Addr) : Obj :=
  { cls := .type "enumerate", data := .fields #[.none, .bool false, .ref it, rawInt 0, .none, .none] }
theorem meets_enumT (l : Addr) (items : Array Value) (n : Nat) (dct : Option Addr) (sl : Array (Option Value)) :
    Meets (Builtin.«enumerate.__new__» ⟨[.type "enumerate", .ref l], []⟩) (fun _ R s =>
      s.heap.get? l = some { cls := .type "tuple", dict := dct, data := .seq items n, slots := sl } ∧
      R (.ok (.ret (.ref (s.heap.push (tupIt l)).objs.size)))
        { s with heap := (s.heap.push (tupIt l)).push (enumOb s.heap.objs.size) }) :=
  .of_wp fun prog w A R s h => by
    obtain ⟨hp, g, d, tk, os⟩ := s
    obtain ⟨hl, h⟩ := h
    have hsub := sub_enumerate
    have hL : Heap.IsTuple (Shared.heap ⟨hp, g, d, tk, os⟩) l items := ⟨_, hl, rfl, n, rfl⟩
    wp_walk using AutoSeq1.wpAny_loadPart' hl
    refine wpAny_stack_any fun st => wpAny_pure ?_
    split
    · rename_i c _ _ _ _ _
      cases (c == Value.type "enumerate")
      · wp_walk using AutoSeq1.wpAny_loadPart' hl, wpAny_pyIter_tuple hL
        exact ⟨_, rfl, h⟩
      · wp_walk using AutoSeq1.wpAny_loadPart' hl, wpAny_pyIter_tuple hL
        exact ⟨_, rfl, h⟩
    · wp_walk using AutoSeq1.wpAny_loadPart' hl, wpAny_pyIter_tuple hL
      exact ⟨_, rfl, h⟩
section
variable {prog : Program} {w : World} {A : Around} {E : Value → Shared → Prop} {s : Shared}
theorem call_enumT {l : Addr} {items : Array Value} {Q : Value → Shared → Prop} (hL : s.heap.IsTuple l items)
    (h : ∀ h', IsEnum h' (s.heap.objs.size + 1) s.heap.objs.size 0 .none → h'.IsTupleIter s.heap.objs.size l 0 →
      (∀ b o, s.heap.get? b = some o → h'.get? b = some o) → Q (.ref (s.heap.objs.size + 1)) { s with heap := h' }) :
    wpAny (model prog w) A (call (.type "enumerate") [.ref l]) Q E s := by
  obtain ⟨⟨c, dct, dt, sl⟩, hl, hc, n, hd⟩ := hL
  obtain rfl : c = .type "tuple" := hc
  obtain rfl : dt = .seq items n := hd
  refine callType_new F.called_enumerate (by decide) (F.typeCall_enumerate_1 _) (F.newCall_enumerate_1 _)
    (fun obj => F.args_object_init_2 obj _) F.entry_enumerate_new (meets_enumT l items n dct sl) ⟨hl, ?_⟩
  have hz : (s.heap.push (tupIt l)).objs.size = s.heap.objs.size + 1 := Heap.size_push ..
  show _ ∧ _
  rw [hz]
  have he : IsEnum ((s.heap.push (tupIt l)).push (enumOb s.heap.objs.size)) (s.heap.objs.size + 1) s.heap.objs.size 0 .none := by
    have q := Heap.get?_push_size (s.heap.push (tupIt l)) (o := enumOb s.heap.objs.size) rfl
    rw [hz] at q
    exact q
  exact ⟨⟨_, he, rfl⟩, h _ he ⟨_, Heap.get?_push_of_some _ (Heap.get?_push_size _ rfl), rfl, rfl⟩
    fun b o x => Heap.get?_push_of_some _ (Heap.get?_push_of_some _ x)⟩
end
/-- the tuple at a, each item in a new pair -/
def IteT (K : PySem.W.Frag) (a : Addr) : It :=
  ⟨fun i H => ∃ (xs : List V) (x : V), SqT K H a xs ∧ xs[i]? = some x,
   fun i H v H' => ∃ T x, v = .ref T ∧ H T = none ∧ H' = upd H T (.tup [.int (i : Nat), x]) ∧ ∀ xs, SqT K H a xs → xs[i]? = some x,
   fun i H => ∃ xs : List V, SqT K H a xs ∧ xs.length ≤ i⟩
theorem turn_enumT {P : Program} {w : World} {K : PySem.W.Frag} {elts : List Expr} {kk : Nat} {tpos : Pos} (a e it : Addr) (ha : a ≠ it) :
    Turn P w K (.Tuple elts kk tpos) (IteT K a) [e, it] e
      (fun i h => (∃ old, IsEnum h e it ((i : Nat) : Int) old) ∧ h.IsTupleIter it a i ∧ e ≠ it) where
  mem := by simp
  obj := fun i h st b hb => by
    obtain ⟨⟨old, he⟩, ⟨o, ho, hc, hd⟩, _⟩ := st
    have e' : b = e ∨ b = it := by simpa using hb
    rcases e' with rfl | rfl
    · exact ⟨_, he, fun v q => nomatch q⟩
    · exact ⟨o, ho, fun v q => by rw [hd] at q; cases q⟩
  keep := fun i h h' st k => by
    obtain ⟨⟨old, he⟩, hi, hne⟩ := st
    exact ⟨⟨old, k e (by simp) _ he⟩, hi.at fun o q => k it (by simp) o q, hne⟩
  item := by
    intro X hP hw hK hc i pins s σ H E I hf st hg
    subst hP hw hK
    obtain ⟨⟨old, he⟩, hit, hne⟩ := st
    obtain ⟨xs, x, hq, hx⟩ := hg
    obtain ⟨its, rv, p, hz⟩ := I.tuple hq
    obtain ⟨u, hu, ru⟩ := rv.get hx
    have hel : e < s.heap.objs.size := Heap.lt_size he
    have hil : it < s.heap.objs.size := by
      obtain ⟨_, q, _⟩ := hit
      exact Heap.lt_size q
    have hi : i < its.toArray.size := by
      rw [List.size_toArray]
      exact (List.getElem?_eq_some_iff.mp hu).1
    obtain ⟨o0, ho0, hc0, n0, hd0⟩ := p
    have pT : s.heap.IsTuple a its.toArray := ⟨o0, ho0, hc0, n0, hd0⟩
    refine wpAny_pyNext_enum_itemD (Draws.tuple (A := X.A.in1) (I.ok.hd hc) it a ha its.toArray) he ⟨hit, pT⟩ hi hne (fun z => ?_) fun x' h' tk hP ho hit' hT hsz hk => ?_
    · rcases List.mem_cons.mp z with z | z
      · exact hne z
      · have z := List.mem_singleton.mp z
        rw [z] at he
        have q := Option.some.inj (ho0.symm.trans he)
        rw [q] at hc0
        exact absurd (show Value.type "enumerate" = Value.type "tuple" from hc0) (by decide)
    have ex : x' = u := by
      have h1 : its.toArray[i]? = some x' := hP
      have h2 : its.toArray[i]? = some u := by simpa using hu
      exact Option.some.inj (h1.symm.trans h2)
    subst ex
    refine ⟨_, rfl, wpAny_letOwnedTupleGo_enum (s := { s with heap := h', toks := tk + 1 }) ho fun h'' he' sb => ?_⟩
    have hT2 : h''.get? s.heap.objs.size = some { cls := .type "tuple", data := .seq #[.int i tk, x'] } := (sb.2 _ (Nat.ne_of_gt hel)).trans hT
    have new : ObjOk X.prog X.w (upd H s.heap.objs.size (.tup [.int (i : Nat), x])) h'' s.heap.objs.size (.tup [.int (i : Nat), x]) :=
      ⟨by show 2 ≤ sizeLine; decide, [.int i tk, x'], .cons ⟨_, rfl⟩ (.cons ru .nil), ⟨_, hT2, rfl, _, rfl⟩⟩
    have kept : ∀ b ob, b ∉ [e, it] → s.heap.get? b = some ob → h''.get? b = some ob := fun b ob hb q =>
      (sb.2 b (fun z => hb (by simp [z]))).trans (hk b ob (fun z => hb (by simp [z])) (fun z => hb (by simp [z])) q)
    have I1 := I.turnedNew (t' := tk + 1) (ch := [e, it]) kept hf (Nat.le_refl _) new
    refine ⟨.ref s.heap.objs.size, _, I1, rfl, ⟨_, x, rfl, I.hok.fresh (Nat.le_refl _), rfl, fun ys hy => by rw [I.tuple_inj hy hq]; exact hx⟩,
      ⟨⟨x', ?_⟩, hit'.1.at fun o q => (sb.2 it (Ne.symm hne)).trans q, hne⟩, fun b hb => ?_⟩
    · have e1 : ((i + 1 : Nat) : Int) = (i : Int) + 1 := by omega
      rw [e1]
      exact he'
    · have hb' : b < s.heap.objs.size := by
        have e' : b = e ∨ b = it := by simpa using hb
        rcases e' with rfl | rfl
        · exact hel
        · exact hil
      rw [upd_ne (Nat.ne_of_lt hb')]
      exact (hf b hb).1
  done := by
    intro X hP hw hK hc i pins s σ H E I hf st hg
    subst hP hw hK
    obtain ⟨⟨old, he⟩, hit, hne⟩ := st
    obtain ⟨xs, hq, hx⟩ := hg
    obtain ⟨its, rv, p, hz⟩ := I.tuple hq
    obtain ⟨f0, f1, f2, f3, f4, f5⟩ := hf it (by simp)
    have hl := rv.length
    obtain ⟨o0, ho0, hc0, n0, hd0⟩ := p
    have pT : s.heap.IsTuple a its.toArray := ⟨o0, ho0, hc0, n0, hd0⟩
    have hT : s.TypeIs (.ref e) "enumerate" := ⟨_, he, rfl⟩
    unfold pyNext
    refine wpAny_bind (wpAny_attempt (wpAny_callSpecial?_slot (name := Str.ofString "__next__") hT F.slot_enumerate_next
      (wpAny_call_entry F.slot_enumerate_next hT F.entry_enumerate_next ?_ (F.args_enumerate_next_1 _))))
    show wpAny _ _ (field (.ref e) 2 >>= _) _ _ _
    refine wpAny_bind (wpAny_field he rfl (x := .ref it) rfl ?_)
    refine wpAny_bind (wpAny_nextOf_tuple_end (I.ok.hd hc) hit pT (by simp; omega) fun h' x he' hx' => ?_)
    obtain ⟨o, ho, hc⟩ := hx'
    refine wpAny_bind (wpAny_isInstance (T := "StopIteration") (b := true) ⟨o, ho, hc⟩ isSubtype_stop ?_)
    exact wpAny_pure ⟨rfl, I.turned (t' := s.toks) (fun b o hb q => he' b o hb q) f0 f1 f3 f4 f5⟩
  self := fun A i s Q E st h => by
    obtain ⟨⟨_, he⟩, _⟩ := st
    exact wpAny_pyIter_enum he h
def iEnumT (K : PySem.W.Frag) (ta : TA) : TI := fun σ H R => ta σ H fun vs H1 => ∃ a xs, vs = [.ref a] ∧ SqT K H1 a xs ∧ R (IteT K a) H1
theorem pi_enumT (K : PySem.W.Frag) {X : Cx} {e : Expr} {ta : TA} {p pos tpos : Pos} {elts : List Expr} {kk : Nat} (hg : Gl X "enumerate") (hm : X.mg "enumerate" = none)
    (ha : PA X [e] ta) (hK : X.K = K := by rfl) (hs : starEach [e] X.env = [(false, eval e X.env)] := by rfl) :
    PI X (.Tuple elts kk tpos) (.Call (.Name "enumerate" p) [e] [] pos) (iEnumT K ta) := by
  subst hK
  refine ⟨fun pins s σ H R I h => ?_⟩
  refine Call_ (ld_blt I hg hm boot_enumerate (PyProof.Rows.callWith_type1
    (thn (ha.run pos pins s σ H _ I h) fun us s1 ⟨vs, H1, I1, r1, q1⟩ => ?_) hs rfl))
  obtain ⟨a, xs, ex, hq, q⟩ := q1
  subst ex
  cases r1 with
  | cons r rr =>
    cases rr
    cases r
    obtain ⟨its, rv, ⟨o0, ho0, hc0, n0, hd0⟩, hz⟩ := I1.tuple hq
    have pT : s1.heap.IsTuple a its.toArray := ⟨o0, ho0, hc0, n0, hd0⟩
    refine call_enumT pT fun h' he hit hk => wpAny_pyIter_enum he ?_
    have I2 : Inv X pins σ H1 { s1 with heap := h' } := I1.kept (t' := s1.toks) hk
    refine ⟨s1.heap.objs.size + 1, [s1.heap.objs.size + 1, s1.heap.objs.size], _, _, H1, rfl, I2,
      turn_enumT a (s1.heap.objs.size + 1) s1.heap.objs.size (Nat.ne_of_lt (Heap.lt_size ho0)), ⟨⟨.none, he⟩, hit, Nat.succ_ne_self _⟩, fun b hb => ?_, q⟩
    have hle : s1.heap.objs.size ≤ b := by
      have e' : b = s1.heap.objs.size + 1 ∨ b = s1.heap.objs.size := by simpa using hb
      rcases e' with z | z
      · rw [z]; exact Nat.le_add_right _ _
      · rw [z]; exact Nat.le_refl _
    exact I1.fpOk hle (I1.hok.fresh hle)
/-- a loop over enumerate(a tuple): the new pair at T -/
theorem for_enumT {K : PySem.W.Frag} {a : Addr} {xs : List V} {g : TG} {tb : TS} {D : Ends} {σ : L2.St} {H : Hp} (Pv : Nat → L2.St → Hp → Prop) (h0 : Pv 0 σ H) (hl : ∀ i σ H, Pv i σ H → SqT K H a xs)
    (hs : ∀ i x T σ H, xs[i]? = some x → H T = none → Pv i σ H →
      g (.ref T) σ (upd H T (.tup [.int (i : Nat), x])) fun σ2 H2 => tb { D with nx := Pv (i + 1), ct := Pv (i + 1), bk := D.nx } σ2 H2)
    (hd : ∀ σ H, Pv xs.length σ H → D.nx σ H) :
    ∃ W : Nat → Nat → L2.St → Hp → Prop, (∃ m, W 0 m σ H) ∧ ∀ i m σ H, W i m σ H →
      ((IteT K a).stop i H ∧ D.nx σ H) ∨ ((IteT K a).go i H ∧ ∃ N : L2.St → Hp → Prop, (∀ σ' H', N σ' H' → ∃ m', m' < m ∧ W (i + 1) m' σ' H') ∧
        ∀ v H', (IteT K a).yld i H v H' → g v σ H' fun σ2 H2 => tb { D with nx := N, ct := N, bk := D.nx } σ2 H2) := by
  refine ⟨fun i m σ H => m = xs.length - i ∧ i ≤ xs.length ∧ Pv i σ H, ⟨xs.length, rfl, Nat.zero_le _, h0⟩, fun i m σ H hW => ?_⟩
  obtain ⟨em, hi, p⟩ := hW
  by_cases hlt : i < xs.length
  · refine .inr ⟨⟨xs, _, hl i σ H p, List.getElem?_eq_getElem hlt⟩, Pv (i + 1), fun σ' H' p' => ⟨xs.length - (i + 1), by omega, rfl, hlt, p'⟩, fun v H' y => ?_⟩
    obtain ⟨T, x, rfl, nT, rfl, hx⟩ := y
    exact hs i x T σ H (hx _ (hl i σ H p)) nT p
  · obtain rfl : i = xs.length := by omega
    exact .inl ⟨⟨xs, hl _ σ H p, Nat.le_refl _⟩, hd σ H p⟩
end TL
namespace TL
/-! ### slides one after another -/
def walk (m : Nat) (es : List (Int × Int)) : List Int → List (Int × Int) → Option (List Int)
  | S, [] => some S
  | S, p :: ps => if p ∈ slidesP m es S then walk m es (after S p.1 p.2) ps else none
theorem walk_cons {m : Nat} {es : List (Int × Int)} {S T : List Int} {p : Int × Int} {ps : List (Int × Int)} (h : walk m es S (p :: ps) = some T) :
    p ∈ slidesP m es S ∧ walk m es (after S p.1 p.2) ps = some T := by
  unfold walk at h
  split at h
  · rename_i h1
    exact ⟨h1, h⟩
  · cases h
theorem IsSet.slide {m : Nat} {es : List (Int × Int)} {S : List Int} {p : Int × Int} (f : IsFor m es) (h : IsSet m es S) (hp : p ∈ slidesP m es S) : IsSet m es (TL.after S p.1 p.2) := by
  obtain ⟨u, v⟩ := p
  obtain ⟨h1, h2, h3⟩ := mem_slidesP.mp hp
  exact IsSet.after f h h1 h2 h3
theorem mem_nearL_comm {m : Nat} {es : List (Int × Int)} (f : IsFor m es) {u v : Int} : v ∈ nearL m es u ↔ u ∈ nearL m es v := by
  rw [mem_nearL, mem_nearL, ordP_comm v u]
  constructor
  · rintro ⟨_, h⟩
    refine ⟨?_, h⟩
    rcases f.mem_ord.mp h with q | q
    · have := f.rng _ q; simp only at this; omega
    · have := f.rng _ q; simp only at this; omega
  · rintro ⟨_, h⟩
    refine ⟨?_, h⟩
    rcases f.mem_ord.mp h with q | q
    · have := f.rng _ q; simp only at this; omega
    · have := f.rng _ q; simp only at this; omega
theorem adj_free {m : Nat} {es : List (Int × Int)} {S : List Int} (h : IsSet m es S) {u v : Int} (hu : u ∈ S) (hv : v ∈ nearL m es u) : v ∉ S :=
  fun z => h.free v z u hu (mem_nearL.mp hv).2
/-- another lamp's slide after a slide -/
theorem slide_other {m : Nat} {es : List (Int × Int)} {S : List Int} (f : IsFor m es) (h : IsSet m es S) {u v u' v' : Int} (p : (u, v) ∈ slidesP m es S) (q : (u', v') ∈ slidesP m es S) (ne : u ≠ u') :
    (u', v') ∈ slidesP m es (after S u v) ↔ v' ∉ nearL m es v := by
  obtain ⟨hu, hv, ho⟩ := mem_slidesP.mp p
  obtain ⟨hu', hv', ho'⟩ := mem_slidesP.mp q
  have nv := adj_free h hu hv
  rw [mem_slidesP]
  constructor
  · rintro ⟨_, _, o⟩ z
    have : v ∈ oth m es (after S u v) u' v' := mem_oth.mpr ⟨(mem_nearL_comm f).mp z, mem_after.mpr (.inr rfl), fun e => nv (e ▸ hu')⟩
    rw [o] at this
    cases this
  · intro z
    refine ⟨mem_after.mpr (.inl ⟨hu', fun e => ne e.symm⟩), hv', ?_⟩
    refine List.eq_nil_iff_forall_not_mem.mpr fun a ha => ?_
    obtain ⟨h1, h2, h3⟩ := mem_oth.mp ha
    rcases mem_after.mp h2 with ⟨h4, h5⟩ | rfl
    · have : a ∈ oth m es S u' v' := mem_oth.mpr ⟨h1, h4, h3⟩
      rw [ho'] at this
      cases this
    · exact z ((mem_nearL_comm f).mp h1)
theorem slide_same {m : Nat} {es : List (Int × Int)} {S : List Int} (f : IsFor m es) (h : IsSet m es S) {u v v' : Int} (p : (u, v) ∈ slidesP m es S) : (u, v') ∉ slidesP m es (after S u v) := by
  obtain ⟨hu, hv, ho⟩ := mem_slidesP.mp p
  have nv := adj_free h hu hv
  intro z
  rcases mem_after.mp (mem_slidesP.mp z).1 with ⟨_, h2⟩ | h2
  · exact h2 rfl
  · exact nv (h2 ▸ hu)
theorem slide_back {m : Nat} {es : List (Int × Int)} {S : List Int} (f : IsFor m es) (h : IsSet m es S) {u v : Int} (p : (u, v) ∈ slidesP m es S) : (v, u) ∈ slidesP m es (after S u v) := by
  obtain ⟨hu, hv, ho⟩ := mem_slidesP.mp p
  refine mem_slidesP.mpr ⟨mem_after.mpr (.inr rfl), (mem_nearL_comm f).mp hv, ?_⟩
  refine List.eq_nil_iff_forall_not_mem.mpr fun a ha => ?_
  obtain ⟨h1, h2, h3⟩ := mem_oth.mp ha
  rcases mem_after.mp h2 with ⟨h4, h5⟩ | h4
  · exact h.free a h4 u hu (mem_nearL.mp h1).2
  · exact h3 h4
theorem after_comm {m : Nat} {es : List (Int × Int)} {S : List Int} (f : IsFor m es) (h : IsSet m es S) {u v u' v' : Int} (p : (u, v) ∈ slidesP m es S) (q : (u', v') ∈ slidesP m es S) (ne : u ≠ u')
    (ap : v' ∉ nearL m es v) : after (after S u v) u' v' = after (after S u' v') u v := by
  obtain ⟨hu, hv, ho⟩ := mem_slidesP.mp p
  obtain ⟨hu', hv', ho'⟩ := mem_slidesP.mp q
  have nv := adj_free h hu hv
  have nv' := adj_free h hu' hv'
  have s1 := IsSet.slide f (IsSet.slide f h p) ((slide_other f h p q ne).mpr ap)
  have ap' : v ∉ nearL m es v' := fun z => ap ((mem_nearL_comm f).mp z)
  have s2 := IsSet.slide f (IsSet.slide f h q) ((slide_other f h q p (Ne.symm ne)).mpr ap')
  refine asc_ext s1.asc s2.asc fun z => ?_
  have e1 : v ≠ u' := fun e => nv (e ▸ hu')
  have e2 : v' ≠ u := fun e => nv' (e ▸ hu)
  rw [mem_after, mem_after, mem_after, mem_after]
  constructor
  · rintro (⟨⟨a, b⟩ | a, c⟩ | a)
    · exact .inl ⟨.inl ⟨a, c⟩, b⟩
    · exact .inr a
    · exact .inl ⟨.inr a, by rw [a]; exact e2⟩
  · rintro (⟨⟨a, b⟩ | a, c⟩ | a)
    · exact .inl ⟨.inl ⟨a, c⟩, b⟩
    · exact .inr a
    · exact .inl ⟨.inr a, by rw [a]; exact e1⟩
theorem walk_two {m : Nat} {es : List (Int × Int)} {S : List Int} (f : IsFor m es) (h : IsSet m es S) {p q : Int × Int} (hp : p ∈ slidesP m es S) (hq : q ∈ slidesP m es S) (ne : p.1 ≠ q.1)
    (ap : q.2 ∉ nearL m es p.2) : walk m es S [p, q] = some (after (after S p.1 p.2) q.1 q.2) := by
  have h2 : q ∈ slidesP m es (after S p.1 p.2) := (slide_other f h (u := p.1) (v := p.2) (u' := q.1) (v' := q.2) hp hq ne).mpr ap
  unfold walk
  rw [if_pos hp]
  unfold walk
  rw [if_pos h2]
  rfl
end TL
namespace TL
open PySem PySem.Spec PyProof.Rows L2
def topS (i : Nat) : Stmt := PySem.Challenge.pw_treelamps_k77_whole_slides_of_different.main.body.getD i (.Pass ⟨0, 0, 0, 0⟩)
abbrev sIsNumber : Stmt := topS 7
abbrev nIsNumber : List Str := ["value"]
theorem scIsNumber : FnScope nIsNumber ["value"] (defScope sIsNumber) :=
  ⟨rfl, rfl, rfl, by decide +kernel, rfl, by decide +kernel, by decide +kernel⟩
abbrev sIsPair : Stmt := topS 8
abbrev nIsPair : List Str := ["value"]
theorem scIsPair : FnScope nIsPair ["value"] (defScope sIsPair) :=
  ⟨rfl, rfl, rfl, by decide +kernel, rfl, by decide +kernel, by decide +kernel⟩
abbrev sNeighboursOf : Stmt := topS 9
abbrev nNeighboursOf : List Str := ["forest", "vertex", "n", "edges", "lower", "upper", "a", "b"]
theorem scNeighboursOf : FnScope nNeighboursOf ["forest", "vertex"] (defScope sNeighboursOf) :=
  ⟨rfl, rfl, rfl, by decide +kernel, rfl, by decide +kernel, by decide +kernel⟩
abbrev sBlockingLamps : Stmt := topS 11
abbrev nBlockingLamps : List Str := ["forest", "setting", "u", "v", "vertex"]
theorem scBlockingLamps : FnScope nBlockingLamps ["forest", "setting", "u", "v"] (defScope sBlockingLamps) :=
  ⟨rfl, rfl, rfl, by decide +kernel, rfl, by decide +kernel, by decide +kernel⟩
abbrev sCheckLamp : Stmt := topS 12
abbrev nCheckLamp : List Str := ["setting", "value"]
theorem scCheckLamp : FnScope nCheckLamp ["setting", "value"] (defScope sCheckLamp) :=
  ⟨rfl, rfl, rfl, by decide +kernel, rfl, by decide +kernel, by decide +kernel⟩
abbrev sSlideLamp : Stmt := topS 13
abbrev nSlideLamp : List Str := ["forest", "setting", "u", "v", "blocking", "lamp"]
theorem scSlideLamp : FnScope nSlideLamp ["forest", "setting", "u", "v"] (defScope sSlideLamp) :=
  ⟨rfl, rfl, rfl, by decide +kernel, rfl, by decide +kernel, by decide +kernel⟩
abbrev sPossibleSlides : Stmt := topS 14
abbrev nPossibleSlides : List Str := ["forest", "setting", "steps", "u", "v"]
theorem scPossibleSlides : FnScope nPossibleSlides ["forest", "setting"] (defScope sPossibleSlides) :=
  ⟨rfl, rfl, rfl, by decide +kernel, rfl, by decide +kernel, by decide +kernel⟩
abbrev sIsPossible : Stmt := topS 15
abbrev nIsPossible : List Str := ["forest", "setting", "value", "u", "v"]
theorem scIsPossible : FnScope nIsPossible ["forest", "setting", "value"] (defScope sIsPossible) :=
  ⟨rfl, rfl, rfl, by decide +kernel, rfl, by decide +kernel, by decide +kernel⟩
abbrev sFollow : Stmt := topS 16
abbrev nFollow : List Str := ["forest", "setting", "slides", "lamps", "index", "item", "u", "v"]
theorem scFollow : FnScope nFollow ["forest", "setting", "slides"] (defScope sFollow) :=
  ⟨rfl, rfl, rfl, by decide +kernel, rfl, by decide +kernel, by decide +kernel⟩
abbrev sLDeck : Stmt := topS 18
abbrev nLDeck : List Str := ["_law_script", "_law_cell"]
theorem scLDeck : FnScope nLDeck ["_law_script"] (defScope sLDeck) :=
  ⟨rfl, rfl, rfl, by decide +kernel, rfl, by decide +kernel, by decide +kernel⟩
abbrev sLDraw : Stmt := topS 19
abbrev nLDraw : List Str := ["_law_deck_here", "_law_limit", "_law_cell", "_law_index"]
theorem scLDraw : FnScope nLDraw ["_law_deck_here", "_law_limit"] (defScope sLDraw) :=
  ⟨rfl, rfl, rfl, by decide +kernel, rfl, by decide +kernel, by decide +kernel⟩
abbrev sLMixed : Stmt := topS 20
abbrev nLMixed : List Str := ["_law_deck_here", "_law_items", "_law_left", "_law_k"]
theorem scLMixed : FnScope nLMixed ["_law_deck_here", "_law_items"] (defScope sLMixed) :=
  ⟨rfl, rfl, rfl, by decide +kernel, rfl, by decide +kernel, by decide +kernel⟩
abbrev sLForest : Stmt := topS 21
abbrev nLForest : List Str := ["_law_deck_here", "_law_most", "_law_n", "_law_names", "_law_way", "_law_rare", "_law_edges", "_law_k", "_law_other"]
theorem scLForest : FnScope nLForest ["_law_deck_here", "_law_most"] (defScope sLForest) :=
  ⟨rfl, rfl, rfl, by decide +kernel, rfl, by decide +kernel, by decide +kernel⟩
abbrev sLNear : Stmt := topS 22
abbrev nLNear : List Str := ["_law_forest_here", "_law_vertex", "_law_other"]
theorem scLNear : FnScope nLNear ["_law_forest_here", "_law_vertex"] (defScope sLNear) :=
  ⟨rfl, rfl, rfl, by decide +kernel, rfl, by decide +kernel, by decide +kernel⟩
abbrev sLSetting : Stmt := topS 23
abbrev nLSetting : List Str := ["_law_deck_here", "_law_forest_here", "_law_lamps", "_law_share", "_law_vertex", "_law_one"]
theorem scLSetting : FnScope nLSetting ["_law_deck_here", "_law_forest_here"] (defScope sLSetting) :=
  ⟨rfl, rfl, rfl, by decide +kernel, rfl, by decide +kernel, by decide +kernel⟩
abbrev sLRight : Stmt := topS 24
abbrev nLRight : List Str := ["_law_forest_here", "_law_setting_here", "_law_first", "_law_second", "_law_one", "_law_other", "_law_can", "_law_back", "_law_apart", "_law_both"]
theorem scLRight : FnScope nLRight ["_law_forest_here", "_law_setting_here", "_law_first", "_law_second"] (defScope sLRight) :=
  ⟨rfl, rfl, rfl, by decide +kernel, rfl, by decide +kernel, by decide +kernel⟩
abbrev sLaw : Stmt := topS 25
abbrev nLaw : List Str := ["_law_script", "_law_deck_here", "_law_turn", "_law_forest_here", "_law_setting_here", "_law_again", "_law_some", "_law_first", "_law_second", "_law_u", "_law_v"]
theorem scLaw : FnScope nLaw ["_law_script"] (defScope sLaw) :=
  ⟨rfl, rfl, rfl, by decide +kernel, rfl, by decide +kernel, by decide +kernel⟩
section
variable {P : Program} {w : World} {K : PySem.W.Frag} {mg : Str → Option Value} {base : Heap}
/-! ### the deck and its draws -/
def spLDeck (K : PySem.W.Frag) : Sp := fun vs H Q _ => ∃ (a : Addr) (ns : List Int), vs = [.ref a] ∧
  SqL K H a (ns.map V.int) ∧ ns.length ≤ 63 ∧ ∀ H' d l, Same H H' → Deck H' d l 0 → Q (.ref d) H'
theorem cut63 {ns : List Int} (h : ns.length ≤ 63) : cutV (ns.map V.int) none (some 63) = ns.map V.int := by
  unfold cutV
  rw [HT.sIx_none, show HT.sIx (ns.map V.int).length (ns.map V.int).length (some 63) = min 63 (ns.map V.int).length from HT.sIx_nat _ _ 63]
  rw [List.drop_zero]
  exact List.take_of_length_le (by rw [List.length_map]; omega)
theorem ok_LDeck {f : Addr} {fd : FuncData} {k : Nat} (F : Fun K "_law_deck" "_law_deck" sLDeck f fd) (m_abs : mg "abs" = none) :
    FnOk P w K mg base CX0 (k + 1) f fd ["_law_script"] (spLDeck K) := by
  refine F.ok scLDeck (fun vs H Q E h => ?_) (fun cdv A outer s H vs Q E hr h => ?_)
  · obtain ⟨a, ns, rfl, _⟩ := h
    rfl
  · obtain ⟨a, ns, rfl, hS, hlen, q⟩ := h
    refine ⟨_, (pss_one (ps_ret (pe_lst (pa_cons (pe_lc (own := [("_law_cell", 1)]) (g := (gName 1)) (tt := tYes) rfl scLDeck.nd (piLK K (pe_slice (slLK K) (pv 0) po_none (po_some pe_int)))
      (blkOk_by (own := [("_law_cell", 1)]) (N := nLDeck) (sc := (defScope sLDeck)) (by decide +kernel))
      (fun _ _ _ _ _ => (pg_name (i := 1) scLDeck.nd rfl (Or.inl rfl))) (fun _ _ _ _ _ => pts_nil)
      (fun _ _ _ _ _ => (pe_callB call_abs (by rfl) m_abs (by decide +kernel) (pa_cons (pv 1) pa_nil)))) (pa_cons pe_int pa_nil))))), ?_⟩
    refine ⟨.ref a, rfl, 63, rfl, a, ns.map V.int, rfl, hS, fun c nc => ?_⟩
    rw [cut63 hlen]
    refine ⟨c, rfl, ⟨_, SqL.of upd_same⟩, fun D nD => ?_⟩
    have s1 : Same H (upd H c (.lst (ns.map V.int))) := same_upd nc
    have s2 : Same (upd H c (.lst (ns.map V.int))) (upd (upd H c (.lst (ns.map V.int))) D (.lst [])) := same_upd nD
    have ncD : c ≠ D := ne_of_none (upd_same) nD
    have nHD : H D = none := s1.free nD
    refine lc_list (K := K) (a := c) (xs := ns.map V.int) (fun i H' => Same H H' ∧ H' c = some (.lst (ns.map V.int)) ∧
      H' D = some (.lst (((ns.take i).map fun z => if z < 0 then -z else z).map V.int))) ?_ ?_ ?_ ?_
    · exact ⟨s1.trans s2, by rw [upd_ne ncD, upd_same], by rw [upd_same]; rfl⟩
    · exact fun i H' _ p => SqL.of p.2.1
    · rintro i x H' hx ⟨p1, p2, p3⟩
      rw [List.getElem?_map] at hx
      obtain ⟨z, hz, rfl⟩ := Option.map_eq_some_iff.mp hx
      obtain ⟨hi, _⟩ := List.getElem?_eq_some_iff.mp hz
      refine ⟨rfl, yesI (iteT ?_)⟩
      refine ⟨.int z, rfl, z, rfl, _, p3, ?_, ?_, ?_, ?_⟩
      · rw [List.length_map, List.length_map, List.length_take]
        exact small1000 (by omega)
      · exact fun b o e => by
          have nb : b ≠ D := ne_of_none e nHD
          rw [upd_ne nb]
          exact p1 b o e
      · rw [upd_ne ncD]
        exact p2
      · rw [upd_same, List.take_add_one, hz, List.map_append, List.map_append]
        rfl
    · rintro H' ⟨p1, p2, p3⟩
      rw [List.length_map, List.take_length] at p3
      refine ⟨by show 2 ≤ sizeLine; decide, fun d nd => ?_⟩
      have ndD : D ≠ d := ne_of_none p3 nd
      refine q _ d D (p1.trans (same_upd nd)) ⟨0, (ns.map fun z => if z < 0 then -z else z), Nat.le_refl _, ?_, ?_, ?_, ?_⟩
      · rw [upd_same]
        rfl
      · rw [upd_ne ndD]
        exact p3
      · intro z hz
        obtain ⟨y, _, rfl⟩ := List.mem_map.mp hz
        show 0 ≤ if y < 0 then -y else y
        split <;> omega
      · rw [List.length_map]
        exact hlen

def spLDraw : Sp := fun vs H Q _ => ∃ (d l : Addr) (n : Nat) (m : Int), vs = [.ref d, .int m] ∧ 0 < m ∧ m < 1000000 ∧ Deck H d l n ∧ n < 1000000 ∧
  ∀ H' r, 0 ≤ r → r < m → Fm d l H H' → Deck H' d l (n + 1) → Q (.int r) H'
theorem deck_put {H : Hp} {d l : Addr} {n c : Nat} {ns ns' : List Int} {H1 : Hp} (hc : c ≤ n) (h1 : H1 d = some (.lst [.ref l, .int (c : Int)])) (h2 : H1 l = some (.lst (ns'.map V.int)))
    (h3 : ∀ z ∈ ns', 0 ≤ z) (h4 : ns'.length ≤ 63) : Deck H1 d l n := ⟨c, ns', hc, h1, h2, h3, h4⟩
theorem mod_in {x m : Int} (h : 0 < m) : 0 ≤ x % m ∧ x % m < m := ⟨Int.emod_nonneg x (by omega), Int.emod_lt_of_pos x h⟩
theorem pow_in {x : Int} {c : Nat} (h : c < 1000001) : ((x % 2147483587 + 7919 * (c : Int) + 1)).natAbs < 2 ^ 64 := by
  have := mod_in (x := x) (m := 2147483587) (by decide)
  omega
theorem ok_LDraw {f : Addr} {fd : FuncData} {k : Nat} (F : Fun K "_law_draw" "_law_draw" sLDraw f fd) (m_len : mg "len" = none) :
    FnOk P w K mg base CX0 (k + 1) f fd ["_law_deck_here", "_law_limit"] spLDraw := by
  refine F.ok scLDraw (fun vs H Q E h => ?_) (fun cdv A outer s H vs Q E hr h => ?_)
  · obtain ⟨d, l, n, m, rfl, _⟩ := h
    rfl
  · obtain ⟨d, l, n, m, rfl, m0, m1, hD, hn, q⟩ := h
    refine ⟨_, (pss_cons (ps_asg (pe_op op_add (pe_ix (ixLK K) (pv 0) pe_int (fun _ _ => rfl)) pe_int) (pg_sub (pv 0) pe_int set_list))
    (pss_cons (ps_asg (pe_tup (pa_cons pe_int (pa_cons (pe_un un_neg pe_int) pa_nil))) (pgTK K (pgs_cons (pg_name (i := 2) scLDraw.nd rfl (Or.inl rfl)) (pgs_cons (pg_name (i := 3) scLDraw.nd rfl (Or.inl rfl)) pgs_nil))))
    (pss_cons (ps_if (pt_cmpR op_gt (pe_callB (lenK K) (by rfl) m_len (by decide +kernel) (pa_cons (pe_ix (ixLK K) (pv 0) pe_int (fun _ _ => rfl)) pa_nil)) pe_int (nomark _)) (pss_cons (ps_set (i := 3) scLDraw.nd rfl (.inl rfl) (pe_op op_mod (pe_ix (ixLK K) (pv 0) pe_int (fun _ _ => rfl)) (pe_callB (lenK K) (by rfl) m_len (by decide +kernel) (pa_cons (pe_ix (ixLK K) (pv 0) pe_int (fun _ _ => rfl)) pa_nil))))
    (pss_one (ps_set (i := 2) scLDraw.nd rfl (.inl rfl) (pe_ix (ixLK K) (pe_ix (ixLK K) (pv 0) pe_int (fun _ _ => rfl)) (pv 3) (fun _ _ => rfl))))) pss_nil)
    (pss_cons (ps_if (pt_cmpR op_ge (pv 2) (pe_op op_pow pe_int pe_int) (nomark _)) (pss_cons (ps_asg (pe_op op_fdiv (pv 2) (pv 1)) (pg_sub (pe_ix (ixLK K) (pv 0) pe_int (fun _ _ => rfl)) (pv 3) set_list))
    (pss_one (ps_ret (pe_op op_mod (pv 2) (pv 1))))) pss_nil)
    (pss_one (ps_ret (pe_op op_mod (pe_op op_fdiv (pe_op op_mod (pe_op op_pow (pe_op op_add (pe_op op_add (pe_op op_mod (pv 2) pe_int) (pe_op op_mul pe_int (pe_ix (ixLK K) (pv 0) pe_int (fun _ _ => rfl)))) pe_int) pe_int) pe_int) pe_int) (pv 1)))))))), ?_⟩
    have nel := hD.ne
    obtain ⟨c, ns, hc, h1, h2, h3, h4⟩ := hD
    -- deck[1] = deck[1] + 1
    refine ⟨.ref d, rfl, d, _, 1, .int (c : Int), rfl, rfl, SqL.of h1, atI_nat (j := 1) rfl, (c : Int), 1, rfl, rfl,
      .ref d, rfl, d, _, 1, 1, rfl, rfl, h1, rfl, ?_⟩
    have e1 : (upd H d (.lst ([V.ref l, V.int (c : Int)].set 1 (.int ((c : Int) + 1))))) d = some (.lst [V.ref l, V.int ((c : Int) + 1)]) := upd_same
    generalize hH1 : upd H d (.lst ([V.ref l, V.int (c : Int)].set 1 (.int ((c : Int) + 1)))) = H1 at e1 ⊢
    have e2 : H1 l = some (.lst (ns.map V.int)) := by
      rw [← hH1, upd_ne nel.symm]
      exact h2
    have f1 : Fm d l H H1 := fun b o n1 n2 e => by
      rw [← hH1, upd_ne n1]
      exact e
    have ec : ((c : Int) + 1) = ((c + 1 : Nat) : Int) := by omega
    rw [ec] at e1
    -- cell, index = 0, -1
    refine ⟨1, rfl, by show 2 ≤ sizeLine; decide, fun t nt => ⟨t, _, rfl, SqT.of upd_same, rfl, .int 0, [.int (-1)], rfl, .int (-1), [], rfl, rfl, ?_⟩⟩
    have st := same_upd (o := .tup [.int 0, .int (-1)]) nt
    replace e1 := st _ _ e1
    replace e2 := st _ _ e2
    replace f1 : Fm d l H (upd H1 t (.tup [.int 0, .int (-1)])) := f1.trans (Same.fm st)
    generalize upd H1 t (.tup [.int 0, .int (-1)]) = H2 at e1 e2 f1 ⊢
    -- the last row, for any cell
    have last : ∀ (x : Int), (0 : Int) ≤ ((x % 2147483587 + 7919 * ((c + 1 : Nat) : Int) + 1) ^ (5 : Int).toNat % 2147483647 / 7) % m ∧
        ((x % 2147483587 + 7919 * ((c + 1 : Nat) : Int) + 1) ^ (5 : Int).toNat % 2147483647 / 7) % m < m := fun x => mod_in m0
    have p64 : ∀ x : Int, (x % 2147483587 + 7919 * ((c + 1 : Nat) : Int) + 1).natAbs < 2 ^ 64 := fun x => pow_in (by omega)
    have dk : Deck H2 d l (n + 1) := ⟨c + 1, ns, by omega, e1, e2, h3, h4⟩
    -- if len(deck[0]) > 0
    refine ⟨.ref d, rfl, d, _, 0, .ref l, rfl, rfl, SqL.of e1, atI_nat (j := 0) rfl, l, ns.map V.int, rfl, .inl (SqL.of e2), _, 0, rfl, rfl, _, rfl, ite2 (fun hlen => ?_) (fun hlen => ?_)⟩
    · have hpos : 0 < ns.length := by
        have := of_decide_eq_true hlen
        rw [List.length_map] at this
        omega
      obtain ⟨i0, i1⟩ := mod_in (x := ((c + 1 : Nat) : Int)) (m := (((ns.map V.int).length : Nat) : Int)) (by rw [List.length_map]; omega)
      -- index
      refine ⟨.ref d, rfl, d, _, 1, .int ((c + 1 : Nat) : Int), rfl, rfl, SqL.of e1, atI_nat (j := 1) rfl, .ref d, rfl, d, _, 0, .ref l, rfl, rfl, SqL.of e1, atI_nat (j := 0) rfl, l, ns.map V.int, rfl, .inl (SqL.of e2), _, _, rfl, rfl, by rw [List.length_map]; omega, ?_⟩
      obtain ⟨j, hj⟩ : ∃ j : Nat, ((c + 1 : Nat) : Int) % (((ns.map V.int).length : Nat) : Int) = (j : Int) :=
        ⟨(((c + 1 : Nat) : Int) % (((ns.map V.int).length : Nat) : Int)).toNat, by omega⟩
      have hjl : j < ns.length := by
        rw [hj, List.length_map] at i1
        omega
      have hx : (ns.map V.int)[j]? = some (.int ns[j]) := by
        rw [List.getElem?_map, List.getElem?_eq_getElem hjl]
        rfl
      have hx0 : 0 ≤ ns[j] := h3 _ (List.getElem_mem hjl)
      generalize ns[j] = z at hx hx0
      -- cell
      refine ⟨.ref d, rfl, d, _, 0, .ref l, rfl, rfl, SqL.of e1, atI_nat (j := 0) rfl, _, rfl, l, _, _, .int z, rfl, rfl, SqL.of e2, at_of hj hx, ?_⟩
      -- if cell >= 10 ** 18
      refine ⟨.int z, rfl, 10, 18, rfl, rfl, ⟨by decide, by decide, by decide⟩, z, _, rfl, rfl, _, rfl, ite2 (fun hbig => ?_) (fun hbig => ?_)⟩
      · refine ⟨.int z, rfl, .int m, rfl, z, m, rfl, rfl, ⟨m0, by omega⟩, .ref d, rfl, d, _, 0, .ref l, rfl, rfl, SqL.of e1, atI_nat (j := 0) rfl, _, rfl, l, _, _, j, rfl, rfl, e2, ?_, ?_⟩
        · rw [hj]
          unfold ixN
          rw [if_pos (by omega), if_pos (by rw [List.length_map]; omega)]
          simp
        · refine ⟨.int z, rfl, .int m, rfl, z, m, rfl, rfl, m0, ?_⟩
          obtain ⟨r0, r1⟩ := mod_in (x := z) m0
          refine q _ _ r0 r1 (fun b o n1 n2 e => ?_) ⟨c + 1, ns.set j (z / m), by omega, ?_, ?_, ?_, ?_⟩
          · rw [upd_ne n2]
            exact f1 b o n1 n2 e
          · rw [upd_ne nel]
            exact e1
          · rw [upd_same, List.map_set]
          · intro y hy
            rcases List.mem_or_eq_of_mem_set hy with hy | rfl
            · exact h3 y hy
            · exact Int.ediv_nonneg hx0 (by omega)
          · rw [List.length_set]
            exact h4
      · -- the last row
        refine ⟨.int z, rfl, z, 2147483587, rfl, rfl, (by show (0 : Int) < 2147483587; decide), .ref d, rfl, d, _, 1, .int ((c + 1 : Nat) : Int), rfl, rfl, SqL.of e1, atI_nat (j := 1) rfl, 7919, _, rfl, rfl, .inl ⟨by decide, by decide⟩,
          _, _, rfl, rfl, _, _, rfl, rfl, _, _, rfl, rfl, ⟨by decide, by decide, p64 z⟩, _, _, rfl, rfl, (by show (0 : Int) < 2147483647; decide), _, _, rfl, rfl, (by show (0 : Int) < 7 ∧ (7 : Int) < 1073741824; decide), .int m, rfl, _, m, rfl, rfl, m0, ?_⟩
        exact q _ _ (last z).1 (last z).2 f1 dk
    · refine ⟨.int 0, rfl, 10, 18, rfl, rfl, ⟨by decide, by decide, by decide⟩, 0, _, rfl, rfl, _, rfl, ite2 (fun hbig => ?_) (fun hbig => ?_)⟩
      · exact absurd (of_decide_eq_true hbig) (by decide)
      · refine ⟨.int 0, rfl, 0, 2147483587, rfl, rfl, (by show (0 : Int) < 2147483587; decide), .ref d, rfl, d, _, 1, .int ((c + 1 : Nat) : Int), rfl, rfl, SqL.of e1, atI_nat (j := 1) rfl, 7919, _, rfl, rfl, .inl ⟨by decide, by decide⟩,
          _, _, rfl, rfl, _, _, rfl, rfl, _, _, rfl, rfl, ⟨by decide, by decide, p64 0⟩, _, _, rfl, rfl, (by show (0 : Int) < 2147483647; decide), _, _, rfl, rfl, (by show (0 : Int) < 7 ∧ (7 : Int) < 1073741824; decide), .int m, rfl, _, m, rfl, rfl, m0, ?_⟩
        exact q _ _ (last 0).1 (last 0).2 f1 dk
/-! ### mixed: a list in another order -/
def spLMixed (K : PySem.W.Frag) : Sp := fun vs H Q _ => ∃ (d l a : Addr) (n : Nat) (ns : List Int), vs = [.ref d, .ref a] ∧ Deck H d l n ∧ n < 900000 ∧
  SqL K H a (ns.map V.int) ∧ ns.length ≤ 100 ∧
  ∀ (H' : Hp) (D : Addr) (ms : List Int), ms.Perm ns → Fm d l H H' → Deck H' d l (n + ns.length) → H D = none → H' D = some (.lst (ms.map V.int)) → Q (.ref D) H'
theorem erase_perm {rs : List Int} {k : Nat} (h : k < rs.length) : (rs[k] :: rs.eraseIdx k).Perm rs := by
  induction rs generalizing k with
  | nil => exact absurd h (Nat.not_lt_zero _)
  | cons a r ih =>
    cases k with
    | zero => exact List.Perm.refl _
    | succ k =>
      have h' : k < r.length := by rw [List.length_cons] at h; omega
      exact (List.Perm.swap _ _ _).trans (List.Perm.cons a (ih h'))
theorem erase_map : ∀ (rs : List Int) (k : Nat), (rs.map V.int).eraseIdx k = (rs.eraseIdx k).map V.int
  | [], _ => rfl
  | a :: r, 0 => rfl
  | a :: r, k + 1 => congrArg (V.int a :: ·) (erase_map r k)
theorem Fm.put {d l a : Addr} {H H' : Hp} {o : HO} (h : Fm d l H H') (ha : H a = none) : Fm d l H (upd H' a o) := fun b u n1 n2 e => by
  rw [upd_ne (ne_of_none e ha)]
  exact h b u n1 n2 e
theorem ok_LMixed {f : Addr} {fd : FuncData} (F : Fun K "_law_mixed" "_law_mixed" sLMixed f fd) (m_list : mg "list" = none) (m_range : mg "range" = none) (m_len : mg "len" = none)
    (oLDraw : Own P w K mg base "_law_draw" 1 ["_law_deck_here", "_law_limit"] spLDraw) :
    FnOk P w K mg base CX0 2 f fd ["_law_deck_here", "_law_items"] (spLMixed K) := by
  refine F.ok scLMixed (fun vs H Q E h => ?_) (fun cdv A outer s H vs Q E hr h => ?_)
  · obtain ⟨d, l, a, n, ns, rfl, _⟩ := h
    rfl
  · obtain ⟨d, l, a, n, ns, rfl, hD, hn, hS, hl, q⟩ := h
    refine ⟨_, (pss_cons (ps_set (i := 2) scLMixed.nd rfl (.inr rfl) (pe_callTy (listK K) (by rfl) m_list (by decide +kernel) (pa_cons (pv 1) pa_nil)))
    (pss_one (ps_ret (pe_lc (own := [("_law_k", 3)]) (g := (gName 3)) (tt := tYes) rfl scLMixed.nd (pi_range1 (by rfl) m_range (pa_cons (pe_callB (lenK K) (by rfl) m_len (by decide +kernel) (pa_cons (pv 2) pa_nil)) pa_nil))
      (blkOk_by (own := [("_law_k", 3)]) (N := nLMixed) (sc := (defScope sLMixed)) (by decide +kernel))
      (fun _ _ _ _ _ => (pg_name (i := 3) scLMixed.nd rfl (Or.inl rfl))) (fun _ _ _ _ _ => pts_nil)
      (fun _ _ _ _ _ => (bmK K PySem.F.plainAttrs_list PySem.F.slot_list_pop PySem.F.type_list_pop mt_popAt (pv 2) (pa_cons (pe_own oLDraw (hr.mono (by decide)) (by rfl) (pa_cons (pv 0) (pa_cons (pe_callB (lenK K) (by rfl) m_len (by decide +kernel) (pa_cons (pv 2) pa_nil)) pa_nil))) pa_nil))))))), ?_⟩
    refine ⟨.ref a, rfl, a, ns.map V.int, rfl, .inl hS, fun L nL => ?_⟩
    have s1 := same_upd (o := .lst (ns.map V.int)) nL
    refine ⟨.ref L, rfl, L, _, rfl, .inl (SqL.of upd_same), (((ns.map V.int).length : Nat) : Int), rfl, by omega, by rw [List.length_map]; omega, fun D nD => ?_⟩
    have nHD : H D = none := s1.free nD
    have nLD : L ≠ D := ne_of_none upd_same nD
    have offL := hD.off nL
    have offD := hD.off nHD
    refine lc_range (lo := 0) (n := (((ns.map V.int).length : Nat) : Int).toNat) (fun i H' => ∃ (ms rs : List Int), (ms ++ rs).Perm ns ∧ ms.length = i ∧ Fm d l H H' ∧ Deck H' d l (n + i) ∧
      H' L = some (.lst (rs.map V.int)) ∧ H' D = some (.lst (ms.map V.int))) ?_ ?_ ?_
    · exact ⟨[], ns, List.Perm.refl _, rfl, (Same.fm s1).put nHD, (hD.same s1).put offD.1 offD.2, by rw [upd_ne nLD, upd_same], upd_same⟩
    · rintro i H2 hi ⟨ms, rs, pm, el, f2, d2, eL, eD⟩
      rw [Int.toNat_natCast, List.length_map] at hi
      have er : rs.length = ns.length - i := by
        have := pm.length_eq
        rw [List.length_append] at this
        omega
      refine ⟨rfl, yesI (iteT ?_)⟩
      refine ⟨.ref L, rfl, .inl ⟨rfl, _, SqL.of eL⟩, .ref d, rfl, .ref L, rfl, L, _, rfl, .inl (SqL.of eL), d, l, _, _, rfl, by rw [List.length_map]; omega, by rw [List.length_map]; omega, d2, by omega, fun H3 r r0 r1 f3 d3 => ?_⟩
      rw [List.length_map] at r1
      have eL3 := f3 _ _ offL.1 offL.2 eL
      have eD3 := f3 _ _ offD.1 offD.2 eD
      have hk : r.toNat < rs.length := by omega
      refine ⟨L, _, r, r.toNat, .int rs[r.toNat], rfl, rfl, eL3, by omega, by omega, ?_, ?_, ms.map V.int, ?_, ?_, ms ++ [rs[r.toNat]], rs.eraseIdx r.toNat, ?_, ?_, ?_, ?_, ?_, ?_⟩
      · unfold seqIndex?
        rw [List.length_map]
        simp
        omega
      · rw [List.getElem?_map, List.getElem?_eq_getElem hk]
        rfl
      · rw [upd_ne nLD.symm]
        exact eD3
      · rw [List.length_map]
        exact small1000 (by omega)
      · rw [List.append_assoc]
        refine List.Perm.trans ?_ pm
        exact List.Perm.append_left ms (erase_perm hk)
      · rw [List.length_append, el]
        rfl
      · exact ((f2.trans f3).put nL).put nHD
      · exact ((d3.le (m := n + (i + 1)) (by omega)).put offL.1 offL.2).put offD.1 offD.2
      · rw [upd_ne nLD, upd_same]
        exact congrArg (fun z => some (HO.lst z)) (erase_map rs r.toNat)
      · rw [upd_same, List.map_append]
        rfl
    · rintro H2 ⟨ms, rs, pm, el, f2, d2, eL, eD⟩
      rw [Int.toNat_natCast, List.length_map] at el d2
      have er : rs = [] := by
        have := pm.length_eq
        rw [List.length_append] at this
        exact List.length_eq_zero_iff.mp (by omega)
      subst er
      rw [List.append_nil] at pm
      exact q _ D ms pm f2 d2 nHD eD
/-! ### forest -/
theorem rgV_rng (m : Nat) : rgV 0 (m : Int) = (rng m).map V.int := by
  unfold rgV rng
  rw [List.map_map]
  have e : ((m : Int) - 0).toNat = m := by omega
  rw [e]
  refine List.map_congr_left fun i _ => ?_
  show V.int (0 + (i : Int)) = V.int (Int.ofNat i)
  rw [Int.zero_add]
  rfl
def spLForest (K : PySem.W.Frag) : Sp := fun vs H Q _ => ∃ (d l : Addr) (n most : Nat), vs = [.ref d, .int (most : Int)] ∧ most ≤ 12 ∧ Deck H d l n ∧ n < 800000 ∧
  ∀ (H' : Hp) (x : V) (m : Nat) (es : List (Int × Int)), Fm d l H H' → Deck H' d l (n + 60) → m ≤ most → IsFor m es → Dp K H' x (forD m es) → Q x H'
theorem ok_LForest {f : Addr} {fd : FuncData} (F : Fun K "_law_forest" "_law_forest" sLForest f fd) (m_list : mg "list" = none) (m_range : mg "range" = none) (m_len : mg "len" = none)
    (m_max : mg "max" = none) (m_tuple : mg "tuple" = none) (m_sorted : mg "sorted" = none)
    (oLDraw : Own P w K mg base "_law_draw" 1 ["_law_deck_here", "_law_limit"] spLDraw) (oLMixed : Own P w K mg base "_law_mixed" 2 ["_law_deck_here", "_law_items"] (spLMixed K)) :
    FnOk P w K mg base CX0 3 f fd ["_law_deck_here", "_law_most"] (spLForest K) := by
  refine F.ok scLForest (fun vs H Q E h => ?_) (fun cdv A outer s H vs Q E hr h => ?_)
  · obtain ⟨d, l, n, most, rfl, _⟩ := h
    rfl
  · obtain ⟨d, l, n, most, rfl, hm, hD, hn, q⟩ := h
    refine ⟨_, (pss_cons (ps_set (i := 2) scLForest.nd rfl (.inl rfl) (pe_own oLDraw (hr.mono (by decide)) (by rfl) (pa_cons (pv 0) (pa_cons (pe_op op_add (pv 1) pe_int) pa_nil))))
    (pss_cons (ps_set (i := 3) scLForest.nd rfl (.inl rfl) (pe_own oLMixed (hr.mono (by decide)) (by rfl) (pa_cons (pv 0) (pa_cons (pe_listRg rfl (by rfl) m_list (prg_1 (by rfl) m_range (pv 2))) pa_nil))))
    (pss_cons (ps_par (by rfl) scLForest.nd (i := 4) (j := 5) rfl rfl (by decide) rfl rfl (pa_cons (pe_own oLDraw (hr.mono (by decide)) (by rfl) (pa_cons (pv 0) (pa_cons pe_int pa_nil))) (pa_cons (pe_own oLDraw (hr.mono (by decide)) (by rfl) (pa_cons (pv 0) (pa_cons pe_int pa_nil))) pa_nil)) (by rfl))
    (pss_cons (ps_set (i := 6) scLForest.nd rfl (.inl rfl) (pe_lst pa_nil))
    (pss_cons (ps_for PassesOwn.never rfl (pi_range2 (by rfl) m_range (pa_cons pe_int (pa_cons (pv 2) pa_nil))) (pg_name (i := 7) scLForest.nd rfl (Or.inl rfl))
    (pss_cons (ps_set (i := 8) scLForest.nd rfl (.inl rfl) (pe_ix (ixLK K) (pe_lst (pa_cons (pe_op op_sub (pv 7) pe_int) (pa_cons pe_int (pa_cons (pe_own oLDraw (hr.mono (by decide)) (by rfl) (pa_cons (pv 0) (pa_cons (pv 7) pa_nil))) (pa_cons (pe_callB (call_max2 rfl) (by rfl) m_max (by decide +kernel) (pa_cons pe_int (pa_cons (pe_op op_sub (pv 7) pe_int) pa_nil))) pa_nil))))) (pv 4) (fun _ _ => rfl)))
    (pss_one (ps_if (PW.pt (pw_or (pt_cmpR op_gt (pv 5) pe_int (nomark _)) (pw_or1 (pt_cmpR op_gt (pe_own oLDraw (hr.mono (by decide)) (by rfl) (pa_cons (pv 0) (pa_cons pe_int pa_nil))) pe_int (nomark _))))) (pss_one (ps_expr (bmK K PySem.F.plainAttrs_list PySem.F.slot_list_append PySem.F.type_list_append mt_append (pv 6) (pa_cons (pe_callTy (tupleK K) (by rfl) m_tuple (by decide +kernel) (pa_cons (pe_callB (sortK K hr.units) (by rfl) m_sorted (by decide +kernel) (pa_cons (pe_lst (pa_cons (pe_ix (ixLK K) (pv 3) (pv 7) (fun _ _ => rfl)) (pa_cons (pe_ix (ixLK K) (pv 3) (pv 8) (fun _ _ => rfl)) pa_nil))) pa_nil)) pa_nil)) pa_nil)))) pss_nil))))
    (pss_one (ps_ret (pe_tup (pa_cons (pv 2) (pa_cons (pe_callTy (tupleK K) (by rfl) m_tuple (by decide +kernel) (pa_cons (pe_callB (sortK K hr.units) (by rfl) m_sorted (by decide +kernel) (pa_cons (pv 6) pa_nil)) pa_nil)) pa_nil)))))))))), ?_⟩
    -- n
    refine ⟨.ref d, rfl, .int (most : Int), rfl, (most : Int), 1, rfl, rfl, d, l, n, _, rfl, by omega, by omega, hD, by omega, fun H1 r r0 r1 f1 d1 => ?_⟩
    obtain ⟨m, rfl⟩ : ∃ m : Nat, r = (m : Int) := ⟨r.toNat, by omega⟩
    have hmm : m ≤ most := by omega
    -- names
    refine ⟨.ref d, rfl, .int (m : Int), rfl, (m : Int), rfl, RgOk.of_le (by omega) (by omega) (by omega) (by omega), fun z nz => ?_⟩
    rw [rgV_rng]
    have sz := same_upd (o := .lst ((rng m).map V.int)) nz
    refine ⟨d, l, z, _, rng m, rfl, d1.same sz, by omega, SqL.of upd_same, by rw [rng_length]; omega, fun H2 D nm pm f2 d2 nD eD => ?_⟩
    rw [rng_length] at d2
    have f12 : Fm d l H H2 := (f1.trans (Same.fm sz)).trans f2
    have offD := (d1.same sz).off nD
    -- way, rare
    refine ⟨.ref d, rfl, d, l, _, 4, rfl, by decide, by decide, d2, by omega, fun H3 w3 w0 w1 f3 d3 => ?_⟩
    refine ⟨.ref d, rfl, d, l, _, 3, rfl, by decide, by decide, d3, by omega, fun H4 t t0 t1 f4 d4 => ⟨.int w3, .int t, rfl, ?_⟩⟩
    have eD4 := f4 _ _ offD.1 offD.2 (f3 _ _ offD.1 offD.2 eD)
    have f14 := (f12.trans f3).trans f4
    -- edges = []
    refine ⟨Nat.zero_le _, fun E nE => ?_⟩
    have offE := d4.off nE
    have nDE : D ≠ E := ne_of_none eD4 nE
    have sE := same_upd (o := .lst []) nE
    refine ⟨.int (m : Int), rfl, 1, (m : Int), rfl, ⟨by omega, by omega, by omega, by omega⟩, for_range (lo := 1) (n := ((m : Int) - 1).toNat) (fun i σ H' => ∃ (y7 y8 : Option V) (ks : List (Nat × Nat)) (xs : List V),
      σ = [some (.ref d), some (.int (most : Int)), some (.int (m : Int)), some (.ref D), some (.int w3), some (.int t), some (.ref E), y7, y8] ∧ Fm d l H4 H' ∧ Deck H' d l (n + 16 + 2 * i) ∧
      H' D = some (.lst (nm.map V.int)) ∧ H' E = some (.lst xs) ∧ DpAll K H' xs ((ks.map (edgeOf nm)).map prD) ∧ ks.Pairwise (fun a b => a.1 < b.1) ∧ (∀ q ∈ ks, q.2 < q.1 ∧ q.1 < i + 1) ∧ ks.length ≤ i) ?_ ?_ ?_⟩
    · exact ⟨none, none, [], [], rfl, Same.fm sE, (d4.same sE).le (by omega), by rw [upd_ne nDE]; exact eD4, upd_same, .nil, .nil, (fun _ z => nomatch z), Nat.le_refl _⟩
    · rintro i σ H5 hi ⟨y7, y8, ks, xs, rfl, f5, d5, eD5, eE5, a5, up, down, cnt⟩
      have hi' : i + 1 < m := by omega
      -- other
      refine ⟨.int (1 + (i : Int)), rfl, _, _, rfl, rfl, .ref d, rfl, .int (1 + (i : Int)), rfl, d, l, _, _, rfl, by omega, by omega, d5, by omega, fun H6 x x0 x1 f6 d6 => ?_⟩
      refine ⟨.int (1 + (i : Int)), rfl, _, _, rfl, rfl, 0, _, rfl, by show 4 ≤ sizeLine; decide, fun p np => ?_⟩
      have sp6 := same_upd (o := .lst [.int (1 + (i : Int) - 1), .int 0, .int x, .int (if 1 + (i : Int) - 2 > 0 then 1 + (i : Int) - 2 else 0)]) np
      obtain ⟨o, ho, lo⟩ : ∃ o : Nat, atI [V.int (1 + (i : Int) - 1), V.int 0, V.int x, V.int (if 1 + (i : Int) - 2 > 0 then 1 + (i : Int) - 2 else 0)] w3 = some (V.int (o : Int)) ∧ o < i + 1 := by
        have h4 : w3 = 0 ∨ w3 = 1 ∨ w3 = 2 ∨ w3 = 3 := by omega
        rcases h4 with rfl | rfl | rfl | rfl
        · exact ⟨i, by show some (V.int (1 + (i : Int) - 1)) = _; congr 2; omega, by omega⟩
        · exact ⟨0, rfl, by omega⟩
        · exact ⟨x.toNat, by show some (V.int x) = _; congr 2; omega, by omega⟩
        · refine ⟨(1 + (i : Int) - 2).toNat, ?_, by omega⟩
          show some (V.int (if 1 + (i : Int) - 2 > 0 then 1 + (i : Int) - 2 else 0)) = _
          congr 2
          split <;> omega
      refine ⟨.int w3, rfl, p, _, _, _, rfl, rfl, SqL.of upd_same, ho, ?_⟩
      have eD6 := sp6 _ _ (f6 _ _ offD.1 offD.2 eD5)
      have eE6 := sp6 _ _ (f6 _ _ offE.1 offE.2 eE5)
      have d6' := d6.same sp6
      have f6' : Fm d l H4 _ := (f5.trans f6).trans (Same.fm sp6)
      have k6 : KT K H5 _ := (f6.kt d5).trans (Same.kt sp6)
      have a6 := DpAll.kt k6 a5 (only_prs _)
      generalize upd H6 p (.lst [.int (1 + (i : Int) - 1), .int 0, .int x, .int (if 1 + (i : Int) - 2 > 0 then 1 + (i : Int) - 2 else 0)]) = H7 at eD6 eE6 d6' f6' a6 ⊢
      -- if
      dsimp only [gName]
      refine ifJ (R := fun b H8 => Fm d l H7 H8 ∧ Deck H8 d l (n + 16 + 2 * (i + 1))) (fun R hR => ?_) (fun H8 hR => ?_) (fun H8 hR => ?_)
      · refine ⟨.int t, rfl, _, _, rfl, rfl, _, rfl, ite2 (fun _ => hR _ _ ⟨Fm.refl, d6'.le (by omega)⟩) (fun _ => ?_)⟩
        refine ⟨.ref d, rfl, d, l, _, 4, rfl, by decide, by decide, d6', by omega, fun H8 y y0 y1 f8 d8 => ⟨_, _, rfl, rfl, _, rfl, hR _ _ ⟨f8, d8.le (by omega)⟩⟩⟩
      · obtain ⟨f8, d8⟩ := hR
        have eD8 := f8 _ _ offD.1 offD.2 eD6
        have eE8 := f8 _ _ offE.1 offE.2 eE6
        have a8 := DpAll.kt (f8.kt d6') a6 (only_prs _)
        have lnm : nm.length = m := by rw [pm.length_eq, rng_length]
        have gk : (nm.map V.int)[i + 1]? = some (.int (nm.getD (i + 1) 0)) := by
          rw [List.getElem?_map, List.getD_eq_getElem?_getD, List.getElem?_eq_getElem (by omega)]
          rfl
        have go : (nm.map V.int)[o]? = some (.int (nm.getD o 0)) := by
          rw [List.getElem?_map, List.getD_eq_getElem?_getD, List.getElem?_eq_getElem (by omega)]
          rfl
        refine ⟨.ref E, rfl, .inl ⟨rfl, _, SqL.of eE8⟩, .ref D, rfl, .int (1 + (i : Int)), rfl, D, _, _, _, rfl, rfl, SqL.of eD8, at_of (j := i + 1) (by omega) gk,
          .ref D, rfl, .int (o : Int), rfl, D, _, _, _, rfl, rfl, SqL.of eD8, at_of (j := o) rfl go, by show 2 ≤ sizeLine; decide, fun p1 np1 => ?_⟩
        have s1 := same_upd (o := .lst [V.int (nm.getD (i + 1) 0), V.int (nm.getD o 0)]) np1
        refine sortInts (ns := [nm.getD (i + 1) 0, nm.getD o 0]) (SqL.of upd_same) fun p2 np2 => ?_
        rw [srt2]
        have s2 := same_upd (o := .lst ([(ordP (nm.getD (i + 1) 0) (nm.getD o 0)).1, (ordP (nm.getD (i + 1) 0) (nm.getD o 0)).2].map V.int)) np2
        refine ⟨p2, _, rfl, .inl ⟨SqL.of upd_same, fun p3 np3 => ?_⟩⟩
        have s3 := same_upd (o := .tup ([(ordP (nm.getD (i + 1) 0) (nm.getD o 0)).1, (ordP (nm.getD (i + 1) 0) (nm.getD o 0)).2].map V.int)) np3
        have s13 := (s1.trans s2).trans s3
        have eE9 := s13 _ _ eE8
        have eD9 := s13 _ _ eD8
        have a9 := DpAll.same s13 a8
        have d9 := d8.same s13
        have f9 := (f6'.trans f8).trans (Same.fm s13)
        have hp : SqT K _ p3 [.int (edgeOf nm (i + 1, o)).1, .int (edgeOf nm (i + 1, o)).2] := SqT.of (K := K) (same_at (o := .tup ([(ordP (nm.getD (i + 1) 0) (nm.getD o 0)).1, (ordP (nm.getD (i + 1) 0) (nm.getD o 0)).2].map V.int)) np3)
        generalize upd _ p3 (.tup ([(ordP (nm.getD (i + 1) 0) (nm.getD o 0)).1, (ordP (nm.getD (i + 1) 0) (nm.getD o 0)).2].map V.int)) = H9 at eE9 eD9 a9 d9 f9 hp ⊢
        have kt : KT K H9 (upd H9 E (.lst (xs ++ [.ref p3]))) := kt_lst eE9
        refine ⟨E, xs, .ref p3, rfl, rfl, eE9, ?_, _, _, ks ++ [(i + 1, o)], xs ++ [.ref p3], rfl, ?_, d9.put offE.1 offE.2, by rw [upd_ne nDE]; exact eD9, upd_same, ?_, ?_, ?_, ?_⟩
        · have := DpAll.length a9
          rw [List.length_map, List.length_map] at this
          exact small1000 (by omega)
        · exact f9.put nE
        · rw [List.map_append, List.map_append]
          exact DpAll.append (DpAll.kt kt a9 (only_prs _)) (.cons (Dp.kt kt (Dp.pr hp) (only_pr _)) .nil)
        · refine List.pairwise_append.mpr ⟨up, List.pairwise_singleton _ _, fun a ha b hb => ?_⟩
          obtain rfl := List.mem_singleton.mp hb
          have := (down a ha).2
          exact this
        · intro z hz
          rcases List.mem_append.mp hz with hz | hz
          · have := down z hz
            omega
          · obtain rfl := List.mem_singleton.mp hz
            exact ⟨lo, Nat.lt_succ_self _⟩
        · rw [List.length_append, List.length_singleton]
          omega
      · obtain ⟨f8, d8⟩ := hR
        exact ⟨_, _, ks, xs, rfl, f6'.trans f8, d8, f8 _ _ offD.1 offD.2 eD6, f8 _ _ offE.1 offE.2 eE6, DpAll.kt (f8.kt d6') a6 (only_prs _), up, fun z hz => by have := down z hz; omega, by omega⟩
    · rintro σ H5 ⟨y7, y8, ks, xs, rfl, f5, d5, eD5, eE5, a5, up, down, cnt⟩
      have g : Grow m nm ks := ⟨pm, up, fun z hz => by have := down z hz; omega⟩
      refine ⟨.int (m : Int), rfl, .ref E, rfl, sortPairs (SqL.of eE5) a5 fun p ys np dy => ?_⟩
      have s1 := same_upd (o := .lst ys) np
      refine ⟨p, ys, rfl, .inl ⟨SqL.of upd_same, fun t nt => ?_⟩⟩
      have s2 := same_upd (o := .tup ys) nt
      refine ⟨by show 2 ≤ sizeLine; decide, fun z nz => ?_⟩
      have s3 := same_upd (o := .tup [.int (m : Int), .ref t]) nz
      have s13 := (s1.trans s2).trans s3
      refine q _ _ m _ ((f14.trans f5).trans (Same.fm s13)) ((d5.same s13).le (by omega)) hmm g.isFor ?_
      exact .tup (SqT.of upd_same) (.cons (.int _) (.cons (Dp.same s3 (.tup (SqT.of upd_same) (DpAll.same (s1.trans s2) dy))) .nil))
/-! ### near -/
def spLNear (K : PySem.W.Frag) : Sp := fun vs H Q _ => ∃ (x : V) (m : Nat) (es : List (Int × Int)) (v : Int), vs = [x, .int v] ∧ m ≤ 12 ∧ Dp K H x (forD m es) ∧
  ∀ (H' : Hp) (D : Addr), Same H H' → H D = none → H' D = some (.lst ((nearL m es v).map V.int)) → Q (.ref D) H'
theorem ok_LNear {f : Addr} {fd : FuncData} {k : Nat} (F : Fun K "_law_near" "_law_near" sLNear f fd) (m_range : mg "range" = none) (m_tuple : mg "tuple" = none) (m_sorted : mg "sorted" = none) :
    FnOk P w K mg base CX0 (k + 1) f fd ["_law_forest_here", "_law_vertex"] (spLNear K) := by
  refine F.ok scLNear (fun vs H Q E h => ?_) (fun cdv A outer s H vs Q E hr h => ?_)
  · obtain ⟨x, m, es, v, rfl, _⟩ := h
    rfl
  · obtain ⟨x, m, es, v, rfl, hm, hx, q⟩ := h
    obtain ⟨a, b, xs, rfl, ha, hb, hA⟩ := Dp.forI hx
    refine ⟨_, (pss_one (ps_ret (pe_lc (own := [("_law_other", 2)]) (g := (gName 2)) rfl scLNear.nd (pi_range1 (by rfl) m_range (pa_cons (pe_ix (ixTK K) (pv 0) pe_int (fun _ _ => rfl)) pa_nil))
      (blkOk_by (own := [("_law_other", 2)]) (N := nLNear) (sc := (defScope sLNear)) (by decide +kernel))
      (fun _ _ _ _ _ => (pg_name (i := 2) scLNear.nd rfl (Or.inl rfl))) (fun _ _ _ _ _ => (pts_one (pt_cmpR (inDK K hr.units) (pe_callTy (tupleK K) (by rfl) m_tuple (by decide +kernel) (pa_cons (pe_callB (sortK K hr.units) (by rfl) m_sorted (by decide +kernel) (pa_cons (pe_lst (pa_cons (pv 2) (pa_cons (pv 1) pa_nil))) pa_nil)) pa_nil)) (pe_ix (ixTK K) (pv 0) pe_int (fun _ _ => rfl)) (by rfl))))
      (fun _ _ _ _ _ => (pv 2))))), ?_⟩
    refine ⟨.ref a, rfl, a, _, 0, .int (m : Int), rfl, rfl, ha, atI_nat (j := 0) rfl, (m : Int), rfl, by omega, by omega, fun D nD => ?_⟩
    refine lc_rng (K := K) (m := m) (fun o => decide (ordP o v ∈ es)) .int nD (fun _ => rfl) (fun o _ H' R s1 hR => ?_) (fun o _ _ H' R s1 hR => ?_) only_int (by omega) (fun H' ys s1 eD dy => ?_)
    · refine ⟨.int o, rfl, .int v, rfl, by show 2 ≤ sizeLine; decide, fun p1 n1 => ?_⟩
      have t1 := same_upd (o := .lst [V.int o, V.int v]) n1
      refine sortInts (ns := [o, v]) (SqL.of upd_same) fun p2 n2 => ?_
      rw [srt2]
      have t2 := same_upd (o := .lst ([(ordP o v).1, (ordP o v).2].map V.int)) n2
      refine ⟨p2, _, rfl, .inl ⟨SqL.of upd_same, fun p3 n3 => ?_⟩⟩
      have t3 := same_upd (o := .tup ([(ordP o v).1, (ordP o v).2].map V.int)) n3
      have s2 := (t1.trans t2).trans t3
      have s3 := s1.trans s2
      refine ⟨.ref a, rfl, a, _, 1, .ref b, rfl, rfl, Same.tup s3 ha, atI_nat (j := 1) rfl, prD (ordP o v), es.map prD, Dp.pr (SqT.of upd_same), .inr (.tup (Same.tup s3 hb) (DpAll.same s3 hA)),
        lay_prs es, lay_pr _, dep_pr _, _, rfl, ?_⟩
      have h2 := hR _ s2
      rw [← any_pr] at h2
      exact h2
    · exact ⟨.int o, rfl, hR H' _ (Same.refl _) (.int o)⟩
    · rw [lst_ints dy] at eD
      exact q H' D s1 nD eD
/-! ### same -/
def spLSame (K : PySem.W.Frag) : Sp := fun vs H Q _ => ∃ (x y : V) (d : PyData), vs = [x, y] ∧ Dp K H x d ∧ Dp K H y d ∧ Shows d ∧ Q (.bl true) H
/-! ### setting -/
def spLSetting (K : PySem.W.Frag) : Sp := fun vs H Q _ => ∃ (d l : Addr) (n : Nat) (x : V) (m : Nat) (es : List (Int × Int)), vs = [.ref d, x] ∧ Deck H d l n ∧ n < 800000 ∧ m ≤ 12 ∧ IsFor m es ∧ Dp K H x (forD m es) ∧
  ∀ (H' : Hp) (y : V) (S : List Int), Fm d l H H' → Deck H' d l (n + 30) → IsSet m es S → Dp K H' y (intsD S) → Q y H'
theorem set_grow {m : Nat} {es : List (Int × Int)} (f : IsFor m es) {S : List Int} {v : Int} (hS : ∀ u ∈ S, ∀ z ∈ S, ordP u z ∉ es) (hr : ∀ u ∈ S, 0 ≤ u ∧ u < m)
    (hv : (nearL m es v).filter (fun o => decide (o ∈ S)) = []) : ∀ u ∈ S ++ [v], ∀ z ∈ S ++ [v], ordP u z ∉ es := by
  have key : ∀ u ∈ S, ordP u v ∉ es := fun u hu h => by
    have : u ∈ (nearL m es v).filter (fun o => decide (o ∈ S)) := List.mem_filter.mpr ⟨mem_nearL.mpr ⟨hr u hu, h⟩, decide_eq_true hu⟩
    rw [hv] at this
    cases this
  intro u hu z hz
  rcases List.mem_append.mp hu with h1 | h1
  · rcases List.mem_append.mp hz with h2 | h2
    · exact hS u h1 z h2
    · rw [List.mem_singleton.mp h2]
      exact key u h1
  · rw [List.mem_singleton.mp h1]
    rcases List.mem_append.mp hz with h2 | h2
    · rw [ordP_comm]
      exact key z h2
    · rw [List.mem_singleton.mp h2]
      intro h
      have := f.rng _ h
      unfold ordP at this
      rw [if_pos (Int.le_refl _)] at this
      simp only at this
      omega
theorem ok_LSetting {f : Addr} {fd : FuncData} (F : Fun K "_law_setting" "_law_setting" sLSetting f fd) (m_list : mg "list" = none) (m_range : mg "range" = none) (m_tuple : mg "tuple" = none) (m_sorted : mg "sorted" = none)
    (oLDraw : Own P w K mg base "_law_draw" 1 ["_law_deck_here", "_law_limit"] spLDraw) (oLMixed : Own P w K mg base "_law_mixed" 2 ["_law_deck_here", "_law_items"] (spLMixed K))
    (oLNear : Own P w K mg base "_law_near" 1 ["_law_forest_here", "_law_vertex"] (spLNear K)) :
    FnOk P w K mg base CX0 3 f fd ["_law_deck_here", "_law_forest_here"] (spLSetting K) := by
  refine F.ok scLSetting (fun vs H Q E h => ?_) (fun cdv A outer s H vs Q E hr h => ?_)
  · obtain ⟨d, l, n, x, m, es, rfl, _⟩ := h
    rfl
  · obtain ⟨d, l, n, x, m, es, rfl, hD, hn, hm, isf, hx, q⟩ := h
    refine ⟨_, (pss_cons (ps_asg (pe_tup (pa_cons (pe_lst pa_nil) (pa_cons (pe_op op_add pe_int (pe_own oLDraw (hr.mono (by decide)) (by rfl) (pa_cons (pv 0) (pa_cons pe_int pa_nil)))) pa_nil))) (pgTK K (pgs_cons (pg_name (i := 2) scLSetting.nd rfl (Or.inr rfl)) (pgs_cons (pg_name (i := 3) scLSetting.nd rfl (Or.inl rfl)) pgs_nil))))
    (pss_cons (ps_for PassesOwn.never rfl (piLK K (pe_own oLMixed (hr.mono (by decide)) (by rfl) (pa_cons (pv 0) (pa_cons (pe_listRg rfl (by rfl) m_list (prg_1 (by rfl) m_range (pe_ix (ixTK K) (pv 1) pe_int (fun _ _ => rfl)))) pa_nil)))) (pg_name (i := 4) scLSetting.nd rfl (Or.inl rfl))
    (pss_one (ps_if (PW.pt (pw_and (pt_cmpR (eqDK K hr.units) (pe_lc (own := [("_law_one", 5)]) (g := (gName 5)) rfl scLSetting.nd (piLK K (pe_own oLNear (hr.mono (by decide)) (by rfl) (pa_cons (pv 1) (pa_cons (pv 4) pa_nil))))
      (blkOk_by (own := [("_law_one", 5)]) (N := nLSetting) (sc := (defScope sLSetting)) (by decide +kernel))
      (fun _ _ _ _ _ => (pg_name (i := 5) scLSetting.nd rfl (Or.inl rfl))) (fun _ _ _ _ _ => (pts_one (pt_cmpR (inK K) (pv 5) (pv 2) (by rfl))))
      (fun _ _ _ _ _ => (pv 5))) (pe_lst pa_nil) (nomark _)) (pw_and1 (pt_cmpR op_lt (pe_own oLDraw (hr.mono (by decide)) (by rfl) (pa_cons (pv 0) (pa_cons pe_int pa_nil))) (pv 3) (nomark _))))) (pss_one (ps_expr (bmK K PySem.F.plainAttrs_list PySem.F.slot_list_append PySem.F.type_list_append mt_append (pv 2) (pa_cons (pv 4) pa_nil)))) pss_nil)))
    (pss_one (ps_ret (pe_callTy (tupleK K) (by rfl) m_tuple (by decide +kernel) (pa_cons (pe_callB (sortK K hr.units) (by rfl) m_sorted (by decide +kernel) (pa_cons (pv 2) pa_nil)) pa_nil)))))), ?_⟩
    -- lamps, share
    refine ⟨Nat.zero_le _, fun L nL => ?_⟩
    have s1 := same_upd (o := .lst []) nL
    have offL := hD.off nL
    refine ⟨.ref d, rfl, d, l, _, 4, rfl, by decide, by decide, hD.same s1, by omega, fun H1 r r0 r1 f1 d1 => ?_⟩
    have eL1 : H1 L = some (.lst []) := f1 _ _ offL.1 offL.2 upd_same
    refine ⟨1, r, rfl, rfl, by show 2 ≤ sizeLine; decide, fun t nt => ⟨t, _, rfl, SqT.of upd_same, rfl, .ref L, [.int (1 + r)], rfl, .int (1 + r), [], rfl, rfl, ?_⟩⟩
    have st := same_upd (o := .tup [.ref L, .int (1 + r)]) nt
    have f2 : Fm d l H (upd H1 t (.tup [.ref L, .int (1 + r)])) := ((Same.fm s1).trans f1).trans (Same.fm st)
    have eL2 := st _ _ eL1
    have d2 := d1.same st
    generalize upd H1 t (.tup [.ref L, .int (1 + r)]) = H2 at f2 eL2 d2 ⊢
    have hx2 := Dp.kt (f2.kt hD) hx (only_forD _ _)
    obtain ⟨a, b, xs, rfl, ha, hb, hA⟩ := Dp.forI hx2
    -- the vertices
    refine ⟨.ref d, rfl, .ref a, rfl, a, _, 0, .int (m : Int), rfl, rfl, ha, atI_nat (j := 0) rfl, (m : Int), rfl, RgOk.of_le (by omega) (by omega) (by omega) (by omega), fun z nz => ?_⟩
    rw [rgV_rng]
    have sz := same_upd (o := .lst ((rng m).map V.int)) nz
    refine ⟨d, l, z, _, rng m, rfl, d2.same sz, by omega, SqL.of upd_same, by rw [rng_length]; omega, fun H3 D nm pm f3 d3 nD eD => ?_⟩
    rw [rng_length] at d3
    have offD := (d2.same sz).off nD
    have f3' : Fm d l H H3 := (f2.trans (Same.fm sz)).trans f3
    have eL3 := f3 _ _ offL.1 offL.2 (sz _ _ eL2)
    have nHD : H D = none := by
      cases e : H D with
      | none => rfl
      | some o =>
        have := sz _ _ (f2 _ _ offD.1 offD.2 e)
        rw [nD] at this
        cases this
    have nLD : L ≠ D := ne_of_none (sz _ _ eL2) nD
    have lnm : nm.length = m := by rw [pm.length_eq, rng_length]
    refine ⟨D, rfl, ⟨_, SqL.of eD⟩, for_list (K := K) (a := D) (xs := nm.map V.int) (fun i σ H' => ∃ (y4 y5 : Option V) (S : List Int), σ = [some (.ref d), some (.ref a), some (.ref L), some (.int (1 + r)), y4, y5] ∧
      Fm d l H H' ∧ Deck H' d l (n + 14 + i) ∧ H' D = some (.lst (nm.map V.int)) ∧ H' L = some (.lst (S.map V.int)) ∧ S.Sublist (nm.take i) ∧ (∀ u ∈ S, ∀ z ∈ S, ordP u z ∉ es)) ?_ ?_ ?_ ?_⟩
    · exact ⟨none, none, [], rfl, f3', d3.le (by omega), eD, eL3, List.nil_sublist _, (fun _ z => nomatch z)⟩
    · rintro i σ H' _ ⟨y4, y5, S, rfl, _, _, e, _⟩
      exact SqL.of e
    · rintro i v σ H4 hv ⟨y4, y5, S, rfl, f4, d4, eD4, eL4, sub, free⟩
      rw [List.getElem?_map] at hv
      obtain ⟨v, hv', rfl⟩ := Option.map_eq_some_iff.mp hv
      obtain ⟨hi, _⟩ := List.getElem?_eq_some_iff.mp hv'
      have inS : ∀ u ∈ S, 0 ≤ u ∧ u < m := fun u hu => mem_rng.mp (pm.mem_iff.mp (List.mem_of_mem_take (sub.subset hu)))
      have lS : S.length ≤ i := by
        have := sub.length_le
        rw [List.length_take] at this
        omega
      have hx4 := Dp.kt (f4.kt hD) hx (only_forD _ _)
      dsimp only [gName]
      refine ifJ (R := fun b H8 => Fm d l H H8 ∧ Deck H8 d l (n + 14 + (i + 1)) ∧ H8 D = some (.lst (nm.map V.int)) ∧ H8 L = some (.lst (S.map V.int)) ∧ (b = true → (nearL m es v).filter (fun o => decide (o ∈ S)) = [])) (fun R hR => ?_) (fun H8 hR => ?_) (fun H8 hR => ?_)
      · refine ⟨.ref a, rfl, .int v, rfl, _, m, es, v, rfl, hm, hx4, fun H5 N s5 nN eN => ⟨N, rfl, ⟨_, SqL.of eN⟩, fun C nC => ?_⟩⟩
        have nl12 : (nearL m es v).length ≤ 1000 := by
          have : (nearL m es v).length ≤ (rng m).length := List.length_filter_le _ _
          rw [rng_length] at this
          omega
        refine lc_listI (K := K) (fun o => decide (o ∈ S)) .int nC (SqL.of eN) (fun _ => rfl) (fun o _ H' R' s1 hR' => ?_) (fun o _ _ H' R' s1 hR' => ?_) only_int nl12 (fun H6 ys s6 eC dy => ?_)
        · refine ⟨.int o, rfl, .ref L, rfl, L, S.map V.int, rfl, .inl (SqL.of (s1 _ _ (s5 _ _ eL4))), rfl, flat_ints S, _, rfl, ?_⟩
          have h2 := hR' H' (Same.refl _)
          rw [← inV_ints] at h2
          exact h2
        · exact ⟨.int o, rfl, hR' H' _ (Same.refl _) (.int o)⟩
        · rw [lst_ints dy] at eC
          refine ⟨Nat.zero_le _, fun B nB => ?_⟩
          have s7 := same_upd (o := .lst []) nB
          have s47 := (s5.trans s6).trans s7
          refine ⟨_, .list [], .lst (SqL.of (s7 _ _ eC)) (DpAll.of_ints _), .lst (SqL.of upd_same) .nil, shaped_ints _, shaped_ints [], _, rfl, ?_⟩
          rw [eqv_nil]
          refine ite2 (fun hc => ?_) (fun hc => ?_)
          · have hc := of_decide_eq_true hc
            refine ⟨.ref d, rfl, d, l, _, 5, rfl, by decide, by decide, d4.same s47, by omega, fun H8 y y0 y1 f8 d8 => ⟨.int (1 + r), rfl, _, _, rfl, rfl, _, rfl, hR _ _ ⟨?_, d8.le (by omega), f8 _ _ offD.1 offD.2 (s47 _ _ eD4), f8 _ _ offL.1 offL.2 (s47 _ _ eL4), fun _ => hc⟩⟩⟩
            exact (f4.trans (Same.fm s47)).trans f8
          · exact hR _ _ ⟨f4.trans (Same.fm s47), (d4.same s47).le (by omega), s47 _ _ eD4, s47 _ _ eL4, fun z => nomatch z⟩
      · obtain ⟨f8, d8, eD8, eL8, nb⟩ := hR
        refine ⟨.ref L, rfl, .inl ⟨rfl, _, SqL.of eL8⟩, .int v, rfl, L, _, _, rfl, rfl, eL8, ?_, _, _, S ++ [v], rfl, f8.put nL, d8.put offL.1 offL.2, by rw [upd_ne nLD.symm]; exact eD8, ?_, ?_, set_grow isf free inS (nb rfl)⟩
        · rw [List.length_map]
          exact small1000 (by omega)
        · rw [upd_same, List.map_append]
          rfl
        · rw [List.take_add_one, hv']
          exact sub.append (List.Sublist.refl _)
      · obtain ⟨f8, d8, eD8, eL8, nb⟩ := hR
        refine ⟨_, _, S, rfl, f8, d8, eD8, eL8, ?_, free⟩
        rw [List.take_add_one, hv']
        exact sub.trans (List.sublist_append_left _ _)
    · rintro σ H4 ⟨y4, y5, S, rfl, f4, d4, eD4, eL4, sub, free⟩
      rw [List.length_map, lnm] at d4
      refine ⟨.ref L, rfl, sortInts (SqL.of eL4) fun p np => ?_⟩
      have t1 := same_upd (o := .lst ((srtI S).map V.int)) np
      refine ⟨p, _, rfl, .inl ⟨SqL.of upd_same, fun t nt => ?_⟩⟩
      have t2 := same_upd (o := .tup ((srtI S).map V.int)) nt
      have t12 := t1.trans t2
      have sub' : S.Sublist nm := sub.trans (List.take_sublist _ _)
      have nd : S.Nodup := sub'.nodup (pm.nodup_iff.mpr (rng_asc m).nodup)
      refine q _ _ (srtI S) (f4.trans (Same.fm t12)) ((d4.same t12).le (by omega)) ⟨srtI_asc nd, fun v hv => mem_rng.mp (pm.mem_iff.mp (sub'.subset (mem_srtI.mp hv))), fun u hu z hz => free u (mem_srtI.mp hu) z (mem_srtI.mp hz)⟩ (Dp.ints (SqT.of upd_same))
end
end TL
namespace TL
open PySem PySem.Spec PyProof.Rows L2
section
variable {P : Program} {w : World} {K : PySem.W.Frag} {mg : Str → Option Value} {base : Heap}
/-! ### the program: neighbours, lamps in the way -/
def spNeighboursOf (K : PySem.W.Frag) : Sp := fun vs H Q _ => ∃ (x : V) (m : Nat) (es : List (Int × Int)) (v : Int), vs = [x, .int v] ∧ m ≤ 12 ∧ IsFor m es ∧ Dp K H x (forD m es) ∧
  ∀ (H' : Hp) (y : V), Same H H' → Dp K H' y (intsD (nearL m es v)) → Q y H'
theorem dec_int (a b : Int) : decide (V.int a = V.int b) = decide (a = b) := by
  by_cases h : a = b
  · subst h; simp
  · have : ¬ V.int a = V.int b := fun z => h (V.int.inj z)
    rw [decide_eq_false h, decide_eq_false this]
theorem ok_NeighboursOf {f : Addr} {fd : FuncData} {k : Nat} (F : Fun K "neighbours_of" "neighbours_of" sNeighboursOf f fd) (m_tuple : mg "tuple" = none) :
    FnOk P w K mg base CX0 (k + 1) f fd ["forest", "vertex"] (spNeighboursOf K) := by
  refine F.ok scNeighboursOf (fun vs H Q E h => ?_) (fun cdv A outer s H vs Q E hr h => ?_)
  · obtain ⟨x, m, es, v, rfl, _⟩ := h
    rfl
  · obtain ⟨x, m, es, v, rfl, hm, isf, hx, q⟩ := h
    obtain ⟨a, b, xs, rfl, ha, hb, hA⟩ := Dp.forI hx
    have ec := isf.count
    refine ⟨_, (pss_cons (ps_asg (pv 0) (pgTK K (pgs_cons (pg_name (i := 2) scNeighboursOf.nd rfl (Or.inl rfl)) (pgs_cons (pg_name (i := 3) scNeighboursOf.nd rfl (Or.inl rfl)) pgs_nil))))
    (pss_cons (ps_setLc (i := 4) (own := [("a", 6), ("b", 7)]) (g := (gTup K 2 (gCons (gName 6) (gCons (gName 7) gNil)))) (by rfl) scNeighboursOf.nd rfl rfl (sw_true rfl rfl rfl (by decide +kernel)) (piTK K (pv 3))
      (blkOk_by (own := [("a", 6), ("b", 7)]) (N := nNeighboursOf) (sc := (defScope sNeighboursOf)) (by decide +kernel))
      (fun _ _ _ _ _ => (pgTK K (pgs_cons (pg_name (i := 6) scNeighboursOf.nd rfl (Or.inl rfl)) (pgs_cons (pg_name (i := 7) scNeighboursOf.nd rfl (Or.inl rfl)) pgs_nil)))) (fun _ _ _ _ _ => (pts_one (pt_cmpR op_eq (pv 7) (pv 1) (nomark _))))
      (fun _ _ _ _ _ => (pv 6)))
    (pss_cons (ps_setLc (i := 5) (own := [("a", 6), ("b", 7)]) (g := (gTup K 2 (gCons (gName 6) (gCons (gName 7) gNil)))) (by rfl) scNeighboursOf.nd rfl rfl (sw_true rfl rfl rfl (by decide +kernel)) (piTK K (pv 3))
      (blkOk_by (own := [("a", 6), ("b", 7)]) (N := nNeighboursOf) (sc := (defScope sNeighboursOf)) (by decide +kernel))
      (fun _ _ _ _ _ => (pgTK K (pgs_cons (pg_name (i := 6) scNeighboursOf.nd rfl (Or.inl rfl)) (pgs_cons (pg_name (i := 7) scNeighboursOf.nd rfl (Or.inl rfl)) pgs_nil)))) (fun _ _ _ _ _ => (pts_one (pt_cmpR op_eq (pv 6) (pv 1) (nomark _))))
      (fun _ _ _ _ _ => (pv 7)))
    (pss_one (ps_ret (pe_callTy (tupleK K) (by rfl) m_tuple (by decide +kernel) (pa_cons (pe_op op_cat (pv 4) (pv 5)) pa_nil))))))), ?_⟩
    refine ⟨.ref a, rfl, a, _, rfl, ha, rfl, _, _, rfl, _, _, rfl, rfl, ?_⟩
    refine ⟨.ref b, rfl, b, rfl, ⟨_, hb⟩, fun D nD => ?_⟩
    refine lc_tupP (K := K) (fun p => decide (p.2 = v)) (fun p => .int p.1) nD hb hA (fun _ _ => rfl) (fun o _ H' R s1 hR => ?_) (fun o _ _ H' R s1 hR => ?_) (fun o => only_int _) (by omega) (fun H2 ys s2 eD dy => ?_)
    · refine ⟨.int o.2, rfl, .int v, rfl, rfl, _, rfl, ?_⟩
      rw [dec_int]
      exact hR H' (Same.refl _)
    · exact ⟨.int o.1, rfl, hR H' _ (Same.refl _) (.int _)⟩
    refine ⟨.ref b, rfl, b, rfl, ⟨_, Same.tup s2 hb⟩, fun D2 nD2 => ?_⟩
    refine lc_tupP (K := K) (fun p => decide (p.1 = v)) (fun p => .int p.2) nD2 (Same.tup s2 hb) (DpAll.same s2 hA) (fun _ _ => rfl) (fun o _ H' R s1 hR => ?_) (fun o _ _ H' R s1 hR => ?_) (fun o => only_int _) (by omega) (fun H3 zs s3 eD3 dz => ?_)
    · refine ⟨.int o.1, rfl, .int v, rfl, rfl, _, rfl, ?_⟩
      rw [dec_int]
      exact hR H' (Same.refl _)
    · exact ⟨.int o.2, rfl, hR H' _ (Same.refl _) (.int _)⟩
    have e1 : ys = ((es.filter fun p => decide (p.2 = v)).map (·.1)).map V.int := DpAll.ints (by rw [List.map_map]; exact dy)
    have e2 : zs = ((es.filter fun p => decide (p.1 = v)).map (·.2)).map V.int := DpAll.ints (by rw [List.map_map]; exact dz)
    subst e1 e2
    have l1 := List.length_filter_le (fun p => decide (p.2 = v)) es
    have l2 := List.length_filter_le (fun p => decide (p.1 = v)) es
    refine ⟨.ref D, rfl, .ref D2, rfl, D, D2, _, _, rfl, rfl, s3 _ _ eD, eD3, Nat.le_of_lt (small1000 (by rw [List.length_map, List.length_map, List.length_map, List.length_map]; omega)), fun p np => ?_⟩
    rw [← List.map_append]
    have t1 := same_upd (o := .lst ((nbL es v).map V.int)) np
    refine ⟨p, _, rfl, .inl ⟨SqL.of upd_same, fun t nt => ?_⟩⟩
    have t2 := same_upd (o := .tup ((nbL es v).map V.int)) nt
    refine q _ _ (((s2.trans s3).trans t1).trans t2) ?_
    rw [← isf.nb v]
    exact Dp.ints (SqT.of upd_same)
def spBlockingLamps (K : PySem.W.Frag) : Sp := fun vs H Q _ => ∃ (x y : V) (m : Nat) (es : List (Int × Int)) (S : List Int) (u v : Int), vs = [x, y, .int u, .int v] ∧ m ≤ 12 ∧ IsFor m es ∧ Dp K H x (forD m es) ∧ Dp K H y (intsD S) ∧
  ∀ (H' : Hp) (z : V), Same H H' → Dp K H' z (intsD (oth m es S u v)) → Q z H'
theorem ok_BlockingLamps {f : Addr} {fd : FuncData} {k : Nat} (F : Fun K "blocking_lamps" "blocking_lamps" sBlockingLamps f fd) (m_tuple : mg "tuple" = none)
    (oNeighboursOf : Own P w K mg base "neighbours_of" 1 ["forest", "vertex"] (spNeighboursOf K)) :
    FnOk P w K mg base CX0 2 f fd ["forest", "setting", "u", "v"] (spBlockingLamps K) := by
  refine F.ok scBlockingLamps (fun vs H Q E h => ?_) (fun cdv A outer s H vs Q E hr h => ?_)
  · obtain ⟨x, y, m, es, S, u, v, rfl, _⟩ := h
    rfl
  · obtain ⟨x, y, m, es, S, u, v, rfl, hm, isf, hx, hy, q⟩ := h
    obtain ⟨b, rfl, hb⟩ := Dp.intsI hy
    refine ⟨_, (pss_one (ps_ret (pe_callTy (tupleK K) (by rfl) m_tuple (by decide +kernel) (pa_cons (pe_lc (own := [("vertex", 4)]) (g := (gName 4)) rfl scBlockingLamps.nd (piTK K (pe_own oNeighboursOf (hr.mono (by decide)) (by rfl) (pa_cons (pv 0) (pa_cons (pv 3) pa_nil))))
      (blkOk_by (own := [("vertex", 4)]) (N := nBlockingLamps) (sc := (defScope sBlockingLamps)) (by decide +kernel))
      (fun _ _ _ _ _ => (pg_name (i := 4) scBlockingLamps.nd rfl (Or.inl rfl))) (fun _ _ _ _ _ => (pts_one (PW.pt (pw_and (pt_cmpR (inK K) (pv 4) (pv 1) (by rfl)) (pw_and1 (pt_cmpR op_ne (pv 4) (pv 2) (nomark _)))))))
      (fun _ _ _ _ _ => (pv 4))) pa_nil)))), ?_⟩
    refine ⟨x, rfl, .int v, rfl, x, m, es, v, rfl, hm, isf, hx, fun H1 n s1 dn => ?_⟩
    obtain ⟨a, rfl, ha⟩ := Dp.intsI dn
    refine ⟨a, rfl, ⟨_, ha⟩, fun D nD => ?_⟩
    have nl := nearL_len m es v
    refine lc_tupI (K := K) (fun o => decide (o ∈ S) && !decide (o = u)) .int nD ha (fun _ => rfl) (fun o _ H' R s2 hR => ?_) (fun o _ _ H' R s2 hR => ?_) only_int (by omega) (fun H2 ys s2 eD dy => ?_)
    · refine ⟨.int o, rfl, .ref b, rfl, b, S.map V.int, rfl, .inr (Same.tup (s1.trans s2) hb), rfl, flat_ints S, _, rfl, ?_⟩
      have hR' := hR H' (Same.refl _)
      show if (if false = true then _ else inV (V.int o) (S.map V.int)) = true then _ else _
      rw [if_neg Bool.false_ne_true, inV_ints]
      refine ite2 (fun h => ?_) (fun h => ?_)
      · refine ⟨.int o, rfl, .int u, rfl, rfl, _, rfl, ?_⟩
        rw [dec_int]
        rw [h, Bool.true_and] at hR'
        exact hR'
      · rw [Bool.not_eq_true] at h
        rw [h, Bool.false_and] at hR'
        exact hR'
    · exact ⟨.int o, rfl, hR H' _ (Same.refl _) (.int o)⟩
    rw [lst_ints dy] at eD
    refine ⟨D, _, rfl, .inl ⟨SqL.of eD, fun t nt => ?_⟩⟩
    exact q _ _ ((s1.trans s2).trans (same_upd nt)) (Dp.ints (SqT.of upd_same))
/-! ### the program: numbers, settings -/
def spIsNumber : Sp := fun vs H Q _ => ∃ i : Int, vs = [.int i] ∧ Q (.bl true) H
theorem ok_IsNumber {f : Addr} {fd : FuncData} {k : Nat} (F : Fun K "is_number" "is_number" sIsNumber f fd) (m_isinstance : mg "isinstance" = none) (m_int : mg "int" = none) (m_bool : mg "bool" = none) :
    FnOk P w K mg base CX0 (k + 1) f fd ["value"] spIsNumber := by
  refine F.ok scIsNumber (fun vs H Q E h => ?_) (fun cdv A outer s H vs Q E hr h => ?_)
  · obtain ⟨i, rfl, _⟩ := h
    rfl
  · obtain ⟨i, rfl, q⟩ := h
    refine ⟨_, (pss_one (ps_ret (pe_and (pe_callB (isiK K) (by rfl) m_isinstance (by decide +kernel) (pa_cons (pv 0) (pa_cons (pe_bltn (v := .ty "int") (by rfl) m_int (by decide +kernel) rfl) pa_nil))) (pe_one (pe_not (pe_callB (isiK K) (by rfl) m_isinstance (by decide +kernel) (pa_cons (pv 0) (pa_cons (pe_bltn (v := .ty "bool") (by rfl) m_bool (by decide +kernel) rfl) pa_nil)))))))), ?_⟩
    refine ⟨.int i, rfl, _, _, _, _, true, rfl, .ty "int", .base (.int i), kit_ty (by decide +kernel), true, rfl, iteT ?_⟩
    exact ⟨.int i, rfl, _, _, _, _, false, rfl, .ty "bool", .base (.int i), kit_ty (by decide +kernel), false, rfl, q⟩
end
end TL

namespace TL
open PySem PySem.Spec PyProof.Rows L2
section
variable {P : Program} {w : World} {K : PySem.W.Frag} {mg : Str → Option Value} {base : Heap}
/-! ### the program: slides -/
/-! ### a lamp is checked -/
def spCheckLamp (K : PySem.W.Frag) : Sp := fun vs H Q _ => ∃ (y : V) (S : List Int) (u : Int), vs = [y, .int u] ∧ Dp K H y (intsD S) ∧ u ∈ S ∧ Q .non H
theorem ok_CheckLamp {f : Addr} {fd : FuncData} (F : Fun K "check_lamp" "check_lamp" sCheckLamp f fd) (oIsNumber : Own P w K mg base "is_number" 1 ["value"] spIsNumber) :
    FnOk P w K mg base CX0 2 f fd ["setting", "value"] (spCheckLamp K) := by
  refine F.ok scCheckLamp (fun vs H Q E h => ?_) (fun cdv A outer s H vs Q E hr h => ?_)
  · obtain ⟨y, S, u, rfl, _⟩ := h
    rfl
  · obtain ⟨y, S, u, rfl, hy, hu, q⟩ := h
    obtain ⟨b, rfl, hb⟩ := Dp.intsI hy
    refine ⟨_, (pss_one (ps_if (PW.pt (pw_or (pt_not (pt_val (pe_own oIsNumber (hr.mono (by decide)) (by rfl) (pa_cons (pv 1) pa_nil)))) (pw_or1 (pt_cmpR (notInK K) (pv 1) (pv 0) (by rfl))))) (pss_one ps_never) pss_nil)), ?_⟩
    refine ⟨.int u, rfl, u, rfl, true, rfl, iteF ⟨.int u, rfl, .ref b, rfl, b, S.map V.int, rfl, .inr hb, rfl, flat_ints S, _, rfl, ?_⟩⟩
    show if (if true = true then !inV (V.int u) (S.map V.int) else _) = true then _ else _
    rw [if_pos rfl, inV_ints, decide_eq_true hu]
    exact iteF q
def spSlideLamp (K : PySem.W.Frag) : Sp := fun vs H Q _ => ∃ (x y : V) (m : Nat) (es : List (Int × Int)) (S : List Int) (u v : Int), vs = [x, y, .int u, .int v] ∧ m ≤ 12 ∧ IsFor m es ∧ Dp K H x (forD m es) ∧ Dp K H y (intsD S) ∧
  IsSet m es S ∧ u ∈ S ∧ v ∈ nearL m es u ∧ oth m es S u v = [] ∧ ∀ (H' : Hp) (z : V), Same H H' → Dp K H' z (intsD (after S u v)) → Q z H'
theorem ok_SlideLamp {f : Addr} {fd : FuncData} (F : Fun K "slide_lamp" "slide_lamp" sSlideLamp f fd) (m_tuple : mg "tuple" = none) (m_sorted : mg "sorted" = none)
    (oIsNumber : Own P w K mg base "is_number" 1 ["value"] spIsNumber) (oCheckLamp : Own P w K mg base "check_lamp" 2 ["setting", "value"] (spCheckLamp K)) (oNeighboursOf : Own P w K mg base "neighbours_of" 1 ["forest", "vertex"] (spNeighboursOf K))
    (oBlockingLamps : Own P w K mg base "blocking_lamps" 2 ["forest", "setting", "u", "v"] (spBlockingLamps K)) :
    FnOk P w K mg base CX0 3 f fd ["forest", "setting", "u", "v"] (spSlideLamp K) := by
  refine F.ok scSlideLamp (fun vs H Q E h => ?_) (fun cdv A outer s H vs Q E hr h => ?_)
  · obtain ⟨x, y, m, es, S, u, v, rfl, _⟩ := h
    rfl
  · obtain ⟨x, y, m, es, S, u, v, rfl, hm, isf, hx, hy, iss, hu, hv, ho, q⟩ := h
    obtain ⟨b, rfl, hb⟩ := Dp.intsI hy
    have ls := iss.len
    refine ⟨_, (pss_cons (ps_expr (pe_own oCheckLamp (hr.mono (by decide)) (by rfl) (pa_cons (pv 1) (pa_cons (pv 2) pa_nil))))
    (pss_cons (ps_if (PW.pt (pw_or (pt_not (pt_val (pe_own oIsNumber (hr.mono (by decide)) (by rfl) (pa_cons (pv 3) pa_nil)))) (pw_or1 (pt_cmpR (notInK K) (pv 3) (pe_own oNeighboursOf (hr.mono (by decide)) (by rfl) (pa_cons (pv 0) (pa_cons (pv 2) pa_nil))) (by rfl))))) (pss_one ps_never) pss_nil)
    (pss_cons (ps_set (i := 4) scSlideLamp.nd rfl (.inl rfl) (pe_own oBlockingLamps (hr.mono (by decide)) (by rfl) (pa_cons (pv 0) (pa_cons (pv 1) (pa_cons (pv 2) (pa_cons (pv 3) pa_nil))))))
    (pss_cons (ps_if (truthK K (pv 4) (by intro _; rfl)) (pss_one ps_never) pss_nil)
    (pss_one (ps_ret (pe_callTy (tupleK K) (by rfl) m_tuple (by decide +kernel) (pa_cons (pe_callB (sortK K hr.units) (by rfl) m_sorted (by decide +kernel) (pa_cons (pe_lc (own := [("lamp", 5)]) (g := (gName 5)) (tt := tYes) rfl scSlideLamp.nd (piTK K (pv 1))
      (blkOk_by (own := [("lamp", 5)]) (N := nSlideLamp) (sc := (defScope sSlideLamp)) (by decide +kernel))
      (fun _ _ _ _ _ => (pg_name (i := 5) scSlideLamp.nd rfl (Or.inl rfl))) (fun _ _ _ _ _ => pts_nil)
      (fun _ _ _ _ _ => (pe_ifExp (pt_cmpR op_eq (pv 5) (pv 2) (nomark _)) (pv 3) (pv 5)))) pa_nil)) pa_nil)))))))), ?_⟩
    -- u
    refine ⟨.ref b, rfl, .int u, rfl, .ref b, S, u, rfl, hy, hu, ?_⟩
    -- v
    refine ⟨.int v, rfl, v, rfl, true, rfl, iteF ⟨.int v, rfl, x, rfl, .int u, rfl, x, m, es, u, rfl, hm, isf, hx, fun H1 n s1 dn => ?_⟩⟩
    obtain ⟨a, rfl, ha⟩ := Dp.intsI dn
    refine ⟨a, _, rfl, .inr ha, rfl, flat_ints _, _, rfl, ?_⟩
    show if (if true = true then !inV (V.int v) ((nearL m es u).map V.int) else _) = true then _ else _
    rw [if_pos rfl, inV_ints, decide_eq_true hv]
    refine iteF ?_
    -- blocking
    refine ⟨x, rfl, .ref b, rfl, .int u, rfl, .int v, rfl, x, _, m, es, S, u, v, rfl, hm, isf, Dp.same s1 hx, Dp.same s1 hy, fun H2 z s2 dz => ?_⟩
    rw [ho] at dz
    obtain ⟨c, rfl, hc⟩ := Dp.intsI dz
    refine ⟨.ref c, rfl, false, .inr (.inl ⟨_, hc, rfl⟩), iteF ?_⟩
    -- the setting
    have s12 := s1.trans s2
    refine ⟨.ref b, rfl, b, rfl, ⟨_, Same.tup s12 hb⟩, fun D nD => ?_⟩
    refine lc_tupI (K := K) (fun _ => true) (fun l => .int (if l = u then v else l)) nD (Same.tup s12 hb) (fun _ => rfl) (fun o _ H' R s3 hR => ?_) (fun o _ _ H' R s3 hR => ?_) (fun o => only_int _) (by omega) (fun H3 ys s3 eD dy => ?_)
    · exact hR H' (Same.refl _)
    · refine ⟨.int o, rfl, .int u, rfl, rfl, _, rfl, ?_⟩
      rw [dec_int]
      have h2 := hR H' (.int (if o = u then v else o)) (Same.refl _) (.int _)
      refine ite2 (fun h => ?_) (fun h => ?_)
      · rw [if_pos (of_decide_eq_true h)] at h2
        exact ⟨.int v, rfl, h2⟩
      · rw [if_neg fun z => h (decide_eq_true z)] at h2
        exact ⟨.int o, rfl, h2⟩
    have e1 : ys = (S.map fun l => if l = u then v else l).map V.int := DpAll.ints (by
      rw [List.map_map]
      have e : (S.filter fun _ => true) = S := List.filter_eq_self.mpr fun _ _ => rfl
      rw [e] at dy
      exact dy)
    subst e1
    refine sortInts (SqL.of eD) fun p np => ?_
    rw [after_eq iss.asc.nodup hu]
    have t1 := same_upd (o := .lst ((after S u v).map V.int)) np
    refine ⟨p, _, rfl, .inl ⟨SqL.of upd_same, fun t nt => ?_⟩⟩
    exact q _ _ (((s12.trans s3).trans t1).trans (same_upd nt)) (Dp.ints (SqT.of upd_same))
def spPossibleSlides (K : PySem.W.Frag) : Sp := fun vs H Q _ => ∃ (x y : V) (m : Nat) (es : List (Int × Int)) (S : List Int), vs = [x, y] ∧ m ≤ 12 ∧ IsFor m es ∧ Dp K H x (forD m es) ∧ Dp K H y (intsD S) ∧
  IsSet m es S ∧ ∀ (H' : Hp) (z : V), Same H H' → Dp K H' z (prsD (slidesP m es S)) → Q z H'
theorem ok_PossibleSlides {f : Addr} {fd : FuncData} (F : Fun K "possible_slides" "possible_slides" sPossibleSlides f fd) (m_tuple : mg "tuple" = none)
    (oNeighboursOf : Own P w K mg base "neighbours_of" 1 ["forest", "vertex"] (spNeighboursOf K))
    (oBlockingLamps : Own P w K mg base "blocking_lamps" 2 ["forest", "setting", "u", "v"] (spBlockingLamps K)) :
    FnOk P w K mg base CX0 3 f fd ["forest", "setting"] (spPossibleSlides K) := by
  refine F.ok scPossibleSlides (fun vs H Q E h => ?_) (fun cdv A outer s H vs Q E hr h => ?_)
  · obtain ⟨x, y, m, es, S, rfl, _⟩ := h
    rfl
  · obtain ⟨x, y, m, es, S, rfl, hm, isf, hx, hy, iss, q⟩ := h
    obtain ⟨b, rfl, hb⟩ := Dp.intsI hy
    have ls := iss.len
    refine ⟨_, (pss_cons (ps_setLc2 (i := 2) (own := [("u", 3), ("v", 4)]) (vs1 := [4]) (g := (gName 3)) (g1 := (gName 4)) (tt := tYes) (tt1 := tYes) (by rfl) scPossibleSlides.nd rfl rfl (sw_true rfl rfl rfl (by decide +kernel)) (piTK K (pv 1))
      (blkOk_by (own := [("u", 3), ("v", 4)]) (N := nPossibleSlides) (sc := (defScope sPossibleSlides)) (by decide +kernel)) (by decide)
      (fun _ _ _ _ _ => (pg_name (i := 3) scPossibleSlides.nd rfl (Or.inl rfl)))
      (fun _ _ _ _ _ => pts_nil)
      (fun _ _ _ _ _ => (piTK K (pe_own oNeighboursOf (hr.mono (by decide)) (by rfl) (pa_cons (pv 0) (pa_cons (pv 3) pa_nil)))))
      (fun _ _ _ _ _ => (pg_name (i := 4) scPossibleSlides.nd rfl (Or.inl rfl)))
      (fun _ _ _ _ _ => pts_nil)
      (fun _ _ _ _ _ => (pe_tup (pa_cons (pv 3) (pa_cons (pv 4) pa_nil)))))
    (pss_one (ps_ret (pe_callTy (tupleK K) (by rfl) m_tuple (by decide +kernel) (pa_cons (pe_lc (own := [("u", 3), ("v", 4)]) (g := (gTup K 2 (gCons (gName 3) (gCons (gName 4) gNil)))) rfl scPossibleSlides.nd (piLK K (pv 2))
      (blkOk_by (own := [("u", 3), ("v", 4)]) (N := nPossibleSlides) (sc := (defScope sPossibleSlides)) (by decide +kernel))
      (fun _ _ _ _ _ => (pgTK K (pgs_cons (pg_name (i := 3) scPossibleSlides.nd rfl (Or.inl rfl)) (pgs_cons (pg_name (i := 4) scPossibleSlides.nd rfl (Or.inl rfl)) pgs_nil)))) (fun _ _ _ _ _ => (pts_one (pt_not (truthK K (pe_own oBlockingLamps (hr.mono (by decide)) (by rfl) (pa_cons (pv 0) (pa_cons (pv 1) (pa_cons (pv 3) (pa_cons (pv 4) pa_nil))))) (by intro _; rfl)))))
      (fun _ _ _ _ _ => (pe_tup (pa_cons (pv 3) (pa_cons (pv 4) pa_nil))))) pa_nil))))), ?_⟩
    refine ⟨.ref b, rfl, b, rfl, ⟨_, hb⟩, fun D nD => ?_⟩
    refine lc2_tup (K := K) (S := S) (nearL m es) (fun u v => prD (u, v)) nD hb (fun _ => rfl) (fun _ _ => rfl) (fun u _ H' R s1 hR => ?_) (fun u _ v _ H' R s1 hR => ?_) (fun u v => only_pr _) (by omega) (fun u _ => by have := nearL_len m es u; omega) (fun H2 ys s2 eD dy => ?_)
    · refine ⟨x, rfl, .int u, rfl, x, m, es, u, rfl, hm, isf, Dp.same s1 hx, fun H2 n s2 dn => ?_⟩
      obtain ⟨a, rfl, ha⟩ := Dp.intsI dn
      exact ⟨a, rfl, ⟨_, ha⟩, hR H2 a s2 ha⟩
    · refine ⟨.int u, rfl, .int v, rfl, by show 2 ≤ sizeLine; decide, fun t nt => hR _ _ (same_upd nt) (Dp.pr (SqT.of upd_same))⟩
    have e1 : (S.flatMap fun u => (nearL m es u).map fun v => prD (u, v)) = (stepsL m es S).map prD := by
      unfold stepsL
      rw [List.map_flatMap]
      congr 1
      funext u
      rw [List.map_map]
      rfl
    rw [e1] at dy
    have sl := steps_len m es S
    have sl2 : S.length * m ≤ 12 * 12 := Nat.mul_le_mul (by omega) hm
    refine ⟨.ref D, rfl, D, rfl, ⟨_, SqL.of eD⟩, fun C nC => ?_⟩
    refine lc_listP (K := K) (fun p => decide (oth m es S p.1 p.2 = [])) prD nC (SqL.of eD) dy (fun _ _ => rfl) (fun o _ H' R s3 hR => ?_) (fun o _ _ H' R s3 hR => ?_) only_pr (by omega) (fun H3 zs s3 eC dz => ?_)
    · have s23 := s2.trans s3
      refine ⟨x, rfl, .ref b, rfl, .int o.1, rfl, .int o.2, rfl, x, _, m, es, S, o.1, o.2, rfl, hm, isf, Dp.same s23 hx, Dp.same s23 hy, fun H4 z s4 dz => ?_⟩
      obtain ⟨c, rfl, hc⟩ := Dp.intsI dz
      refine ⟨_, .inr (.inl ⟨_, hc, rfl⟩), ?_⟩
      have h2 := hR H4 s4
      cases e : oth m es S o.1 o.2 with
      | nil =>
        rw [decide_eq_true e] at h2
        exact h2
      | cons z r =>
        rw [decide_eq_false (by rw [e]; exact fun z => nomatch z)] at h2
        exact h2
    · refine ⟨.int o.1, rfl, .int o.2, rfl, by show 2 ≤ sizeLine; decide, fun t nt => hR _ _ (same_upd nt) (Dp.pr (SqT.of upd_same))⟩
    refine ⟨C, zs, rfl, .inl ⟨SqL.of eC, fun t nt => ?_⟩⟩
    have st := same_upd (o := .tup zs) nt
    exact q _ _ ((s2.trans s3).trans st) (.tup (SqT.of upd_same) (DpAll.same st dz))
/-! ### the program: slides followed -/
def spIsPair (K : PySem.W.Frag) : Sp := fun vs H Q _ => ∃ (z : V) (p : Int × Int), vs = [z] ∧ Dp K H z (prD p) ∧ Q (.bl true) H
theorem ok_IsPair {f : Addr} {fd : FuncData} {k : Nat} (F : Fun K "is_pair" "is_pair" sIsPair f fd) (m_isinstance : mg "isinstance" = none) (m_tuple : mg "tuple" = none) (m_len : mg "len" = none) :
    FnOk P w K mg base CX0 (k + 1) f fd ["value"] (spIsPair K) := by
  refine F.ok scIsPair (fun vs H Q E h => ?_) (fun cdv A outer s H vs Q E hr h => ?_)
  · obtain ⟨z, p, rfl, _⟩ := h
    rfl
  · obtain ⟨z, p, rfl, hz, q⟩ := h
    obtain ⟨a, rfl, ha⟩ := Dp.prI hz
    refine ⟨_, (pss_one (ps_ret (pe_and (pe_callB (isiK K) (by rfl) m_isinstance (by decide +kernel) (pa_cons (pv 0) (pa_cons (pe_bltn (v := .ty "tuple") (by rfl) m_tuple (by decide +kernel) rfl) pa_nil))) (pe_one (pe_cmpR op_eq (pe_callB (lenK K) (by rfl) m_len (by decide +kernel) (pa_cons (pv 0) pa_nil)) pe_int (nomark _)))))), ?_⟩
    refine ⟨.ref a, rfl, _, _, _, _, true, rfl, .ty "tuple", ty_tup ha, kit_ty (by decide +kernel), true, rfl, iteT ?_⟩
    exact ⟨.ref a, rfl, a, _, rfl, .inr ha, rfl, q⟩
def spIsPossible (K : PySem.W.Frag) : Sp := fun vs H Q _ => ∃ (x y z : V) (m : Nat) (es : List (Int × Int)) (S : List Int) (p : Int × Int), vs = [x, y, z] ∧ m ≤ 12 ∧ IsFor m es ∧ Dp K H x (forD m es) ∧ Dp K H y (intsD S) ∧ IsSet m es S ∧ Dp K H z (prD p) ∧
  ∀ H', Same H H' → Q (.bl (decide (p ∈ slidesP m es S))) H'
theorem ok_IsPossible {f : Addr} {fd : FuncData} (F : Fun K "is_possible" "is_possible" sIsPossible f fd) (oIsPair : Own P w K mg base "is_pair" 1 ["value"] (spIsPair K)) (oIsNumber : Own P w K mg base "is_number" 1 ["value"] spIsNumber)
    (oPossibleSlides : Own P w K mg base "possible_slides" 3 ["forest", "setting"] (spPossibleSlides K)) :
    FnOk P w K mg base CX0 4 f fd ["forest", "setting", "value"] (spIsPossible K) := by
  refine F.ok scIsPossible (fun vs H Q E h => ?_) (fun cdv A outer s H vs Q E hr h => ?_)
  · obtain ⟨x, y, z, m, es, S, p, rfl, _⟩ := h
    rfl
  · obtain ⟨x, y, z, m, es, S, p, rfl, hm, isf, hx, hy, iss, hz, q⟩ := h
    obtain ⟨a, rfl, ha⟩ := Dp.prI hz
    refine ⟨_, (pss_cons (ps_if (pt_not (pt_val (pe_own oIsPair (hr.mono (by decide)) (by rfl) (pa_cons (pv 2) pa_nil)))) (pss_one (ps_ret pe_bl)) pss_nil)
    (pss_cons (ps_asg (pv 2) (pgTK K (pgs_cons (pg_name (i := 3) scIsPossible.nd rfl (Or.inl rfl)) (pgs_cons (pg_name (i := 4) scIsPossible.nd rfl (Or.inl rfl)) pgs_nil))))
    (pss_one (ps_ret (pe_and (pe_own oIsNumber (hr.mono (by decide)) (by rfl) (pa_cons (pv 3) pa_nil)) (pe_and (pe_own oIsNumber (hr.mono (by decide)) (by rfl) (pa_cons (pv 4) pa_nil)) (pe_one (pe_cmpR (inDK K hr.units) (pv 2) (pe_own oPossibleSlides (hr.mono (by decide)) (by rfl) (pa_cons (pv 0) (pa_cons (pv 1) pa_nil))) (by rfl))))))))), ?_⟩
    refine ⟨.ref a, rfl, _, p, rfl, hz, true, rfl, iteF ?_⟩
    refine ⟨.ref a, rfl, a, _, rfl, ha, rfl, _, _, rfl, _, _, rfl, rfl, ?_⟩
    refine ⟨.int p.1, rfl, p.1, rfl, true, rfl, iteT ⟨.int p.2, rfl, p.2, rfl, true, rfl, iteT ?_⟩⟩
    refine ⟨.ref a, rfl, x, rfl, y, rfl, x, y, m, es, S, rfl, hm, isf, hx, hy, iss, fun H' r s1 dr => ?_⟩
    refine ⟨prD p, (slidesP m es S).map prD, Dp.same s1 hz, .inr dr, lay_prs _, lay_pr _, dep_pr _, ?_⟩
    have h2 := q H' s1
    rw [← any_pr] at h2
    exact h2
def spFollow (K : PySem.W.Frag) : Sp := fun vs H Q _ => ∃ (x y z : V) (m : Nat) (es : List (Int × Int)) (S T : List Int) (ps : List (Int × Int)), vs = [x, y, z] ∧ m ≤ 12 ∧ IsFor m es ∧ Dp K H x (forD m es) ∧ Dp K H y (intsD S) ∧ IsSet m es S ∧ Dp K H z (prsD ps) ∧
  walk m es S ps = some T ∧ ∀ H' r, Same H H' → IsSet m es T → Dp K H' r (intsD T) → Q r H'
theorem ok_Follow {f : Addr} {fd : FuncData} (F : Fun K "follow" "follow" sFollow f fd) (m_isinstance : mg "isinstance" = none) (m_tuple : mg "tuple" = none) (m_enumerate : mg "enumerate" = none)
    (oIsPossible : Own P w K mg base "is_possible" 4 ["forest", "setting", "value"] (spIsPossible K)) (oSlideLamp : Own P w K mg base "slide_lamp" 3 ["forest", "setting", "u", "v"] (spSlideLamp K)) :
    FnOk P w K mg base CX0 5 f fd ["forest", "setting", "slides"] (spFollow K) := by
  refine F.ok scFollow (fun vs H Q E h => ?_) (fun cdv A outer s H vs Q E hr h => ?_)
  · obtain ⟨x, y, z, m, es, S, T, ps, rfl, _⟩ := h
    rfl
  · obtain ⟨x, y, z, m, es, S, T, ps, rfl, hm, isf, hx, hy, iss, hz, hw, q⟩ := h
    obtain ⟨a, xs, rfl, ha, hA⟩ := Dp.tupI hz
    have xl : xs.length = ps.length := by rw [DpAll.length hA, List.length_map]
    refine ⟨_, (pss_cons (ps_if (pt_not (pt_val (pe_callB (isiK K) (by rfl) m_isinstance (by decide +kernel) (pa_cons (pv 2) (pa_cons (pe_bltn (v := .ty "tuple") (by rfl) m_tuple (by decide +kernel) rfl) pa_nil))))) (pss_one ps_never) pss_nil)
    (pss_cons (ps_set (i := 3) scFollow.nd rfl (.inl rfl) (pv 1))
    (pss_cons (ps_for PassesOwn.never rfl (pi_enumT K (by rfl) m_enumerate (pa_cons (pv 2) pa_nil)) (pgTK K (pgs_cons (pg_name (i := 4) scFollow.nd rfl (Or.inl rfl)) (pgs_cons (pg_name (i := 5) scFollow.nd rfl (Or.inl rfl)) pgs_nil)))
    (pss_cons (ps_if (pt_not (pt_val (pe_own oIsPossible (hr.mono (by decide)) (by rfl) (pa_cons (pv 0) (pa_cons (pv 3) (pa_cons (pv 5) pa_nil)))))) (pss_one ps_never) pss_nil)
    (pss_cons (ps_asg (pv 5) (pgTK K (pgs_cons (pg_name (i := 6) scFollow.nd rfl (Or.inl rfl)) (pgs_cons (pg_name (i := 7) scFollow.nd rfl (Or.inl rfl)) pgs_nil))))
    (pss_one (ps_set (i := 3) scFollow.nd rfl (.inl rfl) (pe_own oSlideLamp (hr.mono (by decide)) (by rfl) (pa_cons (pv 0) (pa_cons (pv 3) (pa_cons (pv 6) (pa_cons (pv 7) pa_nil))))))))))
    (pss_one (ps_ret (pv 3)))))), ?_⟩
    refine ⟨.ref a, rfl, _, _, _, _, true, rfl, .ty "tuple", ty_tup ha, kit_ty (by decide +kernel), true, rfl, iteF ?_⟩
    refine ⟨y, rfl, .ref a, rfl, a, xs, rfl, ha, for_enumT (K := K) (a := a) (xs := xs) (fun i σ H' => ∃ (y4 y5 y6 y7 : Option V) (r : V) (R : List Int), σ = [some x, some y, some (.ref a), some r, y4, y5, y6, y7] ∧ Same H H' ∧
      Dp K H' r (intsD R) ∧ IsSet m es R ∧ walk m es R (ps.drop i) = some T) ?_ ?_ ?_ ?_⟩
    · exact ⟨none, none, none, none, y, S, rfl, Same.refl _, hy, iss, hw⟩
    · rintro i σ H' ⟨y4, y5, y6, y7, r, R, rfl, s1, _⟩
      exact Same.tup s1 ha
    · rintro i v t σ H1 hv nt ⟨y4, y5, y6, y7, r, R, rfl, s1, dr, isr, hwr⟩
      have st := same_upd (o := .tup [.int (i : Nat), v]) nt
      obtain ⟨z, hz', dz⟩ := DpAll.get hA hv
      rw [List.getElem?_map] at hz'
      obtain ⟨p, hp, rfl⟩ := Option.map_eq_some_iff.mp hz'
      obtain ⟨hi, ep⟩ := List.getElem?_eq_some_iff.mp hp
      rw [List.drop_eq_getElem_cons hi, ep] at hwr
      obtain ⟨pin, hw2⟩ := walk_cons hwr
      have s2 := s1.trans st
      have dv := Dp.same s2 dz
      have hx2 := Dp.same s2 hx
      have dr2 := Dp.same st dr
      refine ⟨t, _, rfl, SqT.of upd_same, rfl, _, _, rfl, _, _, rfl, rfl, ?_⟩
      refine ⟨x, rfl, r, rfl, v, rfl, x, r, v, m, es, R, p, rfl, hm, isf, hx2, dr2, isr, dv, fun H2 s3 => ⟨true, ?_, iteF ?_⟩⟩
      · rw [decide_eq_true pin]
      obtain ⟨b, rfl, hb⟩ := Dp.prI (Dp.same s3 dv)
      refine ⟨.ref b, rfl, b, _, rfl, hb, rfl, _, _, rfl, _, _, rfl, rfl, ?_⟩
      obtain ⟨hu, hv2, ho⟩ := mem_slidesP.mp (show (p.1, p.2) ∈ slidesP m es R from pin)
      refine ⟨x, rfl, r, rfl, .int p.1, rfl, .int p.2, rfl, x, r, m, es, R, p.1, p.2, rfl, hm, isf, Dp.same s3 hx2, Dp.same s3 dr2, isr, hu, hv2, ho, fun H3 r' s4 dr' => ?_⟩
      exact ⟨_, _, _, _, r', after R p.1 p.2, rfl, (s2.trans s3).trans s4, dr', IsSet.slide isf isr pin, hw2⟩
    · rintro σ H1 ⟨y4, y5, y6, y7, r, R, rfl, s1, dr, isr, hwr⟩
      rw [xl, List.drop_length] at hwr
      cases hwr
      exact ⟨r, rfl, q H1 r s1 isr dr⟩
end
end TL

namespace TL
open PySem PySem.Spec PyProof.Rows L2
section
variable {P : Program} {w : World} {K : PySem.W.Frag} {mg : Str → Option Value} {base : Heap}
/-! ### the law's look at two slides -/
theorem lay_prsD (ps : List (Int × Int)) : SeqAt.shaped (prsD ps) = true := by
  have h : (prsD ps).depth ≤ 64 := by
    have : ∀ l : List (Int × Int), PyData.depthAll (l.map prD) ≤ 1 := by
      intro l
      induction l with
      | nil => simp [PyData.depthAll]
      | cons p l ih =>
        simp only [List.map_cons, PyData.depthAll]
        exact Nat.max_le.mpr ⟨by simp [prD, PyData.depth, PyData.depthAll], ih⟩
    have := this ps
    simp only [prsD, PyData.depth]
    omega
  unfold SeqAt.shaped
  rw [decide_eq_true h, Bool.and_true]
  simp only [prsD, PyData.canLay0]
  exact lay_prs ps
theorem shaped_pr (p : Int × Int) : SeqAt.shaped (prD p) = true := by
  have h : (prD p).depth ≤ 64 := Nat.le_trans (dep_pr p) (by decide)
  unfold SeqAt.shaped
  rw [decide_eq_true h, Bool.and_true]
  exact lay_pr p
theorem shaped_intsD (ns : List Int) : SeqAt.shaped (intsD ns) = true := by
  unfold SeqAt.shaped
  simp only [intsD, PyData.canLay0, PyData.depth, lay_ints, dep_ints]
  decide
theorem eqv_prsD_nil (ps : List (Int × Int)) : PyData.eqv (prsD ps) (.tuple []) = decide (ps = []) := by
  cases ps with
  | nil => simp [prsD, PyData.eqv, PyData.eqvAll]
  | cons n r => simp [prsD, PyData.eqv, PyData.eqvAll]
theorem eqv_bb (a b c d : Bool) : PyData.eqv (.list [.bool a, .bool b]) (.list [.bool c, .bool d]) = (decide (a = c) && decide (b = d)) := by
  cases a <;> cases b <;> cases c <;> cases d <;> simp [PyData.eqv, PyData.eqvAll]
theorem shaped_bb (a b : Bool) : SeqAt.shaped (.list [.bool a, .bool b]) = true := by
  cases a <;> cases b <;> decide
def spLRight (K : PySem.W.Frag) : Sp := fun vs H Q _ => ∃ (x y z t : V) (m : Nat) (es : List (Int × Int)) (S : List Int) (p q : Int × Int), vs = [x, y, z, t] ∧ m ≤ 12 ∧ IsFor m es ∧ Dp K H x (forD m es) ∧ Dp K H y (intsD S) ∧ IsSet m es S ∧
  Dp K H z (prD p) ∧ Dp K H t (prD q) ∧ p ∈ slidesP m es S ∧ q ∈ slidesP m es S ∧ p ≠ q ∧ ∀ H', Same H H' → Q (.bl true) H'
theorem ok_LRight {f : Addr} {fd : FuncData} (F : Fun K "_law_right" "_law_right" sLRight f fd) (oSlideLamp : Own P w K mg base "slide_lamp" 3 ["forest", "setting", "u", "v"] (spSlideLamp K))
    (oPossibleSlides : Own P w K mg base "possible_slides" 3 ["forest", "setting"] (spPossibleSlides K)) (oNeighboursOf : Own P w K mg base "neighbours_of" 1 ["forest", "vertex"] (spNeighboursOf K))
    (oFollow : Own P w K mg base "follow" 5 ["forest", "setting", "slides"] (spFollow K)) :
    FnOk P w K mg base CX0 6 f fd ["_law_forest_here", "_law_setting_here", "_law_first", "_law_second"] (spLRight K) := by
  refine F.ok scLRight (fun vs H Q E h => ?_) (fun cdv A outer s H vs Q E hr h => ?_)
  · obtain ⟨x, y, z, t, m, es, S, p, q, rfl, _⟩ := h
    rfl
  · obtain ⟨x, y, z, t, m, es, S, p, q, rfl, hm, isf, hx, hy, iss, hz, ht, hp, hq, ne, qq⟩ := h
    obtain ⟨a, rfl, ha⟩ := Dp.prI hz
    obtain ⟨b, rfl, hb⟩ := Dp.prI ht
    obtain ⟨pu, pvv, po⟩ := mem_slidesP.mp (show (p.1, p.2) ∈ slidesP m es S from hp)
    obtain ⟨qu, qv, qo⟩ := mem_slidesP.mp (show (q.1, q.2) ∈ slidesP m es S from hq)
    have is1 := IsSet.slide isf iss hp
    have is2 := IsSet.slide isf iss hq
    refine ⟨_, (pss_cons (ps_set (i := 4) scLRight.nd rfl (.inl rfl) (pe_own oSlideLamp (hr.mono (by decide)) (by rfl) (pa_cons (pv 0) (pa_cons (pv 1) (pa_cons (pe_ix (ixTK K) (pv 2) pe_int (fun _ _ => rfl)) (pa_cons (pe_ix (ixTK K) (pv 2) pe_int (fun _ _ => rfl)) pa_nil))))))
    (pss_cons (ps_set (i := 5) scLRight.nd rfl (.inl rfl) (pe_own oSlideLamp (hr.mono (by decide)) (by rfl) (pa_cons (pv 0) (pa_cons (pv 1) (pa_cons (pe_ix (ixTK K) (pv 3) pe_int (fun _ _ => rfl)) (pa_cons (pe_ix (ixTK K) (pv 3) pe_int (fun _ _ => rfl)) pa_nil))))))
    (pss_cons (ps_set (i := 6) scLRight.nd rfl (.inl rfl) (pe_lst (pa_cons (pe_cmpR (inDK K hr.units) (pv 3) (pe_own oPossibleSlides (hr.mono (by decide)) (by rfl) (pa_cons (pv 0) (pa_cons (pv 4) pa_nil))) (by rfl)) (pa_cons (pe_cmpR (inDK K hr.units) (pv 2) (pe_own oPossibleSlides (hr.mono (by decide)) (by rfl) (pa_cons (pv 0) (pa_cons (pv 5) pa_nil))) (by rfl)) pa_nil))))
    (pss_cons (ps_if (pt_cmpR op_eq (pe_ix (ixTK K) (pv 2) pe_int (fun _ _ => rfl)) (pe_ix (ixTK K) (pv 3) pe_int (fun _ _ => rfl)) (nomark _)) (pss_cons (ps_set (i := 7) scLRight.nd rfl (.inl rfl) (pe_tup (pa_cons (pe_ix (ixTK K) (pv 2) pe_int (fun _ _ => rfl)) (pa_cons (pe_ix (ixTK K) (pv 2) pe_int (fun _ _ => rfl)) pa_nil))))
    (pss_one (ps_ret (pe_and (pe_cmpR (eqDK K hr.units) (pv 6) (pe_lst (pa_cons pe_bl (pa_cons pe_bl pa_nil))) (nomark _)) (pe_one (pe_cmpR (inDK K hr.units) (pv 7) (pe_own oPossibleSlides (hr.mono (by decide)) (by rfl) (pa_cons (pv 0) (pa_cons (pv 4) pa_nil))) (by rfl))))))) pss_nil)
    (pss_cons (ps_set (i := 8) scLRight.nd rfl (.inl rfl) (pe_cmpR (notInK K) (pe_ix (ixTK K) (pv 3) pe_int (fun _ _ => rfl)) (pe_own oNeighboursOf (hr.mono (by decide)) (by rfl) (pa_cons (pv 0) (pa_cons (pe_ix (ixTK K) (pv 2) pe_int (fun _ _ => rfl)) pa_nil))) (by rfl)))
    (pss_cons (ps_if (pt_cmpR (neDK K hr.units) (pv 6) (pe_lst (pa_cons (pv 8) (pa_cons (pv 8) pa_nil))) (nomark _)) (pss_one (ps_ret pe_bl)) pss_nil)
    (pss_cons (ps_if (pt_not (truthK K (pv 8) (by intro _; rfl))) (pss_one (ps_ret pe_bl)) pss_nil)
    (pss_cons (ps_set (i := 9) scLRight.nd rfl (.inl rfl) (pe_own oFollow (hr.mono (by decide)) (by rfl) (pa_cons (pv 0) (pa_cons (pv 1) (pa_cons (pe_tup (pa_cons (pv 2) (pa_cons (pv 3) pa_nil))) pa_nil)))))
    (pss_one (ps_ret (pe_cmpR (eqDK K hr.units) (pv 9) (pe_own oFollow (hr.mono (by decide)) (by rfl) (pa_cons (pv 0) (pa_cons (pv 1) (pa_cons (pe_tup (pa_cons (pv 3) (pa_cons (pv 2) pa_nil))) pa_nil)))) (nomark _)))))))))))), ?_⟩
    -- one, other
    refine ⟨x, rfl, y, rfl, .ref a, rfl, a, _, 0, .int p.1, rfl, rfl, ha, atI_nat (j := 0) rfl, .ref a, rfl, a, _, 1, .int p.2, rfl, rfl, ha, atI_nat (j := 1) rfl, x, y, m, es, S, p.1, p.2, rfl, hm, isf, hx, hy, iss, pu, pvv, po, fun H1 r s1 dr => ?_⟩
    refine ⟨x, rfl, y, rfl, .ref b, rfl, b, _, 0, .int q.1, rfl, rfl, Same.tup s1 hb, atI_nat (j := 0) rfl, .ref b, rfl, b, _, 1, .int q.2, rfl, rfl, Same.tup s1 hb, atI_nat (j := 1) rfl, x, y, m, es, S, q.1, q.2, rfl, hm, isf, Dp.same s1 hx, Dp.same s1 hy, iss, qu, qv, qo, fun H2 w s2 dw => ?_⟩
    have s12 := s1.trans s2
    -- can
    refine ⟨.ref b, rfl, x, rfl, r, rfl, x, r, m, es, _, rfl, hm, isf, Dp.same s12 hx, Dp.same s2 dr, is1, fun H3 c1 s3 dc1 => ?_⟩
    have s13 := s12.trans s3
    refine ⟨prD q, _, Dp.same s13 ht, .inr dc1, lay_prs _, lay_pr _, dep_pr _, ?_⟩
    refine ⟨.ref a, rfl, x, rfl, w, rfl, x, w, m, es, _, rfl, hm, isf, Dp.same s13 hx, Dp.same s3 dw, is2, fun H4 c2 s4 dc2 => ?_⟩
    have s14 := s13.trans s4
    refine ⟨prD p, _, Dp.same s14 hz, .inr dc2, lay_prs _, lay_pr _, dep_pr _, by show 2 ≤ sizeLine; decide, fun c nc => ?_⟩
    have e1 : ((slidesP m es (after S p.1 p.2)).map prD).any (fun z => PyData.eqv z (prD q)) = decide (q ∈ slidesP m es (after S p.1 p.2)) := any_pr q _
    have e2 : ((slidesP m es (after S q.1 q.2)).map prD).any (fun z => PyData.eqv z (prD p)) = decide (p ∈ slidesP m es (after S q.1 q.2)) := any_pr p _
    have sc := same_upd (o := .lst [V.bl (decide (q ∈ slidesP m es (after S p.1 p.2))), V.bl (decide (p ∈ slidesP m es (after S q.1 q.2)))]) nc
    have ec := same_at (o := .lst [V.bl (decide (q ∈ slidesP m es (after S p.1 p.2))), V.bl (decide (p ∈ slidesP m es (after S q.1 q.2)))]) nc
    simp only [Bool.false_eq_true, if_false, e1, e2]
    have s15 := s14.trans sc
    generalize upd H4 c (.lst [V.bl (decide (q ∈ slidesP m es (after S p.1 p.2))), V.bl (decide (p ∈ slidesP m es (after S q.1 q.2)))]) = H5 at sc ec s15 ⊢
    have dcan : Dp K H5 (.ref c) (.list [.bool (decide (q ∈ slidesP m es (after S p.1 p.2))), .bool (decide (p ∈ slidesP m es (after S q.1 q.2)))]) := .lst (SqL.of ec) (.cons (.bl _) (.cons (.bl _) .nil))
    have r5 : Dp K H5 r (intsD (after S p.1 p.2)) := Dp.same (((s2.trans s3).trans s4).trans sc) dr
    -- if first[0] == second[0]
    refine ⟨.ref a, rfl, a, _, 0, .int p.1, rfl, rfl, Same.tup s15 ha, atI_nat (j := 0) rfl, .ref b, rfl, b, _, 0, .int q.1, rfl, rfl, Same.tup s15 hb, atI_nat (j := 0) rfl, rfl, _, rfl, ?_⟩
    rw [dec_int]
    refine ite2 (fun h => ?_) (fun h => ?_)
    · have h := of_decide_eq_true h
      have n1 : q ∉ slidesP m es (after S p.1 p.2) := by
        have := slide_same isf iss (u := p.1) (v := p.2) (v' := q.2) hp
        rw [h] at this
        rw [h]
        exact this
      have n2 : p ∉ slidesP m es (after S q.1 q.2) := by
        have := slide_same isf iss (u := q.1) (v := q.2) (v' := p.2) hq
        rw [← h] at this
        rw [← h]
        exact this
      refine ⟨.ref a, rfl, a, _, 1, .int p.2, rfl, rfl, Same.tup s15 ha, atI_nat (j := 1) rfl, .ref a, rfl, a, _, 0, .int p.1, rfl, rfl, Same.tup s15 ha, atI_nat (j := 0) rfl, by show 2 ≤ sizeLine; decide, fun k nk => ?_⟩
      have sk := same_upd (o := .tup [V.int p.2, V.int p.1]) nk
      have ek := same_at (o := .tup [V.int p.2, V.int p.1]) nk
      refine ⟨.ref c, rfl, by show 2 ≤ sizeLine; decide, fun l nl => ?_⟩
      have sl := same_upd (o := .lst [V.bl false, V.bl false]) nl
      refine ⟨_, .list [.bool false, .bool false], Dp.same (sk.trans sl) dcan, .lst (SqL.of upd_same) (.cons (.bl _) (.cons (.bl _) .nil)), shaped_bb _ _, shaped_bb _ _, true, ?_, iteT ?_⟩
      · rw [eqv_bb, decide_eq_false n1, decide_eq_false n2]
        rfl
      refine ⟨.ref k, rfl, x, rfl, r, rfl, x, r, m, es, _, rfl, hm, isf, Dp.same ((s15.trans sk).trans sl) hx, Dp.same (sk.trans sl) r5, is1, fun H6 c3 s6 dc3 => ?_⟩
      refine ⟨prD (p.2, p.1), _, Dp.pr (SqT.of (s6 _ _ (sl _ _ ek))), .inr dc3, lay_prs _, lay_pr _, dep_pr _, ?_⟩
      have h2 := qq H6 (((s15.trans sk).trans sl).trans s6)
      rw [← decide_eq_true (slide_back isf iss (u := p.1) (v := p.2) hp), ← any_pr] at h2
      exact h2
    · have h : p.1 ≠ q.1 := fun e => h (decide_eq_true e)
      -- apart
      refine ⟨.ref b, rfl, b, _, 1, .int q.2, rfl, rfl, Same.tup s15 hb, atI_nat (j := 1) rfl, x, rfl, .ref a, rfl, a, _, 1, .int p.2, rfl, rfl, Same.tup s15 ha, atI_nat (j := 1) rfl, x, m, es, p.2, rfl, hm, isf, Dp.same s15 hx, fun H6 n s6 dn => ?_⟩
      obtain ⟨e, rfl, he⟩ := Dp.intsI dn
      refine ⟨e, _, rfl, .inr he, rfl, flat_ints _, ?_⟩
      simp only [if_true, inV_ints]
      have a1 : decide (q ∈ slidesP m es (after S p.1 p.2)) = !decide (q.2 ∈ nearL m es p.2) := by
        have k := slide_other isf iss (u := p.1) (v := p.2) (u' := q.1) (v' := q.2) hp hq h
        by_cases z : q.2 ∈ nearL m es p.2
        · rw [decide_eq_true z, decide_eq_false (fun y => k.mp y z)]; rfl
        · rw [decide_eq_false z, decide_eq_true (k.mpr z)]; rfl
      have a2 : decide (p ∈ slidesP m es (after S q.1 q.2)) = !decide (q.2 ∈ nearL m es p.2) := by
        have k := slide_other isf iss (u := q.1) (v := q.2) (u' := p.1) (v' := p.2) hq hp (Ne.symm h)
        by_cases z : q.2 ∈ nearL m es p.2
        · rw [decide_eq_true z, decide_eq_false (fun y => k.mp y ((mem_nearL_comm isf).mp z))]; rfl
        · rw [decide_eq_false z, decide_eq_true (k.mpr fun y => z ((mem_nearL_comm isf).mp y))]; rfl
      rw [a1, a2] at dcan
      -- can != [apart, apart]
      refine ⟨.ref c, rfl, .bl (!decide (q.2 ∈ nearL m es p.2)), rfl, .bl (!decide (q.2 ∈ nearL m es p.2)), rfl, by show 2 ≤ sizeLine; decide, fun l nl => ?_⟩
      have sl := same_upd (o := .lst [V.bl (!decide (q.2 ∈ nearL m es p.2)), V.bl (!decide (q.2 ∈ nearL m es p.2))]) nl
      refine ⟨_, _, Dp.same (s6.trans sl) dcan, .lst (SqL.of upd_same) (.cons (.bl _) (.cons (.bl _) .nil)), shaped_bb _ _, shaped_bb _ _, false, ?_, iteF ?_⟩
      · rw [eqv_bb]
        simp
      -- if not apart
      have s17 := (s15.trans s6).trans sl
      generalize upd H6 l (.lst [V.bl (!decide (q.2 ∈ nearL m es p.2)), V.bl (!decide (q.2 ∈ nearL m es p.2))]) = H9 at s17 ⊢
      refine ⟨.bl (!decide (q.2 ∈ nearL m es p.2)), rfl, _, rfl, ?_⟩
      by_cases z : q.2 ∈ nearL m es p.2
      · rw [decide_eq_true z]
        exact iteT (qq _ s17)
      · rw [decide_eq_false z]
        refine iteF ?_
        have zp : p.2 ∉ nearL m es q.2 := fun y => z ((mem_nearL_comm isf).mp y)
        -- both
        refine ⟨x, rfl, y, rfl, .ref a, rfl, .ref b, rfl, by show 2 ≤ sizeLine; decide, fun g ng => ?_⟩
        have sg := same_upd (o := .tup [V.ref a, V.ref b]) ng
        have s18 := s17.trans sg
        refine ⟨x, y, .ref g, m, es, S, _, [p, q], rfl, hm, isf, Dp.same s18 hx, Dp.same s18 hy, iss, .tup (SqT.of upd_same) (.cons (Dp.same s18 hz) (.cons (Dp.same s18 ht) .nil)), walk_two isf iss hp hq h z, fun H7 k7 s7 i7 d7 => ?_⟩
        refine ⟨k7, rfl, x, rfl, y, rfl, .ref b, rfl, .ref a, rfl, by show 2 ≤ sizeLine; decide, fun o no => ?_⟩
        have so := same_upd (o := .tup [V.ref b, V.ref a]) no
        have s19 := (s18.trans s7).trans so
        refine ⟨x, y, .ref o, m, es, S, _, [q, p], rfl, hm, isf, Dp.same s19 hx, Dp.same s19 hy, iss, .tup (SqT.of upd_same) (.cons (Dp.same s19 ht) (.cons (Dp.same s19 hz) .nil)), walk_two isf iss hq hp (Ne.symm h) zp, fun H8 k8 s8 i8 d8 => ?_⟩
        refine ⟨_, _, Dp.same (so.trans s8) d7, d8, shaped_intsD _, shaped_intsD _, ?_⟩
        rw [after_comm isf iss (u := p.1) (v := p.2) (u' := q.1) (v' := q.2) hp hq h z, SeqAt.eqv_refl _ (SeqAt.canLay_of_shaped (shaped_intsD _))]
        exact qq _ (s19.trans s8)
end
end TL

namespace TL
open PySem PySem.Spec PyProof.Rows L2
section
variable {P : Program} {w : World} {K : PySem.W.Frag} {mg : Str → Option Value} {base : Heap}
/-! ### the law -/
def spLaw (K : PySem.W.Frag) : Sp := fun vs H Q _ => ∃ (a : Addr) (ns : List Int), vs = [.ref a] ∧ SqL K H a (ns.map V.int) ∧ ns.length ≤ 63 ∧ ∀ H', Q (.bl true) H'
theorem ok_Law {f : Addr} {fd : FuncData} (F : Fun K "law" "law" sLaw f fd) (m_range : mg "range" = none) (m_len : mg "len" = none)
    (oLDeck : Own P w K mg base "_law_deck" 1 ["_law_script"] (spLDeck K)) (oLDraw : Own P w K mg base "_law_draw" 1 ["_law_deck_here", "_law_limit"] spLDraw) (oLForest : Own P w K mg base "_law_forest" 3 ["_law_deck_here", "_law_most"] (spLForest K))
    (oLSetting : Own P w K mg base "_law_setting" 3 ["_law_deck_here", "_law_forest_here"] (spLSetting K))
    (oPossibleSlides : Own P w K mg base "possible_slides" 3 ["forest", "setting"] (spPossibleSlides K))
    (oSlideLamp : Own P w K mg base "slide_lamp" 3 ["forest", "setting", "u", "v"] (spSlideLamp K)) (oLRight : Own P w K mg base "_law_right" 6 ["_law_forest_here", "_law_setting_here", "_law_first", "_law_second"] (spLRight K)) :
    FnG P w K mg base 7 f fd ["_law_script"] (spLaw K) := by
  refine okG F scLaw (fun vs H Q E h => ?_) (fun cdv A outer s H vs Q E hr gd h => ?_)
  · obtain ⟨a, ns, rfl, _⟩ := h
    rfl
  · obtain ⟨a, ns, rfl, hS, hlen, q⟩ := h
    refine ⟨_, (pss_cons (ps_set (i := 1) scLaw.nd rfl (.inl rfl) (pe_own oLDeck (hr.mono (by decide)) (by rfl) (pa_cons (pv 0) pa_nil)))
    (pss_cons (ps_for PassesOwn.never rfl (pi_range1 (by rfl) m_range (pa_cons pe_int pa_nil)) (pg_name (i := 2) scLaw.nd rfl (Or.inl rfl))
    (pss_cons (ps_set (i := 3) scLaw.nd rfl (.inl rfl) (pe_own oLForest (hr.mono (by decide)) (by rfl) (pa_cons (pv 1) (pa_cons pe_int pa_nil))))
    (pss_cons (ps_set (i := 4) scLaw.nd rfl (.inl rfl) (pe_own oLSetting (hr.mono (by decide)) (by rfl) (pa_cons (pv 1) (pa_cons (pv 3) pa_nil))))
    (pss_one (ps_for PassesOwn.never rfl (pi_range1 (by rfl) m_range (pa_cons pe_int pa_nil)) (pg_name (i := 5) scLaw.nd rfl (Or.inl rfl))
    (pss_cons (ps_set (i := 6) scLaw.nd rfl (.inl rfl) (pe_own oPossibleSlides (hr.mono (by decide)) (by rfl) (pa_cons (pv 3) (pa_cons (pv 4) pa_nil))))
    (pss_cons (ps_for PassesOwn.never rfl (piTK K (pv 6)) (pg_name (i := 7) scLaw.nd rfl (Or.inl rfl))
    (pss_one (ps_for PassesOwn.never rfl (piTK K (pv 6)) (pg_name (i := 8) scLaw.nd rfl (Or.inl rfl))
    (pss_one (ps_if (PW.pt (pw_and (pt_cmpR (neDK K hr.units) (pv 7) (pv 8) (nomark _)) (pw_and1 (pt_not (pt_val (pe_own oLRight (hr.mono (by decide)) (by rfl) (pa_cons (pv 3) (pa_cons (pv 4) (pa_cons (pv 7) (pa_cons (pv 8) pa_nil)))))))))) (pss_one (ps_ret pe_bl)) pss_nil)))))
    (pss_one (ps_if (pt_cmpR (neDK K hr.units) (pv 6) (pe_tup pa_nil) (nomark _)) (pss_cons (ps_asg (pe_ix (ixTK K) (pv 6) (pe_own oLDraw (hr.mono (by decide)) (by rfl) (pa_cons (pv 1) (pa_cons (pe_callB (lenK K) (by rfl) m_len (by decide +kernel) (pa_cons (pv 6) pa_nil)) pa_nil))) (fun _ _ => rfl)) (pgTK K (pgs_cons (pg_name (i := 9) scLaw.nd rfl (Or.inl rfl)) (pgs_cons (pg_name (i := 10) scLaw.nd rfl (Or.inl rfl)) pgs_nil))))
    (pss_one (ps_set (i := 4) scLaw.nd rfl (.inl rfl) (pe_own oSlideLamp (hr.mono (by decide)) (by rfl) (pa_cons (pv 3) (pa_cons (pv 4) (pa_cons (pv 9) (pa_cons (pv 10) pa_nil)))))))) pss_nil)))))))))
    (pss_one (ps_ret pe_bl)))), ?_⟩
    refine ⟨.ref a, rfl, a, ns, rfl, hS, hlen, fun H1 d l s1 d1 => ?_⟩
    refine ⟨4, rfl, by decide, by decide, for_range (lo := 0) (n := 4) (fun i σ H' => ∃ y2 y3 y4 y5 y6 y7 y8 y9 y10, σ = [some (.ref a), some (.ref d), y2, y3, y4, y5, y6, y7, y8, y9, y10] ∧ Deck H' d l (100 * i)) ?_ ?_ ?_⟩
    · exact ⟨_, _, _, _, _, _, _, _, _, rfl, d1⟩
    · rintro i σ H2 hi ⟨y2, y3, y4, y5, y6, y7, y8, y9, y10, rfl, d2⟩
      -- forest, setting
      refine ⟨.ref d, rfl, d, l, _, 12, rfl, Nat.le_refl _, d2, by omega, fun H3 x m es f3 d3 hm isf hx => ?_⟩
      refine ⟨.ref d, rfl, x, rfl, d, l, _, x, m, es, rfl, d3, by omega, hm, isf, hx, fun H4 y S f4 d4 iss hy => ?_⟩
      have hx4 := Dp.kt (f4.kt d3) hx (only_forD _ _)
      refine ⟨3, rfl, by decide, by decide, for_range (lo := 0) (n := 3) (fun j σ H' => ∃ y5 y6 y7 y8 y9 y10 z R, σ = [some (.ref a), some (.ref d), some (.int (0 + (i : Int))), some x, some z, y5, y6, y7, y8, y9, y10] ∧ Deck H' d l (100 * i + 90 + j) ∧ Dp K H' x (forD m es) ∧ Dp K H' z (intsD R) ∧ IsSet m es R) ?_ ?_ ?_⟩
      · exact ⟨_, _, _, _, _, _, y, S, rfl, d4, hx4, hy, iss⟩
      · rintro j σ H5 hj ⟨y5, y6, y7, y8, y9, y10, z, R, rfl, d5, hx5, hz5, isr⟩
        refine ⟨x, rfl, z, rfl, x, z, m, es, R, rfl, hm, isf, hx5, hz5, isr, fun H6 t s6 dt => ?_⟩
        obtain ⟨b, ys, rfl, hb, hB⟩ := Dp.tupI dt
        have yl : ys.length = (slidesP m es R).length := by rw [DpAll.length hB, List.length_map]
        have hx6 := Dp.same s6 hx5
        have hz6 := Dp.same s6 hz5
        have d6 := d5.same s6
        -- pairs of slides
        refine ⟨.ref b, rfl, b, rfl, ⟨_, hb⟩, for_tup (K := K) (a := b) (xs := ys) (fun k σ H' => ∃ y7 y8, σ = [some (.ref a), some (.ref d), some (.int (0 + (i : Int))), some x, some z, some (.int (0 + (j : Int))), some (.ref b), y7, y8, y9, y10] ∧ Same H6 H') ?_ ?_ ?_ ?_⟩
        · exact ⟨_, _, rfl, Same.refl _⟩
        · rintro k σ H' _ ⟨y7, y8, rfl, s7⟩
          exact Same.tup s7 hb
        · rintro k v σ H7 hv ⟨y7, y8, rfl, s7⟩
          obtain ⟨w1, hw1, dw1⟩ := DpAll.get hB hv
          rw [List.getElem?_map] at hw1
          obtain ⟨p, hp, rfl⟩ := Option.map_eq_some_iff.mp hw1
          refine ⟨.ref b, rfl, b, rfl, ⟨_, Same.tup s7 hb⟩, for_tup (K := K) (a := b) (xs := ys) (fun k σ H' => ∃ y8, σ = [some (.ref a), some (.ref d), some (.int (0 + (i : Int))), some x, some z, some (.int (0 + (j : Int))), some (.ref b), some v, y8, y9, y10] ∧ Same H6 H') ?_ ?_ ?_ ?_⟩
          · exact ⟨_, rfl, s7⟩
          · rintro k σ H' _ ⟨y8, rfl, s8⟩
            exact Same.tup s8 hb
          · rintro k2 u σ H8 hu ⟨y8, rfl, s8⟩
            obtain ⟨w2, hw2, dw2⟩ := DpAll.get hB hu
            rw [List.getElem?_map] at hw2
            obtain ⟨p2, hp2, rfl⟩ := Option.map_eq_some_iff.mp hw2
            have dv := Dp.same s8 dw1
            have du := Dp.same s8 dw2
            refine ⟨v, rfl, u, rfl, prD p, prD p2, dv, du, shaped_pr _, shaped_pr _, _, rfl, ?_⟩
            rw [eqv_pr]
            refine ite2 (fun h => ?_) (fun h => ?_)
            · have h : p ≠ p2 := fun e => by
                rw [decide_eq_true e] at h
                cases h
              refine ⟨x, rfl, z, rfl, v, rfl, u, rfl, x, z, v, u, m, es, R, p, p2, rfl, hm, isf, Dp.same s8 hx6, Dp.same s8 hz6, isr, dv, du, List.mem_of_getElem? hp, List.mem_of_getElem? hp2, h, fun H9 s9 => ⟨true, rfl, iteF ?_⟩⟩
              exact ⟨_, rfl, s8.trans s9⟩
            · rw [Bool.not_eq_true] at h
              exact iteF ⟨_, rfl, s8⟩
          · rintro σ H8 ⟨y8, rfl, s8⟩
            exact ⟨_, _, rfl, s8⟩
        · rintro σ H7 ⟨y7, y8, rfl, s7⟩
          have hb7 := Same.tup s7 hb
          refine ⟨.ref b, rfl, Nat.zero_le _, fun e ne => ?_⟩
          have se := same_upd (o := .tup []) ne
          have s7e := s7.trans se
          refine ⟨prsD (slidesP m es R), .tuple [], .tup (Same.tup s7e hb) (DpAll.same s7e hB), .tup (SqT.of upd_same) .nil, lay_prsD _, lay_prsD [], _, rfl, ?_⟩
          rw [eqv_prsD_nil]
          refine ite2 (fun h => ?_) (fun h => ?_)
          · have h : slidesP m es R ≠ [] := fun e => by
              rw [decide_eq_true e] at h
              cases h
            have hl : 0 < (slidesP m es R).length := List.length_pos_iff.mpr h
            have hl2 := slides_len isr hm
            refine ⟨.ref b, rfl, .ref d, rfl, .ref b, rfl, b, _, rfl, .inr (Same.tup s7e hb), d, l, _, _, rfl, by omega, by omega, d6.same s7e, by omega, fun H8 r r0 r1 f8 d8 => ?_⟩
            have kt : KT K H6 H8 := (Same.kt s7e).trans (f8.kt (d6.same s7e))
            have hb8 := kt _ _ hb
            have hB8 := DpAll.kt kt hB (only_prs _)
            have hk : r.toNat < ys.length := by omega
            have hg : ys[r.toNat]? = some ys[r.toNat] := List.getElem?_eq_getElem hk
            obtain ⟨w3, hw3, dw3⟩ := DpAll.get hB8 hg
            rw [List.getElem?_map] at hw3
            obtain ⟨⟨u, v⟩, hp3, rfl⟩ := Option.map_eq_some_iff.mp hw3
            obtain ⟨c, ec, hc⟩ := Dp.prI dw3
            refine ⟨b, ys, _, _, rfl, rfl, hb8, at_of (j := r.toNat) (by omega) hg, c, _, ec, hc, rfl, _, _, rfl, _, _, rfl, rfl, ?_⟩
            obtain ⟨hu, hv, ho⟩ := mem_slidesP.mp (List.mem_of_getElem? hp3)
            have hx8 := Dp.kt kt hx6 (only_forD _ _)
            have hz8 := Dp.kt kt hz6 (only_intsD _)
            refine ⟨x, rfl, z, rfl, .int u, rfl, .int v, rfl, x, z, m, es, R, u, v, rfl, hm, isf, hx8, hz8, isr, hu, hv, ho, fun H9 z2 s9 dz2 => ?_⟩
            exact ⟨_, _, _, _, _, _, z2, after R u v, rfl, (d8.same s9).le (by omega), Dp.same s9 hx8, dz2, IsSet.after isf isr hu hv ho⟩
          · exact ⟨_, _, _, _, _, _, z, R, rfl, (d6.same s7e).le (by omega), Dp.same s7e hx6, Dp.same s7e hz6, isr⟩
      · rintro σ H5 ⟨y5, y6, y7, y8, y9, y10, z, R, rfl, d5, hx5, hz5, isr⟩
        exact ⟨_, _, _, _, _, _, _, _, _, rfl, d5.le (by omega)⟩
    · rintro σ H2 ⟨y2, y3, y4, y5, y6, y7, y8, y9, y10, rfl, d2⟩
      exact q _
end
end TL
namespace TL
open PySem PySem.Spec PyProof.Rows L2
section
end
theorem all_mk {l : PySem.W.OpenLaw} {w : World} {K : PySem.W.Frag} {h : Heap} {mg : Str → Option Value} {fa f0 f1 f2 f3 f4 f5 f6 f7 f8 f9 f10 f11 f12 f13 f14 f15 f16 : Addr} (X : K.In h) (G : h.Ns mainGlobals mg) (hfa : mg "law" = some (.ref fa))
    {od0 an0 od1 an1 od2 an2 od3 an3 od4 an4 od5 an5 od6 an6 od7 an7 od8 an8 od9 an9 od10 an10 od11 an11 od12 an12 od13 an13 od14 an14 od15 an15 od16 an16 : Option Addr} {sl0 sl1 sl2 sl3 sl4 sl5 sl6 sl7 sl8 sl9 sl10 sl11 sl12 sl13 sl14 sl15 sl16 : Array (Option Value)} {oc0 kV0 dc0 pm0 cd0 ct0 oc1 kV1 dc1 pm1 cd1 ct1 oc2 kV2 dc2 pm2 cd2 ct2 oc3 kV3 dc3 pm3 cd3 ct3 oc4 kV4 dc4 pm4 cd4 ct4 oc5 kV5 dc5 pm5 cd5 ct5 oc6 kV6 dc6 pm6 cd6 ct6 oc7 kV7 dc7 pm7 cd7 ct7 oc8 kV8 dc8 pm8 cd8 ct8 oc9 kV9 dc9 pm9 cd9 ct9 oc10 kV10 dc10 pm10 cd10 ct10 oc11 kV11 dc11 pm11 cd11 ct11 oc12 kV12 dc12 pm12 cd12 ct12 oc13 kV13 dc13 pm13 cd13 ct13 oc14 kV14 dc14 pm14 cd14 ct14 oc15 kV15 dc15 pm15 cd15 ct15 oc16 kV16 dc16 pm16 cd16 ct16 : Value}
    (a0 : PySem.W.nsIn K mainGlobals "is_number" = some (some (.ref f0))) (l0 : K.lookup f0 = some ⟨oc0, od0, .func (PySem.W.fnOf "is_number" "is_number" (defArgs sIsNumber) (defBody sIsNumber) (defScope sIsNumber) .none kV0 dc0 pm0 an0 cd0 ct0), sl0⟩) (c0 : PySem.W.codeIn K cd0 "is_number" = true) (k0 : PySem.W.keepIn K (.ref f0) = true)
    (a1 : PySem.W.nsIn K mainGlobals "is_pair" = some (some (.ref f1))) (l1 : K.lookup f1 = some ⟨oc1, od1, .func (PySem.W.fnOf "is_pair" "is_pair" (defArgs sIsPair) (defBody sIsPair) (defScope sIsPair) .none kV1 dc1 pm1 an1 cd1 ct1), sl1⟩) (c1 : PySem.W.codeIn K cd1 "is_pair" = true) (k1 : PySem.W.keepIn K (.ref f1) = true)
    (a2 : PySem.W.nsIn K mainGlobals "neighbours_of" = some (some (.ref f2))) (l2 : K.lookup f2 = some ⟨oc2, od2, .func (PySem.W.fnOf "neighbours_of" "neighbours_of" (defArgs sNeighboursOf) (defBody sNeighboursOf) (defScope sNeighboursOf) .none kV2 dc2 pm2 an2 cd2 ct2), sl2⟩) (c2 : PySem.W.codeIn K cd2 "neighbours_of" = true) (k2 : PySem.W.keepIn K (.ref f2) = true)
    (a3 : PySem.W.nsIn K mainGlobals "blocking_lamps" = some (some (.ref f3))) (l3 : K.lookup f3 = some ⟨oc3, od3, .func (PySem.W.fnOf "blocking_lamps" "blocking_lamps" (defArgs sBlockingLamps) (defBody sBlockingLamps) (defScope sBlockingLamps) .none kV3 dc3 pm3 an3 cd3 ct3), sl3⟩) (c3 : PySem.W.codeIn K cd3 "blocking_lamps" = true) (k3 : PySem.W.keepIn K (.ref f3) = true)
    (a4 : PySem.W.nsIn K mainGlobals "check_lamp" = some (some (.ref f4))) (l4 : K.lookup f4 = some ⟨oc4, od4, .func (PySem.W.fnOf "check_lamp" "check_lamp" (defArgs sCheckLamp) (defBody sCheckLamp) (defScope sCheckLamp) .none kV4 dc4 pm4 an4 cd4 ct4), sl4⟩) (c4 : PySem.W.codeIn K cd4 "check_lamp" = true) (k4 : PySem.W.keepIn K (.ref f4) = true)
    (a5 : PySem.W.nsIn K mainGlobals "slide_lamp" = some (some (.ref f5))) (l5 : K.lookup f5 = some ⟨oc5, od5, .func (PySem.W.fnOf "slide_lamp" "slide_lamp" (defArgs sSlideLamp) (defBody sSlideLamp) (defScope sSlideLamp) .none kV5 dc5 pm5 an5 cd5 ct5), sl5⟩) (c5 : PySem.W.codeIn K cd5 "slide_lamp" = true) (k5 : PySem.W.keepIn K (.ref f5) = true)
    (a6 : PySem.W.nsIn K mainGlobals "possible_slides" = some (some (.ref f6))) (l6 : K.lookup f6 = some ⟨oc6, od6, .func (PySem.W.fnOf "possible_slides" "possible_slides" (defArgs sPossibleSlides) (defBody sPossibleSlides) (defScope sPossibleSlides) .none kV6 dc6 pm6 an6 cd6 ct6), sl6⟩) (c6 : PySem.W.codeIn K cd6 "possible_slides" = true) (k6 : PySem.W.keepIn K (.ref f6) = true)
    (a7 : PySem.W.nsIn K mainGlobals "is_possible" = some (some (.ref f7))) (l7 : K.lookup f7 = some ⟨oc7, od7, .func (PySem.W.fnOf "is_possible" "is_possible" (defArgs sIsPossible) (defBody sIsPossible) (defScope sIsPossible) .none kV7 dc7 pm7 an7 cd7 ct7), sl7⟩) (c7 : PySem.W.codeIn K cd7 "is_possible" = true) (k7 : PySem.W.keepIn K (.ref f7) = true)
    (a8 : PySem.W.nsIn K mainGlobals "follow" = some (some (.ref f8))) (l8 : K.lookup f8 = some ⟨oc8, od8, .func (PySem.W.fnOf "follow" "follow" (defArgs sFollow) (defBody sFollow) (defScope sFollow) .none kV8 dc8 pm8 an8 cd8 ct8), sl8⟩) (c8 : PySem.W.codeIn K cd8 "follow" = true) (k8 : PySem.W.keepIn K (.ref f8) = true)
    (a9 : PySem.W.nsIn K mainGlobals "_law_deck" = some (some (.ref f9))) (l9 : K.lookup f9 = some ⟨oc9, od9, .func (PySem.W.fnOf "_law_deck" "_law_deck" (defArgs sLDeck) (defBody sLDeck) (defScope sLDeck) .none kV9 dc9 pm9 an9 cd9 ct9), sl9⟩) (c9 : PySem.W.codeIn K cd9 "_law_deck" = true) (k9 : PySem.W.keepIn K (.ref f9) = true)
    (a10 : PySem.W.nsIn K mainGlobals "_law_draw" = some (some (.ref f10))) (l10 : K.lookup f10 = some ⟨oc10, od10, .func (PySem.W.fnOf "_law_draw" "_law_draw" (defArgs sLDraw) (defBody sLDraw) (defScope sLDraw) .none kV10 dc10 pm10 an10 cd10 ct10), sl10⟩) (c10 : PySem.W.codeIn K cd10 "_law_draw" = true) (k10 : PySem.W.keepIn K (.ref f10) = true)
    (a11 : PySem.W.nsIn K mainGlobals "_law_mixed" = some (some (.ref f11))) (l11 : K.lookup f11 = some ⟨oc11, od11, .func (PySem.W.fnOf "_law_mixed" "_law_mixed" (defArgs sLMixed) (defBody sLMixed) (defScope sLMixed) .none kV11 dc11 pm11 an11 cd11 ct11), sl11⟩) (c11 : PySem.W.codeIn K cd11 "_law_mixed" = true) (k11 : PySem.W.keepIn K (.ref f11) = true)
    (a12 : PySem.W.nsIn K mainGlobals "_law_forest" = some (some (.ref f12))) (l12 : K.lookup f12 = some ⟨oc12, od12, .func (PySem.W.fnOf "_law_forest" "_law_forest" (defArgs sLForest) (defBody sLForest) (defScope sLForest) .none kV12 dc12 pm12 an12 cd12 ct12), sl12⟩) (c12 : PySem.W.codeIn K cd12 "_law_forest" = true) (k12 : PySem.W.keepIn K (.ref f12) = true)
    (a13 : PySem.W.nsIn K mainGlobals "_law_near" = some (some (.ref f13))) (l13 : K.lookup f13 = some ⟨oc13, od13, .func (PySem.W.fnOf "_law_near" "_law_near" (defArgs sLNear) (defBody sLNear) (defScope sLNear) .none kV13 dc13 pm13 an13 cd13 ct13), sl13⟩) (c13 : PySem.W.codeIn K cd13 "_law_near" = true) (k13 : PySem.W.keepIn K (.ref f13) = true)
    (a14 : PySem.W.nsIn K mainGlobals "_law_setting" = some (some (.ref f14))) (l14 : K.lookup f14 = some ⟨oc14, od14, .func (PySem.W.fnOf "_law_setting" "_law_setting" (defArgs sLSetting) (defBody sLSetting) (defScope sLSetting) .none kV14 dc14 pm14 an14 cd14 ct14), sl14⟩) (c14 : PySem.W.codeIn K cd14 "_law_setting" = true) (k14 : PySem.W.keepIn K (.ref f14) = true)
    (a15 : PySem.W.nsIn K mainGlobals "_law_right" = some (some (.ref f15))) (l15 : K.lookup f15 = some ⟨oc15, od15, .func (PySem.W.fnOf "_law_right" "_law_right" (defArgs sLRight) (defBody sLRight) (defScope sLRight) .none kV15 dc15 pm15 an15 cd15 ct15), sl15⟩) (c15 : PySem.W.codeIn K cd15 "_law_right" = true) (k15 : PySem.W.keepIn K (.ref f15) = true)
    (a16 : PySem.W.nsIn K mainGlobals "law" = some (some (.ref f16))) (l16 : K.lookup f16 = some ⟨oc16, od16, .func (PySem.W.fnOf "law" "law" (defArgs sLaw) (defBody sLaw) (defScope sLaw) .none kV16 dc16 pm16 an16 cd16 ct16), sl16⟩) (c16 : PySem.W.codeIn K cd16 "law" = true) (k16 : PySem.W.keepIn K (.ref f16) = true)
    (z0 : PySem.W.nsIn K mainGlobals "abs" = some none) (z1 : PySem.W.nsIn K mainGlobals "len" = some none) (z2 : PySem.W.nsIn K mainGlobals "list" = some none) (z3 : PySem.W.nsIn K mainGlobals "range" = some none) (z4 : PySem.W.nsIn K mainGlobals "max" = some none) (z5 : PySem.W.nsIn K mainGlobals "tuple" = some none) (z6 : PySem.W.nsIn K mainGlobals "sorted" = some none) (z7 : PySem.W.nsIn K mainGlobals "isinstance" = some none) (z8 : PySem.W.nsIn K mainGlobals "int" = some none) (z9 : PySem.W.nsIn K mainGlobals "bool" = some none) (z10 : PySem.W.nsIn K mainGlobals "enumerate" = some none) :
    ∃ fd : FuncData, (∀ (s : Shared) (v : Value), BindsTo s fd ⟨[v], []⟩ [("_law_script", v)]) ∧ ∀ base : Heap, K.In base → base.Ns mainGlobals mg → FnG l.prog w K mg base 7 fa fd ["_law_script"] (spLaw K) := by
  cases hfa.symm.trans (PySem.W.mg_of X G a16)
  have FIsNumber := fun_mk (st := sIsNumber) l0 c0 k0
  have FIsPair := fun_mk (st := sIsPair) l1 c1 k1
  have FNeighboursOf := fun_mk (st := sNeighboursOf) l2 c2 k2
  have FBlockingLamps := fun_mk (st := sBlockingLamps) l3 c3 k3
  have FCheckLamp := fun_mk (st := sCheckLamp) l4 c4 k4
  have FSlideLamp := fun_mk (st := sSlideLamp) l5 c5 k5
  have FPossibleSlides := fun_mk (st := sPossibleSlides) l6 c6 k6
  have FIsPossible := fun_mk (st := sIsPossible) l7 c7 k7
  have FFollow := fun_mk (st := sFollow) l8 c8 k8
  have FLDeck := fun_mk (st := sLDeck) l9 c9 k9
  have FLDraw := fun_mk (st := sLDraw) l10 c10 k10
  have FLMixed := fun_mk (st := sLMixed) l11 c11 k11
  have FLForest := fun_mk (st := sLForest) l12 c12 k12
  have FLNear := fun_mk (st := sLNear) l13 c13 k13
  have FLSetting := fun_mk (st := sLSetting) l14 c14 k14
  have FLRight := fun_mk (st := sLRight) l15 c15 k15
  have FLaw := fun_mk (st := sLaw) l16 c16 k16
  have bIsNumber := FIsNumber.binds (ps := ["value"]) fun _ _ _ _ _ _ us hl => match us, hl with | [_], _ => rfl
  have bIsPair := FIsPair.binds (ps := ["value"]) fun _ _ _ _ _ _ us hl => match us, hl with | [_], _ => rfl
  have bNeighboursOf := FNeighboursOf.binds (ps := ["forest", "vertex"]) fun _ _ _ _ _ _ us hl => match us, hl with | [_, _], _ => rfl
  have bBlockingLamps := FBlockingLamps.binds (ps := ["forest", "setting", "u", "v"]) fun _ _ _ _ _ _ us hl => match us, hl with | [_, _, _, _], _ => rfl
  have bCheckLamp := FCheckLamp.binds (ps := ["setting", "value"]) fun _ _ _ _ _ _ us hl => match us, hl with | [_, _], _ => rfl
  have bSlideLamp := FSlideLamp.binds (ps := ["forest", "setting", "u", "v"]) fun _ _ _ _ _ _ us hl => match us, hl with | [_, _, _, _], _ => rfl
  have bPossibleSlides := FPossibleSlides.binds (ps := ["forest", "setting"]) fun _ _ _ _ _ _ us hl => match us, hl with | [_, _], _ => rfl
  have bIsPossible := FIsPossible.binds (ps := ["forest", "setting", "value"]) fun _ _ _ _ _ _ us hl => match us, hl with | [_, _, _], _ => rfl
  have bFollow := FFollow.binds (ps := ["forest", "setting", "slides"]) fun _ _ _ _ _ _ us hl => match us, hl with | [_, _, _], _ => rfl
  have bLDeck := FLDeck.binds (ps := ["_law_script"]) fun _ _ _ _ _ _ us hl => match us, hl with | [_], _ => rfl
  have bLDraw := FLDraw.binds (ps := ["_law_deck_here", "_law_limit"]) fun _ _ _ _ _ _ us hl => match us, hl with | [_, _], _ => rfl
  have bLMixed := FLMixed.binds (ps := ["_law_deck_here", "_law_items"]) fun _ _ _ _ _ _ us hl => match us, hl with | [_, _], _ => rfl
  have bLForest := FLForest.binds (ps := ["_law_deck_here", "_law_most"]) fun _ _ _ _ _ _ us hl => match us, hl with | [_, _], _ => rfl
  have bLNear := FLNear.binds (ps := ["_law_forest_here", "_law_vertex"]) fun _ _ _ _ _ _ us hl => match us, hl with | [_, _], _ => rfl
  have bLSetting := FLSetting.binds (ps := ["_law_deck_here", "_law_forest_here"]) fun _ _ _ _ _ _ us hl => match us, hl with | [_, _], _ => rfl
  have bLRight := FLRight.binds (ps := ["_law_forest_here", "_law_setting_here", "_law_first", "_law_second"]) fun _ _ _ _ _ _ us hl => match us, hl with | [_, _, _, _], _ => rfl
  have m_abs := PySem.W.mg_none_of X G z0
  have m_len := PySem.W.mg_none_of X G z1
  have m_list := PySem.W.mg_none_of X G z2
  have m_range := PySem.W.mg_none_of X G z3
  have m_max := PySem.W.mg_none_of X G z4
  have m_tuple := PySem.W.mg_none_of X G z5
  have m_sorted := PySem.W.mg_none_of X G z6
  have m_isinstance := PySem.W.mg_none_of X G z7
  have m_int := PySem.W.mg_none_of X G z8
  have m_bool := PySem.W.mg_none_of X G z9
  have m_enumerate := PySem.W.mg_none_of X G z10
  refine ⟨PySem.W.fnOf "law" "law" (defArgs sLaw) (defBody sLaw) (defScope sLaw) .none kV16 dc16 pm16 an16 cd16 ct16, fun s v => .of_eq rfl, fun base _ _ => ?_⟩
  have ownIsNumber := fun {k : Nat} {sp : Sp} (G0 : FnOk l.prog w K mg base CX0 k f0 _ _ sp) => (Own.mk ⟨f0, _, G0, PySem.W.mg_of X G a0, k0, bIsNumber⟩ : Own l.prog w K mg base "is_number" k ["value"] sp)
  have ownIsPair := fun {k : Nat} {sp : Sp} (G0 : FnOk l.prog w K mg base CX0 k f1 _ _ sp) => (Own.mk ⟨f1, _, G0, PySem.W.mg_of X G a1, k1, bIsPair⟩ : Own l.prog w K mg base "is_pair" k ["value"] sp)
  have ownNeighboursOf := fun {k : Nat} {sp : Sp} (G0 : FnOk l.prog w K mg base CX0 k f2 _ _ sp) => (Own.mk ⟨f2, _, G0, PySem.W.mg_of X G a2, k2, bNeighboursOf⟩ : Own l.prog w K mg base "neighbours_of" k ["forest", "vertex"] sp)
  have ownBlockingLamps := fun {k : Nat} {sp : Sp} (G0 : FnOk l.prog w K mg base CX0 k f3 _ _ sp) => (Own.mk ⟨f3, _, G0, PySem.W.mg_of X G a3, k3, bBlockingLamps⟩ : Own l.prog w K mg base "blocking_lamps" k ["forest", "setting", "u", "v"] sp)
  have ownCheckLamp := fun {k : Nat} {sp : Sp} (G0 : FnOk l.prog w K mg base CX0 k f4 _ _ sp) => (Own.mk ⟨f4, _, G0, PySem.W.mg_of X G a4, k4, bCheckLamp⟩ : Own l.prog w K mg base "check_lamp" k ["setting", "value"] sp)
  have ownSlideLamp := fun {k : Nat} {sp : Sp} (G0 : FnOk l.prog w K mg base CX0 k f5 _ _ sp) => (Own.mk ⟨f5, _, G0, PySem.W.mg_of X G a5, k5, bSlideLamp⟩ : Own l.prog w K mg base "slide_lamp" k ["forest", "setting", "u", "v"] sp)
  have ownPossibleSlides := fun {k : Nat} {sp : Sp} (G0 : FnOk l.prog w K mg base CX0 k f6 _ _ sp) => (Own.mk ⟨f6, _, G0, PySem.W.mg_of X G a6, k6, bPossibleSlides⟩ : Own l.prog w K mg base "possible_slides" k ["forest", "setting"] sp)
  have ownIsPossible := fun {k : Nat} {sp : Sp} (G0 : FnOk l.prog w K mg base CX0 k f7 _ _ sp) => (Own.mk ⟨f7, _, G0, PySem.W.mg_of X G a7, k7, bIsPossible⟩ : Own l.prog w K mg base "is_possible" k ["forest", "setting", "value"] sp)
  have ownFollow := fun {k : Nat} {sp : Sp} (G0 : FnOk l.prog w K mg base CX0 k f8 _ _ sp) => (Own.mk ⟨f8, _, G0, PySem.W.mg_of X G a8, k8, bFollow⟩ : Own l.prog w K mg base "follow" k ["forest", "setting", "slides"] sp)
  have ownLDeck := fun {k : Nat} {sp : Sp} (G0 : FnOk l.prog w K mg base CX0 k f9 _ _ sp) => (Own.mk ⟨f9, _, G0, PySem.W.mg_of X G a9, k9, bLDeck⟩ : Own l.prog w K mg base "_law_deck" k ["_law_script"] sp)
  have ownLDraw := fun {k : Nat} {sp : Sp} (G0 : FnOk l.prog w K mg base CX0 k f10 _ _ sp) => (Own.mk ⟨f10, _, G0, PySem.W.mg_of X G a10, k10, bLDraw⟩ : Own l.prog w K mg base "_law_draw" k ["_law_deck_here", "_law_limit"] sp)
  have ownLMixed := fun {k : Nat} {sp : Sp} (G0 : FnOk l.prog w K mg base CX0 k f11 _ _ sp) => (Own.mk ⟨f11, _, G0, PySem.W.mg_of X G a11, k11, bLMixed⟩ : Own l.prog w K mg base "_law_mixed" k ["_law_deck_here", "_law_items"] sp)
  have ownLForest := fun {k : Nat} {sp : Sp} (G0 : FnOk l.prog w K mg base CX0 k f12 _ _ sp) => (Own.mk ⟨f12, _, G0, PySem.W.mg_of X G a12, k12, bLForest⟩ : Own l.prog w K mg base "_law_forest" k ["_law_deck_here", "_law_most"] sp)
  have ownLNear := fun {k : Nat} {sp : Sp} (G0 : FnOk l.prog w K mg base CX0 k f13 _ _ sp) => (Own.mk ⟨f13, _, G0, PySem.W.mg_of X G a13, k13, bLNear⟩ : Own l.prog w K mg base "_law_near" k ["_law_forest_here", "_law_vertex"] sp)
  have ownLSetting := fun {k : Nat} {sp : Sp} (G0 : FnOk l.prog w K mg base CX0 k f14 _ _ sp) => (Own.mk ⟨f14, _, G0, PySem.W.mg_of X G a14, k14, bLSetting⟩ : Own l.prog w K mg base "_law_setting" k ["_law_deck_here", "_law_forest_here"] sp)
  have ownLRight := fun {k : Nat} {sp : Sp} (G0 : FnOk l.prog w K mg base CX0 k f15 _ _ sp) => (Own.mk ⟨f15, _, G0, PySem.W.mg_of X G a15, k15, bLRight⟩ : Own l.prog w K mg base "_law_right" k ["_law_forest_here", "_law_setting_here", "_law_first", "_law_second"] sp)
  have oLDraw := ownLDraw (ok_LDraw (k := 0) FLDraw m_len)
  have oLDeck := ownLDeck (ok_LDeck (k := 0) FLDeck m_abs)
  have oLMixed := ownLMixed (ok_LMixed FLMixed m_list m_range m_len oLDraw)
  have oLForest := ownLForest (ok_LForest FLForest m_list m_range m_len m_max m_tuple m_sorted oLDraw oLMixed)
  have oLNear := ownLNear (ok_LNear (k := 0) FLNear m_range m_tuple m_sorted)
  have oLSetting := ownLSetting (ok_LSetting FLSetting m_list m_range m_tuple m_sorted oLDraw oLMixed oLNear)
  have oIsNumber := ownIsNumber (ok_IsNumber (k := 0) FIsNumber m_isinstance m_int m_bool)
  have oIsPair := ownIsPair (ok_IsPair (k := 0) FIsPair m_isinstance m_tuple m_len)
  have oNeighboursOf := ownNeighboursOf (ok_NeighboursOf (k := 0) FNeighboursOf m_tuple)
  have oBlockingLamps := ownBlockingLamps (ok_BlockingLamps (k := 0) FBlockingLamps m_tuple oNeighboursOf)
  have oCheckLamp := ownCheckLamp (ok_CheckLamp FCheckLamp oIsNumber)
  have oSlideLamp := ownSlideLamp (ok_SlideLamp FSlideLamp m_tuple m_sorted oIsNumber oCheckLamp oNeighboursOf oBlockingLamps)
  have oPossibleSlides := ownPossibleSlides (ok_PossibleSlides FPossibleSlides m_tuple oNeighboursOf oBlockingLamps)
  have oIsPossible := ownIsPossible (ok_IsPossible FIsPossible oIsPair oIsNumber oPossibleSlides)
  have oFollow := ownFollow (ok_Follow FFollow m_isinstance m_tuple m_enumerate oIsPossible oSlideLamp)
  have oLRight := ownLRight (ok_LRight FLRight oSlideLamp oPossibleSlides oNeighboursOf oFollow)
  exact ok_Law FLaw m_range m_len oLDeck oLDraw oLForest oLSetting oPossibleSlides oSlideLamp oLRight
end TL
open PySem PySem.W PyProof.Rows
set_option maxHeartbeats 0 in
theorem PySem.Challenge.cw_treelamps_k77_whole_slides_of_different_holds : PySem.Challenge.rw_treelamps_k77_whole_slides_of_different.Holds := by
  w_on; o_law; k_head; (case hw => w_witness2)
  k_fill
  refine TL.walk_ofG (l := PySem.Challenge.rw_treelamps_k77_whole_slides_of_different) (n := 63) (k := 7) (x := "_law_script") (sp := fun w => TL.spLaw _) rfl (by decide) rfl ⟨rfl, by decide, by decide⟩
    (fun w h Y => PySem.W.kIn_of Y) ?F (fun _ _ a ns hl _ hS => ⟨a, ns, rfl, hS, hl, fun _ => rfl⟩)
  case F =>
    intro w mg fa h KX G hmg
    refine' TL.all_mk KX G hmg ?a0 ?l0 ?c0 ?k0 ?a1 ?l1 ?c1 ?k1 ?a2 ?l2 ?c2 ?k2 ?a3 ?l3 ?c3 ?k3 ?a4 ?l4 ?c4 ?k4 ?a5 ?l5 ?c5 ?k5 ?a6 ?l6 ?c6 ?k6 ?a7 ?l7 ?c7 ?k7 ?a8 ?l8 ?c8 ?k8 ?a9 ?l9 ?c9 ?k9 ?a10 ?l10 ?c10 ?k10 ?a11 ?l11 ?c11 ?k11 ?a12 ?l12 ?c12 ?k12 ?a13 ?l13 ?c13 ?k13 ?a14 ?l14 ?c14 ?k14 ?a15 ?l15 ?c15 ?k15 ?a16 ?l16 ?c16 ?k16 ?z0 ?z1 ?z2 ?z3 ?z4 ?z5 ?z6 ?z7 ?z8 ?z9 ?z10
    (case a0 => k_is); (case l0 => k_is); (case c0 => k_is); (case k0 => k_is); (case a1 => k_is); (case l1 => k_is); (case c1 => k_is); (case k1 => k_is); (case a2 => k_is); (case l2 => k_is); (case c2 => k_is); (case k2 => k_is); (case a3 => k_is); (case l3 => k_is); (case c3 => k_is); (case k3 => k_is); (case a4 => k_is); (case l4 => k_is); (case c4 => k_is); (case k4 => k_is); (case a5 => k_is); (case l5 => k_is); (case c5 => k_is); (case k5 => k_is); (case a6 => k_is); (case l6 => k_is); (case c6 => k_is); (case k6 => k_is); (case a7 => k_is); (case l7 => k_is); (case c7 => k_is); (case k7 => k_is); (case a8 => k_is); (case l8 => k_is); (case c8 => k_is); (case k8 => k_is); (case a9 => k_is); (case l9 => k_is); (case c9 => k_is); (case k9 => k_is); (case a10 => k_is); (case l10 => k_is); (case c10 => k_is); (case k10 => k_is); (case a11 => k_is); (case l11 => k_is); (case c11 => k_is); (case k11 => k_is); (case a12 => k_is); (case l12 => k_is); (case c12 => k_is); (case k12 => k_is); (case a13 => k_is); (case l13 => k_is); (case c13 => k_is); (case k13 => k_is); (case a14 => k_is); (case l14 => k_is); (case c14 => k_is); (case k14 => k_is); (case a15 => k_is); (case l15 => k_is); (case c15 => k_is); (case k15 => k_is); (case a16 => k_is); (case l16 => k_is); (case c16 => k_is); (case k16 => k_is); (case z0 => k_is); (case z1 => k_is); (case z2 => k_is); (case z3 => k_is); (case z4 => k_is); (case z5 => k_is); (case z6 => k_is); (case z7 => k_is); (case z8 => k_is); (case z9 => k_is); (case z10 => k_is)
