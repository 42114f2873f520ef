import PyProof.Rows.All
import Wide.All
import OpenK.AllK
import Wide.FinOn
import HandS.ForMost
import HandS.Rev
import HandS.TupAny
import HandS.Wide
import PyProof.ReprRoads
import PySem.Challenge.RW_treelamps_k08_slides_backward
set_option Elab.async false
set_option linter.all false
set_option maxRecDepth 100000
set_option maxHeartbeats 4000000
namespace TL
open PySem PySem.Spec PyProof.Rows L2

/-! ### defs that show data: they run where no text is being made -/
/-- as the layer's promise of a def, for callers outside of any showing -/
structure FnG (P : Program) (w : World) (K : PySem.W.Frag) (mg : Str → Option Value)
    (base : Heap) (k : Nat) (f : Addr) (fd : FuncData) (ps : List Str) (sp : Sp) : Prop where
  wide : ∀ vs H Q E, sp vs H Q E → vs.length = ps.length
  goes : ∀ (A : Around) (out : List Env) (s : Shared) (H : Hp) (args : Args) (us : List Value)
    (vs : List V) (Q : VK) (E : XK), Room k A → A.guards = some [] →
    Env0 P w K mg base A out s H → BindsTo s fd args (ps.zip us) → Vals vs us → sp vs H Q E →
    codeAny (model P w) A (.call (.ref f) args) (CR CX0 out P w H s Q E) s
section
variable {P : Program} {w : World} {K : PySem.W.Frag} {mg : Str → Option Value} {base : Heap}
theorem FnG.of {k : Nat} {f : Addr} {fd : FuncData} {ps : List Str} {sp : Sp}
    (F : FnOk P w K mg base CX0 k f fd ps sp) : FnG P w K mg base k f fd ps sp :=
  ⟨F.len, fun A out s H args us vs Q E hr _ => F.run A out s H args us vs Q E hr⟩

theorem okG {x qual : Str} {st : Stmt} {f : Addr} {fd : FuncData} {N ps : List Str} {k : Nat} {sp : Sp}
    (F : Fun K x qual st f fd) (S : FnScope N ps (defScope st))
    (len : ∀ vs H Q E, sp vs H Q E → vs.length = ps.length)
    (hb : ∀ (cdv : Value) (A : Around) (out : List Env) (s : Shared) (H : Hp) (vs : List V) (Q : VK) (E : XK),
      Room k (A.deeper (envOfC qual (defScope st) s.heap.objs.size f cdv)) → A.guards = some [] → sp vs H Q E →
      ∃ t, PSs (cxOf CX0 P w K mg base N qual (defScope st) f cdv A out s H E).nox (defBody st) t ∧
        t { nx := fun _ H' => Q .non H', rt := Q } (start N vs) H) :
    FnG P w K mg base (k + 1) f fd ps sp := by
  obtain ⟨oc, od, kV, doc, pm, an, cdv, ct, osl, rfl, lk, hcd⟩ := F.ex
  refine ⟨len, fun A out s H args us vs Q E hr gd e0 bnd r hsp => ?_⟩
  have stays : ∀ b o, base.get? b = some o → s.heap.get? b = some o := fun b o e => (e0.bs b o e).1
  have KX : K.In s.heap := e0.mod.kin.keeps stays
  have nl : s.heap.NoLimit := e0.mod.nolimit.keeps stays
  have kinds : ∀ y ∈ ps.zip us, (defScope st).names.lookup y.1 = some .local ∨
      ((defScope st).names.lookup y.1 = some .cell ∧
        ((cellsFrom (s.heap.objs.size + 1) (defScope st).names []).lookup y.1).isSome = true) := by
    rintro ⟨n, v⟩ hy
    exact (S.par n (List.of_mem_zip hy).1).imp id fun q => ⟨q, PySem.W.cellsFrom_some _ _ _ (.inl q)⟩
  refine codeAny_call_function hr.depth (KX _ _ lk) rfl S.co S.gen rfl
    (PySem.W.codeRec_of KX hcd) (bnd _ _ _ _ ?_)
  refine wpAny_newFunctionEnv_cells S.kind kinds fun env he s1 ic => ?_
  subst he
  refine ⟨nl.keeps ic.toInCall.keep, codeAny_func ?_⟩
  obtain ⟨t, ht, hq⟩ := hb cdv A out s H vs Q E (hr.deeper _) gd hsp
  have J := inv_start (CX := CX0) (E := E) S hr.hd e0 (len _ _ _ _ hsp) r ic
  refine wpAny_mono (ht.nox.run [] s1 (start N vs) H _ J hq) (fun fl s' hs => ?_) fun e s' hs => hs
  match fl, hs with
  | .ret u, ⟨v, σ', H', J', rv, q⟩ => exact ⟨v, H', J'.os, J'.bare, J'.base, J'.hok, rv, q⟩
  | .next, ⟨σ', H', J', q⟩ => exact ⟨V.non, H', J'.os, J'.bare, J'.base, J'.hok, rfl, q⟩
  | .brk, ⟨_, _, _, q⟩ => exact False.elim q
  | .cont, ⟨_, _, _, q⟩ => exact False.elim q
end

section
variable {X : Cx} {k : Nat} {f : Addr} {fd : FuncData} {ps : List Str} {sp : Sp} {x : Str} {p pos : Pos}
  {e : Expr} {es : List Expr} {t : TA}
theorem pe_callG (F : FnG X.prog X.w X.K X.mg X.base k f fd ps sp) (hr : Room k X.A) (gd : X.A.guards = some [])
    (hg : Gl X x) (hm : X.mg x = some (.ref f)) (hk : PySem.W.keepIn X.K (.ref f) = true) (hb : Binds X.K fd ps [])
    (ha : PA X (e :: es) t) (hdb : (x == ("__debug__" : Str)) = false := by decide)
    (he : starEach (e :: es) X.env = (false, eval e X.env) :: starEach es X.env := by rfl)
    (hpl : (backTo pos (starEach es X.env)).any (·.1) = false := by rfl) :
    PE X (.Call (.Name x p) (e :: es) [] pos) (tCall sp [] E0 t) := by
  refine ⟨fun pins s σ H Q I h => wpAny_Call_Name_kw (ld_glob I hg hm ?_ hdb)⟩
  refine PySem.W.callWith_K (h₀ := X.base) I.ok.mod.kin hk
    (thn (ha.run pos pins s σ H _ I h) fun us s1 ⟨vs, H1, I1, r, q⟩ => ⟨I1.kIn, ?_⟩) he hpl
  have q1 : sp (vs ++ []) H1 Q E0 := q
  have q2 : sp vs H1 Q E0 := by rw [List.append_nil] at q1; exact q1
  have bd := hb s1 us I1.kIn (by rw [List.append_nil, ← r.length]; exact F.wide _ _ _ _ q2)
  rw [List.append_nil] at bd
  refine wpAny_call (codeAny_mono (F.goes X.A X.stack s1 H1 ⟨us, []⟩ us vs Q E0 hr gd I1.env0 bd r q2)
    fun res s' hq => ?_)
  match res, hq with
  | .ok (.ret u), hq => exact I1.after hq
  | .ok .next, hq => exact False.elim hq
  | .ok .brk, hq => exact False.elim hq
  | .ok .cont, hq => exact False.elim hq
  | .error e, hq => exact False.elim hq
end

/-! ### the law's own call -/
theorem law_callG {P : Program} {w : World} {K : PySem.W.Frag} {mg mb : Str → Option Value} {k : Nat}
    {fa a : Addr} {fd : FuncData} {x : Str} {sp : Sp} {s : Shared} {vs : List Value} {ns : List Int}
    (KX : K.In s.heap) (hns : s.heap.Ns mainGlobals mg) (hb : s.heap.Ns builtinsNs mb)
    (hbb : ∀ x : Str, x ≠ "__name__" → mb x = bootBuiltins x) (nl : s.heap.NoLimit) (hg : s.gens = #[])
    (ha : s.heap.get? a = some { cls := .type "list", data := .seq vs.toArray }) (hi : IntsAre vs ns)
    (hl : ns.length ≤ sizeLine) (hr : Room k callerA)
    (F : ∀ base : Heap, K.In base → base.Ns mainGlobals mg → FnG P w K mg base k fa fd [x] sp)
    (bnd : ∀ (s : Shared) (u : Value), BindsTo s fd ⟨[u], []⟩ [(x, u)])
    (hsp : ∀ H : Hp, Only H → SqL K H a (ns.map V.int) → sp [.ref a] H (fun v _ => v = .bl true) E0) :
    codeAny (model P w) callerA (.call (.ref fa) ⟨[.ref a], []⟩)
      (fun r s' => r = .ok (.ret (.bool true)) ∧ OldK s.heap s'.heap ∧ s'.os = s.os ∧ AllBare s'.gens) s := by
  have rv := vals_ints hi
  have core : ∀ H : Hp, Only H → SqL K H a (ns.map V.int) → HOk P w H s.heap →
      (∀ b u, H b = some u → b = a) → ((∃ u, H a = some u) → K.lookup a = none) →
      codeAny (model P w) callerA (.call (.ref fa) ⟨[.ref a], []⟩)
        (fun r s' => r = .ok (.ret (.bool true)) ∧ OldK s.heap s'.heap ∧ s'.os = s.os ∧ AllBare s'.gens) s := by
    intro H hO hS hok hA hK
    have dictFree : ∀ {b : Addr} {o : Obj} {es : Array DictEntry} {ep : Nat},
        s.heap.get? b = some o → o.data = .dict es ep → H b = none := by
      intro b o es ep e d
      cases q : H b with
      | none => rfl
      | some u =>
        rw [hA b u q, ha] at e
        cases e
        exact nomatch d
    have nsK : ∀ {b : Addr} {m : Str → Option Value}, s.heap.Ns b m → (hidT s.heap H).Ns b m := by
      rintro b m ⟨o, es, ep, e, d, r⟩
      exact ⟨o, es, ep, hidT_get e (dictFree e d), d, r⟩
    have hKb : K.In (hidT s.heap H) := by
      intro b o e
      refine hidT_get (KX b o e) ?_
      cases q : H b with
      | none => rfl
      | some u =>
        have eb := hA b u q
        rw [eb] at e q
        rw [hK ⟨u, q⟩] at e
        cases e
    have hM : Mod K mg (hidT s.heap H) :=
      ⟨hKb, nsK hns, ⟨mb, nsK hb, hbb⟩, let ⟨mc, h1, h2⟩ := nl; ⟨mc, nsK h1, h2⟩⟩
    have e0 : Env0 P w K mg (hidT s.heap H) callerA [] s H :=
      ⟨rfl, hM, fun b o e => of_hidT e, Nat.le_of_eq (hidT_size _ _), trivial, fun b z => (nomatch z), hok, .of_eq hg⟩
    refine codeAny_mono ((F _ hKb (nsK hns)).goes callerA [] s H ⟨[.ref a], []⟩ [.ref a] [.ref a] _ _ hr rfl
      e0 (bnd s (.ref a)) (.cons rfl .nil) (hsp H hO hS)) fun r s' h => ?_
    match r, h with
    | .error e, h => exact False.elim h
    | .ok .next, h => exact False.elim h
    | .ok .brk, h => exact False.elim h
    | .ok .cont, h => exact False.elim h
    | .ok (.ret u), h =>
      obtain ⟨v, H', os, bare, un, hok', r', q⟩ := h
      obtain rfl : v = .bl true := q
      obtain rfl : u = Value.bool true := r'
      refine ⟨rfl, OldK.of_keep fun b o e => ?_, os, bare⟩
      rcases hO b with z | ⟨ob, xs, z⟩
      · exact un.keep b o e z (fun m => (nomatch m)) (fun m => (nomatch m))
      · have z2 := un.frzs b ob _ z
        have e1 := (hok b _ z).1
        have e2 := (hok' b _ z2).1
        rw [e] at e1
        cases e1
        exact e2
  cases hk : K.lookup a with
  | some o =>
    have e := KX a o hk
    rw [ha] at e
    cases e
    refine core (fun _ => none) (fun _ => .inl rfl) (.inr ⟨_, vs.toArray, _, hk, rfl, rfl, rfl, ?_, by simpa using rv⟩)
      (fun b u z => (nomatch z)) (fun b u z => (nomatch z)) fun ⟨u, z⟩ => (nomatch z)
    rw [List.size_toArray, hi.length]
    exact hl
  | none =>
    let ob : Obj := { cls := .type "list", data := .seq vs.toArray }
    let G : Hp := fun b => if b = a then some (.frz ob (.lst (ns.map V.int))) else none
    have at_a : G a = some (.frz ob (.lst (ns.map V.int))) := if_pos rfl
    have off : ∀ b, b ≠ a → G b = none := fun b z => if_neg z
    refine core G (fun b => ?_) (.inl (.inr ⟨ob, at_a⟩)) (fun b u z => ?_) (fun b u z => ?_) fun _ => hk
    · by_cases hb : b = a
      · exact .inr ⟨ob, _, by rw [hb]; exact at_a⟩
      · exact .inl (off b hb)
    · by_cases hb : b = a
      · rw [hb, at_a] at z
        cases z
        rw [hb]
        exact ⟨ha, by rw [List.length_map]; exact hl, vs, _, rv, ha⟩
      · rw [off b hb] at z
        cases z
    · by_cases hb : b = a
      · exact hb
      · rw [off b hb] at z
        cases z

theorem walk_ofG {l : PySem.W.OpenLaw} {n k : Nat} {q : Program} {loose : List Str}
    {XP : (Str → Option Value) → Heap → Prop} {YP : World → Heap → Prop} {d : DefRec}
    {K : Params → PySem.W.Frag} {sp : World → Sp} {x : Str}
    (hn : l.most = some n) (hn2 : n ≤ sizeLine) (hdf : d.params.defaults = []) (hr : Room k callerA)
    (hY : ∀ (w : World) (h : Heap), YP w h → (K w.params).In h)
    (F : ∀ (w : World) (mg : Str → Option Value) (fa : Addr) (h : Heap), (K w.params).In h →
      h.Ns mainGlobals mg → mg d.name = some (.ref fa) →
      ∃ fd : FuncData, (∀ (s : Shared) (u : Value), BindsTo s fd ⟨[u], []⟩ [(x, u)]) ∧
        ∀ base : Heap, (K w.params).In base → base.Ns mainGlobals mg →
          FnG l.prog w (K w.params) mg base k fa fd [x] (sp w))
    (hsp : ∀ (w : World) (H : Hp) (a : Addr) (ns : List Int), ns.length ≤ n → Only H →
      SqL (K w.params) H a (ns.map V.int) → sp w [.ref a] H (fun v _ => v = .bl true) E0) :
    PySem.W.WalkO q loose XP YP l.row.toRowW d [] (fun f vs => PySem.call f vs) := by
  refine Att.attach_call hn hdf fun w s₀ s₁ mg mb fa o pm cd doc a vs ns G Y ho hd hcd hmg hobj hints hlen hg => ?_
  obtain ⟨fd, hb, hF⟩ := F w mg fa _ (hY w _ Y) G.T.g hmg
  exact law_callG (hY w _ Y) G.T.g G.T.b G.T.builtins G.T.nolimit hg hobj hints
    (Nat.le_trans hlen hn2) hr hF hb fun H hO hS => hsp w H a ns hlen hO hS
end TL
namespace TL
open PySem PySem.Spec PyProof.Rows L2

/-! ### repr of data -/
structure Shows (d : PyData) : Prop where
  can : d.showable = true
  nod : d.hasDict = false
  deep : d.depth ≤ 60
  fits : d.shown.length ≤ sizeLine
def rRepr (K : PySem.W.Frag) : List V → Hp → VK → Prop := fun xs H Q =>
  ∃ (y : V) (d : PyData), xs = [y] ∧ Dp K H y d ∧ Shows d ∧ Q (.str d.shown) H
section
variable {X : Cx}
theorem call_reprD (gd : X.A.guards = some []) (hu : X.A.units + 64 < cLine) :
    CallR X (.builtin "repr") (rRepr X.K) := by
  intro pins s σ H xs us Q I r h
  obtain ⟨y, d, rfl, hd, sh, q⟩ := h
  cases r with
  | cons r1 r2 =>
    rename_i u us'
    cases r2
    obtain ⟨as, rd⟩ := Dp.reads I d y u hd r1
    have big : ∀ a, u = Value.ref a → wpAny (model X.prog X.w) X.A (call (.builtin "repr") [u]) (EP X pins σ Q) X.xe s := by
      intro a e
      subst e
      refine repr_of_reads' rd sh.can (fun z => ?_) gd (by have := sh.deep; omega) (fun _ _ e => e) (fun h' u tk hk => ?_) sh.fits
      · rw [sh.nod] at z
        cases z
      · exact ⟨.str d.shown, H, I.kept (t' := tk) hk, ⟨u, rfl⟩, q⟩
    cases hd with
    | non =>
      obtain rfl : u = Value.none := r1
      rw [PyData.shown_none] at q
      exact PySem.P.repr_of_none ⟨.str _, H, I.tok _, ⟨_, rfl⟩, q⟩
    | bl b =>
      obtain rfl : u = Value.bool b := r1
      rw [PyData.shown_bool] at q
      exact PySem.P.repr_of_bool ⟨.str _, H, I.tok _, ⟨_, rfl⟩, q⟩
    | int i =>
      obtain ⟨t, rfl⟩ := r1
      rw [PyData.shown_int] at q
      exact PySem.P.repr_of_int (by have := sh.can; simpa [PyData.showable] using this) ⟨.str _, H, I.tok _, ⟨_, rfl⟩, q⟩
    | str x =>
      obtain ⟨t, rfl⟩ := r1
      have z := sh.fits
      rw [PyData.shown_str] at q z
      exact PySem.P.repr_of_str ⟨.str _, H, I.tok _, ⟨_, rfl⟩, q⟩ z
    | lst hs ha => exact big _ r1
    | tup hs ha => exact big _ r1
end

/-! ### t[::-1], t a tuple -/
section
variable {prog : Program} {w : World} {A : Around} {E : Value → Shared → Prop} {s : Shared}
theorem fm_congr {α β : Type} (f g : α → Option β) : ∀ l : List α, (∀ x ∈ l, f x = g x) → l.filterMap f = l.filterMap g
  | [], _ => rfl
  | a :: r, h => by
    rw [List.filterMap_cons, List.filterMap_cons, h a List.mem_cons_self, fm_congr f g r fun x hx => h x (List.mem_cons_of_mem _ hx)]
theorem places_back (n : Nat) : Builtin.Slice.slicePlaces ((n : Int) - 1) (-1) (-1) = n := by
  unfold Builtin.Slice.slicePlaces
  rw [if_neg (by decide)]
  by_cases h : (n : Int) - 1 > -1
  · rw [if_pos h]
    have e : ((n : Int) - 1 - -1 - 1) / (- -1) + 1 = (n : Int) := by
      rw [show (- -1 : Int) = 1 by decide, Int.ediv_one]
      omega
    rw [e]
    exact Int.toNat_natCast n
  · rw [if_neg h]
    show (0 : Nat) = n
    omega
theorem pick_back (xs : Array Value) :
    ((List.range xs.size).filterMap fun (m : Nat) => xs[((xs.size : Int) - 1 + (m : Int) * (-1)).toNat]?).toArray = xs.toList.reverse.toArray := by
  have e : (List.range xs.size).filterMap (fun (m : Nat) => xs[((xs.size : Int) - 1 + (m : Int) * (-1)).toNat]?)
      = ((List.range xs.size).map fun k => xs.size - 1 - k).filterMap (xs[·]?) := by
    rw [List.filterMap_map]
    refine fm_congr _ _ _ fun m hm => ?_
    have := List.mem_range.mp hm
    have q : ((xs.size : Int) - 1 + (m : Int) * (-1)).toNat = xs.size - 1 - m := by omega
    rw [q]
    rfl
  rw [e, PySem.W.krv_range, List.filterMap_reverse, PySem.W.krv_all]
theorem back_applied {sl : Addr} {vk : Value} {n : Nat} {Q : Int × Int × Nat → Shared → Prop}
    (hs : s.heap.IsSliceOf sl .none .none vk) (pk : IsPart vk (some (-1)))
    (h : Q ((n : Int) - 1, -1, n) s) : wpAny (model prog w) A (Builtin.Slice.sliceApplied (.ref sl) (pure (n : Int))) Q E s := by
  obtain ⟨os, hos, hcs, hds⟩ := id hs
  unfold Builtin.Slice.sliceApplied Builtin.Slice.sliceFields
  refine wpAny_bind (wpAny_bind (wpAny_field hos hds (x := .none) rfl (wpAny_bind (wpAny_field hos hds (x := .none) rfl
    (wpAny_bind (wpAny_field hos hds (x := vk) rfl (wpAny_pure ?_)))))))
  refine wpAny_bind (HT.slicePart_ pk ?_)
  show wpAny _ _ (if ((-1 : Int) == 0) = true then _ else _) _ _ s
  rw [if_neg (by decide)]
  refine wpAny_bind (slicePart_none (wpAny_bind (slicePart_none (wpAny_bind (wpAny_pure ?_)))))
  show wpAny _ _ (pure ((n : Int) - 1, (-1 : Int), Builtin.Slice.slicePlaces ((n : Int) - 1) (-1) (-1))) _ _ s
  rw [places_back]
  exact wpAny_pure h
theorem getItem_back {t sl : Addr} {items : Array Value} {vk : Value} {Q : Value → Shared → Prop}
    (ht : IsTup s.heap t items) (hs : s.heap.IsSliceOf sl .none .none vk) (pk : IsPart vk (some (-1)))
    (h : Q (.ref s.heap.objs.size) { s with heap := s.heap.push { cls := .type "tuple", data := .seq items.toList.reverse.toArray } })
    (hsz : items.size ≤ sizeLine) : wpAny (model prog w) A (getItem (.ref t) (.ref sl)) Q E s := by
  have hz : sizeOk (.seq items.toList.reverse.toArray) := by
    show items.toList.reverse.toArray.size ≤ sizeLine
    rw [List.size_toArray, List.length_reverse, Array.length_toList]
    exact hsz
  obtain ⟨os, hos, hcs, hds⟩ := id hs
  have hTs : s.TypeIs (.ref sl) "slice" := ⟨os, hos, hcs⟩
  unfold getItem
  try with_reducible refine wpAny_holding ?_
  first | refine wpAny_bind (wpAny_pure ?_) | skip
  refine wpAny_bind (wpAny_sequenceKey ht.typeIs (by decide) ?_)
  refine wpAny_bind (wpAny_callSpecial?_slot (name := Str.ofString "__getitem__") ht.typeIs
    PyProof.Rows.slot_tuple_getitem (wpAny_call_entry PyProof.Rows.slot_tuple_getitem ht.typeIs
      entry_tuple_getitem ?_ (args_tuple_getitem _ _)))
  show wpAny _ _ (Builtin.Tuple.tupleItemsOf (.ref t) >>= _) _ _ s
  refine wpAny_bind (tupleItemsOf_ ht (wpAny_bind (wpAny_typeOf hTs ?_)))
  rw [if_pos (by decide)]
  refine wpAny_bind (back_applied hs pk ?_)
  show wpAny _ _ (if (((items.size : Int) - 1 == 0) && ((-1 : Int) == 1) && (items.size == items.size)) = true then _ else _) _ _ s
  rw [if_neg (by rw [show ((-1 : Int) == 1) = false by decide, Bool.and_false, Bool.false_and]; decide), pick_back]
  first
    | exact wpAny_bind (m := Builtin.Tuple.tupleExact _) (wpAny_newObj_type (wpAny_pure ⟨_, rfl, wpAny_pure h⟩) hz)
    | exact wpAny_bind (m := Builtin.Tuple.tupleExact _) (wpAny_newObj_type (wpAny_bind (wpAny_pure (wpAny_pure ⟨_, rfl, wpAny_pure h⟩))) hz)
    | exact wpAny_bind (wpAny_bind (m := Builtin.Tuple.tupleExact _) (wpAny_newObj_type (wpAny_pure (wpAny_pure ⟨_, rfl, wpAny_pure h⟩)) hz))
    | exact wpAny_bind (wpAny_bind (m := Builtin.Tuple.tupleExact _) (wpAny_newObj_type (wpAny_pure ⟨_, rfl, wpAny_pure h⟩) hz))
end
section
variable {X : Cx}
def tRevT (K : PySem.W.Frag) (te : TE) : TE := fun σ H Q => te σ H fun x H1 =>
  ∃ a xs, x = .ref a ∧ SqT K H1 a xs ∧ ∀ p, H1 p = none → Q (.ref p) (upd H1 p (.tup xs.reverse))
theorem pe_revT {e : Expr} {te : TE} {k : Nat} {p1 p2 p3 pos : Pos} (he : PE X e te) :
    PE X (.Subscript e (.Slice none none (some (.UnaryOp .USub (.Constant (.int 1) k p1) p2)) p3) pos) (tRevT X.K te) := by
  refine ⟨fun pins s σ H Q I h => Subscript_ (thn (he.run pins s σ H _ I h) fun v s1 ⟨x, H1, I1, r1, q1⟩ => ?_)⟩
  obtain ⟨a, xs, ex, hx, q⟩ := q1
  subst ex
  cases r1
  have hst : PO X (some (.UnaryOp .USub (.Constant (.int 1) k p1) p2))
    (tPart (tUn (rU fun i => .int (-i)) (tC (.int 1)))) := po_some (pe_un un_neg pe_int)
  refine wpAny_Slice ?_
  rw [evalPart_none]
  refine wpAny_pure ?_
  refine wpAny_pure ?_
  refine thn (hst.run pins s1 σ H1 (fun o H4 => o = some (-1) ∧ H4 = H1) I1 ⟨1, rfl, -1, rfl, rfl, rfl⟩)
    fun vk s4 ⟨o, H4, I4, pk, eo, e4⟩ => ?_
  subst eo e4
  have I5 : Inv X pins σ H4 { s4 with heap := s4.heap.push { cls := .type "slice", data := .fields #[.none, .none, vk] } } :=
    I4.kept (t' := s4.toks) fun b ob q => Heap.get?_push_of_some _ q
  obtain ⟨its, r, ht, hz⟩ := I5.tuple hx
  have hlen := r.length
  refine tail_any (ops := [.ref a, .ref s4.heap.objs.size]) ht.typeIs PyProof.Rows.slot_tuple_getitem.lookup ?_ (by with_unfolding_all rfl)
  refine getItem_back ht (Heap.IsSliceOf.new _ .none .none vk) pk ?_ (by rw [List.size_toArray]; omega)
  refine ⟨.ref _, _, I5.laid (t' := s4.toks) (o := .tup xs.reverse) (fun b ob q => Heap.get?_push_of_some _ q) (Nat.le_refl _) ?_,
    rfl, q _ (I5.hok.fresh (Nat.le_refl _))⟩
  exact ⟨by rw [List.length_reverse]; exact hz, _, r.reverse, IsTup.new _ _⟩
end
/-! ### the rules with the written part as a letter of its own (within comprehensions) -/
section
variable {X : Cx}
theorem ixTK (K : PySem.W.Frag) (h : X.K = K := by rfl) : IxR X (rIxT K) := h ▸ ix_tup
theorem ixLK (K : PySem.W.Frag) (h : X.K = K := by rfl) : IxR X (rIxL K) := h ▸ ix_list
def rLenK (K : PySem.W.Frag) : List V → Hp → VK → Prop := fun xs H Q => ∃ p ys, xs = [.ref p] ∧ (SqL K H p ys ∨ SqT K H p ys) ∧ Q (.int ys.length) H
theorem lenK (K : PySem.W.Frag) (h : X.K = K := by rfl) : CallR X (.builtin "len") (rLenK K) := h ▸ call_len_seq
def rTupK (K : PySem.W.Frag) : List V → Hp → VK → Prop := fun xs H Q => ∃ p ys, xs = [.ref p] ∧
  ((SqL K H p ys ∧ ∀ l, H l = none → Q (.ref l) (upd H l (.tup ys))) ∨ (SqT K H p ys ∧ Q (.ref p) H))
theorem tupleK (K : PySem.W.Frag) (h : X.K = K := by rfl) : CallR X (.type "tuple") (rTupK K) := h ▸ call_tuple_of
theorem catAK (K : PySem.W.Frag) (h : X.K = K := by rfl) : OpR X (binaryOp .Add) (rCatA K) := h ▸ op_catA
theorem revTK (K : PySem.W.Frag) {e : Expr} {te : TE} {k : Nat} {p1 p2 p3 pos : Pos} (he : PE X e te) (h : X.K = K := by rfl) :
    PE X (.Subscript e (.Slice none none (some (.UnaryOp .USub (.Constant (.int 1) k p1) p2)) p3) pos) (tRevT K te) := h ▸ pe_revT he
theorem reprK (K : PySem.W.Frag) (gd : X.A.guards = some []) (hu : X.A.units + 64 < cLine) (h : X.K = K := by rfl) :
    CallR X (.builtin "repr") (rRepr K) := h ▸ call_reprD gd hu
end
end TL
namespace TL
open PySem PySem.Spec PyProof.Rows L2

/-! ### heaps -/
theorem same_upd {H : Hp} {p : Addr} {o : HO} (h : H p = none) : Same H (upd H p o) := fun b x e => by
  rw [upd_ne (ne_of_none e h)]
  exact e
theorem Same.tup {K : PySem.W.Frag} {H H' : Hp} {a : Addr} {xs : List V} (e : Same H H') (h : SqT K H a xs) : SqT K H' a xs := by
  rcases h with (h | ⟨o, h⟩) | h
  · exact .inl (.inl (e _ _ h))
  · exact .inl (.inr ⟨o, e _ _ h⟩)
  · exact .inr h
/-- every tuple stays -/
def KT (K : PySem.W.Frag) (H H' : Hp) : Prop := ∀ a xs, SqT K H a xs → SqT K H' a xs
theorem KT.refl {K : PySem.W.Frag} {H : Hp} : KT K H H := fun _ _ h => h
theorem KT.trans {K : PySem.W.Frag} {H H1 H2 : Hp} (a : KT K H H1) (b : KT K H1 H2) : KT K H H2 := fun c o h => b c o (a c o h)
theorem Same.kt {K : PySem.W.Frag} {H H' : Hp} (e : Same H H') : KT K H H' := fun _ _ h => Same.tup e h
/-- all but what stands at d and l is as it was -/
def Fm (d l : Addr) (H H' : Hp) : Prop := ∀ b o, b ≠ d → b ≠ l → H b = some o → H' b = some o
theorem Fm.refl {d l : Addr} {H : Hp} : Fm d l H H := fun _ _ _ _ h => h
theorem Fm.trans {d l : Addr} {H H1 H2 : Hp} (a : Fm d l H H1) (b : Fm d l H1 H2) : Fm d l H H2 :=
  fun c o h1 h2 h => b c o h1 h2 (a c o h1 h2 h)
theorem Same.fm {d l : Addr} {H H' : Hp} (e : Same H H') : Fm d l H H' := fun b o _ _ h => e b o h

/-! ### the deck: a list of cells and a count -/
def Deck (H : Hp) (d l : Addr) (n : Nat) : Prop := ∃ (c : Nat) (ns : List Int), c ≤ n ∧
  H d = some (.lst [.ref l, .int (c : Int)]) ∧ H l = some (.lst (ns.map V.int)) ∧ (∀ z ∈ ns, 0 ≤ z) ∧ ns.length ≤ 63
theorem Deck.ne {H : Hp} {d l : Addr} {n : Nat} (h : Deck H d l n) : d ≠ l := by
  obtain ⟨c, ns, _, h1, h2, _⟩ := h
  intro e
  rw [e, h2] at h1
  cases ns with
  | nil => cases h1
  | cons z r => cases h1
theorem Deck.same {H H' : Hp} {d l : Addr} {n : Nat} (h : Deck H d l n) (e : Same H H') : Deck H' d l n := by
  obtain ⟨c, ns, hc, h1, h2, h3⟩ := h
  exact ⟨c, ns, hc, e _ _ h1, e _ _ h2, h3⟩
theorem Deck.le {H : Hp} {d l : Addr} {n m : Nat} (h : Deck H d l n) (e : n ≤ m) : Deck H d l m := by
  obtain ⟨c, ns, hc, h3⟩ := h
  exact ⟨c, ns, Nat.le_trans hc e, h3⟩
theorem Fm.kt {K : PySem.W.Frag} {H H' : Hp} {d l : Addr} {n : Nat} (e : Fm d l H H') (h : Deck H d l n) : KT K H H' := by
  obtain ⟨c, ns, hc, h1, h2, h3⟩ := h
  intro a xs q
  rcases q with (q | ⟨o, q⟩) | q
  · refine .inl (.inl (e _ _ (fun z => ?_) (fun z => ?_) q))
    · rw [z, h1] at q; cases q
    · rw [z, h2] at q; cases q
  · refine .inl (.inr ⟨o, e _ _ (fun z => ?_) (fun z => ?_) q⟩)
    · rw [z, h1] at q; cases q
    · rw [z, h2] at q; cases q
  · exact .inr q
/-- a tracked thing that is neither -/
theorem Deck.off {H : Hp} {d l a : Addr} {n : Nat} (h : Deck H d l n) (ha : H a = none) : a ≠ d ∧ a ≠ l := by
  obtain ⟨c, ns, hc, h1, h2, h3⟩ := h
  exact ⟨fun z => (by rw [z, h1] at ha; cases ha), fun z => (by rw [z, h2] at ha; cases ha)⟩

theorem Deck.put {H : Hp} {d l a : Addr} {n : Nat} {o : HO} (h : Deck H d l n) (h1 : a ≠ d) (h2 : a ≠ l) : Deck (upd H a o) d l n := by
  obtain ⟨c, ns, hc, e1, e2, h3⟩ := h
  exact ⟨c, ns, hc, by rw [upd_ne h1.symm]; exact e1, by rw [upd_ne h2.symm]; exact e2, h3⟩
theorem kt_lst {K : PySem.W.Frag} {H : Hp} {a : Addr} {xs ys : List V} (h : H a = some (.lst xs)) : KT K H (upd H a (.lst ys)) := by
  intro b zs q
  rcases q with (q | ⟨o, q⟩) | q
  · refine .inl (.inl ?_)
    rw [upd_ne fun z => by rw [z, h] at q; cases q]
    exact q
  · refine .inl (.inr ⟨o, ?_⟩)
    rw [upd_ne fun z => by rw [z, h] at q; cases q]
    exact q
  · exact .inr q

/-! ### data -/
mutual
def only : PyData → Bool
  | .none => true
  | .bool _ => true
  | .int _ => true
  | .str _ => true
  | .tuple xs => onlyAll xs
  | .list _ => false
  | .dict _ => false
def onlyAll : List PyData → Bool
  | [] => true
  | x :: xs => only x && onlyAll xs
end
section
variable {K : PySem.W.Frag} {H H' : Hp}
mutual
theorem Dp.kt (e : KT K H H') : ∀ {v : V} {d : PyData}, Dp K H v d → only d = true → Dp K H' v d
  | _, _, .non, _ => .non
  | _, _, .bl b, _ => .bl b
  | _, _, .int i, _ => .int i
  | _, _, .str x, _ => .str x
  | _, _, .lst h a, o => by
    unfold only at o
    cases o
  | _, _, .tup h a, o => .tup (e _ _ h) (DpAll.kt e a (by unfold only at o; exact o))
theorem DpAll.kt (e : KT K H H') : ∀ {v : List V} {d : List PyData}, DpAll K H v d → onlyAll d = true → DpAll K H' v d
  | _, _, .nil, _ => .nil
  | _, _, .cons h a, o => by
    unfold onlyAll at o
    rw [Bool.and_eq_true] at o
    exact .cons (Dp.kt e h o.1) (DpAll.kt e a o.2)
end
mutual
theorem Dp.same (e : Same H H') : ∀ {v : V} {d : PyData}, Dp K H v d → Dp K H' v d
  | _, _, .non => .non
  | _, _, .bl b => .bl b
  | _, _, .int i => .int i
  | _, _, .str x => .str x
  | _, _, .lst h a => .lst (e.seq h) (DpAll.same e a)
  | _, _, .tup h a => .tup (Same.tup e h) (DpAll.same e a)
theorem DpAll.same (e : Same H H') : ∀ {v : List V} {d : List PyData}, DpAll K H v d → DpAll K H' v d
  | _, _, .nil => .nil
  | _, _, .cons h a => .cons (Dp.same e h) (DpAll.same e a)
end
theorem DpAll.length : ∀ {v : List V} {d : List PyData}, DpAll K H v d → v.length = d.length
  | _, _, .nil => rfl
  | _, _, .cons _ a => congrArg (· + 1) (DpAll.length a)
theorem DpAll.append : ∀ {v u : List V} {d e : List PyData}, DpAll K H v d → DpAll K H u e → DpAll K H (v ++ u) (d ++ e)
  | _, _, _, _, .nil, b => b
  | _, _, _, _, .cons h a, b => .cons h (DpAll.append a b)
theorem DpAll.reverse : ∀ {v : List V} {d : List PyData}, DpAll K H v d → DpAll K H v.reverse d.reverse
  | _, _, .nil => .nil
  | _, _, .cons h a => by
    rw [List.reverse_cons, List.reverse_cons]
    exact DpAll.append (DpAll.reverse a) (.cons h .nil)
theorem DpAll.get : ∀ {v : List V} {d : List PyData} {i : Nat} {x : V}, DpAll K H v d → v[i]? = some x → ∃ z, d[i]? = some z ∧ Dp K H x z
  | _, _, _, _, .nil, q => by simp at q
  | _, _, 0, _, .cons h a, q => by
    rw [List.getElem?_cons_zero] at q
    cases q
    exact ⟨_, List.getElem?_cons_zero, h⟩
  | _, _, i + 1, _, .cons h a, q => by
    rw [List.getElem?_cons_succ] at q
    obtain ⟨z, e, r⟩ := DpAll.get a q
    exact ⟨z, by rw [List.getElem?_cons_succ]; exact e, r⟩
theorem Dp.tupI {v : V} {ds : List PyData} (h : Dp K H v (.tuple ds)) : ∃ a xs, v = .ref a ∧ SqT K H a xs ∧ DpAll K H xs ds := by
  cases h with
  | tup h a => exact ⟨_, _, rfl, h, a⟩
theorem Dp.lstI {v : V} {ds : List PyData} (h : Dp K H v (.list ds)) : ∃ a xs, v = .ref a ∧ SqL K H a xs ∧ DpAll K H xs ds := by
  cases h with
  | lst h a => exact ⟨_, _, rfl, h, a⟩
theorem Dp.intI {v : V} {i : Int} (h : Dp K H v (.int i)) : v = .int i := by
  cases h
  rfl
theorem DpAll.ints : ∀ {xs : List V} {ns : List Int}, DpAll K H xs (ns.map .int) → xs = ns.map V.int
  | [], [], _ => rfl
  | _ :: _, n :: ns, .cons h a => by
    rw [Dp.intI h, DpAll.ints a]
    rfl
theorem DpAll.of_ints : ∀ (ns : List Int), DpAll K H (ns.map V.int) (ns.map .int)
  | [] => .nil
  | n :: ns => .cons (.int n) (DpAll.of_ints ns)
end

/-! ### pairs of ints -/
def prD (p : Int × Int) : PyData := .tuple [.int p.1, .int p.2]
def prsD (ps : List (Int × Int)) : PyData := .tuple (ps.map prD)
theorem only_pr (p : Int × Int) : only (prD p) = true := by simp [prD, only, onlyAll]
theorem only_prs : ∀ ps : List (Int × Int), onlyAll (ps.map prD) = true
  | [] => by simp [onlyAll]
  | p :: ps => by simp [onlyAll, only_pr p, only_prs ps]
theorem only_prsD (ps : List (Int × Int)) : only (prsD ps) = true := by
  unfold prsD only
  exact only_prs ps
section
variable {K : PySem.W.Frag} {H : Hp}
theorem Dp.prI {v : V} {p : Int × Int} (h : Dp K H v (prD p)) : ∃ a, v = .ref a ∧ SqT K H a [.int p.1, .int p.2] := by
  obtain ⟨a, xs, e, h1, h2⟩ := Dp.tupI h
  have q : xs = [p.1, p.2].map V.int := DpAll.ints (ns := [p.1, p.2]) h2
  subst q
  exact ⟨a, e, h1⟩
theorem Dp.pr {a : Addr} {i j : Int} (h : SqT K H a [.int i, .int j]) : Dp K H (.ref a) (prD (i, j)) :=
  .tup h (.cons (.int i) (.cons (.int j) .nil))
end

/-! ### showing small data -/
def sm (i : Int) : Prop := -1000 ≤ i ∧ i ≤ 1000
theorem sm_log {i : Int} (h : sm i) : i.natAbs.log2 < 10 := by
  have h2 : i.natAbs < 2 ^ 10 := by
    unfold sm at h
    omega
  exact PySem.Flt.log2_lt_of (by decide) h2
structure Sm (d : PyData) (n k : Nat) : Prop where
  can : d.showable = true
  nod : d.hasDict = false
  deep : d.depth ≤ k
  short : d.leavesShort 13 = true
  light : d.weight ≤ n
theorem Sm.shows {d : PyData} {n k : Nat} (h : Sm d n k) (hn : n ≤ 1000000) (hk : k ≤ 60) : Shows d :=
  ⟨h.can, h.nod, Nat.le_trans h.deep hk, PyData.shown_fits (by decide) (by decide) h.short (Nat.le_trans h.light (by omega))⟩
theorem Sm.le {d : PyData} {n k m j : Nat} (h : Sm d n k) (hn : n ≤ m) (hk : k ≤ j) : Sm d m j :=
  ⟨h.can, h.nod, Nat.le_trans h.deep hk, h.short, Nat.le_trans h.light hn⟩
theorem Sm.none : Sm .none 0 0 := ⟨rfl, rfl, Nat.le_refl _, rfl, Nat.le_refl _⟩
theorem Sm.bool (b : Bool) : Sm (.bool b) 0 0 := ⟨rfl, rfl, Nat.le_refl _, rfl, Nat.le_refl _⟩
theorem Sm.int {i : Int} (h : sm i) : Sm (.int i) 10 0 := by
  have h1 := sm_log h
  refine ⟨?_, by simp [PyData.hasDict], by simp [PyData.depth], ?_, ?_⟩
  · simp only [PyData.showable]
    exact decide_eq_true (by omega)
  · simp only [PyData.leavesShort]
    exact decide_eq_true (PyData.shown_int_le (by unfold sm at h; omega))
  · simp only [PyData.weight]
    split <;> omega
structure SmA (ds : List PyData) (n k : Nat) : Prop where
  can : PyData.showableAll ds = true
  nod : PyData.hasDictAll ds = false
  deep : PyData.depthAll ds ≤ k
  short : PyData.leavesShortAll 13 ds = true
  light : PyData.weightAll ds ≤ ds.length * (n + 1)
theorem SmA.of {n k : Nat} : ∀ {ds : List PyData}, (∀ d ∈ ds, Sm d n k) → SmA ds n k
  | [], _ => ⟨rfl, rfl, by simp [PyData.depthAll], rfl, by simp [PyData.weightAll]⟩
  | d :: ds, h => by
    have h1 := h d List.mem_cons_self
    have h2 := SmA.of (n := n) (k := k) fun e he => h e (List.mem_cons_of_mem _ he)
    refine ⟨?_, ?_, ?_, ?_, ?_⟩
    · simp only [PyData.showableAll, h1.can, h2.can, Bool.and_self]
    · simp only [PyData.hasDictAll, h1.nod, h2.nod, Bool.or_self]
    · simp only [PyData.depthAll]
      exact Nat.max_le.mpr ⟨h1.deep, h2.deep⟩
    · simp only [PyData.leavesShortAll, h1.short, h2.short, Bool.and_self]
    · have a := h1.light
      have b := h2.light
      simp only [PyData.weightAll, List.length_cons, Nat.add_mul, Nat.one_mul]
      omega
theorem Sm.tup {n k m : Nat} {ds : List PyData} (h : ∀ d ∈ ds, Sm d n k) (hm : ds.length ≤ m) : Sm (.tuple ds) (m * (n + 1)) (k + 1) := by
  have q := SmA.of h
  have z : ds.length * (n + 1) ≤ m * (n + 1) := Nat.mul_le_mul_right _ hm
  refine ⟨?_, ?_, ?_, ?_, ?_⟩
  · simp only [PyData.showable]; exact q.can
  · simp only [PyData.hasDict]; exact q.nod
  · simp only [PyData.depth]; have := q.deep; omega
  · simp only [PyData.leavesShort]; exact q.short
  · simp only [PyData.weight]; exact Nat.le_trans q.light z
theorem Sm.lst {n k m : Nat} {ds : List PyData} (h : ∀ d ∈ ds, Sm d n k) (hm : ds.length ≤ m) : Sm (.list ds) (m * (n + 1)) (k + 1) := by
  have q := SmA.of h
  have z : ds.length * (n + 1) ≤ m * (n + 1) := Nat.mul_le_mul_right _ hm
  refine ⟨?_, ?_, ?_, ?_, ?_⟩
  · simp only [PyData.showable]; exact q.can
  · simp only [PyData.hasDict]; exact q.nod
  · simp only [PyData.depth]; have := q.deep; omega
  · simp only [PyData.leavesShort]; exact q.short
  · simp only [PyData.weight]; exact Nat.le_trans q.light z
def smP (p : Int × Int) : Prop := sm p.1 ∧ sm p.2
theorem Sm.pr {p : Int × Int} (h : smP p) : Sm (prD p) 22 1 :=
  Sm.tup (n := 10) (k := 0) (m := 2) (fun d hd => by
    rcases List.mem_cons.mp hd with rfl | hd
    · exact Sm.int h.1
    · rcases List.mem_cons.mp hd with rfl | hd
      · exact Sm.int h.2
      · exact nomatch hd) (Nat.le_refl _)
theorem Sm.prs {ps : List (Int × Int)} {m : Nat} (h : ∀ p ∈ ps, smP p) (hm : ps.length ≤ m) : Sm (prsD ps) (m * 23) 2 :=
  Sm.tup (n := 22) (k := 1) (m := m) (fun d hd => by
    obtain ⟨p, hp, rfl⟩ := List.mem_map.mp hd
    exact Sm.pr (h p hp)) (by rw [List.length_map]; exact hm)
end TL
namespace TL
open PySem PySem.Spec PyProof.Rows L2
theorem yesI {σ : L2.St} {H : Hp} {Q : Bool → Hp → Prop} (h : Q true H) : tYes σ H Q := h
/-- what a comprehension asks of its turns -/
def LcGoal (J : It) (g : TG) (tt : TT) (te : TE) (vs : List Nat) (σ : L2.St) (H1 : Hp) (D : Addr) (Qd : Hp → Prop) : Prop :=
  ∃ W : Nat → Nat → Hp → Prop, (∃ m, W 0 m (upd H1 D (.lst []))) ∧ ∀ i m H, W i m H →
    (J.stop i H ∧ Qd H) ∨
    (J.go i H ∧ ∃ Nx : Hp → Prop, (∀ H', Nx H' → ∃ m', m' < m ∧ W (i + 1) m' H') ∧
      ∀ x H', J.yld i H x H' → g x (wipe σ vs) H' fun σ2 H2 =>
        wipe σ2 vs = wipe σ vs ∧ tt σ2 H2 fun b H3 =>
          if b = true then
            te σ2 H3 fun y H4 => ∃ acc, H4 D = some (.lst acc) ∧ acc.length < sizeLine ∧ Nx (upd H4 D (.lst (acc ++ [y])))
          else Nx H3)
/-- by the number of turns -/
theorem lc_by {J : It} {g : TG} {tt : TT} {te : TE} {vs : List Nat} {σ : L2.St} {H1 : Hp} {D : Addr} {Qd : Hp → Prop} (n : Nat)
    (Pv : Nat → Hp → Prop) (h0 : Pv 0 (upd H1 D (.lst []))) (hgo : ∀ i H, i < n → Pv i H → J.go i H) (hst : ∀ H, Pv n H → J.stop n H)
    (hs : ∀ i x H H', i < n → Pv i H → J.yld i H x H' → g x (wipe σ vs) H' fun σ2 H2 =>
      wipe σ2 vs = wipe σ vs ∧ tt σ2 H2 fun b H3 =>
        if b = true then
          te σ2 H3 fun y H4 => ∃ acc, H4 D = some (.lst acc) ∧ acc.length < sizeLine ∧ Pv (i + 1) (upd H4 D (.lst (acc ++ [y])))
        else Pv (i + 1) H3)
    (hd : ∀ H, Pv n H → Qd H) : LcGoal J g tt te vs σ H1 D Qd := by
  refine ⟨fun i m H => m = n - i ∧ i ≤ n ∧ Pv i H, ⟨n, rfl, Nat.zero_le _, h0⟩, fun i m H hW => ?_⟩
  obtain ⟨e, hi, p⟩ := hW
  by_cases hlt : i < n
  · refine .inr ⟨hgo i H hlt p, Pv (i + 1), fun H' p' => ⟨n - (i + 1), by omega, rfl, hlt, p'⟩, fun x H' y => hs i x H H' hlt p y⟩
  · obtain rfl : i = n := by omega
    exact .inl ⟨hst H p, hd H p⟩
/-- over reversed(a tuple) -/
theorem lc_revT {K : PySem.W.Frag} {a : Addr} {xs : List V} {g : TG} {tt : TT} {te : TE} {vs : List Nat} {σ : L2.St} {H1 : Hp} {D : Addr} {Qd : Hp → Prop}
    (Pv : Nat → Hp → Prop) (h0 : Pv 0 (upd H1 D (.lst []))) (hl : ∀ i H, Pv i H → SqT K H a xs)
    (hs : ∀ i x H, i < xs.length → xs[xs.length - 1 - i]? = some x → Pv i H → g x (wipe σ vs) H fun σ2 H2 =>
      wipe σ2 vs = wipe σ vs ∧ tt σ2 H2 fun b H3 =>
        if b = true then
          te σ2 H3 fun y H4 => ∃ acc, H4 D = some (.lst acc) ∧ acc.length < sizeLine ∧ Pv (i + 1) (upd H4 D (.lst (acc ++ [y])))
        else Pv (i + 1) H3)
    (hd : ∀ H, Pv xs.length H → Qd H) : LcGoal (RT.ItvT K a xs.length) g tt te vs σ H1 D Qd := by
  refine lc_by xs.length Pv h0 (fun i H hi p => ?_) (fun H p => Nat.le_refl _) (fun i x H H' hi p y => ?_) hd
  · have hj : xs.length - 1 - i < xs.length := by omega
    exact ⟨hi, xs, _, hl i H p, List.getElem?_eq_getElem hj⟩
  · obtain ⟨e, hy⟩ := y
    subst e
    exact hs i x _ hi (hy xs (hl i _ p)) p
end TL
namespace TL
open PySem PySem.Spec PyProof.Rows L2
def topS (i : Nat) : Stmt := PySem.Challenge.pw_treelamps_k08_slides_backward.main.body.getD i (.Pass ⟨0, 0, 0, 0⟩)
abbrev sBack : Stmt := topS 1
abbrev sDeck : Stmt := topS 3
abbrev sDraw : Stmt := topS 4
abbrev sSame : Stmt := topS 5
abbrev sPairs : Stmt := topS 6
abbrev sLaw : Stmt := topS 7
theorem scDeck : FnScope ["_law_script", "_law_cell"] ["_law_script"] (defScope sDeck) := ⟨rfl, rfl, rfl, by decide +kernel, rfl, by decide +kernel, by decide +kernel⟩
theorem scDraw : FnScope ["_law_deck_here", "_law_limit", "_law_cell", "_law_index"] ["_law_deck_here", "_law_limit"] (defScope sDraw) := ⟨rfl, rfl, rfl, by decide +kernel, rfl, by decide +kernel, by decide +kernel⟩
theorem scSame : FnScope ["_law_value", "_law_due"] ["_law_value", "_law_due"] (defScope sSame) := ⟨rfl, rfl, rfl, by decide +kernel, rfl, by decide +kernel, by decide +kernel⟩
theorem scPairs : FnScope ["_law_deck_here", "_law_k"] ["_law_deck_here"] (defScope sPairs) := ⟨rfl, rfl, rfl, by decide +kernel, rfl, by decide +kernel, by decide +kernel⟩
theorem scBack : FnScope ["slides", "u", "v"] ["slides"] (defScope sBack) := ⟨rfl, rfl, rfl, by decide +kernel, rfl, by decide +kernel, by decide +kernel⟩
theorem scLaw : FnScope ["_law_script", "_law_deck_here", "_law_turn", "_law_first", "_law_second", "_law_due", "_law_before", "_law_k"] ["_law_script"] (defScope sLaw) := ⟨rfl, rfl, rfl, by decide +kernel, rfl, by decide +kernel, by decide +kernel⟩
section
variable {P : Program} {w : World} {K : PySem.W.Frag} {mg : Str → Option Value} {base : Heap}
/-! ### the deck and its draws -/
def spDeck (K : PySem.W.Frag) : Sp := fun vs H Q _ => ∃ (a : Addr) (ns : List Int), vs = [.ref a] ∧
  SqL K H a (ns.map V.int) ∧ ns.length ≤ 63 ∧ ∀ H' d l, Same H H' → Deck H' d l 0 → Q (.ref d) H'
theorem cut63 {ns : List Int} (h : ns.length ≤ 63) : cutV (ns.map V.int) none (some 63) = ns.map V.int := by
  unfold cutV
  rw [HT.sIx_none, show HT.sIx (ns.map V.int).length (ns.map V.int).length (some 63) = min 63 (ns.map V.int).length from HT.sIx_nat _ _ 63]
  rw [List.drop_zero]
  exact List.take_of_length_le (by rw [List.length_map]; omega)
theorem ok_deck {f : Addr} {fd : FuncData} {k : Nat} (F : Fun K "_law_deck" "_law_deck" sDeck f fd) (mAbs : mg "abs" = none) :
    FnOk P w K mg base CX0 (k + 1) f fd ["_law_script"] (spDeck K) := by
  refine F.ok scDeck (fun vs H Q E h => ?_) (fun cdv A outer s H vs Q E hr h => ?_)
  · obtain ⟨a, ns, rfl, _⟩ := h
    rfl
  · obtain ⟨a, ns, rfl, hS, hlen, q⟩ := h
    refine ⟨_, pss_one (ps_ret (pe_lst (pa_cons (pe_lc (own := [("_law_cell", 1)]) (g := gName 1) (tt := tYes) rfl scDeck.nd
      (pi_list (pe_slice sl_list (pv 0) po_none (po_some pe_int)))
      (blkOk_by (own := [("_law_cell", 1)]) (N := ["_law_script", "_law_cell"]) (sc := defScope sDeck) (by decide +kernel))
      (fun _ _ _ _ _ => pg_name (i := 1) scDeck.nd rfl (Or.inl rfl)) (fun _ _ _ _ _ => pts_nil)
      (fun _ _ _ _ _ => pe_callB call_abs (by rfl) mAbs (by decide +kernel) (pa_cons (pv 1) pa_nil))) (pa_cons pe_int pa_nil)))), ?_⟩
    refine ⟨.ref a, rfl, 63, rfl, a, ns.map V.int, rfl, hS, fun c nc => ?_⟩
    rw [cut63 hlen]
    refine ⟨c, rfl, ⟨_, SqL.of upd_same⟩, fun D nD => ?_⟩
    have s1 : Same H (upd H c (.lst (ns.map V.int))) := same_upd nc
    have s2 : Same (upd H c (.lst (ns.map V.int))) (upd (upd H c (.lst (ns.map V.int))) D (.lst [])) := same_upd nD
    have ncD : c ≠ D := ne_of_none (upd_same) nD
    have nHD : H D = none := s1.free nD
    refine lc_list (K := K) (a := c) (xs := ns.map V.int) (fun i H' => Same H H' ∧ H' c = some (.lst (ns.map V.int)) ∧
      H' D = some (.lst (((ns.take i).map fun z => if z < 0 then -z else z).map V.int))) ?_ ?_ ?_ ?_
    · exact ⟨s1.trans s2, by rw [upd_ne ncD, upd_same], by rw [upd_same]; rfl⟩
    · exact fun i H' _ p => SqL.of p.2.1
    · rintro i x H' hx ⟨p1, p2, p3⟩
      rw [List.getElem?_map] at hx
      obtain ⟨z, hz, rfl⟩ := Option.map_eq_some_iff.mp hx
      obtain ⟨hi, _⟩ := List.getElem?_eq_some_iff.mp hz
      refine ⟨rfl, yesI (iteT ?_)⟩
      refine ⟨.int z, rfl, z, rfl, _, p3, ?_, ?_, ?_, ?_⟩
      · rw [List.length_map, List.length_map, List.length_take]
        exact small1000 (by omega)
      · exact fun b o e => by
          have nb : b ≠ D := ne_of_none e nHD
          rw [upd_ne nb]
          exact p1 b o e
      · rw [upd_ne ncD]
        exact p2
      · rw [upd_same, List.take_add_one, hz, List.map_append, List.map_append]
        rfl
    · rintro H' ⟨p1, p2, p3⟩
      rw [List.length_map, List.take_length] at p3
      refine ⟨by show 2 ≤ sizeLine; decide, fun d nd => ?_⟩
      have ndD : D ≠ d := ne_of_none p3 nd
      refine q _ d D (p1.trans (same_upd nd)) ⟨0, (ns.map fun z => if z < 0 then -z else z), Nat.le_refl _, ?_, ?_, ?_, ?_⟩
      · rw [upd_same]
        rfl
      · rw [upd_ne ndD]
        exact p3
      · intro z hz
        obtain ⟨y, _, rfl⟩ := List.mem_map.mp hz
        show 0 ≤ if y < 0 then -y else y
        split <;> omega
      · rw [List.length_map]
        exact hlen

def spDraw : Sp := fun vs H Q _ => ∃ (d l : Addr) (n : Nat) (m : Int), vs = [.ref d, .int m] ∧ 0 < m ∧ m < 1000000 ∧ Deck H d l n ∧ n < 1000000 ∧
  ∀ H' r, 0 ≤ r → r < m → Fm d l H H' → Deck H' d l (n + 1) → Q (.int r) H'
theorem deck_put {H : Hp} {d l : Addr} {n c : Nat} {ns ns' : List Int} {H1 : Hp} (hc : c ≤ n) (h1 : H1 d = some (.lst [.ref l, .int (c : Int)])) (h2 : H1 l = some (.lst (ns'.map V.int)))
    (h3 : ∀ z ∈ ns', 0 ≤ z) (h4 : ns'.length ≤ 63) : Deck H1 d l n := ⟨c, ns', hc, h1, h2, h3, h4⟩
theorem mod_in {x m : Int} (h : 0 < m) : 0 ≤ x % m ∧ x % m < m := ⟨Int.emod_nonneg x (by omega), Int.emod_lt_of_pos x h⟩
theorem pow_in {x : Int} {c : Nat} (h : c < 1000001) : ((x % 2147483587 + 7919 * (c : Int) + 1)).natAbs < 2 ^ 64 := by
  have := mod_in (x := x) (m := 2147483587) (by decide)
  omega
theorem ok_draw {f : Addr} {fd : FuncData} {k : Nat} (F : Fun K "_law_draw" "_law_draw" sDraw f fd) (mLen : mg "len" = none) :
    FnOk P w K mg base CX0 (k + 1) f fd ["_law_deck_here", "_law_limit"] spDraw := by
  refine F.ok scDraw (fun vs H Q E h => ?_) (fun cdv A outer s H vs Q E hr h => ?_)
  · obtain ⟨d, l, n, m, rfl, _⟩ := h
    rfl
  · obtain ⟨d, l, n, m, rfl, m0, m1, hD, hn, q⟩ := h
    refine ⟨_, pss_cons (ps_asg (pe_op op_add (pe_ix ix_list (pv 0) pe_int (fun _ _ => rfl)) pe_int) (pg_sub (pv 0) pe_int set_list))
      (pss_cons (ps_asg (pe_tup (pa_cons pe_int (pa_cons (pe_un un_neg pe_int) pa_nil))) (pg_tup (by rfl) (pgs_cons (pg_name (i := 2) scDraw.nd rfl (.inl rfl)) (pgs_cons (pg_name (i := 3) scDraw.nd rfl (.inl rfl)) pgs_nil))))
      (pss_cons (ps_if (pt_cmpR op_gt (pe_callB call_len_seq (by rfl) mLen PySem.boot_len (pa_cons (pe_ix ix_list (pv 0) pe_int (fun _ _ => rfl)) pa_nil)) pe_int (nomark _))
        (pss_cons (ps_set (i := 3) scDraw.nd rfl (.inl rfl) (pe_op op_mod (pe_ix ix_list (pv 0) pe_int (fun _ _ => rfl)) (pe_callB call_len_seq (by rfl) mLen PySem.boot_len (pa_cons (pe_ix ix_list (pv 0) pe_int (fun _ _ => rfl)) pa_nil))))
          (pss_one (ps_set (i := 2) scDraw.nd rfl (.inl rfl) (pe_ix ix_list (pe_ix ix_list (pv 0) pe_int (fun _ _ => rfl)) (pv 3) (fun _ _ => rfl))))) pss_nil)
      (pss_cons (ps_if (pt_cmpR op_ge (pv 2) (pe_op op_pow pe_int pe_int) (nomark _))
        (pss_cons (ps_asg (pe_op op_fdiv (pv 2) (pv 1)) (pg_sub (pe_ix ix_list (pv 0) pe_int (fun _ _ => rfl)) (pv 3) set_list))
          (pss_one (ps_ret (pe_op op_mod (pv 2) (pv 1))))) pss_nil)
      (pss_one (ps_ret (pe_op op_mod (pe_op op_fdiv (pe_op op_mod (pe_op op_pow (pe_op op_add (pe_op op_add (pe_op op_mod (pv 2) pe_int)
        (pe_op op_mul pe_int (pe_ix ix_list (pv 0) pe_int (fun _ _ => rfl)))) pe_int) pe_int) pe_int) pe_int) (pv 1))))))), ?_⟩
    have nel := hD.ne
    obtain ⟨c, ns, hc, h1, h2, h3, h4⟩ := hD
    -- deck[1] = deck[1] + 1
    refine ⟨.ref d, rfl, d, _, 1, .int (c : Int), rfl, rfl, SqL.of h1, atI_nat (j := 1) rfl, (c : Int), 1, rfl, rfl,
      .ref d, rfl, d, _, 1, 1, rfl, rfl, h1, rfl, ?_⟩
    have e1 : (upd H d (.lst ([V.ref l, V.int (c : Int)].set 1 (.int ((c : Int) + 1))))) d = some (.lst [V.ref l, V.int ((c : Int) + 1)]) := upd_same
    generalize hH1 : upd H d (.lst ([V.ref l, V.int (c : Int)].set 1 (.int ((c : Int) + 1)))) = H1 at e1 ⊢
    have e2 : H1 l = some (.lst (ns.map V.int)) := by
      rw [← hH1, upd_ne nel.symm]
      exact h2
    have f1 : Fm d l H H1 := fun b o n1 n2 e => by
      rw [← hH1, upd_ne n1]
      exact e
    have ec : ((c : Int) + 1) = ((c + 1 : Nat) : Int) := by omega
    rw [ec] at e1
    -- cell, index = 0, -1
    refine ⟨1, rfl, by show 2 ≤ sizeLine; decide, fun t nt => ⟨t, _, rfl, SqT.of upd_same, rfl, .int 0, [.int (-1)], rfl, .int (-1), [], rfl, rfl, ?_⟩⟩
    have st := same_upd (o := .tup [.int 0, .int (-1)]) nt
    replace e1 := st _ _ e1
    replace e2 := st _ _ e2
    replace f1 : Fm d l H (upd H1 t (.tup [.int 0, .int (-1)])) := f1.trans (Same.fm st)
    generalize upd H1 t (.tup [.int 0, .int (-1)]) = H2 at e1 e2 f1 ⊢
    -- the last row, for any cell
    have last : ∀ (x : Int), (0 : Int) ≤ ((x % 2147483587 + 7919 * ((c + 1 : Nat) : Int) + 1) ^ (5 : Int).toNat % 2147483647 / 7) % m ∧
        ((x % 2147483587 + 7919 * ((c + 1 : Nat) : Int) + 1) ^ (5 : Int).toNat % 2147483647 / 7) % m < m := fun x => mod_in m0
    have p64 : ∀ x : Int, (x % 2147483587 + 7919 * ((c + 1 : Nat) : Int) + 1).natAbs < 2 ^ 64 := fun x => pow_in (by omega)
    have dk : Deck H2 d l (n + 1) := ⟨c + 1, ns, by omega, e1, e2, h3, h4⟩
    -- if len(deck[0]) > 0
    refine ⟨.ref d, rfl, d, _, 0, .ref l, rfl, rfl, SqL.of e1, atI_nat (j := 0) rfl, l, ns.map V.int, rfl, .inl (SqL.of e2), _, 0, rfl, rfl, _, rfl, ite2 (fun hlen => ?_) (fun hlen => ?_)⟩
    · have hpos : 0 < ns.length := by
        have := of_decide_eq_true hlen
        rw [List.length_map] at this
        omega
      obtain ⟨i0, i1⟩ := mod_in (x := ((c + 1 : Nat) : Int)) (m := (((ns.map V.int).length : Nat) : Int)) (by rw [List.length_map]; omega)
      -- index
      refine ⟨.ref d, rfl, d, _, 1, .int ((c + 1 : Nat) : Int), rfl, rfl, SqL.of e1, atI_nat (j := 1) rfl, .ref d, rfl, d, _, 0, .ref l, rfl, rfl, SqL.of e1, atI_nat (j := 0) rfl, l, ns.map V.int, rfl, .inl (SqL.of e2), _, _, rfl, rfl, by rw [List.length_map]; omega, ?_⟩
      obtain ⟨j, hj⟩ : ∃ j : Nat, ((c + 1 : Nat) : Int) % (((ns.map V.int).length : Nat) : Int) = (j : Int) :=
        ⟨(((c + 1 : Nat) : Int) % (((ns.map V.int).length : Nat) : Int)).toNat, by omega⟩
      have hjl : j < ns.length := by
        rw [hj, List.length_map] at i1
        omega
      have hx : (ns.map V.int)[j]? = some (.int ns[j]) := by
        rw [List.getElem?_map, List.getElem?_eq_getElem hjl]
        rfl
      have hx0 : 0 ≤ ns[j] := h3 _ (List.getElem_mem hjl)
      generalize ns[j] = z at hx hx0
      -- cell
      refine ⟨.ref d, rfl, d, _, 0, .ref l, rfl, rfl, SqL.of e1, atI_nat (j := 0) rfl, _, rfl, l, _, _, .int z, rfl, rfl, SqL.of e2, at_of hj hx, ?_⟩
      -- if cell >= 10 ** 18
      refine ⟨.int z, rfl, 10, 18, rfl, rfl, ⟨by decide, by decide, by decide⟩, z, _, rfl, rfl, _, rfl, ite2 (fun hbig => ?_) (fun hbig => ?_)⟩
      · refine ⟨.int z, rfl, .int m, rfl, z, m, rfl, rfl, ⟨m0, by omega⟩, .ref d, rfl, d, _, 0, .ref l, rfl, rfl, SqL.of e1, atI_nat (j := 0) rfl, _, rfl, l, _, _, j, rfl, rfl, e2, ?_, ?_⟩
        · rw [hj]
          unfold ixN
          rw [if_pos (by omega), if_pos (by rw [List.length_map]; omega)]
          simp
        · refine ⟨.int z, rfl, .int m, rfl, z, m, rfl, rfl, m0, ?_⟩
          obtain ⟨r0, r1⟩ := mod_in (x := z) m0
          refine q _ _ r0 r1 (fun b o n1 n2 e => ?_) ⟨c + 1, ns.set j (z / m), by omega, ?_, ?_, ?_, ?_⟩
          · rw [upd_ne n2]
            exact f1 b o n1 n2 e
          · rw [upd_ne nel]
            exact e1
          · rw [upd_same, List.map_set]
          · intro y hy
            rcases List.mem_or_eq_of_mem_set hy with hy | rfl
            · exact h3 y hy
            · exact Int.ediv_nonneg hx0 (by omega)
          · rw [List.length_set]
            exact h4
      · -- the last row
        refine ⟨.int z, rfl, z, 2147483587, rfl, rfl, (by show (0 : Int) < 2147483587; decide), .ref d, rfl, d, _, 1, .int ((c + 1 : Nat) : Int), rfl, rfl, SqL.of e1, atI_nat (j := 1) rfl, 7919, _, rfl, rfl, .inl ⟨by decide, by decide⟩,
          _, _, rfl, rfl, _, _, rfl, rfl, _, _, rfl, rfl, ⟨by decide, by decide, p64 z⟩, _, _, rfl, rfl, (by show (0 : Int) < 2147483647; decide), _, _, rfl, rfl, (by show (0 : Int) < 7 ∧ (7 : Int) < 1073741824; decide), .int m, rfl, _, m, rfl, rfl, m0, ?_⟩
        exact q _ _ (last z).1 (last z).2 f1 dk
    · refine ⟨.int 0, rfl, 10, 18, rfl, rfl, ⟨by decide, by decide, by decide⟩, 0, _, rfl, rfl, _, rfl, ite2 (fun hbig => ?_) (fun hbig => ?_)⟩
      · exact absurd (of_decide_eq_true hbig) (by decide)
      · refine ⟨.int 0, rfl, 0, 2147483587, rfl, rfl, (by show (0 : Int) < 2147483587; decide), .ref d, rfl, d, _, 1, .int ((c + 1 : Nat) : Int), rfl, rfl, SqL.of e1, atI_nat (j := 1) rfl, 7919, _, rfl, rfl, .inl ⟨by decide, by decide⟩,
          _, _, rfl, rfl, _, _, rfl, rfl, _, _, rfl, rfl, ⟨by decide, by decide, p64 0⟩, _, _, rfl, rfl, (by show (0 : Int) < 2147483647; decide), _, _, rfl, rfl, (by show (0 : Int) < 7 ∧ (7 : Int) < 1073741824; decide), .int m, rfl, _, m, rfl, rfl, m0, ?_⟩
        exact q _ _ (last 0).1 (last 0).2 f1 dk
/-! ### same -/
def spSame (K : PySem.W.Frag) : Sp := fun vs H Q _ => ∃ (x y : V) (d : PyData), vs = [x, y] ∧ Dp K H x d ∧ Dp K H y d ∧ Shows d ∧ Q (.bl true) H
theorem ok_same {f : Addr} {fd : FuncData} {k : Nat} (F : Fun K "_law_same" "_law_same" sSame f fd) (mRepr : mg "repr" = none) :
    FnG P w K mg base (k + 1) f fd ["_law_value", "_law_due"] (spSame K) := by
  refine okG F scSame (fun vs H Q E h => ?_) (fun cdv A outer s H vs Q E hr gd h => ?_)
  · obtain ⟨x, y, d, rfl, _⟩ := h
    rfl
  · obtain ⟨x, y, d, rfl, hx, hy, sh, q⟩ := h
    refine ⟨_, pss_one (ps_ret (pe_cmpR op_eq (pe_callB (call_reprD gd hr.units) (by rfl) mRepr (by decide +kernel) (pa_cons (pv 0) pa_nil))
      (pe_callB (call_reprD gd hr.units) (by rfl) mRepr (by decide +kernel) (pa_cons (pv 1) pa_nil)) (nomark _))), ?_⟩
    refine ⟨x, rfl, x, d, rfl, hx, sh, y, rfl, y, d, rfl, hy, sh, rfl, ?_⟩
    rw [decide_eq_true rfl]
    exact q
/-! ### pairs -/
def in12 (p : Int × Int) : Prop := (0 ≤ p.1 ∧ p.1 < 12) ∧ 0 ≤ p.2 ∧ p.2 < 12
theorem in12.sm {p : Int × Int} (h : in12 p) : smP p := by
  unfold in12 at h
  unfold smP TL.sm
  omega
def spPairs (K : PySem.W.Frag) : Sp := fun vs H Q _ => ∃ (d l : Addr) (n : Nat), vs = [.ref d] ∧ Deck H d l n ∧ n < 900000 ∧
  ∀ H' x ps, Fm d l H H' → Deck H' d l (n + 21) → Dp K H' x (prsD ps) → ps.length ≤ 10 → (∀ p ∈ ps, in12 p) → Q x H'
theorem ok_pairs {f f1 : Addr} {fd fd1 : FuncData} (F : Fun K "_law_pairs" "_law_pairs" sPairs f fd) (mTuple : mg "tuple" = none) (mRange : mg "range" = none)
    (G : FnOk P w K mg base CX0 1 f1 fd1 ["_law_deck_here", "_law_limit"] spDraw) (g : mg "_law_draw" = some (.ref f1)) (kp : PySem.W.keepIn K (.ref f1) = true) (b : Binds K fd1 ["_law_deck_here", "_law_limit"] []) :
    FnOk P w K mg base CX0 2 f fd ["_law_deck_here"] (spPairs K) := by
  refine F.ok scPairs (fun vs H Q E h => ?_) (fun cdv A outer s H vs Q E hr h => ?_)
  · obtain ⟨d, l, n, rfl, _⟩ := h
    rfl
  · obtain ⟨d, l, n, rfl, hD, hn, q⟩ := h
    refine ⟨_, pss_one (ps_ret (pe_callTy call_tuple_of (by rfl) mTuple (by decide +kernel) (pa_cons
      (pe_lc (own := [("_law_k", 1)]) (g := gName 1) (tt := tYes) rfl scPairs.nd
        (pi_range1 (by rfl) mRange (pa_cons (pe_call G hr (by rfl) g kp b .nil pass0 (pa_cons (pv 0) (pa_cons pe_int pa_nil))) pa_nil))
        (blkOk_by (own := [("_law_k", 1)]) (N := ["_law_deck_here", "_law_k"]) (sc := defScope sPairs) (by decide +kernel))
        (fun _ _ _ _ _ => pg_name (i := 1) scPairs.nd rfl (Or.inl rfl)) (fun _ _ _ _ _ => pts_nil)
        (fun _ _ _ _ _ => pe_tup (pa_cons (pe_call G hr (by rfl) g kp b .nil pass0 (pa_cons (pv 0) (pa_cons pe_int pa_nil)))
          (pa_cons (pe_call G hr (by rfl) g kp b .nil pass0 (pa_cons (pv 0) (pa_cons pe_int pa_nil))) pa_nil)))) pa_nil))), ?_⟩
    refine ⟨.ref d, rfl, d, l, n, 11, rfl, by decide, by decide, hD, by omega, fun H1 r r0 r1 f1 d1 => ?_⟩
    refine ⟨r, rfl, by omega, by omega, fun D nD => ?_⟩
    have off := d1.off nD
    refine lc_range (lo := 0) (n := r.toNat) (fun i H' => ∃ (ps : List (Int × Int)) (xs : List V), ps.length = i ∧ Fm d l H H' ∧ Deck H' d l (n + 1 + 2 * i) ∧
      H' D = some (.lst xs) ∧ DpAll K H' xs (ps.map prD) ∧ ∀ p ∈ ps, in12 p) ?_ ?_ ?_
    · have s0 := same_upd (o := .lst []) nD
      exact ⟨[], [], rfl, f1.trans (Same.fm s0), d1.same s0, upd_same, .nil, fun _ z => nomatch z⟩
    · rintro i H2 hi ⟨ps, xs, el, f2, d2, e2, a2, i2⟩
      refine ⟨rfl, yesI (iteT ?_)⟩
      refine ⟨.ref d, rfl, d, l, _, 12, rfl, by decide, by decide, d2, by omega, fun H3 u u0 u1 f3 d3 => ?_⟩
      refine ⟨.ref d, rfl, d, l, _, 12, rfl, by decide, by decide, d3, by omega, fun H4 v v0 v1 f4 d4 => ?_⟩
      refine ⟨by show 2 ≤ sizeLine; decide, fun t nt => ?_⟩
      have st := same_upd (o := .tup [.int u, .int v]) nt
      have f24 : Fm d l H2 H4 := f3.trans f4
      have e4 : H4 D = some (.lst xs) := f24 _ _ off.1 off.2 e2
      refine ⟨xs, st _ _ e4, ?_, ps ++ [(u, v)], xs ++ [.ref t], ?_, ?_, ?_, upd_same, ?_, ?_⟩
      · have := DpAll.length a2
        rw [List.length_map] at this
        exact small1000 (by omega)
      · rw [List.length_append, el]
        rfl
      · intro b o n1 n2 e
        have q1 := st _ _ (f24 _ _ n1 n2 (f2 _ _ n1 n2 e))
        by_cases hb : b = D
        · exfalso
          rw [hb] at e
          have q2 := f1 _ _ off.1 off.2 e
          rw [nD] at q2
          cases q2
        · rw [upd_ne hb]
          exact q1
      · refine ((d4.same st).le (m := n + 1 + 2 * (i + 1)) (by omega)).put ?_ ?_
        · exact off.1
        · exact off.2
      · have kt1 : KT K H2 (upd H4 t (.tup [.int u, .int v])) := (f24.kt d2).trans (Same.kt st)
        have kt2 : KT K (upd H4 t (.tup [.int u, .int v])) (upd (upd H4 t (.tup [.int u, .int v])) D (.lst (xs ++ [.ref t]))) := kt_lst (st _ _ e4)
        rw [List.map_append]
        refine DpAll.append (DpAll.kt (kt1.trans kt2) a2 (only_prs ps)) (.cons ?_ .nil)
        exact Dp.kt kt2 (Dp.pr (SqT.of upd_same)) (only_pr _)
      · intro p hp
        rcases List.mem_append.mp hp with hp | hp
        · exact i2 p hp
        · obtain rfl := List.mem_singleton.mp hp
          exact ⟨⟨u0, u1⟩, v0, v1⟩
    · rintro H2 ⟨ps, xs, el, f2, d2, e2, a2, i2⟩
      refine ⟨D, xs, rfl, .inl ⟨SqL.of e2, fun t nt => ?_⟩⟩
      have st := same_upd (o := .tup xs) nt
      refine q _ _ ps (f2.trans (Same.fm st)) ((d2.same st).le (by omega)) (.tup (SqT.of upd_same) (DpAll.same st a2)) (by omega) i2
/-! ### backward -/
def bk (ps : List (Int × Int)) : List (Int × Int) := (ps.map fun p => (p.2, p.1)).reverse
theorem bk_bk (ps : List (Int × Int)) : bk (bk ps) = ps := by
  unfold bk
  rw [List.map_reverse, List.reverse_reverse, List.map_map]
  exact List.map_id'' (fun p => rfl) ps
theorem bk_append (ps qs : List (Int × Int)) : bk (ps ++ qs) = bk qs ++ bk ps := by
  unfold bk
  rw [List.map_append, List.reverse_append]
theorem bk_length (ps : List (Int × Int)) : (bk ps).length = ps.length := by
  unfold bk
  rw [List.length_reverse, List.length_map]
theorem bk_mem {ps : List (Int × Int)} (h : ∀ p ∈ ps, in12 p) : ∀ p ∈ bk ps, in12 p := by
  intro p hp
  unfold bk at hp
  obtain ⟨y, hy, rfl⟩ := List.mem_map.mp (List.mem_reverse.mp hp)
  exact ⟨(h y hy).2, (h y hy).1⟩
def spBack (K : PySem.W.Frag) : Sp := fun vs H Q _ => ∃ (x : V) (ps : List (Int × Int)), vs = [x] ∧ Dp K H x (prsD ps) ∧ ps.length ≤ 900 ∧
  ∀ H' y, Same H H' → Dp K H' y (prsD (bk ps)) → Q y H'
theorem bk_take {ps : List (Int × Int)} {i : Nat} {p : Int × Int} (hi : i < ps.length) (h : ps[ps.length - 1 - i]? = some p) :
    (bk ps).take (i + 1) = (bk ps).take i ++ [(p.2, p.1)] := by
  have e : (bk ps)[i]? = some (p.2, p.1) := by
    unfold bk
    rw [List.getElem?_reverse (by rw [List.length_map]; exact hi), List.getElem?_map, List.length_map, h]
    rfl
  rw [List.take_add_one, e]
  rfl
theorem ok_back {f : Addr} {fd : FuncData} {k : Nat} (F : Fun K "backward" "backward" sBack f fd) (mTuple : mg "tuple" = none) (mRev : mg "reversed" = none) :
    FnOk P w K mg base CX0 (k + 1) f fd ["slides"] (spBack K) := by
  refine F.ok scBack (fun vs H Q E h => ?_) (fun cdv A outer s H vs Q E hr h => ?_)
  · obtain ⟨x, ps, rfl, _⟩ := h
    rfl
  · obtain ⟨x, ps, rfl, hx, hlen, q⟩ := h
    obtain ⟨a, xs, rfl, hS, hA⟩ := Dp.tupI hx
    have exl : xs.length = ps.length := by rw [DpAll.length hA, List.length_map]
    refine ⟨_, pss_one (ps_ret (pe_callTy call_tuple_of (by rfl) mTuple (by decide +kernel) (pa_cons
      (pe_lc (own := [("u", 1), ("v", 2)]) (g := gTup K 2 (gCons (gName 1) (gCons (gName 2) gNil))) (tt := tYes) rfl scBack.nd
        (RT.pi_revA (by rfl) mRev (pv 0))
        (blkOk_by (own := [("u", 1), ("v", 2)]) (N := ["slides", "u", "v"]) (sc := defScope sBack) (by decide +kernel))
        (fun _ _ _ _ _ => pg_tup rfl (pgs_cons (pg_name (i := 1) scBack.nd rfl (Or.inl rfl)) (pgs_cons (pg_name (i := 2) scBack.nd rfl (Or.inl rfl)) pgs_nil)))
        (fun _ _ _ _ _ => pts_nil)
        (fun _ _ _ _ _ => pe_tup (pa_cons (pv 2) (pa_cons (pv 1) pa_nil)))) pa_nil))), ?_⟩
    refine ⟨.ref a, rfl, a, xs, rfl, .inr ⟨hS, fun D nD => ?_⟩⟩
    refine lc_revT (K := K) (a := a) (xs := xs) (fun i H' => ∃ ys, Same H H' ∧ H' D = some (.lst ys) ∧ DpAll K H' ys (((bk ps).take i).map prD)) ?_ ?_ ?_ ?_
    · exact ⟨[], same_upd nD, upd_same, .nil⟩
    · rintro i H' ⟨ys, s1, _⟩
      exact Same.tup s1 hS
    · rintro i x H' hi hx' ⟨ys, s1, e1, a1⟩
      obtain ⟨z, hz, dz⟩ := DpAll.get hA hx'
      rw [List.getElem?_map] at hz
      obtain ⟨p, hp, rfl⟩ := Option.map_eq_some_iff.mp hz
      obtain ⟨t, rfl, hT⟩ := Dp.prI (Dp.same s1 dz)
      refine ⟨t, _, rfl, hT, rfl, .int p.1, [.int p.2], rfl, .int p.2, [], rfl, rfl, rfl, yesI (iteT ?_)⟩
      refine ⟨.int p.2, rfl, .int p.1, rfl, by show 2 ≤ sizeLine; decide, fun u nu => ?_⟩
      have st := same_upd (o := .tup [.int p.2, .int p.1]) nu
      refine ⟨ys, st _ _ e1, ?_, ys ++ [.ref u], ?_, upd_same, ?_⟩
      · have := DpAll.length a1
        rw [List.length_map, List.length_take, bk_length] at this
        exact small1000 (by omega)
      · intro b o e
        have nb : b ≠ D := ne_of_none e nD
        rw [upd_ne nb]
        exact st _ _ (s1 _ _ e)
      · have kt2 : KT K (upd H' u (.tup [.int p.2, .int p.1])) (upd (upd H' u (.tup [.int p.2, .int p.1])) D (.lst (ys ++ [.ref u]))) := kt_lst (st _ _ e1)
        rw [exl] at hp hi
        rw [bk_take hi hp, List.map_append]
        refine DpAll.append (DpAll.kt ((Same.kt st).trans kt2) a1 (only_prs _)) (.cons ?_ .nil)
        exact Dp.kt kt2 (Dp.pr (SqT.of upd_same)) (only_pr _)
    · rintro H' ⟨ys, s1, e1, a1⟩
      rw [exl, ← bk_length ps, List.take_length] at a1
      refine ⟨D, ys, rfl, .inl ⟨SqL.of e1, fun t nt => ?_⟩⟩
      have st := same_upd (o := .tup ys) nt
      exact q _ _ (s1.trans st) (.tup (SqT.of upd_same) (DpAll.same st a1))
/-! ### sums of tuples -/
theorem catD {H : Hp} {x y : V} {ds es : List PyData} {Q : VK} (hx : Dp K H x (.tuple ds)) (hy : Dp K H y (.tuple es)) (hl : ds.length + es.length ≤ 1000)
    (q : ∀ H' z, Same H H' → Dp K H' z (.tuple (ds ++ es)) → Q z H') : rCatA K x y H Q := by
  obtain ⟨a, xs, rfl, h1, a1⟩ := Dp.tupI hx
  obtain ⟨b, ys, rfl, h2, a2⟩ := Dp.tupI hy
  have l1 := DpAll.length a1
  have l2 := DpAll.length a2
  refine ⟨a, b, xs, ys, rfl, rfl, h1, h2, Nat.le_of_lt (small1000 (by omega)), fun e => ?_, fun _ e => ?_, fun _ _ p np => ?_⟩
  · subst e
    cases a1
    exact q H _ (Same.refl H) hy
  · subst e
    cases a2
    rw [List.append_nil] at q
    exact q H _ (Same.refl H) hx
  · have st := same_upd (o := .tup (xs ++ ys)) np
    exact q _ _ st (.tup (SqT.of upd_same) (DpAll.same st (DpAll.append a1 a2)))
/-! ### the law -/
def spLaw (K : PySem.W.Frag) : Sp := fun vs H Q _ => ∃ (a : Addr) (ns : List Int), vs = [.ref a] ∧ SqL K H a (ns.map V.int) ∧ ns.length ≤ 63 ∧ ∀ H', Q (.bl true) H'
theorem ok_law {f fD fP fS fB : Addr} {fd fdD fdP fdS fdB : FuncData} (F : Fun K "law" "law" sLaw f fd) (mTuple : mg "tuple" = none) (mRange : mg "range" = none) (mRepr : mg "repr" = none) (mLen : mg "len" = none)
    (GD : FnOk P w K mg base CX0 2 fD fdD ["_law_script"] (spDeck K)) (gD : mg "_law_deck" = some (.ref fD)) (kD : PySem.W.keepIn K (.ref fD) = true) (bD : Binds K fdD ["_law_script"] [])
    (GP : FnOk P w K mg base CX0 2 fP fdP ["_law_deck_here"] (spPairs K)) (gP : mg "_law_pairs" = some (.ref fP)) (kP : PySem.W.keepIn K (.ref fP) = true) (bP : Binds K fdP ["_law_deck_here"] [])
    (GS : FnG P w K mg base 2 fS fdS ["_law_value", "_law_due"] (spSame K)) (gS : mg "_law_same" = some (.ref fS)) (kS : PySem.W.keepIn K (.ref fS) = true) (bS : Binds K fdS ["_law_value", "_law_due"] [])
    (GB : FnOk P w K mg base CX0 2 fB fdB ["slides"] (spBack K)) (gB : mg "backward" = some (.ref fB)) (kB : PySem.W.keepIn K (.ref fB) = true) (bB : Binds K fdB ["slides"] []) :
    FnG P w K mg base 3 f fd ["_law_script"] (spLaw K) := by
  refine okG F scLaw (fun vs H Q E h => ?_) (fun cdv A outer s H vs Q E hr gd h => ?_)
  · obtain ⟨a, ns, rfl, _⟩ := h
    rfl
  · obtain ⟨a, ns, rfl, hS, hlen, q⟩ := h
    refine ⟨_, pss_cons (ps_set (i := 1) scLaw.nd rfl (.inl rfl) (pe_call GD hr (by rfl) gD kD bD .nil pass0 (pa_cons (pv 0) pa_nil)))
      (pss_cons (ps_for PassesOwn.never rfl (pi_range1 (by rfl) mRange (pa_cons pe_int pa_nil)) (pg_name (i := 2) scLaw.nd rfl (.inl rfl))
        (pss_cons (ps_asg (pe_tup (pa_cons (pe_call GP hr (by rfl) gP kP bP .nil pass0 (pa_cons (pv 1) pa_nil)) (pa_cons (pe_call GP hr (by rfl) gP kP bP .nil pass0 (pa_cons (pv 1) pa_nil)) pa_nil)))
          (pg_tup rfl (pgs_cons (pg_name (i := 3) scLaw.nd rfl (.inr rfl)) (pgs_cons (pg_name (i := 4) scLaw.nd rfl (.inl rfl)) pgs_nil))))
        (pss_cons (ps_set (i := 5) scLaw.nd rfl (.inl rfl) (pe_callTy call_tuple_of (by rfl) mTuple (by decide +kernel) (pa_cons
          (pe_lc (own := [("_law_k", 7)]) (g := gName 7) (tt := tYes) rfl scLaw.nd
            (pi_range1 (by rfl) mRange (pa_cons (pe_callB call_len_seq (by rfl) mLen PySem.boot_len (pa_cons (pv 3) pa_nil)) pa_nil))
            (blkOk_by (own := [("_law_k", 7)]) (N := ["_law_script", "_law_deck_here", "_law_turn", "_law_first", "_law_second", "_law_due", "_law_before", "_law_k"]) (sc := defScope sLaw) (by decide +kernel))
            (fun _ _ _ _ _ => pg_name (i := 7) scLaw.nd rfl (Or.inl rfl)) (fun _ _ _ _ _ => pts_nil)
            (fun _ _ _ _ _ => revTK K (pe_ix (ixTK K) (pv 3) (pe_op op_sub (pe_op op_sub (pe_callB (lenK K) (by rfl) mLen PySem.boot_len (pa_cons (pv 3) pa_nil)) pe_int) (pv 7)) (fun _ _ => rfl)))) pa_nil)))
        (pss_cons (ps_set (i := 6) scLaw.nd rfl (.inl rfl) (pe_callB (call_reprD gd hr.units) (by rfl) mRepr (by decide +kernel) (pa_cons (pe_lst (pa_cons (pv 3) (pa_cons (pv 4) pa_nil))) pa_nil)))
        (pss_cons (ps_if (PW.pt (pw_or (pt_not (pt_val (pe_callG GS hr gd (by rfl) gS kS bS (pa_cons (pe_call GB hr (by rfl) gB kB bB .nil pass0 (pa_cons (pv 3) pa_nil)) (pa_cons (pv 5) pa_nil)))))
            (pw_or1 (pt_not (pt_val (pe_callG GS hr gd (by rfl) gS kS bS (pa_cons (pe_call GB hr (by rfl) gB kB bB .nil pass0 (pa_cons (pe_call GB hr (by rfl) gB kB bB .nil pass0 (pa_cons (pv 3) pa_nil)) pa_nil)) (pa_cons (pv 3) pa_nil))))))))
            (pss_one (ps_ret pe_bl)) pss_nil)
        (pss_one (ps_if (PW.pt (pw_or (pt_not (pt_val (pe_callG GS hr gd (by rfl) gS kS bS (pa_cons (pe_call GB hr (by rfl) gB kB bB .nil pass0 (pa_cons (pe_op op_catA (pv 3) (pv 4)) pa_nil))
            (pa_cons (pe_op op_catA (pe_call GB hr (by rfl) gB kB bB .nil pass0 (pa_cons (pv 4) pa_nil)) (pv 5)) pa_nil)))))
            (pw_or1 (pt_cmpR op_ne (pe_callB (call_reprD gd hr.units) (by rfl) mRepr (by decide +kernel) (pa_cons (pe_lst (pa_cons (pv 3) (pa_cons (pv 4) pa_nil))) pa_nil)) (pv 6) (nomark _)))))
            (pss_one (ps_ret pe_bl)) pss_nil)))))))
      (pss_one (ps_ret pe_bl))), ?_⟩
    -- the deck
    refine ⟨.ref a, rfl, a, ns, rfl, hS, hlen, fun H1 d l s1 d1 => ?_⟩
    refine ⟨20, rfl, by decide, by decide, for_range (lo := 0) (n := 20) (fun i σ H' => ∃ y2 y3 y4 y5 y6 y7, σ = [some (.ref a), some (.ref d), y2, y3, y4, y5, y6, y7] ∧ Deck H' d l (42 * i)) ?_ ?_ ?_⟩
    · exact ⟨_, _, _, _, _, _, rfl, d1⟩
    · rintro i σ H2 hi ⟨y2, y3, y4, y5, y6, y7, rfl, d2⟩
      -- first, second
      refine ⟨.ref d, rfl, d, l, _, rfl, d2, by omega, fun H3 x ps f3 d3 dx lx ix => ?_⟩
      refine ⟨.ref d, rfl, d, l, _, rfl, d3, by omega, fun H4 y rs f4 d4 dy ly iy => ?_⟩
      have dx4 : Dp K H4 x (prsD ps) := Dp.kt (f4.kt d3) dx (only_prsD ps)
      refine ⟨by show 2 ≤ sizeLine; decide, fun t nt => ⟨t, _, rfl, SqT.of upd_same, rfl, x, [y], rfl, y, [], rfl, rfl, ?_⟩⟩
      have st := same_upd (o := .tup [x, y]) nt
      have dx5 := Dp.same st dx4
      have dy5 := Dp.same st dy
      have d5 := d4.same st
      generalize upd H4 t (.tup [x, y]) = H5 at dx5 dy5 d5 ⊢
      -- due
      obtain ⟨p, xs, rfl, hp, hA⟩ := Dp.tupI dx5
      have exl : xs.length = ps.length := by rw [DpAll.length hA, List.length_map]
      refine ⟨.ref p, rfl, p, xs, rfl, .inr hp, (xs.length : Int), rfl, by omega, by omega, fun D nD => ?_⟩
      refine lc_range (lo := 0) (n := ((xs.length : Nat) : Int).toNat) (fun j H' => ∃ ys, Same H5 H' ∧ H' D = some (.lst ys) ∧ DpAll K H' ys (((bk ps).take j).map prD)) ?_ ?_ ?_
      · exact ⟨[], same_upd nD, upd_same, .nil⟩
      · rintro j H6 hj ⟨ys, s6, e6, a6⟩
        rw [Int.toNat_natCast] at hj
        have hj' : xs.length - 1 - j < xs.length := by omega
        have hx' : xs[xs.length - 1 - j]? = some xs[xs.length - 1 - j] := List.getElem?_eq_getElem hj'
        obtain ⟨z, hz, dz⟩ := DpAll.get hA hx'
        rw [List.getElem?_map] at hz
        obtain ⟨r, hr', rfl⟩ := Option.map_eq_some_iff.mp hz
        obtain ⟨u, eu, hT⟩ := Dp.prI (Dp.same s6 dz)
        refine ⟨rfl, yesI (iteT ?_)⟩
        refine ⟨.ref p, rfl, .ref p, rfl, p, xs, rfl, .inr (Same.tup s6 hp), _, _, rfl, rfl, .int (0 + (j : Int)), rfl, _, _, rfl, rfl, p, xs, _, .ref u, rfl, rfl, Same.tup s6 hp,
          at_of (j := xs.length - 1 - j) (by omega) (by rw [hx', eu]), u, _, rfl, hT, fun v nv => ?_⟩
        have sv := same_upd (o := .tup ([V.int r.1, V.int r.2].reverse)) nv
        refine ⟨ys, sv _ _ e6, ?_, ys ++ [.ref v], ?_, upd_same, ?_⟩
        · have := DpAll.length a6
          rw [List.length_map, List.length_take, bk_length] at this
          exact small1000 (by omega)
        · intro b o e
          have nb : b ≠ D := ne_of_none e nD
          rw [upd_ne nb]
          exact sv _ _ (s6 _ _ e)
        · have kt2 : KT K (upd H6 v (.tup ([V.int r.1, V.int r.2].reverse))) (upd (upd H6 v (.tup ([V.int r.1, V.int r.2].reverse))) D (.lst (ys ++ [.ref v]))) := kt_lst (sv _ _ e6)
          rw [exl] at hr' hj
          rw [bk_take hj hr', List.map_append]
          refine DpAll.append (DpAll.kt ((Same.kt sv).trans kt2) a6 (only_prs _)) (.cons ?_ .nil)
          exact Dp.kt kt2 (Dp.pr (SqT.of upd_same)) (only_pr _)
      · rintro H6 ⟨ys, s6, e6, a6⟩
        rw [Int.toNat_natCast, exl, ← bk_length ps, List.take_length] at a6
        refine ⟨D, ys, rfl, .inl ⟨SqL.of e6, fun v nv => ?_⟩⟩
        have sv := same_upd (o := .tup ys) nv
        have dd : Dp K (upd H6 v (.tup ys)) (.ref v) (prsD (bk ps)) := .tup (SqT.of upd_same) (DpAll.same sv a6)
        have s7 := s6.trans sv
        generalize upd H6 v (.tup ys) = H7 at dd s7 ⊢
        have dx7 := Dp.same s7 dx5
        have dy7 := Dp.same s7 dy5
        have d7 := d5.same s7
        -- before
        have smx : ∀ z ∈ [prsD ps, prsD rs], Sm z (20 * 23) 2 := by
          intro z hz
          rcases List.mem_cons.mp hz with rfl | hz
          · exact Sm.prs (fun p hp => (ix p hp).sm) (by omega)
          · obtain rfl := List.mem_singleton.mp hz
            exact Sm.prs (fun p hp => (iy p hp).sm) (by omega)
        have shB : Shows (.list [prsD ps, prsD rs]) := (Sm.lst (m := 2) smx (Nat.le_refl _)).shows (by decide) (by decide)
        refine ⟨.ref p, rfl, y, rfl, by show 2 ≤ sizeLine; decide, fun c nc => ⟨.ref c, .list [prsD ps, prsD rs], rfl, ?_, shB, ?_⟩⟩
        · exact .lst (SqL.of upd_same) (DpAll.same (same_upd nc) (.cons dx7 (.cons dy7 .nil)))
        have sc := same_upd (o := .lst [.ref p, y]) nc
        have dx8 := Dp.same sc dx7
        have dy8 := Dp.same sc dy7
        have d8 := d7.same sc
        have dd8 := Dp.same sc dd
        generalize upd H7 c (.lst [.ref p, y]) = H8 at dx8 dy8 d8 dd8 ⊢
        have shX : Shows (prsD ps) := (Sm.prs (fun p hp => (ix p hp).sm) lx).shows (by decide) (by decide)
        have shK : Shows (prsD (bk ps)) := (Sm.prs (fun p hp => (bk_mem ix p hp).sm) (by rw [bk_length]; exact lx)).shows (by decide) (by decide)
        -- the first if
        refine ⟨.ref p, rfl, _, ps, rfl, dx8, by omega, fun H9 b1 s9 db1 => ⟨.ref v, rfl, _, _, _, rfl, db1, Dp.same s9 dd8, shK, true, rfl, ?_⟩⟩
        refine iteF ⟨.ref p, rfl, _, ps, rfl, Dp.same s9 dx8, by omega, fun H10 b2 s10 db2 => ⟨_, _, rfl, db2, by rw [bk_length]; omega, fun H11 b3 s11 db3 => ?_⟩⟩
        have s811 := s9.trans (s10.trans s11)
        rw [bk_bk] at db3
        refine ⟨.ref p, rfl, _, _, _, rfl, db3, Dp.same s811 dx8, shX, true, rfl, iteF ?_⟩
        have dx11 := Dp.same s811 dx8
        have dy11 := Dp.same s811 dy8
        have d11 := d8.same s811
        have dd11 := Dp.same s811 dd8
        -- the second if
        refine ⟨.ref p, rfl, y, rfl, catD dx11 dy11 (by rw [List.length_map, List.length_map]; omega) fun H12 z s12 dz => ?_⟩
        rw [← List.map_append] at dz
        refine ⟨_, ps ++ rs, rfl, dz, by rw [List.length_append]; omega, fun H13 b4 s13 db4 => ?_⟩
        refine ⟨y, rfl, _, rs, rfl, Dp.same (s12.trans s13) dy11, by omega, fun H14 b5 s14 db5 => ?_⟩
        have s1114 := (s12.trans s13).trans s14
        refine ⟨.ref v, rfl, catD db5 (Dp.same s1114 dd11) (by rw [List.length_map, List.length_map, bk_length, bk_length]; omega) fun H15 b6 s15 db6 => ?_⟩
        rw [← List.map_append, ← bk_append] at db6
        have smA : ∀ p ∈ bk (ps ++ rs), in12 p := bk_mem fun p hp => (List.mem_append.mp hp).elim (ix p) (iy p)
        have shA : Shows (prsD (bk (ps ++ rs))) := (Sm.prs (m := 20) (fun p hp => (smA p hp).sm) (by rw [bk_length, List.length_append]; omega)).shows (by decide) (by decide)
        refine ⟨_, _, _, rfl, Dp.same (s14.trans s15) db4, db6, shA, true, rfl, ?_⟩
        have s1115 := s1114.trans s15
        refine iteF ⟨.ref p, rfl, y, rfl, by show 2 ≤ sizeLine; decide, fun c2 nc2 => ⟨.ref c2, .list [prsD ps, prsD rs], rfl, ?_, shB, ?_⟩⟩
        · exact .lst (SqL.of upd_same) (DpAll.same (same_upd nc2) (.cons (Dp.same s1115 dx11) (.cons (Dp.same s1115 dy11) .nil)))
        refine ⟨_, rfl, rfl, _, rfl, ?_⟩
        rw [decide_eq_true rfl]
        refine iteF ?_
        exact ⟨_, _, _, _, _, _, rfl, ((d11.same s1115).same (same_upd nc2)).le (by omega)⟩
    · rintro σ H2 ⟨y2, y3, y4, y5, y6, y7, rfl, d2⟩
      exact q _
end
/-! ### what the top has written -/
theorem all_mk {l : PySem.W.OpenLaw} {w : World} {K : PySem.W.Frag} {h : Heap} {mg : Str → Option Value} {fa f1 f2 f3 f4 f5 f6 : Addr} (X : K.In h) (G : h.Ns mainGlobals mg) (hfa : mg "law" = some (.ref fa))
    {od1 an1 od2 an2 od3 an3 od4 an4 od5 an5 od6 an6 : Option Addr} {sl1 sl2 sl3 sl4 sl5 sl6 : Array (Option Value)} {oc1 kV1 dc1 pm1 cd1 ct1 oc2 kV2 dc2 pm2 cd2 ct2 oc3 kV3 dc3 pm3 cd3 ct3 oc4 kV4 dc4 pm4 cd4 ct4 oc5 kV5 dc5 pm5 cd5 ct5 oc6 kV6 dc6 pm6 cd6 ct6 : Value}
    (a1 : PySem.W.nsIn K mainGlobals "backward" = some (some (.ref f1))) (l1 : K.lookup f1 = some ⟨oc1, od1, .func (PySem.W.fnOf "backward" "backward" (defArgs sBack) (defBody sBack) (defScope sBack) .none kV1 dc1 pm1 an1 cd1 ct1), sl1⟩) (c1 : PySem.W.codeIn K cd1 "backward" = true) (k1 : PySem.W.keepIn K (.ref f1) = true)
    (a2 : PySem.W.nsIn K mainGlobals "_law_deck" = some (some (.ref f2))) (l2 : K.lookup f2 = some ⟨oc2, od2, .func (PySem.W.fnOf "_law_deck" "_law_deck" (defArgs sDeck) (defBody sDeck) (defScope sDeck) .none kV2 dc2 pm2 an2 cd2 ct2), sl2⟩) (c2 : PySem.W.codeIn K cd2 "_law_deck" = true) (k2 : PySem.W.keepIn K (.ref f2) = true)
    (a3 : PySem.W.nsIn K mainGlobals "_law_draw" = some (some (.ref f3))) (l3 : K.lookup f3 = some ⟨oc3, od3, .func (PySem.W.fnOf "_law_draw" "_law_draw" (defArgs sDraw) (defBody sDraw) (defScope sDraw) .none kV3 dc3 pm3 an3 cd3 ct3), sl3⟩) (c3 : PySem.W.codeIn K cd3 "_law_draw" = true) (k3 : PySem.W.keepIn K (.ref f3) = true)
    (a4 : PySem.W.nsIn K mainGlobals "_law_same" = some (some (.ref f4))) (l4 : K.lookup f4 = some ⟨oc4, od4, .func (PySem.W.fnOf "_law_same" "_law_same" (defArgs sSame) (defBody sSame) (defScope sSame) .none kV4 dc4 pm4 an4 cd4 ct4), sl4⟩) (c4 : PySem.W.codeIn K cd4 "_law_same" = true) (k4 : PySem.W.keepIn K (.ref f4) = true)
    (a5 : PySem.W.nsIn K mainGlobals "_law_pairs" = some (some (.ref f5))) (l5 : K.lookup f5 = some ⟨oc5, od5, .func (PySem.W.fnOf "_law_pairs" "_law_pairs" (defArgs sPairs) (defBody sPairs) (defScope sPairs) .none kV5 dc5 pm5 an5 cd5 ct5), sl5⟩) (c5 : PySem.W.codeIn K cd5 "_law_pairs" = true) (k5 : PySem.W.keepIn K (.ref f5) = true)
    (a6 : PySem.W.nsIn K mainGlobals "law" = some (some (.ref f6))) (l6 : K.lookup f6 = some ⟨oc6, od6, .func (PySem.W.fnOf "law" "law" (defArgs sLaw) (defBody sLaw) (defScope sLaw) .none kV6 dc6 pm6 an6 cd6 ct6), sl6⟩) (c6 : PySem.W.codeIn K cd6 "law" = true) (k6 : PySem.W.keepIn K (.ref f6) = true)
    (z1 : PySem.W.nsIn K mainGlobals "tuple" = some none) (z2 : PySem.W.nsIn K mainGlobals "reversed" = some none) (z3 : PySem.W.nsIn K mainGlobals "abs" = some none) (z4 : PySem.W.nsIn K mainGlobals "len" = some none) (z5 : PySem.W.nsIn K mainGlobals "repr" = some none) (z6 : PySem.W.nsIn K mainGlobals "range" = some none) :
    ∃ fd : FuncData, (∀ (s : Shared) (v : Value), BindsTo s fd ⟨[v], []⟩ [("_law_script", v)]) ∧ ∀ base : Heap, K.In base → base.Ns mainGlobals mg → FnG l.prog w K mg base 3 fa fd ["_law_script"] (spLaw K) := by
  have e := hfa.symm.trans (PySem.W.mg_of X G a6)
  cases e
  have F1 := fun_mk (st := sBack) l1 c1 k1
  have F2 := fun_mk (st := sDeck) l2 c2 k2
  have F3 := fun_mk (st := sDraw) l3 c3 k3
  have F4 := fun_mk (st := sSame) l4 c4 k4
  have F5 := fun_mk (st := sPairs) l5 c5 k5
  have F6 := fun_mk (st := sLaw) l6 c6 k6
  have b1 := F1.binds (ps := ["slides"]) fun _ _ _ _ _ _ us hl => match us, hl with | [_], _ => rfl
  have b2 := F2.binds (ps := ["_law_script"]) fun _ _ _ _ _ _ us hl => match us, hl with | [_], _ => rfl
  have b3 := F3.binds (ps := ["_law_deck_here", "_law_limit"]) fun _ _ _ _ _ _ us hl => match us, hl with | [_, _], _ => rfl
  have b4 := F4.binds (ps := ["_law_value", "_law_due"]) fun _ _ _ _ _ _ us hl => match us, hl with | [_, _], _ => rfl
  have b5 := F5.binds (ps := ["_law_deck_here"]) fun _ _ _ _ _ _ us hl => match us, hl with | [_], _ => rfl
  have t1 := PySem.W.mg_none_of X G z1
  have t2 := PySem.W.mg_none_of X G z2
  have t3 := PySem.W.mg_none_of X G z3
  have t4 := PySem.W.mg_none_of X G z4
  have t5 := PySem.W.mg_none_of X G z5
  have t6 := PySem.W.mg_none_of X G z6
  refine ⟨PySem.W.fnOf "law" "law" (defArgs sLaw) (defBody sLaw) (defScope sLaw) .none kV6 dc6 pm6 an6 cd6 ct6, fun s v => .of_eq rfl, fun base _ _ => ?_⟩
  exact ok_law F6 t1 t6 t5 t4 (ok_deck F2 t3) (PySem.W.mg_of X G a2) k2 b2
    (ok_pairs F5 t1 t6 (ok_draw F3 t4) (PySem.W.mg_of X G a3) k3 b3) (PySem.W.mg_of X G a5) k5 b5
    (ok_same F4 t5) (PySem.W.mg_of X G a4) k4 b4 (ok_back F1 t1 t2) (PySem.W.mg_of X G a1) k1 b1
end TL
open PySem PySem.W PyProof.Rows
set_option maxHeartbeats 0 in
theorem PySem.Challenge.cw_treelamps_k08_slides_backward_holds : PySem.Challenge.rw_treelamps_k08_slides_backward.Holds := by
  w_on; o_law; k_head; (case hw => w_witness2)
  k_fill
  refine TL.walk_ofG (l := PySem.Challenge.rw_treelamps_k08_slides_backward) (n := 63) (k := 3) (x := "_law_script") (sp := fun w => TL.spLaw _) rfl (by decide) rfl ⟨rfl, by decide, by decide⟩ (fun w h Y => PySem.W.kIn_of Y) ?F (fun _ _ a ns hl _ hS => ⟨a, ns, rfl, hS, hl, fun _ => rfl⟩)
  case F =>
    intro w mg fa h KX G hmg
    refine' TL.all_mk KX G hmg ?a1 ?l1 ?c1 ?k1 ?a2 ?l2 ?c2 ?k2 ?a3 ?l3 ?c3 ?k3 ?a4 ?l4 ?c4 ?k4 ?a5 ?l5 ?c5 ?k5 ?a6 ?l6 ?c6 ?k6 ?z1 ?z2 ?z3 ?z4 ?z5 ?z6
    (case a1 => k_is); (case l1 => k_is); (case c1 => k_is); (case k1 => k_is); (case a2 => k_is); (case l2 => k_is); (case c2 => k_is); (case k2 => k_is); (case a3 => k_is); (case l3 => k_is); (case c3 => k_is); (case k3 => k_is); (case a4 => k_is); (case l4 => k_is); (case c4 => k_is); (case k4 => k_is); (case a5 => k_is); (case l5 => k_is); (case c5 => k_is); (case k5 => k_is); (case a6 => k_is); (case l6 => k_is); (case c6 => k_is); (case k6 => k_is); (case z1 => k_is); (case z2 => k_is); (case z3 => k_is); (case z4 => k_is); (case z5 => k_is); (case z6 => k_is)
