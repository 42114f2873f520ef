import PyProof.Rows.All
import Wide.All
import OpenK.AllK
import Wide.FinOn
import HandS.ForMost
import HandS.Rev
import HandS.TupAny
import HandS.Wide
import PyProof.ReprRoads
import KE.SortData
import HandS.Conv
import HandS.IsInst
import HandS.Style
import KE.GoesMore
import HandS.DictComp
import HandS.TupLe
import HandS.TryOnly
import PyProof.SeqIndex
import HandS.FStr
import HandS.Text
import PySem.Challenge.RW_treelamps_k64_forest_and_slides_texts
set_option Elab.async false
set_option linter.all false
set_option maxRecDepth 100000
set_option maxHeartbeats 4000000
namespace TL
open PySem PySem.Spec PyProof.Rows L2

/-! ### defs that show data: they run where no text is being made -/
/-- as the layer's promise of a def, for callers outside of any showing -/
structure FnG (P : Program) (w : World) (K : PySem.W.Frag) (mg : Str → Option Value)
    (base : Heap) (k : Nat) (f : Addr) (fd : FuncData) (ps : List Str) (sp : Sp) : Prop where
  wide : ∀ vs H Q E, sp vs H Q E → vs.length = ps.length
  goes : ∀ (A : Around) (out : List Env) (s : Shared) (H : Hp) (args : Args) (us : List Value)
    (vs : List V) (Q : VK) (E : XK), Room k A → A.guards = some [] →
    Env0 P w K mg base A out s H → BindsTo s fd args (ps.zip us) → Vals vs us → sp vs H Q E →
    codeAny (model P w) A (.call (.ref f) args) (CR CX0 out P w H s Q E) s
section
variable {P : Program} {w : World} {K : PySem.W.Frag} {mg : Str → Option Value} {base : Heap}
theorem FnG.of {k : Nat} {f : Addr} {fd : FuncData} {ps : List Str} {sp : Sp}
    (F : FnOk P w K mg base CX0 k f fd ps sp) : FnG P w K mg base k f fd ps sp :=
  ⟨F.len, fun A out s H args us vs Q E hr _ => F.run A out s H args us vs Q E hr⟩

theorem okG {x qual : Str} {st : Stmt} {f : Addr} {fd : FuncData} {N ps : List Str} {k : Nat} {sp : Sp}
    (F : Fun K x qual st f fd) (S : FnScope N ps (defScope st))
    (len : ∀ vs H Q E, sp vs H Q E → vs.length = ps.length)
    (hb : ∀ (cdv : Value) (A : Around) (out : List Env) (s : Shared) (H : Hp) (vs : List V) (Q : VK) (E : XK),
      Room k (A.deeper (envOfC qual (defScope st) s.heap.objs.size f cdv)) → A.guards = some [] → sp vs H Q E →
      ∃ t, PSs (cxOf CX0 P w K mg base N qual (defScope st) f cdv A out s H E).nox (defBody st) t ∧
        t { nx := fun _ H' => Q .non H', rt := Q } (start N vs) H) :
    FnG P w K mg base (k + 1) f fd ps sp := by
  obtain ⟨oc, od, kV, doc, pm, an, cdv, ct, osl, rfl, lk, hcd⟩ := F.ex
  refine ⟨len, fun A out s H args us vs Q E hr gd e0 bnd r hsp => ?_⟩
  have stays : ∀ b o, base.get? b = some o → s.heap.get? b = some o := fun b o e => (e0.bs b o e).1
  have KX : K.In s.heap := e0.mod.kin.keeps stays
  have nl : s.heap.NoLimit := e0.mod.nolimit.keeps stays
  have kinds : ∀ y ∈ ps.zip us, (defScope st).names.lookup y.1 = some .local ∨
      ((defScope st).names.lookup y.1 = some .cell ∧
        ((cellsFrom (s.heap.objs.size + 1) (defScope st).names []).lookup y.1).isSome = true) := by
    rintro ⟨n, v⟩ hy
    exact (S.par n (List.of_mem_zip hy).1).imp id fun q => ⟨q, PySem.W.cellsFrom_some _ _ _ (.inl q)⟩
  refine codeAny_call_function hr.depth (KX _ _ lk) rfl S.co S.gen rfl
    (PySem.W.codeRec_of KX hcd) (bnd _ _ _ _ ?_)
  refine wpAny_newFunctionEnv_cells S.kind kinds fun env he s1 ic => ?_
  subst he
  refine ⟨nl.keeps ic.toInCall.keep, codeAny_func ?_⟩
  obtain ⟨t, ht, hq⟩ := hb cdv A out s H vs Q E (hr.deeper _) gd hsp
  have J := inv_start (CX := CX0) (E := E) S hr.hd e0 (len _ _ _ _ hsp) r ic
  refine wpAny_mono (ht.nox.run [] s1 (start N vs) H _ J hq) (fun fl s' hs => ?_) fun e s' hs => hs
  match fl, hs with
  | .ret u, ⟨v, σ', H', J', rv, q⟩ => exact ⟨v, H', J'.os, J'.bare, J'.base, J'.hok, rv, q⟩
  | .next, ⟨σ', H', J', q⟩ => exact ⟨V.non, H', J'.os, J'.bare, J'.base, J'.hok, rfl, q⟩
  | .brk, ⟨_, _, _, q⟩ => exact False.elim q
  | .cont, ⟨_, _, _, q⟩ => exact False.elim q
end

section
variable {X : Cx} {k : Nat} {f : Addr} {fd : FuncData} {ps : List Str} {sp : Sp} {x : Str} {p pos : Pos}
  {e : Expr} {es : List Expr} {t : TA}
theorem pe_callG (F : FnG X.prog X.w X.K X.mg X.base k f fd ps sp) (hr : Room k X.A) (gd : X.A.guards = some [])
    (hg : Gl X x) (hm : X.mg x = some (.ref f)) (hk : PySem.W.keepIn X.K (.ref f) = true) (hb : Binds X.K fd ps [])
    (ha : PA X (e :: es) t) (hdb : (x == ("__debug__" : Str)) = false := by decide)
    (he : starEach (e :: es) X.env = (false, eval e X.env) :: starEach es X.env := by rfl)
    (hpl : (backTo pos (starEach es X.env)).any (·.1) = false := by rfl) :
    PE X (.Call (.Name x p) (e :: es) [] pos) (tCall sp [] E0 t) := by
  refine ⟨fun pins s σ H Q I h => wpAny_Call_Name_kw (ld_glob I hg hm ?_ hdb)⟩
  refine PySem.W.callWith_K (h₀ := X.base) I.ok.mod.kin hk
    (thn (ha.run pos pins s σ H _ I h) fun us s1 ⟨vs, H1, I1, r, q⟩ => ⟨I1.kIn, ?_⟩) he hpl
  have q1 : sp (vs ++ []) H1 Q E0 := q
  have q2 : sp vs H1 Q E0 := by rw [List.append_nil] at q1; exact q1
  have bd := hb s1 us I1.kIn (by rw [List.append_nil, ← r.length]; exact F.wide _ _ _ _ q2)
  rw [List.append_nil] at bd
  refine wpAny_call (codeAny_mono (F.goes X.A X.stack s1 H1 ⟨us, []⟩ us vs Q E0 hr gd I1.env0 bd r q2)
    fun res s' hq => ?_)
  match res, hq with
  | .ok (.ret u), hq => exact I1.after hq
  | .ok .next, hq => exact False.elim hq
  | .ok .brk, hq => exact False.elim hq
  | .ok .cont, hq => exact False.elim hq
  | .error e, hq => exact False.elim hq
end

/-! ### the law's own call -/
theorem law_callG {P : Program} {w : World} {K : PySem.W.Frag} {mg mb : Str → Option Value} {k : Nat}
    {fa a : Addr} {fd : FuncData} {x : Str} {sp : Sp} {s : Shared} {vs : List Value} {ns : List Int}
    (KX : K.In s.heap) (hns : s.heap.Ns mainGlobals mg) (hb : s.heap.Ns builtinsNs mb)
    (hbb : ∀ x : Str, x ≠ "__name__" → mb x = bootBuiltins x) (nl : s.heap.NoLimit) (hg : s.gens = #[])
    (ha : s.heap.get? a = some { cls := .type "list", data := .seq vs.toArray }) (hi : IntsAre vs ns)
    (hl : ns.length ≤ sizeLine) (hr : Room k callerA)
    (F : ∀ base : Heap, K.In base → base.Ns mainGlobals mg → FnG P w K mg base k fa fd [x] sp)
    (bnd : ∀ (s : Shared) (u : Value), BindsTo s fd ⟨[u], []⟩ [(x, u)])
    (hsp : ∀ H : Hp, Only H → SqL K H a (ns.map V.int) → sp [.ref a] H (fun v _ => v = .bl true) E0) :
    codeAny (model P w) callerA (.call (.ref fa) ⟨[.ref a], []⟩)
      (fun r s' => r = .ok (.ret (.bool true)) ∧ OldK s.heap s'.heap ∧ s'.os = s.os ∧ AllBare s'.gens) s := by
  have rv := vals_ints hi
  have core : ∀ H : Hp, Only H → SqL K H a (ns.map V.int) → HOk P w H s.heap →
      (∀ b u, H b = some u → b = a) → ((∃ u, H a = some u) → K.lookup a = none) →
      codeAny (model P w) callerA (.call (.ref fa) ⟨[.ref a], []⟩)
        (fun r s' => r = .ok (.ret (.bool true)) ∧ OldK s.heap s'.heap ∧ s'.os = s.os ∧ AllBare s'.gens) s := by
    intro H hO hS hok hA hK
    have dictFree : ∀ {b : Addr} {o : Obj} {es : Array DictEntry} {ep : Nat},
        s.heap.get? b = some o → o.data = .dict es ep → H b = none := by
      intro b o es ep e d
      cases q : H b with
      | none => rfl
      | some u =>
        rw [hA b u q, ha] at e
        cases e
        exact nomatch d
    have nsK : ∀ {b : Addr} {m : Str → Option Value}, s.heap.Ns b m → (hidT s.heap H).Ns b m := by
      rintro b m ⟨o, es, ep, e, d, r⟩
      exact ⟨o, es, ep, hidT_get e (dictFree e d), d, r⟩
    have hKb : K.In (hidT s.heap H) := by
      intro b o e
      refine hidT_get (KX b o e) ?_
      cases q : H b with
      | none => rfl
      | some u =>
        have eb := hA b u q
        rw [eb] at e q
        rw [hK ⟨u, q⟩] at e
        cases e
    have hM : Mod K mg (hidT s.heap H) :=
      ⟨hKb, nsK hns, ⟨mb, nsK hb, hbb⟩, let ⟨mc, h1, h2⟩ := nl; ⟨mc, nsK h1, h2⟩⟩
    have e0 : Env0 P w K mg (hidT s.heap H) callerA [] s H :=
      ⟨rfl, hM, fun b o e => of_hidT e, Nat.le_of_eq (hidT_size _ _), trivial, fun b z => (nomatch z), hok, .of_eq hg⟩
    refine codeAny_mono ((F _ hKb (nsK hns)).goes callerA [] s H ⟨[.ref a], []⟩ [.ref a] [.ref a] _ _ hr rfl
      e0 (bnd s (.ref a)) (.cons rfl .nil) (hsp H hO hS)) fun r s' h => ?_
    match r, h with
    | .error e, h => exact False.elim h
    | .ok .next, h => exact False.elim h
    | .ok .brk, h => exact False.elim h
    | .ok .cont, h => exact False.elim h
    | .ok (.ret u), h =>
      obtain ⟨v, H', os, bare, un, hok', r', q⟩ := h
      obtain rfl : v = .bl true := q
      obtain rfl : u = Value.bool true := r'
      refine ⟨rfl, OldK.of_keep fun b o e => ?_, os, bare⟩
      rcases hO b with z | ⟨ob, xs, z⟩
      · exact un.keep b o e z (fun m => (nomatch m)) (fun m => (nomatch m))
      · have z2 := un.frzs b ob _ z
        have e1 := (hok b _ z).1
        have e2 := (hok' b _ z2).1
        rw [e] at e1
        cases e1
        exact e2
  cases hk : K.lookup a with
  | some o =>
    have e := KX a o hk
    rw [ha] at e
    cases e
    refine core (fun _ => none) (fun _ => .inl rfl) (.inr ⟨_, vs.toArray, _, hk, rfl, rfl, rfl, ?_, by simpa using rv⟩)
      (fun b u z => (nomatch z)) (fun b u z => (nomatch z)) fun ⟨u, z⟩ => (nomatch z)
    rw [List.size_toArray, hi.length]
    exact hl
  | none =>
    let ob : Obj := { cls := .type "list", data := .seq vs.toArray }
    let G : Hp := fun b => if b = a then some (.frz ob (.lst (ns.map V.int))) else none
    have at_a : G a = some (.frz ob (.lst (ns.map V.int))) := if_pos rfl
    have off : ∀ b, b ≠ a → G b = none := fun b z => if_neg z
    refine core G (fun b => ?_) (.inl (.inr ⟨ob, at_a⟩)) (fun b u z => ?_) (fun b u z => ?_) fun _ => hk
    · by_cases hb : b = a
      · exact .inr ⟨ob, _, by rw [hb]; exact at_a⟩
      · exact .inl (off b hb)
    · by_cases hb : b = a
      · rw [hb, at_a] at z
        cases z
        rw [hb]
        exact ⟨ha, by rw [List.length_map]; exact hl, vs, _, rv, ha⟩
      · rw [off b hb] at z
        cases z
    · by_cases hb : b = a
      · exact hb
      · rw [off b hb] at z
        cases z

theorem walk_ofG {l : PySem.W.OpenLaw} {n k : Nat} {q : Program} {loose : List Str}
    {XP : (Str → Option Value) → Heap → Prop} {YP : World → Heap → Prop} {d : DefRec}
    {K : Params → PySem.W.Frag} {sp : World → Sp} {x : Str}
    (hn : l.most = some n) (hn2 : n ≤ sizeLine) (hdf : d.params.defaults = []) (hr : Room k callerA)
    (hY : ∀ (w : World) (h : Heap), YP w h → (K w.params).In h)
    (F : ∀ (w : World) (mg : Str → Option Value) (fa : Addr) (h : Heap), (K w.params).In h →
      h.Ns mainGlobals mg → mg d.name = some (.ref fa) →
      ∃ fd : FuncData, (∀ (s : Shared) (u : Value), BindsTo s fd ⟨[u], []⟩ [(x, u)]) ∧
        ∀ base : Heap, (K w.params).In base → base.Ns mainGlobals mg →
          FnG l.prog w (K w.params) mg base k fa fd [x] (sp w))
    (hsp : ∀ (w : World) (H : Hp) (a : Addr) (ns : List Int), ns.length ≤ n → Only H →
      SqL (K w.params) H a (ns.map V.int) → sp w [.ref a] H (fun v _ => v = .bl true) E0) :
    PySem.W.WalkO q loose XP YP l.row.toRowW d [] (fun f vs => PySem.call f vs) := by
  refine Att.attach_call hn hdf fun w s₀ s₁ mg mb fa o pm cd doc a vs ns G Y ho hd hcd hmg hobj hints hlen hg => ?_
  obtain ⟨fd, hb, hF⟩ := F w mg fa _ (hY w _ Y) G.T.g hmg
  exact law_callG (hY w _ Y) G.T.g G.T.b G.T.builtins G.T.nolimit hg hobj hints
    (Nat.le_trans hlen hn2) hr hF hb fun H hO hS => hsp w H a ns hlen hO hS
end TL
namespace TL
open PySem PySem.Spec PyProof.Rows L2

/-! ### repr of data -/
structure Shows (d : PyData) : Prop where
  can : d.showable = true
  nod : d.hasDict = false
  deep : d.depth ≤ 60
  fits : d.shown.length ≤ sizeLine
def rRepr (K : PySem.W.Frag) : List V → Hp → VK → Prop := fun xs H Q =>
  ∃ (y : V) (d : PyData), xs = [y] ∧ Dp K H y d ∧ Shows d ∧ Q (.str d.shown) H
section
variable {X : Cx}
theorem call_reprD (gd : X.A.guards = some []) (hu : X.A.units + 64 < cLine) :
    CallR X (.builtin "repr") (rRepr X.K) := by
  intro pins s σ H xs us Q I r h
  obtain ⟨y, d, rfl, hd, sh, q⟩ := h
  cases r with
  | cons r1 r2 =>
    rename_i u us'
    cases r2
    obtain ⟨as, rd⟩ := Dp.reads I d y u hd r1
    have big : ∀ a, u = Value.ref a → wpAny (model X.prog X.w) X.A (call (.builtin "repr") [u]) (EP X pins σ Q) X.xe s := by
      intro a e
      subst e
      refine repr_of_reads' rd sh.can (fun z => ?_) gd (by have := sh.deep; omega) (fun _ _ e => e) (fun h' u tk hk => ?_) sh.fits
      · rw [sh.nod] at z
        cases z
      · exact ⟨.str d.shown, H, I.kept (t' := tk) hk, ⟨u, rfl⟩, q⟩
    cases hd with
    | non =>
      obtain rfl : u = Value.none := r1
      rw [PyData.shown_none] at q
      exact PySem.P.repr_of_none ⟨.str _, H, I.tok _, ⟨_, rfl⟩, q⟩
    | bl b =>
      obtain rfl : u = Value.bool b := r1
      rw [PyData.shown_bool] at q
      exact PySem.P.repr_of_bool ⟨.str _, H, I.tok _, ⟨_, rfl⟩, q⟩
    | int i =>
      obtain ⟨t, rfl⟩ := r1
      rw [PyData.shown_int] at q
      exact PySem.P.repr_of_int (by have := sh.can; simpa [PyData.showable] using this) ⟨.str _, H, I.tok _, ⟨_, rfl⟩, q⟩
    | str x =>
      obtain ⟨t, rfl⟩ := r1
      have z := sh.fits
      rw [PyData.shown_str] at q z
      exact PySem.P.repr_of_str ⟨.str _, H, I.tok _, ⟨_, rfl⟩, q⟩ z
    | lst hs ha => exact big _ r1
    | tup hs ha => exact big _ r1
end

/-! ### t[::-1], t a tuple -/
section
variable {prog : Program} {w : World} {A : Around} {E : Value → Shared → Prop} {s : Shared}
theorem fm_congr {α β : Type} (f g : α → Option β) : ∀ l : List α, (∀ x ∈ l, f x = g x) → l.filterMap f = l.filterMap g
  | [], _ => rfl
  | a :: r, h => by
    rw [List.filterMap_cons, List.filterMap_cons, h a List.mem_cons_self, fm_congr f g r fun x hx => h x (List.mem_cons_of_mem _ hx)]
theorem places_back (n : Nat) : Builtin.Slice.slicePlaces ((n : Int) - 1) (-1) (-1) = n := by
  unfold Builtin.Slice.slicePlaces
  rw [if_neg (by decide)]
  by_cases h : (n : Int) - 1 > -1
  · rw [if_pos h]
    have e : ((n : Int) - 1 - -1 - 1) / (- -1) + 1 = (n : Int) := by
      rw [show (- -1 : Int) = 1 by decide, Int.ediv_one]
      omega
    rw [e]
    exact Int.toNat_natCast n
  · rw [if_neg h]
    show (0 : Nat) = n
    omega
theorem pick_back (xs : Array Value) :
    ((List.range xs.size).filterMap fun (m : Nat) => xs[((xs.size : Int) - 1 + (m : Int) * (-1)).toNat]?).toArray = xs.toList.reverse.toArray := by
  have e : (List.range xs.size).filterMap (fun (m : Nat) => xs[((xs.size : Int) - 1 + (m : Int) * (-1)).toNat]?)
      = ((List.range xs.size).map fun k => xs.size - 1 - k).filterMap (xs[·]?) := by
    rw [List.filterMap_map]
    refine fm_congr _ _ _ fun m hm => ?_
    have := List.mem_range.mp hm
    have q : ((xs.size : Int) - 1 + (m : Int) * (-1)).toNat = xs.size - 1 - m := by omega
    rw [q]
    rfl
  rw [e, PySem.W.krv_range, List.filterMap_reverse, PySem.W.krv_all]
theorem back_applied {sl : Addr} {vk : Value} {n : Nat} {Q : Int × Int × Nat → Shared → Prop}
    (hs : s.heap.IsSliceOf sl .none .none vk) (pk : IsPart vk (some (-1)))
    (h : Q ((n : Int) - 1, -1, n) s) : wpAny (model prog w) A (Builtin.Slice.sliceApplied (.ref sl) (pure (n : Int))) Q E s := by
  obtain ⟨os, hos, hcs, hds⟩ := id hs
  unfold Builtin.Slice.sliceApplied Builtin.Slice.sliceFields
  refine wpAny_bind (wpAny_bind (wpAny_field hos hds (x := .none) rfl (wpAny_bind (wpAny_field hos hds (x := .none) rfl
    (wpAny_bind (wpAny_field hos hds (x := vk) rfl (wpAny_pure ?_)))))))
  refine wpAny_bind (HT.slicePart_ pk ?_)
  show wpAny _ _ (if ((-1 : Int) == 0) = true then _ else _) _ _ s
  rw [if_neg (by decide)]
  refine wpAny_bind (slicePart_none (wpAny_bind (slicePart_none (wpAny_bind (wpAny_pure ?_)))))
  show wpAny _ _ (pure ((n : Int) - 1, (-1 : Int), Builtin.Slice.slicePlaces ((n : Int) - 1) (-1) (-1))) _ _ s
  rw [places_back]
  exact wpAny_pure h
theorem getItem_back {t sl : Addr} {items : Array Value} {vk : Value} {Q : Value → Shared → Prop}
    (ht : IsTup s.heap t items) (hs : s.heap.IsSliceOf sl .none .none vk) (pk : IsPart vk (some (-1)))
    (h : Q (.ref s.heap.objs.size) { s with heap := s.heap.push { cls := .type "tuple", data := .seq items.toList.reverse.toArray } })
    (hsz : items.size ≤ sizeLine) : wpAny (model prog w) A (getItem (.ref t) (.ref sl)) Q E s := by
  have hz : sizeOk (.seq items.toList.reverse.toArray) := by
    show items.toList.reverse.toArray.size ≤ sizeLine
    rw [List.size_toArray, List.length_reverse, Array.length_toList]
    exact hsz
  obtain ⟨os, hos, hcs, hds⟩ := id hs
  have hTs : s.TypeIs (.ref sl) "slice" := ⟨os, hos, hcs⟩
  unfold getItem
  try with_reducible refine wpAny_holding ?_
  first | refine wpAny_bind (wpAny_pure ?_) | skip
  refine wpAny_bind (wpAny_sequenceKey ht.typeIs (by decide) ?_)
  refine wpAny_bind (wpAny_callSpecial?_slot (name := Str.ofString "__getitem__") ht.typeIs
    PyProof.Rows.slot_tuple_getitem (wpAny_call_entry PyProof.Rows.slot_tuple_getitem ht.typeIs
      entry_tuple_getitem ?_ (args_tuple_getitem _ _)))
  show wpAny _ _ (Builtin.Tuple.tupleItemsOf (.ref t) >>= _) _ _ s
  refine wpAny_bind (tupleItemsOf_ ht (wpAny_bind (wpAny_typeOf hTs ?_)))
  rw [if_pos (by decide)]
  refine wpAny_bind (back_applied hs pk ?_)
  show wpAny _ _ (if (((items.size : Int) - 1 == 0) && ((-1 : Int) == 1) && (items.size == items.size)) = true then _ else _) _ _ s
  rw [if_neg (by rw [show ((-1 : Int) == 1) = false by decide, Bool.and_false, Bool.false_and]; decide), pick_back]
  first
    | exact wpAny_bind (m := Builtin.Tuple.tupleExact _) (wpAny_newObj_type (wpAny_pure ⟨_, rfl, wpAny_pure h⟩) hz)
    | exact wpAny_bind (m := Builtin.Tuple.tupleExact _) (wpAny_newObj_type (wpAny_bind (wpAny_pure (wpAny_pure ⟨_, rfl, wpAny_pure h⟩))) hz)
    | exact wpAny_bind (wpAny_bind (m := Builtin.Tuple.tupleExact _) (wpAny_newObj_type (wpAny_pure (wpAny_pure ⟨_, rfl, wpAny_pure h⟩)) hz))
    | exact wpAny_bind (wpAny_bind (m := Builtin.Tuple.tupleExact _) (wpAny_newObj_type (wpAny_pure ⟨_, rfl, wpAny_pure h⟩) hz))
end
section
variable {X : Cx}
def tRevT (K : PySem.W.Frag) (te : TE) : TE := fun σ H Q => te σ H fun x H1 =>
  ∃ a xs, x = .ref a ∧ SqT K H1 a xs ∧ ∀ p, H1 p = none → Q (.ref p) (upd H1 p (.tup xs.reverse))
theorem pe_revT {e : Expr} {te : TE} {k : Nat} {p1 p2 p3 pos : Pos} (he : PE X e te) :
    PE X (.Subscript e (.Slice none none (some (.UnaryOp .USub (.Constant (.int 1) k p1) p2)) p3) pos) (tRevT X.K te) := by
  refine ⟨fun pins s σ H Q I h => Subscript_ (thn (he.run pins s σ H _ I h) fun v s1 ⟨x, H1, I1, r1, q1⟩ => ?_)⟩
  obtain ⟨a, xs, ex, hx, q⟩ := q1
  subst ex
  cases r1
  have hst : PO X (some (.UnaryOp .USub (.Constant (.int 1) k p1) p2))
    (tPart (tUn (rU fun i => .int (-i)) (tC (.int 1)))) := po_some (pe_un un_neg pe_int)
  refine wpAny_Slice ?_
  rw [evalPart_none]
  refine wpAny_pure ?_
  refine wpAny_pure ?_
  refine thn (hst.run pins s1 σ H1 (fun o H4 => o = some (-1) ∧ H4 = H1) I1 ⟨1, rfl, -1, rfl, rfl, rfl⟩)
    fun vk s4 ⟨o, H4, I4, pk, eo, e4⟩ => ?_
  subst eo e4
  have I5 : Inv X pins σ H4 { s4 with heap := s4.heap.push { cls := .type "slice", data := .fields #[.none, .none, vk] } } :=
    I4.kept (t' := s4.toks) fun b ob q => Heap.get?_push_of_some _ q
  obtain ⟨its, r, ht, hz⟩ := I5.tuple hx
  have hlen := r.length
  refine tail_any (ops := [.ref a, .ref s4.heap.objs.size]) ht.typeIs PyProof.Rows.slot_tuple_getitem.lookup ?_ (by with_unfolding_all rfl)
  refine getItem_back ht (Heap.IsSliceOf.new _ .none .none vk) pk ?_ (by rw [List.size_toArray]; omega)
  refine ⟨.ref _, _, I5.laid (t' := s4.toks) (o := .tup xs.reverse) (fun b ob q => Heap.get?_push_of_some _ q) (Nat.le_refl _) ?_,
    rfl, q _ (I5.hok.fresh (Nat.le_refl _))⟩
  exact ⟨by rw [List.length_reverse]; exact hz, _, r.reverse, IsTup.new _ _⟩
end
/-! ### the rules with the written part as a letter of its own (within comprehensions) -/
section
variable {X : Cx}
theorem ixTK (K : PySem.W.Frag) (h : X.K = K := by rfl) : IxR X (rIxT K) := h ▸ ix_tup
theorem ixLK (K : PySem.W.Frag) (h : X.K = K := by rfl) : IxR X (rIxL K) := h ▸ ix_list
def rLenK (K : PySem.W.Frag) : List V → Hp → VK → Prop := fun xs H Q => ∃ p ys, xs = [.ref p] ∧ (SqL K H p ys ∨ SqT K H p ys) ∧ Q (.int ys.length) H
theorem lenK (K : PySem.W.Frag) (h : X.K = K := by rfl) : CallR X (.builtin "len") (rLenK K) := h ▸ call_len_seq
def rTupK (K : PySem.W.Frag) : List V → Hp → VK → Prop := fun xs H Q => ∃ p ys, xs = [.ref p] ∧
  ((SqL K H p ys ∧ ∀ l, H l = none → Q (.ref l) (upd H l (.tup ys))) ∨ (SqT K H p ys ∧ Q (.ref p) H))
theorem tupleK (K : PySem.W.Frag) (h : X.K = K := by rfl) : CallR X (.type "tuple") (rTupK K) := h ▸ call_tuple_of
theorem catAK (K : PySem.W.Frag) (h : X.K = K := by rfl) : OpR X (binaryOp .Add) (rCatA K) := h ▸ op_catA
theorem revTK (K : PySem.W.Frag) {e : Expr} {te : TE} {k : Nat} {p1 p2 p3 pos : Pos} (he : PE X e te) (h : X.K = K := by rfl) :
    PE X (.Subscript e (.Slice none none (some (.UnaryOp .USub (.Constant (.int 1) k p1) p2)) p3) pos) (tRevT K te) := h ▸ pe_revT he
theorem reprK (K : PySem.W.Frag) (gd : X.A.guards = some []) (hu : X.A.units + 64 < cLine) (h : X.K = K := by rfl) :
    CallR X (.builtin "repr") (rRepr K) := h ▸ call_reprD gd hu
end
end TL
namespace TL
open PySem PySem.Spec PyProof.Rows L2

/-! ### heaps -/
theorem same_upd {H : Hp} {p : Addr} {o : HO} (h : H p = none) : Same H (upd H p o) := fun b x e => by
  rw [upd_ne (ne_of_none e h)]
  exact e
theorem same_at {H : Hp} {p : Addr} {o : HO} (_ : H p = none) : upd H p o p = some o := upd_same
theorem Same.tup {K : PySem.W.Frag} {H H' : Hp} {a : Addr} {xs : List V} (e : Same H H') (h : SqT K H a xs) : SqT K H' a xs := by
  rcases h with (h | ⟨o, h⟩) | h
  · exact .inl (.inl (e _ _ h))
  · exact .inl (.inr ⟨o, e _ _ h⟩)
  · exact .inr h
/-- every tuple stays -/
def KT (K : PySem.W.Frag) (H H' : Hp) : Prop := ∀ a xs, SqT K H a xs → SqT K H' a xs
theorem KT.refl {K : PySem.W.Frag} {H : Hp} : KT K H H := fun _ _ h => h
theorem KT.trans {K : PySem.W.Frag} {H H1 H2 : Hp} (a : KT K H H1) (b : KT K H1 H2) : KT K H H2 := fun c o h => b c o (a c o h)
theorem Same.kt {K : PySem.W.Frag} {H H' : Hp} (e : Same H H') : KT K H H' := fun _ _ h => Same.tup e h
/-- all but what stands at d and l is as it was -/
def Fm (d l : Addr) (H H' : Hp) : Prop := ∀ b o, b ≠ d → b ≠ l → H b = some o → H' b = some o
theorem Fm.refl {d l : Addr} {H : Hp} : Fm d l H H := fun _ _ _ _ h => h
theorem Fm.trans {d l : Addr} {H H1 H2 : Hp} (a : Fm d l H H1) (b : Fm d l H1 H2) : Fm d l H H2 :=
  fun c o h1 h2 h => b c o h1 h2 (a c o h1 h2 h)
theorem Same.fm {d l : Addr} {H H' : Hp} (e : Same H H') : Fm d l H H' := fun b o _ _ h => e b o h

/-! ### the deck: a list of cells and a count -/
def Deck (H : Hp) (d l : Addr) (n : Nat) : Prop := ∃ (c : Nat) (ns : List Int), c ≤ n ∧
  H d = some (.lst [.ref l, .int (c : Int)]) ∧ H l = some (.lst (ns.map V.int)) ∧ (∀ z ∈ ns, 0 ≤ z) ∧ ns.length ≤ 63
theorem Deck.ne {H : Hp} {d l : Addr} {n : Nat} (h : Deck H d l n) : d ≠ l := by
  obtain ⟨c, ns, _, h1, h2, _⟩ := h
  intro e
  rw [e, h2] at h1
  cases ns with
  | nil => cases h1
  | cons z r => cases h1
theorem Deck.same {H H' : Hp} {d l : Addr} {n : Nat} (h : Deck H d l n) (e : Same H H') : Deck H' d l n := by
  obtain ⟨c, ns, hc, h1, h2, h3⟩ := h
  exact ⟨c, ns, hc, e _ _ h1, e _ _ h2, h3⟩
theorem Deck.le {H : Hp} {d l : Addr} {n m : Nat} (h : Deck H d l n) (e : n ≤ m) : Deck H d l m := by
  obtain ⟨c, ns, hc, h3⟩ := h
  exact ⟨c, ns, Nat.le_trans hc e, h3⟩
theorem Fm.kt {K : PySem.W.Frag} {H H' : Hp} {d l : Addr} {n : Nat} (e : Fm d l H H') (h : Deck H d l n) : KT K H H' := by
  obtain ⟨c, ns, hc, h1, h2, h3⟩ := h
  intro a xs q
  rcases q with (q | ⟨o, q⟩) | q
  · refine .inl (.inl (e _ _ (fun z => ?_) (fun z => ?_) q))
    · rw [z, h1] at q; cases q
    · rw [z, h2] at q; cases q
  · refine .inl (.inr ⟨o, e _ _ (fun z => ?_) (fun z => ?_) q⟩)
    · rw [z, h1] at q; cases q
    · rw [z, h2] at q; cases q
  · exact .inr q
/-- a tracked thing that is neither -/
theorem Deck.off {H : Hp} {d l a : Addr} {n : Nat} (h : Deck H d l n) (ha : H a = none) : a ≠ d ∧ a ≠ l := by
  obtain ⟨c, ns, hc, h1, h2, h3⟩ := h
  exact ⟨fun z => (by rw [z, h1] at ha; cases ha), fun z => (by rw [z, h2] at ha; cases ha)⟩

theorem Deck.put {H : Hp} {d l a : Addr} {n : Nat} {o : HO} (h : Deck H d l n) (h1 : a ≠ d) (h2 : a ≠ l) : Deck (upd H a o) d l n := by
  obtain ⟨c, ns, hc, e1, e2, h3⟩ := h
  exact ⟨c, ns, hc, by rw [upd_ne h1.symm]; exact e1, by rw [upd_ne h2.symm]; exact e2, h3⟩
theorem kt_lst {K : PySem.W.Frag} {H : Hp} {a : Addr} {xs ys : List V} (h : H a = some (.lst xs)) : KT K H (upd H a (.lst ys)) := by
  intro b zs q
  rcases q with (q | ⟨o, q⟩) | q
  · refine .inl (.inl ?_)
    rw [upd_ne fun z => by rw [z, h] at q; cases q]
    exact q
  · refine .inl (.inr ⟨o, ?_⟩)
    rw [upd_ne fun z => by rw [z, h] at q; cases q]
    exact q
  · exact .inr q

/-! ### data -/
mutual
def only : PyData → Bool
  | .none => true
  | .bool _ => true
  | .int _ => true
  | .str _ => true
  | .tuple xs => onlyAll xs
  | .list _ => false
  | .dict _ => false
def onlyAll : List PyData → Bool
  | [] => true
  | x :: xs => only x && onlyAll xs
end
section
variable {K : PySem.W.Frag} {H H' : Hp}
mutual
theorem Dp.kt (e : KT K H H') : ∀ {v : V} {d : PyData}, Dp K H v d → only d = true → Dp K H' v d
  | _, _, .non, _ => .non
  | _, _, .bl b, _ => .bl b
  | _, _, .int i, _ => .int i
  | _, _, .str x, _ => .str x
  | _, _, .lst h a, o => by
    unfold only at o
    cases o
  | _, _, .tup h a, o => .tup (e _ _ h) (DpAll.kt e a (by unfold only at o; exact o))
theorem DpAll.kt (e : KT K H H') : ∀ {v : List V} {d : List PyData}, DpAll K H v d → onlyAll d = true → DpAll K H' v d
  | _, _, .nil, _ => .nil
  | _, _, .cons h a, o => by
    unfold onlyAll at o
    rw [Bool.and_eq_true] at o
    exact .cons (Dp.kt e h o.1) (DpAll.kt e a o.2)
end
mutual
theorem Dp.same (e : Same H H') : ∀ {v : V} {d : PyData}, Dp K H v d → Dp K H' v d
  | _, _, .non => .non
  | _, _, .bl b => .bl b
  | _, _, .int i => .int i
  | _, _, .str x => .str x
  | _, _, .lst h a => .lst (e.seq h) (DpAll.same e a)
  | _, _, .tup h a => .tup (Same.tup e h) (DpAll.same e a)
theorem DpAll.same (e : Same H H') : ∀ {v : List V} {d : List PyData}, DpAll K H v d → DpAll K H' v d
  | _, _, .nil => .nil
  | _, _, .cons h a => .cons (Dp.same e h) (DpAll.same e a)
end
theorem DpAll.length : ∀ {v : List V} {d : List PyData}, DpAll K H v d → v.length = d.length
  | _, _, .nil => rfl
  | _, _, .cons _ a => congrArg (· + 1) (DpAll.length a)
theorem DpAll.append : ∀ {v u : List V} {d e : List PyData}, DpAll K H v d → DpAll K H u e → DpAll K H (v ++ u) (d ++ e)
  | _, _, _, _, .nil, b => b
  | _, _, _, _, .cons h a, b => .cons h (DpAll.append a b)
theorem DpAll.reverse : ∀ {v : List V} {d : List PyData}, DpAll K H v d → DpAll K H v.reverse d.reverse
  | _, _, .nil => .nil
  | _, _, .cons h a => by
    rw [List.reverse_cons, List.reverse_cons]
    exact DpAll.append (DpAll.reverse a) (.cons h .nil)
theorem DpAll.get : ∀ {v : List V} {d : List PyData} {i : Nat} {x : V}, DpAll K H v d → v[i]? = some x → ∃ z, d[i]? = some z ∧ Dp K H x z
  | _, _, _, _, .nil, q => by simp at q
  | _, _, 0, _, .cons h a, q => by
    rw [List.getElem?_cons_zero] at q
    cases q
    exact ⟨_, List.getElem?_cons_zero, h⟩
  | _, _, i + 1, _, .cons h a, q => by
    rw [List.getElem?_cons_succ] at q
    obtain ⟨z, e, r⟩ := DpAll.get a q
    exact ⟨z, by rw [List.getElem?_cons_succ]; exact e, r⟩
theorem Dp.tupI {v : V} {ds : List PyData} (h : Dp K H v (.tuple ds)) : ∃ a xs, v = .ref a ∧ SqT K H a xs ∧ DpAll K H xs ds := by
  cases h with
  | tup h a => exact ⟨_, _, rfl, h, a⟩
theorem Dp.lstI {v : V} {ds : List PyData} (h : Dp K H v (.list ds)) : ∃ a xs, v = .ref a ∧ SqL K H a xs ∧ DpAll K H xs ds := by
  cases h with
  | lst h a => exact ⟨_, _, rfl, h, a⟩
theorem Dp.intI {v : V} {i : Int} (h : Dp K H v (.int i)) : v = .int i := by
  cases h
  rfl
theorem DpAll.ints : ∀ {xs : List V} {ns : List Int}, DpAll K H xs (ns.map .int) → xs = ns.map V.int
  | [], [], _ => rfl
  | _ :: _, n :: ns, .cons h a => by
    rw [Dp.intI h, DpAll.ints a]
    rfl
theorem DpAll.of_ints : ∀ (ns : List Int), DpAll K H (ns.map V.int) (ns.map .int)
  | [] => .nil
  | n :: ns => .cons (.int n) (DpAll.of_ints ns)
end

/-! ### pairs of ints -/
def prD (p : Int × Int) : PyData := .tuple [.int p.1, .int p.2]
def prsD (ps : List (Int × Int)) : PyData := .tuple (ps.map prD)
theorem only_pr (p : Int × Int) : only (prD p) = true := by simp [prD, only, onlyAll]
theorem only_prs : ∀ ps : List (Int × Int), onlyAll (ps.map prD) = true
  | [] => by simp [onlyAll]
  | p :: ps => by simp [onlyAll, only_pr p, only_prs ps]
theorem only_prsD (ps : List (Int × Int)) : only (prsD ps) = true := by
  unfold prsD only
  exact only_prs ps
section
variable {K : PySem.W.Frag} {H : Hp}
theorem Dp.prI {v : V} {p : Int × Int} (h : Dp K H v (prD p)) : ∃ a, v = .ref a ∧ SqT K H a [.int p.1, .int p.2] := by
  obtain ⟨a, xs, e, h1, h2⟩ := Dp.tupI h
  have q : xs = [p.1, p.2].map V.int := DpAll.ints (ns := [p.1, p.2]) h2
  subst q
  exact ⟨a, e, h1⟩
theorem Dp.pr {a : Addr} {i j : Int} (h : SqT K H a [.int i, .int j]) : Dp K H (.ref a) (prD (i, j)) :=
  .tup h (.cons (.int i) (.cons (.int j) .nil))
end

/-! ### showing small data -/
def sm (i : Int) : Prop := -1000 ≤ i ∧ i ≤ 1000
theorem sm_log {i : Int} (h : sm i) : i.natAbs.log2 < 10 := by
  have h2 : i.natAbs < 2 ^ 10 := by
    unfold sm at h
    omega
  exact PySem.Flt.log2_lt_of (by decide) h2
structure Sm (d : PyData) (n k : Nat) : Prop where
  can : d.showable = true
  nod : d.hasDict = false
  deep : d.depth ≤ k
  short : d.leavesShort 13 = true
  light : d.weight ≤ n
theorem Sm.shows {d : PyData} {n k : Nat} (h : Sm d n k) (hn : n ≤ 1000000) (hk : k ≤ 60) : Shows d :=
  ⟨h.can, h.nod, Nat.le_trans h.deep hk, PyData.shown_fits (by decide) (by decide) h.short (Nat.le_trans h.light (by omega))⟩
theorem Sm.le {d : PyData} {n k m j : Nat} (h : Sm d n k) (hn : n ≤ m) (hk : k ≤ j) : Sm d m j :=
  ⟨h.can, h.nod, Nat.le_trans h.deep hk, h.short, Nat.le_trans h.light hn⟩
theorem Sm.none : Sm .none 0 0 := ⟨rfl, rfl, Nat.le_refl _, rfl, Nat.le_refl _⟩
theorem Sm.bool (b : Bool) : Sm (.bool b) 0 0 := ⟨rfl, rfl, Nat.le_refl _, rfl, Nat.le_refl _⟩
theorem Sm.int {i : Int} (h : sm i) : Sm (.int i) 10 0 := by
  have h1 := sm_log h
  refine ⟨?_, by simp [PyData.hasDict], by simp [PyData.depth], ?_, ?_⟩
  · simp only [PyData.showable]
    exact decide_eq_true (by omega)
  · simp only [PyData.leavesShort]
    exact decide_eq_true (PyData.shown_int_le (by unfold sm at h; omega))
  · simp only [PyData.weight]
    split <;> omega
structure SmA (ds : List PyData) (n k : Nat) : Prop where
  can : PyData.showableAll ds = true
  nod : PyData.hasDictAll ds = false
  deep : PyData.depthAll ds ≤ k
  short : PyData.leavesShortAll 13 ds = true
  light : PyData.weightAll ds ≤ ds.length * (n + 1)
theorem SmA.of {n k : Nat} : ∀ {ds : List PyData}, (∀ d ∈ ds, Sm d n k) → SmA ds n k
  | [], _ => ⟨rfl, rfl, by simp [PyData.depthAll], rfl, by simp [PyData.weightAll]⟩
  | d :: ds, h => by
    have h1 := h d List.mem_cons_self
    have h2 := SmA.of (n := n) (k := k) fun e he => h e (List.mem_cons_of_mem _ he)
    refine ⟨?_, ?_, ?_, ?_, ?_⟩
    · simp only [PyData.showableAll, h1.can, h2.can, Bool.and_self]
    · simp only [PyData.hasDictAll, h1.nod, h2.nod, Bool.or_self]
    · simp only [PyData.depthAll]
      exact Nat.max_le.mpr ⟨h1.deep, h2.deep⟩
    · simp only [PyData.leavesShortAll, h1.short, h2.short, Bool.and_self]
    · have a := h1.light
      have b := h2.light
      simp only [PyData.weightAll, List.length_cons, Nat.add_mul, Nat.one_mul]
      omega
theorem Sm.tup {n k m : Nat} {ds : List PyData} (h : ∀ d ∈ ds, Sm d n k) (hm : ds.length ≤ m) : Sm (.tuple ds) (m * (n + 1)) (k + 1) := by
  have q := SmA.of h
  have z : ds.length * (n + 1) ≤ m * (n + 1) := Nat.mul_le_mul_right _ hm
  refine ⟨?_, ?_, ?_, ?_, ?_⟩
  · simp only [PyData.showable]; exact q.can
  · simp only [PyData.hasDict]; exact q.nod
  · simp only [PyData.depth]; have := q.deep; omega
  · simp only [PyData.leavesShort]; exact q.short
  · simp only [PyData.weight]; exact Nat.le_trans q.light z
theorem Sm.lst {n k m : Nat} {ds : List PyData} (h : ∀ d ∈ ds, Sm d n k) (hm : ds.length ≤ m) : Sm (.list ds) (m * (n + 1)) (k + 1) := by
  have q := SmA.of h
  have z : ds.length * (n + 1) ≤ m * (n + 1) := Nat.mul_le_mul_right _ hm
  refine ⟨?_, ?_, ?_, ?_, ?_⟩
  · simp only [PyData.showable]; exact q.can
  · simp only [PyData.hasDict]; exact q.nod
  · simp only [PyData.depth]; have := q.deep; omega
  · simp only [PyData.leavesShort]; exact q.short
  · simp only [PyData.weight]; exact Nat.le_trans q.light z
def smP (p : Int × Int) : Prop := sm p.1 ∧ sm p.2
theorem Sm.pr {p : Int × Int} (h : smP p) : Sm (prD p) 22 1 :=
  Sm.tup (n := 10) (k := 0) (m := 2) (fun d hd => by
    rcases List.mem_cons.mp hd with rfl | hd
    · exact Sm.int h.1
    · rcases List.mem_cons.mp hd with rfl | hd
      · exact Sm.int h.2
      · exact nomatch hd) (Nat.le_refl _)
theorem Sm.prs {ps : List (Int × Int)} {m : Nat} (h : ∀ p ∈ ps, smP p) (hm : ps.length ≤ m) : Sm (prsD ps) (m * 23) 2 :=
  Sm.tup (n := 22) (k := 1) (m := m) (fun d hd => by
    obtain ⟨p, hp, rfl⟩ := List.mem_map.mp hd
    exact Sm.pr (h p hp)) (by rw [List.length_map]; exact hm)
end TL
namespace TL
open PySem PySem.Spec PyProof.Rows L2
theorem yesI {σ : L2.St} {H : Hp} {Q : Bool → Hp → Prop} (h : Q true H) : tYes σ H Q := h
/-- what a comprehension asks of its turns -/
def LcGoal (J : It) (g : TG) (tt : TT) (te : TE) (vs : List Nat) (σ : L2.St) (H1 : Hp) (D : Addr) (Qd : Hp → Prop) : Prop :=
  ∃ W : Nat → Nat → Hp → Prop, (∃ m, W 0 m (upd H1 D (.lst []))) ∧ ∀ i m H, W i m H →
    (J.stop i H ∧ Qd H) ∨
    (J.go i H ∧ ∃ Nx : Hp → Prop, (∀ H', Nx H' → ∃ m', m' < m ∧ W (i + 1) m' H') ∧
      ∀ x H', J.yld i H x H' → g x (wipe σ vs) H' fun σ2 H2 =>
        wipe σ2 vs = wipe σ vs ∧ tt σ2 H2 fun b H3 =>
          if b = true then
            te σ2 H3 fun y H4 => ∃ acc, H4 D = some (.lst acc) ∧ acc.length < sizeLine ∧ Nx (upd H4 D (.lst (acc ++ [y])))
          else Nx H3)
/-- by the number of turns -/
theorem lc_by {J : It} {g : TG} {tt : TT} {te : TE} {vs : List Nat} {σ : L2.St} {H1 : Hp} {D : Addr} {Qd : Hp → Prop} (n : Nat)
    (Pv : Nat → Hp → Prop) (h0 : Pv 0 (upd H1 D (.lst []))) (hgo : ∀ i H, i < n → Pv i H → J.go i H) (hst : ∀ H, Pv n H → J.stop n H)
    (hs : ∀ i x H H', i < n → Pv i H → J.yld i H x H' → g x (wipe σ vs) H' fun σ2 H2 =>
      wipe σ2 vs = wipe σ vs ∧ tt σ2 H2 fun b H3 =>
        if b = true then
          te σ2 H3 fun y H4 => ∃ acc, H4 D = some (.lst acc) ∧ acc.length < sizeLine ∧ Pv (i + 1) (upd H4 D (.lst (acc ++ [y])))
        else Pv (i + 1) H3)
    (hd : ∀ H, Pv n H → Qd H) : LcGoal J g tt te vs σ H1 D Qd := by
  refine ⟨fun i m H => m = n - i ∧ i ≤ n ∧ Pv i H, ⟨n, rfl, Nat.zero_le _, h0⟩, fun i m H hW => ?_⟩
  obtain ⟨e, hi, p⟩ := hW
  by_cases hlt : i < n
  · refine .inr ⟨hgo i H hlt p, Pv (i + 1), fun H' p' => ⟨n - (i + 1), by omega, rfl, hlt, p'⟩, fun x H' y => hs i x H H' hlt p y⟩
  · obtain rfl : i = n := by omega
    exact .inl ⟨hst H p, hd H p⟩
/-- over reversed(a tuple) -/
theorem lc_revT {K : PySem.W.Frag} {a : Addr} {xs : List V} {g : TG} {tt : TT} {te : TE} {vs : List Nat} {σ : L2.St} {H1 : Hp} {D : Addr} {Qd : Hp → Prop}
    (Pv : Nat → Hp → Prop) (h0 : Pv 0 (upd H1 D (.lst []))) (hl : ∀ i H, Pv i H → SqT K H a xs)
    (hs : ∀ i x H, i < xs.length → xs[xs.length - 1 - i]? = some x → Pv i H → g x (wipe σ vs) H fun σ2 H2 =>
      wipe σ2 vs = wipe σ vs ∧ tt σ2 H2 fun b H3 =>
        if b = true then
          te σ2 H3 fun y H4 => ∃ acc, H4 D = some (.lst acc) ∧ acc.length < sizeLine ∧ Pv (i + 1) (upd H4 D (.lst (acc ++ [y])))
        else Pv (i + 1) H3)
    (hd : ∀ H, Pv xs.length H → Qd H) : LcGoal (RT.ItvT K a xs.length) g tt te vs σ H1 D Qd := by
  refine lc_by xs.length Pv h0 (fun i H hi p => ?_) (fun H p => Nat.le_refl _) (fun i x H H' hi p y => ?_) hd
  · have hj : xs.length - 1 - i < xs.length := by omega
    exact ⟨hi, xs, _, hl i H p, List.getElem?_eq_getElem hj⟩
  · obtain ⟨e, hy⟩ := y
    subst e
    exact hs i x _ hi (hy xs (hl i _ p)) p
end TL
namespace TL
open PySem PySem.Spec PyProof.Rows L2
/-! ### sorted, of any alike data -/
theorem each_of {K : PySem.W.Frag} {H : Hp} {β : Type} (enc : β → PyData) : ∀ {xs : List V} {us : List Value} {bs : List β},
    Vals xs us → DpAll K H xs (bs.map enc) → PySem.W.EachIs (fun (u : Value) (b : β) => ∃ x, RelV x u ∧ Dp K H x (enc b)) us bs
  | _, _, [], .nil, _ => .nil
  | _, _, _ :: _, .nil, h => nomatch h
  | _, _, [], .cons _ _, h => nomatch h
  | _, _, b :: bs, .cons r t, .cons h a => .cons ⟨_, r, h⟩ (each_of enc t a)
theorem of_each {K : PySem.W.Frag} {H : Hp} {β : Type} (enc : β → PyData) : ∀ {us : List Value} {bs : List β},
    PySem.W.EachIs (fun (u : Value) (b : β) => ∃ x, RelV x u ∧ Dp K H x (enc b)) us bs → ∃ ys, Vals ys us ∧ DpAll K H ys (bs.map enc)
  | _, _, .nil => ⟨[], .nil, .nil⟩
  | _, _, .cons ⟨x, r, h⟩ t => by
    obtain ⟨ys, a, b⟩ := of_each enc t
    exact ⟨x :: ys, .cons r a, .cons h b⟩
@[irreducible] def rSortD (K : PySem.W.Frag) : List V → Hp → VK → Prop := fun vs H Q => ∃ (β : Type) (enc : β → PyData) (bs : List β) (a : Addr) (xs : List V),
  vs = [.ref a] ∧ SqL K H a xs ∧ DpAll K H xs (bs.map enc) ∧ PySem.W.AllAlike (bs.map enc) ∧ PySem.W.Sortable (bs.map enc) ∧ (∀ b ∈ bs, (enc b).depth ≤ 50) ∧
  ∀ p ys, H p = none → DpAll K H ys ((bs.mergeSort (PySem.W.dataLe false enc)).map enc) → Q (.ref p) (upd H p (.lst ys))
section
variable {X : Cx}
theorem sorted_D (hu : X.A.units + 64 < cLine) : CallR X (.builtin "sorted") (rSortD X.K) := by
  intro pins s σ H vs us Q I r h
  unfold rSortD at h
  obtain ⟨β, enc, bs, a, xs, rfl, hs, ha, al, so, dp, q⟩ := h
  cases r with
  | cons r1 r2 =>
    cases r2
    rename_i u
    obtain rfl : u = Value.ref a := r1
    obtain ⟨its, rv, hl, hz⟩ := I.list hs
    have e1 := each_of enc rv ha
    have lb : xs.length = bs.length := by rw [DpAll.length ha, List.length_map]
    have e2 : PySem.W.EachIs (fun v b => ∃ as, Reads s.heap v (enc b) as) its bs :=
      e1.mono fun u b ⟨x, rx, hx⟩ => Dp.reads I _ x u hx rx
    refine PySem.W.sorted_data hl.isList e1 e2 al so (by omega) (fun b hb => by have := dp b hb; omega) fun out hlen eo => ?_
    obtain ⟨ys, ry, dy⟩ := of_each enc eo
    obtain ⟨c, hc⟩ := PyProof.Rows.sortedAll_at s.heap its out.toArray
    have fr : H (s.heap.objs.size + 1) = none := I.hok.fresh (Nat.le_succ _)
    refine ⟨.ref (s.heap.objs.size + 1), upd H (s.heap.objs.size + 1) (.lst ys), I.laid (t' := s.toks) (fun _ _ => PyProof.Rows.sortedAll_old) (Nat.le_succ _) ?_, rfl, q _ ys fr dy⟩
    exact ⟨by have := ry.length; omega, out, c, ry, hc⟩
/-! ### in, of data -/
def rInDt (K : PySem.W.Frag) (neg : Bool) : R2 := fun x y H Q => ∃ d ds, Dp K H x d ∧ (Dp K H y (.list ds) ∨ Dp K H y (.tuple ds)) ∧
  PyData.canLayAll0 ds = true ∧ d.canLay0 = true ∧ d.depth ≤ 50 ∧ Q (.bl (if neg then !(ds.any fun z => PyData.eqv z d) else ds.any fun z => PyData.eqv z d)) H
theorem room_in {d : PyData} {ds : List PyData} {u : Nat} (h : d.depth ≤ 50) (hu : u + 64 < cLine) : u + 1 + min (PyData.depthAll ds) d.depth < cLine := by
  have : min (PyData.depthAll ds) d.depth ≤ 50 := Nat.le_trans (Nat.min_le_right _ _) h
  omega
theorem op_inDt (hu : X.A.units + 64 < cLine) : OpR X (compareOp .In) (rInDt X.K false) := by
  intro pins s σ H x y v u Q I rx ry h
  obtain ⟨d, ds, hd, he, c1, c2, dp, q⟩ := h
  obtain ⟨as, r1⟩ := Dp.reads I d x v hd rx
  rcases he with he | he
  · obtain ⟨bs, r2⟩ := Dp.reads I _ y u he ry
    exact SeqAt.in_list_reads r2 r1 c1 c2 (room_in dp hu) ⟨.bl _, H, I, rfl, q⟩
  · obtain ⟨bs, r2⟩ := Dp.reads I _ y u he ry
    exact SeqAt.in_tuple_reads r2 r1 c1 c2 (room_in dp hu) ⟨.bl _, H, I, rfl, q⟩
theorem op_notInDt (hu : X.A.units + 64 < cLine) : OpR X (compareOp .NotIn) (rInDt X.K true) := by
  intro pins s σ H x y v u Q I rx ry h
  obtain ⟨d, ds, hd, he, c1, c2, dp, q⟩ := h
  obtain ⟨as, r1⟩ := Dp.reads I d x v hd rx
  rcases he with he | he
  · obtain ⟨bs, r2⟩ := Dp.reads I _ y u he ry
    exact SeqAt.notIn_list_reads r2 r1 c1 c2 (room_in dp hu) ⟨.bl _, H, I, rfl, q⟩
  · obtain ⟨bs, r2⟩ := Dp.reads I _ y u he ry
    exact SeqAt.notIn_tuple_reads r2 r1 c1 c2 (room_in dp hu) ⟨.bl _, H, I, rfl, q⟩
/-! ### the written part as a letter -/
theorem sortK (K : PySem.W.Frag) (hu : X.A.units + 64 < cLine) (h : X.K = K := by rfl) : CallR X (.builtin "sorted") (rSortD K) := h ▸ sorted_D hu
theorem inDK (K : PySem.W.Frag) (hu : X.A.units + 64 < cLine) (h : X.K = K := by rfl) : OpR X (compareOp .In) (rInDt K false) := h ▸ op_inDt hu
theorem notInDK (K : PySem.W.Frag) (hu : X.A.units + 64 < cLine) (h : X.K = K := by rfl) : OpR X (compareOp .NotIn) (rInDt K true) := h ▸ op_notInDt hu
theorem inK (K : PySem.W.Frag) (h : X.K = K := by rfl) : OpR X (compareOp .In) (rIn K false) := h ▸ op_in_seq
theorem notInK (K : PySem.W.Frag) (h : X.K = K := by rfl) : OpR X (compareOp .NotIn) (rIn K true) := h ▸ op_notIn_seq
theorem eqDK (K : PySem.W.Frag) (hu : X.A.units + 64 < cLine) (h : X.K = K := by rfl) : OpR X (compareOp .Eq) (rEqD K) := h ▸ op_eqD hu
theorem neDK (K : PySem.W.Frag) (hu : X.A.units + 64 < cLine) (h : X.K = K := by rfl) : OpR X (compareOp .NotEq) (rNeD K) := h ▸ op_neD hu
theorem anyK (K : PySem.W.Frag) (hc : X.calm = true) (h : X.K = K := by rfl) : CallR X (.builtin "any") (rAny K) := h ▸ cr_any hc
def rListK (K : PySem.W.Frag) : List V → Hp → VK → Prop := fun xs H Q => ∃ p ys, xs = [.ref p] ∧ (SqL K H p ys ∨ SqT K H p ys) ∧ ∀ l, H l = none → Q (.ref l) (upd H l (.lst ys))
theorem listK (K : PySem.W.Frag) (h : X.K = K := by rfl) : CallR X (.type "list") (rListK K) := h ▸ call_list_of
theorem slTK (K : PySem.W.Frag) (h : X.K = K := by rfl) : SlR X (rSlA K) := h ▸ sl_tupA
theorem slLK (K : PySem.W.Frag) (h : X.K = K := by rfl) : SlR X (rSlL K) := h ▸ sl_list
end
end TL
namespace TL
open PySem PySem.Spec PyProof.Rows L2
/-- a def of the text by its name, with its promise -/
structure Own (P : Program) (w : World) (K : PySem.W.Frag) (mg : Str → Option Value) (base : Heap)
    (x : Str) (k : Nat) (ps : List Str) (sp : Sp) : Prop where
  ex : ∃ (f : Addr) (fd : FuncData), FnOk P w K mg base CX0 k f fd ps sp ∧ mg x = some (.ref f) ∧
    PySem.W.keepIn K (.ref f) = true ∧ Binds K fd ps []
/-- .. that shows data -/
structure OwnG (P : Program) (w : World) (K : PySem.W.Frag) (mg : Str → Option Value) (base : Heap)
    (x : Str) (k : Nat) (ps : List Str) (sp : Sp) : Prop where
  ex : ∃ (f : Addr) (fd : FuncData), FnG P w K mg base k f fd ps sp ∧ mg x = some (.ref f) ∧
    PySem.W.keepIn K (.ref f) = true ∧ Binds K fd ps []
section
variable {X : Cx} {k : Nat} {ps : List Str} {sp : Sp} {x : Str} {p pos : Pos} {e : Expr} {es : List Expr} {t : TA}
theorem pe_own (O : Own X.prog X.w X.K X.mg X.base x k ps sp) (hr : Room k X.A) (hg : Gl X x) (ha : PA X (e :: es) t)
    (hdb : (x == ("__debug__" : Str)) = false := by decide)
    (he : starEach (e :: es) X.env = (false, eval e X.env) :: starEach es X.env := by rfl)
    (hpl : (backTo pos (starEach es X.env)).any (·.1) = false := by rfl) :
    PE X (.Call (.Name x p) (e :: es) [] pos) (tCall sp [] E0 t) := by
  obtain ⟨f, fd, F, hm, hk, hb⟩ := O.ex
  exact pe_call F hr hg hm hk hb .nil pass0 ha hdb he hpl
theorem pe_ownG (O : OwnG X.prog X.w X.K X.mg X.base x k ps sp) (hr : Room k X.A) (gd : X.A.guards = some []) (hg : Gl X x) (ha : PA X (e :: es) t)
    (hdb : (x == ("__debug__" : Str)) = false := by decide)
    (he : starEach (e :: es) X.env = (false, eval e X.env) :: starEach es X.env := by rfl)
    (hpl : (backTo pos (starEach es X.env)).any (·.1) = false := by rfl) :
    PE X (.Call (.Name x p) (e :: es) [] pos) (tCall sp [] E0 t) := by
  obtain ⟨f, fd, F, hm, hk, hb⟩ := O.ex
  exact pe_callG F hr gd hg hm hk hb ha hdb he hpl
theorem piTK (K : PySem.W.Frag) {tg a : Expr} {ta : TE} (ha : PE X a ta) (h : X.K = K := by rfl) : PI X tg a (iTup K ta) := h ▸ pi_tup ha
theorem piLK (K : PySem.W.Frag) {tg a : Expr} {ta : TE} (ha : PE X a ta) (h : X.K = K := by rfl) : PI X tg a (iList K ta) := h ▸ pi_list ha
theorem pgTK (K : PySem.W.Frag) {es : List Expr} {k : Nat} {t : TGs} {n : Nat} (h : PGs X es t) (hc : X.calm = true := by rfl) (hK : X.K = K := by rfl)
    (hn : (assignEach es X.env).length = n := by rfl) (hst : (assignEach es X.env).findIdx? (·.1) = none := by rfl) :
    PG X (.Tuple es k pos) (gTup K n t) := hK ▸ pg_tup hc h hn hst
theorem bmK (K : PySem.W.Frag) {o : Expr} {to : TE} {name : Str} {apos cpos : Pos} {T id : String}
    {r : V → List V → Hp → VK → Prop} (pa : PlainAttrs T) (slot : Slot T name id)
    (hty : typeOf (.builtin id) = pure (.type "method_descriptor")) (hm : MtR X id r) (ho : PE X o to)
    (ha : PA X (e :: es) t) (h : X.K = K := by rfl)
    (hbase : attributeBase o name X.env (eval o X.env) = eval o X.env := by rfl)
    (hfew : ((backTo cpos (starEach (e :: es) X.env)).all (fun x => !x.1)
        && (backToKw cpos (keywordEach [] X.env)).all (fun x => x.1.isSome)
        && decide ((e :: es).length + ([] : List Keyword).length
          + (if ([] : List Keyword).isEmpty then 0 else 1) < 30)) = true := by rfl)
    (hline : (apos.endLine == cpos.line) = true := by rfl)
    (hs : starEach (e :: es) X.env = (false, eval e X.env) :: starEach es X.env := by rfl)
    (hplain : (backTo cpos (starEach es X.env)).any (·.1) = false := by rfl) :
    PE X (.Call (.Attribute o name apos) (e :: es) [] cpos) (tBM K T r to t) :=
  h ▸ pe_bm pa slot hty hm ho ha hbase hfew hline hs hplain
theorem bm0K (K : PySem.W.Frag) {o : Expr} {to : TE} {name : Str} {apos cpos : Pos} {T id : String}
    {r : V → List V → Hp → VK → Prop} (pa : PlainAttrs T) (slot : Slot T name id)
    (hty : typeOf (.builtin id) = pure (.type "method_descriptor")) (hm : MtR X id r) (ho : PE X o to) (h : X.K = K := by rfl)
    (hbase : attributeBase o name X.env (eval o X.env) = eval o X.env := by rfl)
    (hline : (apos.endLine == cpos.line) = true := by rfl) :
    PE X (.Call (.Attribute o name apos) [] [] cpos) (tBM0 K T r to) := h ▸ pe_bm0 pa slot hty hm ho hbase hline
end
end TL
namespace TL
/-! ### ascending lists -/
abbrev Asc (l : List Int) : Prop := l.Pairwise (· < ·)
theorem asc_ext : ∀ {a b : List Int}, Asc a → Asc b → (∀ x, x ∈ a ↔ x ∈ b) → a = b
  | [], [], _, _, _ => rfl
  | [], y :: b, _, _, h => absurd ((h y).mpr List.mem_cons_self) (by simp)
  | x :: a, [], _, _, h => absurd ((h x).mp List.mem_cons_self) (by simp)
  | x :: a, y :: b, ha, hb, h => by
    have ha' := List.pairwise_cons.mp ha
    have hb' := List.pairwise_cons.mp hb
    have e : x = y := by
      rcases List.mem_cons.mp ((h x).mp List.mem_cons_self) with e | q
      · exact e
      · rcases List.mem_cons.mp ((h y).mpr List.mem_cons_self) with e | r
        · exact e.symm
        · have h1 := hb'.1 x q
          have h2 := ha'.1 y r
          omega
    subst e
    congr 1
    refine asc_ext ha'.2 hb'.2 fun z => ⟨fun hz => ?_, fun hz => ?_⟩
    · rcases List.mem_cons.mp ((h z).mp (List.mem_cons_of_mem _ hz)) with e | q
      · have := ha'.1 z hz
        omega
      · exact q
    · rcases List.mem_cons.mp ((h z).mpr (List.mem_cons_of_mem _ hz)) with e | q
      · have := hb'.1 z hz
        omega
      · exact q
theorem Asc.nodup {l : List Int} (h : Asc l) : l.Nodup := h.imp fun h => by omega
def leI (a b : Int) : Bool := decide (a ≤ b)
def srtI (l : List Int) : List Int := l.mergeSort leI
theorem srtI_perm (l : List Int) : (srtI l).Perm l := List.mergeSort_perm l _
theorem srtI_le (l : List Int) : (srtI l).Pairwise (· ≤ ·) :=
  (List.pairwise_mergeSort (le := leI) (fun a b c h1 h2 => by
    have h1 := of_decide_eq_true h1
    have h2 := of_decide_eq_true h2
    exact decide_eq_true (by omega)) (fun a b => by
    unfold leI
    by_cases h : a ≤ b
    · simp [h]
    · have : b ≤ a := by omega
      simp [this]) l).imp fun h => of_decide_eq_true h
theorem mem_srtI {l : List Int} {x : Int} : x ∈ srtI l ↔ x ∈ l := (srtI_perm l).mem_iff
theorem srtI_asc {l : List Int} (h : l.Nodup) : Asc (srtI l) := by
  have n : (srtI l).Nodup := (srtI_perm l).nodup_iff.mpr h
  exact ((srtI_le l).and n).imp fun h => by omega
theorem srtI_of_asc {l : List Int} (h : Asc l) : srtI l = l :=
  List.mergeSort_of_pairwise (h.imp fun h => decide_eq_true (by omega))
theorem srtI_congr {a b : List Int} (h : a.Perm b) : srtI a = srtI b := by
  have p : (srtI a).Perm (srtI b) := (srtI_perm a).trans (h.trans (srtI_perm b).symm)
  exact p.eq_of_pairwise (fun x y _ _ h1 h2 => by omega) (srtI_le a) (srtI_le b)
theorem srtI_length (l : List Int) : (srtI l).length = l.length := (srtI_perm l).length_eq
/-! ### pairs -/
abbrev LtP (p q : Int × Int) : Prop := p.1 < q.1 ∨ (p.1 = q.1 ∧ p.2 < q.2)
abbrev AscP (l : List (Int × Int)) : Prop := l.Pairwise LtP
def leP (p q : Int × Int) : Bool := decide (p.1 < q.1 ∨ (p.1 = q.1 ∧ p.2 ≤ q.2))
def srtP (l : List (Int × Int)) : List (Int × Int) := l.mergeSort leP
theorem srtP_perm (l : List (Int × Int)) : (srtP l).Perm l := List.mergeSort_perm l _
theorem srtP_le (l : List (Int × Int)) : (srtP l).Pairwise fun p q => p.1 < q.1 ∨ (p.1 = q.1 ∧ p.2 ≤ q.2) :=
  (List.pairwise_mergeSort (le := leP) (fun a b c h1 h2 => by
    have h1 := of_decide_eq_true h1
    have h2 := of_decide_eq_true h2
    exact decide_eq_true (by omega)) (fun a b => by
    unfold leP
    by_cases h : a.1 < b.1 ∨ (a.1 = b.1 ∧ a.2 ≤ b.2)
    · simp [h]
    · have : b.1 < a.1 ∨ (b.1 = a.1 ∧ b.2 ≤ a.2) := by omega
      simp [this]) l).imp fun h => of_decide_eq_true h
theorem mem_srtP {l : List (Int × Int)} {x : Int × Int} : x ∈ srtP l ↔ x ∈ l := (srtP_perm l).mem_iff
theorem srtP_asc {l : List (Int × Int)} (h : l.Nodup) : AscP (srtP l) := by
  have n : (srtP l).Nodup := (srtP_perm l).nodup_iff.mpr h
  refine ((srtP_le l).and n).imp fun {a b} h => ?_
  obtain ⟨h1, h2⟩ := h
  rcases h1 with h1 | ⟨h1, h3⟩
  · exact .inl h1
  · refine .inr ⟨h1, ?_⟩
    have : a.2 ≠ b.2 := fun e => h2 (Prod.ext h1 e)
    omega
theorem srtP_of_asc {l : List (Int × Int)} (h : AscP l) : srtP l = l :=
  List.mergeSort_of_pairwise (h.imp fun h => decide_eq_true (by rcases h with h | h <;> omega))
theorem srtP_length (l : List (Int × Int)) : (srtP l).length = l.length := (srtP_perm l).length_eq
/-! ### an edge between two vertices -/
def ordP (a b : Int) : Int × Int := if a ≤ b then (a, b) else (b, a)
theorem srt2 (a b : Int) : srtI [a, b] = [(ordP a b).1, (ordP a b).2] := by
  unfold ordP
  by_cases h : a ≤ b
  · rw [if_pos h]
    exact List.mergeSort_of_pairwise (le := leI) (List.pairwise_cons.mpr ⟨fun x hx => by
      obtain rfl := List.mem_singleton.mp hx
      exact decide_eq_true h, List.pairwise_singleton _ _⟩)
  · rw [if_neg h]
    have p : [a, b].Perm [b, a] := List.Perm.swap _ _ _
    rw [srtI_congr p]
    exact List.mergeSort_of_pairwise (le := leI) (List.pairwise_cons.mpr ⟨fun x hx => by
      obtain rfl := List.mem_singleton.mp hx
      exact decide_eq_true (by omega), List.pairwise_singleton _ _⟩)
theorem ordP_comm (a b : Int) : ordP a b = ordP b a := by
  unfold ordP
  by_cases h : a ≤ b
  · by_cases h2 : b ≤ a
    · obtain rfl : a = b := by omega
      rfl
    · rw [if_pos h, if_neg h2]
  · rw [if_neg h, if_pos (by omega)]
/-! ### forests as they are drawn -/
def rng (m : Nat) : List Int := (List.range m).map Int.ofNat
theorem mem_rng {m : Nat} {x : Int} : x ∈ rng m ↔ 0 ≤ x ∧ x < m := by
  unfold rng
  rw [List.mem_map]
  constructor
  · rintro ⟨i, hi, rfl⟩
    have := List.mem_range.mp hi
    simp only [Int.ofNat_eq_natCast]
    omega
  · intro h
    exact ⟨x.toNat, List.mem_range.mpr (by omega), by simp only [Int.ofNat_eq_natCast]; omega⟩
theorem rng_asc (m : Nat) : Asc (rng m) := by
  unfold rng Asc
  rw [List.pairwise_map]
  exact List.pairwise_lt_range.imp fun h => by simp only [Int.ofNat_eq_natCast]; omega
theorem rng_length (m : Nat) : (rng m).length = m := by
  unfold rng
  rw [List.length_map, List.length_range]
/-- edge k joins the k-th name with an earlier one -/
def edgeOf (nm : List Int) (q : Nat × Nat) : Int × Int := ordP (nm.getD q.1 0) (nm.getD q.2 0)
structure Grow (m : Nat) (nm : List Int) (ks : List (Nat × Nat)) : Prop where
  names : nm.Perm (rng m)
  up : ks.Pairwise fun a b => a.1 < b.1
  down : ∀ q ∈ ks, q.2 < q.1 ∧ q.1 < m
structure IsFor (m : Nat) (es : List (Int × Int)) : Prop where
  asc : AscP es
  rng : ∀ p ∈ es, 0 ≤ p.1 ∧ p.1 < p.2 ∧ p.2 < m
  grow : ∃ nm ks, Grow m nm ks ∧ es.Perm (ks.map (edgeOf nm))
theorem Grow.len {m : Nat} {nm : List Int} {ks : List (Nat × Nat)} (g : Grow m nm ks) : nm.length = m := by
  rw [g.names.length_eq, rng_length]
theorem Grow.nd {m : Nat} {nm : List Int} {ks : List (Nat × Nat)} (g : Grow m nm ks) : nm.Nodup := g.names.nodup_iff.mpr (rng_asc m).nodup
theorem Grow.name {m : Nat} {nm : List Int} {ks : List (Nat × Nat)} (g : Grow m nm ks) {i : Nat} (h : i < m) : 0 ≤ nm.getD i 0 ∧ nm.getD i 0 < m := by
  have hl : i < nm.length := by rw [g.len]; exact h
  have e : nm.getD i 0 = nm[i] := by rw [List.getD_eq_getElem?_getD, List.getElem?_eq_getElem hl]; rfl
  rw [e]
  exact mem_rng.mp (g.names.mem_iff.mp (List.getElem_mem hl))
theorem Grow.inj {m : Nat} {nm : List Int} {ks : List (Nat × Nat)} (g : Grow m nm ks) {i j : Nat} (hi : i < m) (hj : j < m) (e : nm.getD i 0 = nm.getD j 0) : i = j := by
  have hi' : i < nm.length := by rw [g.len]; exact hi
  have hj' : j < nm.length := by rw [g.len]; exact hj
  rw [List.getD_eq_getElem?_getD, List.getElem?_eq_getElem hi', List.getD_eq_getElem?_getD, List.getElem?_eq_getElem hj'] at e
  exact (List.getElem_inj g.nd).mp e
theorem Grow.edge {m : Nat} {nm : List Int} {ks : List (Nat × Nat)} (g : Grow m nm ks) {q : Nat × Nat} (h : q ∈ ks) :
    0 ≤ (edgeOf nm q).1 ∧ (edgeOf nm q).1 < (edgeOf nm q).2 ∧ (edgeOf nm q).2 < m := by
  obtain ⟨h1, h2⟩ := g.down q h
  have a := g.name h2
  have b := g.name (Nat.lt_trans h1 h2)
  have n : nm.getD q.1 0 ≠ nm.getD q.2 0 := fun e => by
    have := g.inj h2 (Nat.lt_trans h1 h2) e
    omega
  unfold edgeOf ordP
  split
  · exact ⟨a.1, by omega, b.2⟩
  · exact ⟨b.1, by omega, a.2⟩
theorem ordP_inj {a b c d : Int} (h : ordP a b = ordP c d) : (a = c ∧ b = d) ∨ (a = d ∧ b = c) := by
  unfold ordP at h
  split at h <;> split at h <;> (injection h with h1 h2; omega)
theorem Grow.nodup {m : Nat} {nm : List Int} {ks : List (Nat × Nat)} (g : Grow m nm ks) : (ks.map (edgeOf nm)).Nodup := by
  rw [List.Nodup, List.pairwise_map]
  have u := g.up
  have d := g.down
  refine (List.Pairwise.and_mem.mp u).imp ?_
  rintro a b ⟨ha, hb, hab⟩ e
  obtain ⟨a1, a2⟩ := d a ha
  obtain ⟨b1, b2⟩ := d b hb
  rcases ordP_inj e with ⟨e1, e2⟩ | ⟨e1, e2⟩
  · have := g.inj a2 b2 e1
    omega
  · have h1 := g.inj a2 (Nat.lt_trans b1 b2) e1
    have h2 := g.inj (Nat.lt_trans a1 a2) b2 e2
    omega
theorem Grow.isFor {m : Nat} {nm : List Int} {ks : List (Nat × Nat)} (g : Grow m nm ks) : IsFor m (srtP (ks.map (edgeOf nm))) where
  asc := srtP_asc g.nodup
  rng := fun p hp => by
    obtain ⟨q, hq, rfl⟩ := List.mem_map.mp (mem_srtP.mp hp)
    exact g.edge hq
  grow := ⟨nm, ks, g, srtP_perm _⟩
theorem rise_len {m : Nat} : ∀ {ks : List (Nat × Nat)} {lo : Nat}, ks.Pairwise (fun a b => a.1 < b.1) → (∀ q ∈ ks, lo ≤ q.1 ∧ q.1 < m) → ks.length ≤ m - lo
  | [], _, _, _ => Nat.zero_le _
  | q :: ks, lo, h, b => by
    have h' := List.pairwise_cons.mp h
    have hq := b q List.mem_cons_self
    have := rise_len (lo := q.1 + 1) h'.2 fun r hr => ⟨h'.1 r hr, (b r (List.mem_cons_of_mem _ hr)).2⟩
    rw [List.length_cons]
    omega
theorem Grow.count {m : Nat} {nm : List Int} {ks : List (Nat × Nat)} (g : Grow m nm ks) : ks.length ≤ m := by
  have := rise_len (lo := 0) g.up fun q hq => ⟨Nat.zero_le _, (g.down q hq).2⟩
  omega
theorem IsFor.count {m : Nat} {es : List (Int × Int)} (f : IsFor m es) : es.length ≤ m := by
  obtain ⟨nm, ks, g, p⟩ := f.grow
  rw [p.length_eq, List.length_map]
  exact g.count
/-! ### neighbours -/
def nearL (m : Nat) (es : List (Int × Int)) (v : Int) : List Int := (rng m).filter fun o => decide (ordP o v ∈ es)
def nbL (es : List (Int × Int)) (v : Int) : List Int := (es.filter fun p => decide (p.2 = v)).map (·.1) ++ (es.filter fun p => decide (p.1 = v)).map (·.2)
theorem nearL_asc (m : Nat) (es : List (Int × Int)) (v : Int) : Asc (nearL m es v) := (rng_asc m).filter _
theorem mem_nearL {m : Nat} {es : List (Int × Int)} {v o : Int} : o ∈ nearL m es v ↔ (0 ≤ o ∧ o < m) ∧ ordP o v ∈ es := by
  unfold nearL
  rw [List.mem_filter, mem_rng, decide_eq_true_eq]
theorem mem_nbL {es : List (Int × Int)} {v o : Int} : o ∈ nbL es v ↔ (o, v) ∈ es ∨ (v, o) ∈ es := by
  unfold nbL
  rw [List.mem_append, List.mem_map, List.mem_map]
  constructor
  · rintro (⟨⟨a, b⟩, h, rfl⟩ | ⟨⟨a, b⟩, h, rfl⟩)
    · obtain ⟨h1, h2⟩ := List.mem_filter.mp h
      have : b = v := of_decide_eq_true h2
      subst this
      exact .inl h1
    · obtain ⟨h1, h2⟩ := List.mem_filter.mp h
      have : a = v := of_decide_eq_true h2
      subst this
      exact .inr h1
  · rintro (h | h)
    · exact .inl ⟨(o, v), List.mem_filter.mpr ⟨h, decide_eq_true rfl⟩, rfl⟩
    · exact .inr ⟨(v, o), List.mem_filter.mpr ⟨h, decide_eq_true rfl⟩, rfl⟩
theorem IsFor.mem_ord {m : Nat} {es : List (Int × Int)} (f : IsFor m es) {o v : Int} : ordP o v ∈ es ↔ (o, v) ∈ es ∨ (v, o) ∈ es := by
  unfold ordP
  by_cases h : o ≤ v
  · rw [if_pos h]
    refine ⟨.inl, fun q => q.elim id fun q => ?_⟩
    have := f.rng _ q
    simp only at this
    omega
  · rw [if_neg h]
    refine ⟨.inr, fun q => q.elim (fun q => ?_) id⟩
    have := f.rng _ q
    simp only at this
    omega
theorem IsFor.nb {m : Nat} {es : List (Int × Int)} (f : IsFor m es) (v : Int) : nbL es v = nearL m es v := by
  refine asc_ext ?_ (nearL_asc m es v) fun o => ?_
  · unfold nbL
    refine List.pairwise_append.mpr ⟨?_, ?_, ?_⟩
    · rw [List.pairwise_map]
      refine (List.Pairwise.and_mem.mp (f.asc.filter fun p => decide (p.2 = v))).imp ?_
      rintro a b ⟨ha, hb, hab⟩
      have h1 : a.2 = v := of_decide_eq_true (List.mem_filter.mp ha).2
      have h2 : b.2 = v := of_decide_eq_true (List.mem_filter.mp hb).2
      rcases hab with h | h <;> omega
    · rw [List.pairwise_map]
      refine (List.Pairwise.and_mem.mp (f.asc.filter fun p => decide (p.1 = v))).imp ?_
      rintro a b ⟨ha, hb, hab⟩
      have h1 : a.1 = v := of_decide_eq_true (List.mem_filter.mp ha).2
      have h2 : b.1 = v := of_decide_eq_true (List.mem_filter.mp hb).2
      rcases hab with h | h <;> omega
    · intro x hx y hy
      obtain ⟨a, ha, rfl⟩ := List.mem_map.mp hx
      obtain ⟨b, hb, rfl⟩ := List.mem_map.mp hy
      have a1 := f.rng _ (List.mem_filter.mp ha).1
      have b1 := f.rng _ (List.mem_filter.mp hb).1
      have h1 : a.2 = v := of_decide_eq_true (List.mem_filter.mp ha).2
      have h2 : b.1 = v := of_decide_eq_true (List.mem_filter.mp hb).2
      omega
  · rw [mem_nbL, mem_nearL, f.mem_ord]
    refine ⟨fun h => ⟨?_, h⟩, fun h => h.2⟩
    rcases h with h | h
    · have := f.rng _ h
      simp only at this
      omega
    · have := f.rng _ h
      simp only at this
      omega
/-! ### settings -/
structure IsSet (m : Nat) (es : List (Int × Int)) (S : List Int) : Prop where
  asc : Asc S
  rng : ∀ v ∈ S, 0 ≤ v ∧ v < m
  free : ∀ u ∈ S, ∀ v ∈ S, ordP u v ∉ es
end TL
namespace TL
open PySem PySem.Spec PyProof.Rows L2
/-! ### sorting ints, pairs -/
theorem le_int_fun : PySem.W.dataLe false PyData.int = leI := by
  funext a b
  exact congrFun (congrFun (PySem.W.dataLe_int (β := Int) id) a) b
theorem le_pr_fun : PySem.W.dataLe false prD = leP := by
  funext p q
  exact congrFun (congrFun (PySem.W.dataLe_ii (β := Int × Int) Prod.fst Prod.snd) p) q
section
variable {K : PySem.W.Frag} {H : Hp} {Q : VK}
theorem sortInts {a : Addr} {ns : List Int} (hS : SqL K H a (ns.map V.int)) (q : ∀ p, H p = none → Q (.ref p) (upd H p (.lst ((srtI ns).map V.int)))) : rSortD K [.ref a] H Q := by
  unfold rSortD
  refine ⟨Int, PyData.int, ns, a, ns.map V.int, rfl, hS, DpAll.of_ints ns, ?_, .inr fun d hd => ?_, fun b _ => by simp [PyData.depth], fun p ys np dy => ?_⟩
  · intro d hd e he
    obtain ⟨x, _, rfl⟩ := List.mem_map.mp hd
    obtain ⟨y, _, rfl⟩ := List.mem_map.mp he
    simp [PySem.W.alike]
  · obtain ⟨x, _, rfl⟩ := List.mem_map.mp hd
    exact ⟨fun z => (nomatch z), fun _ z => (nomatch z)⟩
  · rw [le_int_fun] at dy
    have e := DpAll.ints dy
    subst e
    exact q p np
theorem sortPairs {a : Addr} {xs : List V} {ps : List (Int × Int)} (hS : SqL K H a xs) (hA : DpAll K H xs (ps.map prD))
    (q : ∀ p ys, H p = none → DpAll K H ys ((srtP ps).map prD) → Q (.ref p) (upd H p (.lst ys))) : rSortD K [.ref a] H Q := by
  unfold rSortD
  refine ⟨Int × Int, prD, ps, a, xs, rfl, hS, hA, ?_, .inl fun d hd => ?_, fun b _ => by simp [prD, PyData.depth, PyData.depthAll], fun p ys np dy => ?_⟩
  · intro d hd e he
    obtain ⟨x, _, rfl⟩ := List.mem_map.mp hd
    obtain ⟨y, _, rfl⟩ := List.mem_map.mp he
    simp [prD, PySem.W.alike, PySem.W.alikeAll]
  · obtain ⟨x, _, rfl⟩ := List.mem_map.mp hd
    exact ⟨_, _, rfl⟩
  · rw [le_pr_fun] at dy
    exact q p ys np dy
end
/-! ### forests as data -/
def forD (m : Nat) (es : List (Int × Int)) : PyData := .tuple [.int (m : Int), prsD es]
def intsD (ns : List Int) : PyData := .tuple (ns.map .int)
theorem only_ints : ∀ ns : List Int, onlyAll (ns.map .int) = true
  | [] => by simp [onlyAll]
  | n :: ns => by simp [onlyAll, only, only_ints ns]
theorem only_intsD (ns : List Int) : only (intsD ns) = true := by
  unfold intsD only
  exact only_ints ns
theorem only_forD (m : Nat) (es : List (Int × Int)) : only (forD m es) = true := by
  unfold forD
  simp [only, onlyAll, only_prsD]
section
variable {K : PySem.W.Frag} {H : Hp}
theorem Dp.forI {x : V} {m : Nat} {es : List (Int × Int)} (h : Dp K H x (forD m es)) :
    ∃ a b xs, x = .ref a ∧ SqT K H a [.int (m : Int), .ref b] ∧ SqT K H b xs ∧ DpAll K H xs (es.map prD) := by
  obtain ⟨a, xs, e, h1, h2⟩ := Dp.tupI h
  cases h2 with
  | cons ha hb =>
    cases hb with
    | cons hc hd =>
      cases hd
      obtain ⟨b, ys, e2, h3, h4⟩ := Dp.tupI hc
      subst e2
      rw [Dp.intI ha] at h1
      exact ⟨a, b, ys, e, h1, h3, h4⟩
theorem Dp.intsI {x : V} {ns : List Int} (h : Dp K H x (intsD ns)) : ∃ a, x = .ref a ∧ SqT K H a (ns.map V.int) := by
  obtain ⟨a, xs, e, h1, h2⟩ := Dp.tupI h
  have := DpAll.ints h2
  subst this
  exact ⟨a, e, h1⟩
theorem Dp.ints {a : Addr} {ns : List Int} (h : SqT K H a (ns.map V.int)) : Dp K H (.ref a) (intsD ns) := .tup h (DpAll.of_ints ns)
end
/-! ### equal data -/
theorem eqv_pr (a b : Int × Int) : PyData.eqv (prD a) (prD b) = decide (a = b) := by
  have e : PyData.eqv (prD a) (prD b) = ((a.1 == b.1) && ((a.2 == b.2) && true)) := by simp only [prD, PyData.eqv, PyData.eqvAll]
  rw [e]
  obtain ⟨x, y⟩ := a
  obtain ⟨u, v⟩ := b
  by_cases h1 : x = u
  · by_cases h2 : y = v
    · subst h1 h2; simp
    · have : ¬ ((x, y) : Int × Int) = (u, v) := fun z => h2 (Prod.mk.inj z).2
      rw [decide_eq_false this]; simp [h2]
  · have : ¬ ((x, y) : Int × Int) = (u, v) := fun z => h1 (Prod.mk.inj z).1
    rw [decide_eq_false this]; simp [h1]
theorem any_pr (p : Int × Int) : ∀ es : List (Int × Int), (es.map prD).any (fun z => PyData.eqv z (prD p)) = decide (p ∈ es)
  | [] => by simp
  | e :: es => by
    rw [List.map_cons, List.any_cons, any_pr p es, eqv_pr]
    by_cases h : e = p
    · subst h; simp
    · have h' : ¬ p = e := fun z => h z.symm
      simp [h, h']
theorem lay_pr (p : Int × Int) : (prD p).canLay0 = true := by simp [prD, PyData.canLay0, PyData.canLayAll0]
theorem lay_prs : ∀ es : List (Int × Int), PyData.canLayAll0 (es.map prD) = true
  | [] => by simp [PyData.canLayAll0]
  | e :: es => by simp [PyData.canLayAll0, lay_pr e, lay_prs es]
theorem dep_pr (p : Int × Int) : (prD p).depth ≤ 50 := by simp [prD, PyData.depth, PyData.depthAll]
theorem lay_ints : ∀ ns : List Int, PyData.canLayAll0 (ns.map PyData.int) = true
  | [] => by simp [PyData.canLayAll0]
  | n :: ns => by simp [PyData.canLayAll0, PyData.canLay0, lay_ints ns]
theorem dep_ints : ∀ ns : List Int, PyData.depthAll (ns.map PyData.int) = 0
  | [] => by simp [PyData.depthAll]
  | n :: ns => by simp [PyData.depthAll, PyData.depth, dep_ints ns]
theorem shaped_ints (ns : List Int) : SeqAt.shaped (.list (ns.map PyData.int)) = true := by
  unfold SeqAt.shaped
  simp only [PyData.canLay0, PyData.depth, lay_ints, dep_ints]
  decide
theorem eqv_nil (ns : List Int) : PyData.eqv (.list (ns.map PyData.int)) (.list []) = decide (ns = []) := by
  cases ns with
  | nil => simp [PyData.eqv, PyData.eqvAll]
  | cons n r => simp [PyData.eqv, PyData.eqvAll]
/-! ### ints in lists of ints -/
theorem flat_ints (ns : List Int) : (ns.map V.int).all flatV = true := by
  rw [List.all_map]
  exact List.all_eq_true.mpr fun _ _ => rfl
theorem inV_ints (x : Int) : ∀ ns : List Int, inV (.int x) (ns.map V.int) = decide (x ∈ ns)
  | [] => by simp [inV]
  | n :: ns => by
    have ih := inV_ints x ns
    unfold inV at ih ⊢
    rw [List.map_cons, List.any_cons, ih]
    show (decide (n = x) || decide (x ∈ ns)) = _
    by_cases h : n = x
    · subst h; simp
    · have h' : ¬ x = n := fun z => h z.symm
      simp [h, h']
/-! ### an if whose test is read for any end -/
theorem ifJ {c : TT} {t u : TS} {D : Ends} {σ : L2.St} {H : Hp} (R : Bool → Hp → Prop)
    (h1 : ∀ Q : Bool → Hp → Prop, (∀ b H1, R b H1 → Q b H1) → c σ H Q) (h2 : ∀ H1, R true H1 → t D σ H1) (h3 : ∀ H1, R false H1 → u D σ H1) : tIfS c t u D σ H := by
  refine h1 _ fun b H1 r => ?_
  cases b with
  | true => exact iteT (h2 H1 r)
  | false => exact iteF (h3 H1 r)
end TL
namespace TL
open PySem PySem.Spec PyProof.Rows L2
/-! ### comprehensions that leave all that was tracked as it was -/
theorem lc_gen {K : PySem.W.Frag} {J : It} {g : TG} {tt : TT} {te : TE} {vs : List Nat} {σ : L2.St} {H1 : Hp} {D : Addr} {Qd : Hp → Prop} {β : Type}
    (bs : List β) (σb : β → L2.St) (p : β → Bool) (d : β → PyData) (nD : H1 D = none)
    (hgo : ∀ j H', j < bs.length → Same H1 H' → J.go j H') (hst : ∀ H', Same H1 H' → J.stop bs.length H')
    (hg : ∀ j b x H' H'', bs[j]? = some b → Same H1 H' → J.yld j H' x H'' → H'' = H' ∧ ∀ Q : L2.St → Hp → Prop, Q (σb b) H' → g x (wipe σ vs) H' Q)
    (hw : ∀ b, wipe (σb b) vs = wipe σ vs)
    (ht : ∀ b ∈ bs, ∀ H' (Q : Bool → Hp → Prop), Same H1 H' → (∀ H2, Same H' H2 → Q (p b) H2) → tt (σb b) H' Q)
    (he : ∀ b ∈ bs, p b = true → ∀ H' (Q : VK), Same H1 H' → (∀ H2 y, Same H' H2 → Dp K H2 y (d b) → Q y H2) → te (σb b) H' Q)
    (ho : ∀ b, only (d b) = true) (hl : bs.length ≤ 1000)
    (hd : ∀ H' ys, Same H1 H' → H' D = some (.lst ys) → DpAll K H' ys ((bs.filter p).map d) → Qd H') : LcGoal J g tt te vs σ H1 D Qd := by
  have oa : ∀ l : List β, onlyAll (l.map d) = true := by
    intro l
    induction l with
    | nil => simp [onlyAll]
    | cons b l ih => simp [onlyAll, ho b, ih]
  refine lc_by bs.length (fun i H' => ∃ ys, Same H1 H' ∧ H' D = some (.lst ys) ∧ DpAll K H' ys (((bs.take i).filter p).map d) ∧ ys.length ≤ i) ?_ ?_ ?_ ?_ ?_
  · exact ⟨[], same_upd nD, upd_same, .nil, Nat.le_refl _⟩
  · rintro i H' hi ⟨ys, s, _⟩
    exact hgo i H' hi s
  · rintro H' ⟨ys, s, _⟩
    exact hst H' s
  · rintro i x H' H'' hi ⟨ys, s, eD, a, ln⟩ y
    obtain ⟨rfl, k⟩ := hg i bs[i] x H' H'' (List.getElem?_eq_getElem hi) s y
    have mb : bs[i] ∈ bs := List.getElem_mem hi
    have tk : bs.take (i + 1) = bs.take i ++ [bs[i]] := by rw [List.take_add_one, List.getElem?_eq_getElem hi]; rfl
    refine k _ ⟨hw _, ht _ mb _ _ s fun H2 s2 => ?_⟩
    by_cases hp : p bs[i] = true
    · rw [if_pos hp]
      refine he _ mb hp _ _ (s.trans s2) fun H3 z s3 dz => ?_
      have e3 := s3 _ _ (s2 _ _ eD)
      have kt : KT K H3 (upd H3 D (.lst (ys ++ [z]))) := kt_lst e3
      refine ⟨ys, e3, small1000 (by omega), ys ++ [z], ?_, upd_same, ?_, ?_⟩
      · intro b o e
        rw [upd_ne (ne_of_none e nD)]
        exact s3 _ _ (s2 _ _ (s _ _ e))
      · rw [tk, List.filter_append, List.map_append, List.filter_cons_of_pos hp]
        exact DpAll.append (DpAll.kt kt (DpAll.same (s2.trans s3) a) (oa _)) (.cons (Dp.kt kt dz (ho _)) .nil)
      · rw [List.length_append, List.length_singleton]
        omega
    · rw [if_neg hp]
      refine ⟨ys, s.trans s2, s2 _ _ eD, ?_, by omega⟩
      rw [tk, List.filter_append, List.filter_cons_of_neg hp, List.filter_nil, List.append_nil]
      exact DpAll.same s2 a
  · rintro H' ⟨ys, s, eD, a, _⟩
    rw [List.take_length] at a
    exact hd H' ys s eD a
section
variable {K : PySem.W.Frag} {tt : TT} {te : TE} {vs : List Nat} {σ : L2.St} {H1 : Hp} {D : Addr} {Qd : Hp → Prop}
/-- over a list of ints, the element any data -/
theorem lc_listI {a : Addr} {ns : List Int} {i : Nat} (p : Int → Bool) (d : Int → PyData) (nD : H1 D = none) (hS : SqL K H1 a (ns.map V.int))
    (hw : ∀ v, wipe ((wipe σ vs).set i (some v)) vs = wipe σ vs)
    (ht : ∀ o ∈ ns, ∀ H' (Q : Bool → Hp → Prop), Same H1 H' → (∀ H2, Same H' H2 → Q (p o) H2) → tt ((wipe σ vs).set i (some (.int o))) H' Q)
    (he : ∀ o ∈ ns, p o = true → ∀ H' (Q : VK), Same H1 H' → (∀ H2 y, Same H' H2 → Dp K H2 y (d o) → Q y H2) → te ((wipe σ vs).set i (some (.int o))) H' Q)
    (ho : ∀ o, only (d o) = true) (hl : ns.length ≤ 1000)
    (hd : ∀ H' ys, Same H1 H' → H' D = some (.lst ys) → DpAll K H' ys ((ns.filter p).map d) → Qd H') : LcGoal (Itl K a) (gName i) tt te vs σ H1 D Qd := by
  refine lc_gen ns (fun o => (wipe σ vs).set i (some (.int o))) p d nD (fun j H' hj s => ⟨_, _, s.seq hS, List.getElem?_eq_getElem (by rw [List.length_map]; exact hj)⟩)
    (fun H' s => ⟨_, s.seq hS, by rw [List.length_map]; exact Nat.le_refl _⟩) (fun j b x H' H'' hb s y => ?_) (fun b => hw _) ht he ho hl hd
  obtain ⟨e, hy⟩ := y
  have := hy _ (s.seq hS)
  rw [List.getElem?_map, hb] at this
  cases this
  exact ⟨e, fun Q q => q⟩
/-- over a tuple of ints -/
theorem lc_tupI {a : Addr} {ns : List Int} {i : Nat} (p : Int → Bool) (d : Int → PyData) (nD : H1 D = none) (hS : SqT K H1 a (ns.map V.int))
    (hw : ∀ v, wipe ((wipe σ vs).set i (some v)) vs = wipe σ vs)
    (ht : ∀ o ∈ ns, ∀ H' (Q : Bool → Hp → Prop), Same H1 H' → (∀ H2, Same H' H2 → Q (p o) H2) → tt ((wipe σ vs).set i (some (.int o))) H' Q)
    (he : ∀ o ∈ ns, p o = true → ∀ H' (Q : VK), Same H1 H' → (∀ H2 y, Same H' H2 → Dp K H2 y (d o) → Q y H2) → te ((wipe σ vs).set i (some (.int o))) H' Q)
    (ho : ∀ o, only (d o) = true) (hl : ns.length ≤ 1000)
    (hd : ∀ H' ys, Same H1 H' → H' D = some (.lst ys) → DpAll K H' ys ((ns.filter p).map d) → Qd H') : LcGoal (Itt K a) (gName i) tt te vs σ H1 D Qd := by
  refine lc_gen ns (fun o => (wipe σ vs).set i (some (.int o))) p d nD (fun j H' hj s => ⟨_, _, Same.tup s hS, List.getElem?_eq_getElem (by rw [List.length_map]; exact hj)⟩)
    (fun H' s => ⟨_, Same.tup s hS, by rw [List.length_map]; exact Nat.le_refl _⟩) (fun j b x H' H'' hb s y => ?_) (fun b => hw _) ht he ho hl hd
  obtain ⟨e, hy⟩ := y
  have := hy _ (Same.tup s hS)
  rw [List.getElem?_map, hb] at this
  cases this
  exact ⟨e, fun Q q => q⟩
/-- over range(m) -/
theorem lc_rng {m i : Nat} (p : Int → Bool) (d : Int → PyData) (nD : H1 D = none)
    (hw : ∀ v, wipe ((wipe σ vs).set i (some v)) vs = wipe σ vs)
    (ht : ∀ o ∈ rng m, ∀ H' (Q : Bool → Hp → Prop), Same H1 H' → (∀ H2, Same H' H2 → Q (p o) H2) → tt ((wipe σ vs).set i (some (.int o))) H' Q)
    (he : ∀ o ∈ rng m, p o = true → ∀ H' (Q : VK), Same H1 H' → (∀ H2 y, Same H' H2 → Dp K H2 y (d o) → Q y H2) → te ((wipe σ vs).set i (some (.int o))) H' Q)
    (ho : ∀ o, only (d o) = true) (hl : m ≤ 1000)
    (hd : ∀ H' ys, Same H1 H' → H' D = some (.lst ys) → DpAll K H' ys (((rng m).filter p).map d) → Qd H') : LcGoal (Itr 0 m) (gName i) tt te vs σ H1 D Qd := by
  refine lc_gen (rng m) (fun o => (wipe σ vs).set i (some (.int o))) p d nD (fun j H' hj s => by rw [rng_length] at hj; exact hj)
    (fun H' s => by rw [rng_length]; exact Nat.le_refl _) (fun j b x H' H'' hb s y => ?_) (fun b => hw _) ht he ho (by rw [rng_length]; exact hl) hd
  obtain ⟨e, hy⟩ := y
  unfold rng at hb
  rw [List.getElem?_map] at hb
  obtain ⟨z, hz, rfl⟩ := Option.map_eq_some_iff.mp hb
  obtain ⟨h1, rfl⟩ := List.getElem?_eq_some_iff.mp hz
  rw [List.getElem_range] at *
  subst hy
  refine ⟨e, fun Q q => ?_⟩
  show Q ((wipe σ vs).set i (some (.int (0 + (j : Int))))) H'
  rw [Int.zero_add]
  exact q
/-- over a tuple of pairs, the target two names -/
theorem lc_tupP {a : Addr} {xs : List V} {es : List (Int × Int)} {i j : Nat} (p : Int × Int → Bool) (d : Int × Int → PyData) (nD : H1 D = none) (hS : SqT K H1 a xs) (hA : DpAll K H1 xs (es.map prD))
    (hw : ∀ v u, wipe (((wipe σ vs).set i (some v)).set j (some u)) vs = wipe σ vs)
    (ht : ∀ o ∈ es, ∀ H' (Q : Bool → Hp → Prop), Same H1 H' → (∀ H2, Same H' H2 → Q (p o) H2) → tt (((wipe σ vs).set i (some (.int o.1))).set j (some (.int o.2))) H' Q)
    (he : ∀ o ∈ es, p o = true → ∀ H' (Q : VK), Same H1 H' → (∀ H2 y, Same H' H2 → Dp K H2 y (d o) → Q y H2) → te (((wipe σ vs).set i (some (.int o.1))).set j (some (.int o.2))) H' Q)
    (ho : ∀ o, only (d o) = true) (hl : es.length ≤ 1000)
    (hd : ∀ H' ys, Same H1 H' → H' D = some (.lst ys) → DpAll K H' ys ((es.filter p).map d) → Qd H') :
    LcGoal (Itt K a) (gTup K 2 (gCons (gName i) (gCons (gName j) gNil))) tt te vs σ H1 D Qd := by
  have xl : xs.length = es.length := by rw [DpAll.length hA, List.length_map]
  refine lc_gen es (fun o => ((wipe σ vs).set i (some (.int o.1))).set j (some (.int o.2))) p d nD (fun j H' hj s => ⟨_, _, Same.tup s hS, List.getElem?_eq_getElem (by rw [xl]; exact hj)⟩)
    (fun H' s => ⟨_, Same.tup s hS, by rw [xl]; exact Nat.le_refl _⟩) (fun k b x H' H'' hb s y => ?_) (fun b => hw _ _) ht he ho hl hd
  obtain ⟨e, hy⟩ := y
  obtain ⟨z, hz, dz⟩ := DpAll.get hA (hy _ (Same.tup s hS))
  rw [List.getElem?_map, hb] at hz
  cases hz
  obtain ⟨t, rfl, hT⟩ := Dp.prI (Dp.same s dz)
  exact ⟨e, fun Q q => ⟨t, _, rfl, hT, rfl, _, _, rfl, _, _, rfl, rfl, q⟩⟩
/-- over a list of pairs -/
theorem lc_listP {a : Addr} {xs : List V} {es : List (Int × Int)} {i j : Nat} (p : Int × Int → Bool) (d : Int × Int → PyData) (nD : H1 D = none) (hS : SqL K H1 a xs) (hA : DpAll K H1 xs (es.map prD))
    (hw : ∀ v u, wipe (((wipe σ vs).set i (some v)).set j (some u)) vs = wipe σ vs)
    (ht : ∀ o ∈ es, ∀ H' (Q : Bool → Hp → Prop), Same H1 H' → (∀ H2, Same H' H2 → Q (p o) H2) → tt (((wipe σ vs).set i (some (.int o.1))).set j (some (.int o.2))) H' Q)
    (he : ∀ o ∈ es, p o = true → ∀ H' (Q : VK), Same H1 H' → (∀ H2 y, Same H' H2 → Dp K H2 y (d o) → Q y H2) → te (((wipe σ vs).set i (some (.int o.1))).set j (some (.int o.2))) H' Q)
    (ho : ∀ o, only (d o) = true) (hl : es.length ≤ 1000)
    (hd : ∀ H' ys, Same H1 H' → H' D = some (.lst ys) → DpAll K H' ys ((es.filter p).map d) → Qd H') :
    LcGoal (Itl K a) (gTup K 2 (gCons (gName i) (gCons (gName j) gNil))) tt te vs σ H1 D Qd := by
  have xl : xs.length = es.length := by rw [DpAll.length hA, List.length_map]
  refine lc_gen es (fun o => ((wipe σ vs).set i (some (.int o.1))).set j (some (.int o.2))) p d nD (fun j H' hj s => ⟨_, _, s.seq hS, List.getElem?_eq_getElem (by rw [xl]; exact hj)⟩)
    (fun H' s => ⟨_, s.seq hS, by rw [xl]; exact Nat.le_refl _⟩) (fun k b x H' H'' hb s y => ?_) (fun b => hw _ _) ht he ho hl hd
  obtain ⟨e, hy⟩ := y
  obtain ⟨z, hz, dz⟩ := DpAll.get hA (hy _ (s.seq hS))
  rw [List.getElem?_map, hb] at hz
  cases hz
  obtain ⟨t, rfl, hT⟩ := Dp.prI (Dp.same s dz)
  exact ⟨e, fun Q q => ⟨t, _, rfl, hT, rfl, _, _, rfl, _, _, rfl, rfl, q⟩⟩
end
theorem only_int (i : Int) : only (.int i) = true := by simp [only]
theorem lst_ints {K : PySem.W.Frag} {H : Hp} {ys : List V} {ns : List Int} (h : DpAll K H ys (ns.map .int)) : ys = ns.map V.int := DpAll.ints h
end TL
namespace TL
open PySem PySem.Spec PyProof.Rows L2
theorem onlyAll_app : ∀ a b : List PyData, onlyAll (a ++ b) = (onlyAll a && onlyAll b)
  | [], b => by simp [onlyAll]
  | x :: a, b => by
    rw [List.cons_append]
    simp only [onlyAll, onlyAll_app a b, Bool.and_assoc]
theorem onlyAll_map {β : Type} {d : β → PyData} (h : ∀ b, only (d b) = true) : ∀ l : List β, onlyAll (l.map d) = true
  | [] => by simp [onlyAll]
  | x :: l => by simp [onlyAll, h x, onlyAll_map h l]
/-- [e for u in a tuple of ints for v in what f gives] -/
theorem lc2_tup {K : PySem.W.Frag} {a : Addr} {S : List Int} {i j : Nat} {wi1 : TI} {te : TE} {vs vs1 : List Nat} {σ : L2.St} {H1 : Hp} {D : Addr} {Qd : Hp → Prop}
    (f : Int → List Int) (d : Int → Int → PyData) (nD : H1 D = none) (hS : SqT K H1 a (S.map V.int))
    (hw : ∀ v, wipe ((wipe σ vs).set i (some v)) vs = wipe σ vs)
    (hw1 : ∀ u v, wipe ((wipe ((wipe σ vs).set i (some u)) vs1).set j (some v)) vs1 = wipe ((wipe σ vs).set i (some u)) vs1)
    (hin : ∀ u ∈ S, ∀ H' (R : It → Hp → Prop), Same H1 H' → (∀ H2 b, Same H' H2 → SqT K H2 b ((f u).map V.int) → R (Itt K b) H2) → wi1 ((wipe σ vs).set i (some (.int u))) H' R)
    (he : ∀ u ∈ S, ∀ v ∈ f u, ∀ H' (Q : VK), Same H1 H' → (∀ H2 y, Same H' H2 → Dp K H2 y (d u v) → Q y H2) → te ((wipe ((wipe σ vs).set i (some (.int u))) vs1).set j (some (.int v))) H' Q)
    (ho : ∀ u v, only (d u v) = true) (hl : S.length ≤ 100) (hf : ∀ u ∈ S, (f u).length ≤ 100)
    (hd : ∀ H' ys, Same H1 H' → H' D = some (.lst ys) → DpAll K H' ys (S.flatMap fun u => (f u).map (d u)) → Qd H') :
    ∃ W : Nat → Nat → Hp → Prop, (∃ m, W 0 m (upd H1 D (.lst []))) ∧ ∀ k m H, W k m H →
      ((Itt K a).stop k H ∧ Qd H) ∨
      ((Itt K a).go k H ∧ ∃ Nx : Hp → Prop, (∀ H', Nx H' → ∃ m', m' < m ∧ W (k + 1) m' H') ∧
        ∀ x H', (Itt K a).yld k H x H' → (gName i) x (wipe σ vs) H' fun σ2 H2 =>
          wipe σ2 vs = wipe σ vs ∧ tYes σ2 H2 fun b H3 =>
            if b = true then
              wi1 σ2 H3 fun J1 H4 => ∃ W1 : Nat → Nat → Hp → Prop, (∃ m, W1 0 m H4) ∧ ∀ j' k H, W1 j' k H →
                (J1.stop j' H ∧ Nx H) ∨
                (J1.go j' H ∧ ∃ Nx1 : Hp → Prop, (∀ H', Nx1 H' → ∃ k', k' < k ∧ W1 (j' + 1) k' H') ∧
                  ∀ x H', J1.yld j' H x H' → (gName j) x (wipe σ2 vs1) H' fun σ3 H5 =>
                    wipe σ3 vs1 = wipe σ2 vs1 ∧ tYes σ3 H5 fun b H6 =>
                      if b = true then
                        te σ3 H6 fun y H7 => ∃ acc, H7 D = some (.lst acc) ∧ acc.length < sizeLine ∧ Nx1 (upd H7 D (.lst (acc ++ [y])))
                      else Nx1 H6)
            else Nx H3) := by
  have ofl : ∀ l : List Int, onlyAll (l.flatMap fun u => (f u).map (d u)) = true := by
    intro l
    induction l with
    | nil => simp [onlyAll]
    | cons u l ih => rw [List.flatMap_cons, onlyAll_app, ih, onlyAll_map (ho u)]; rfl
  let Pv : Nat → Hp → Prop := fun k H' => ∃ ys, Same H1 H' ∧ H' D = some (.lst ys) ∧ DpAll K H' ys ((S.take k).flatMap fun u => (f u).map (d u)) ∧ ys.length ≤ 100 * k
  refine ⟨fun k m H => m = S.length - k ∧ k ≤ S.length ∧ Pv k H, ⟨S.length, rfl, Nat.zero_le _, [], same_upd nD, upd_same, .nil, Nat.le_refl _⟩, fun k m H hW => ?_⟩
  obtain ⟨em, hk, ys, s, eD, dy, ln⟩ := hW
  by_cases hlt : k < S.length
  · refine .inr ⟨⟨_, _, Same.tup s hS, List.getElem?_eq_getElem (by rw [List.length_map]; exact hlt)⟩, Pv (k + 1), fun H' p => ⟨S.length - (k + 1), by omega, rfl, hlt, p⟩, fun x H' y => ?_⟩
    obtain ⟨e, hy⟩ := y
    subst e
    have hx := hy _ (Same.tup s hS)
    rw [List.getElem?_map, List.getElem?_eq_getElem hlt] at hx
    cases hx
    have mu : S[k] ∈ S := List.getElem_mem hlt
    have tk : S.take (k + 1) = S.take k ++ [S[k]] := by rw [List.take_add_one, List.getElem?_eq_getElem hlt]; rfl
    refine ⟨hw _, yesI (iteT (hin _ mu _ _ s fun H4 b s4 hb => ?_))⟩
    refine ⟨fun j' m H => m = (f S[k]).length - j' ∧ j' ≤ (f S[k]).length ∧ ∃ zs, Same H1 H ∧ SqT K H b ((f S[k]).map V.int) ∧ H D = some (.lst zs) ∧
      DpAll K H zs (((S.take k).flatMap fun u => (f u).map (d u)) ++ ((f S[k]).take j').map (d S[k])) ∧ zs.length ≤ 100 * k + j', ⟨(f S[k]).length, rfl, Nat.zero_le _, ys, s.trans s4, hb, s4 _ _ eD, ?_, by omega⟩, fun j' m H hW => ?_⟩
    · rw [List.take_zero, List.map_nil, List.append_nil]
      exact DpAll.same s4 dy
    · obtain ⟨em', hj, zs, sj, hbj, eDj, dz, lz⟩ := hW
      have lf := hf _ mu
      by_cases hjl : j' < (f S[k]).length
      · refine .inr ⟨⟨_, _, hbj, List.getElem?_eq_getElem (by rw [List.length_map]; exact hjl)⟩, fun H => ∃ zs, Same H1 H ∧ SqT K H b ((f S[k]).map V.int) ∧ H D = some (.lst zs) ∧
          DpAll K H zs (((S.take k).flatMap fun u => (f u).map (d u)) ++ ((f S[k]).take (j' + 1)).map (d S[k])) ∧ zs.length ≤ 100 * k + (j' + 1),
          fun H' p => ⟨(f S[k]).length - (j' + 1), by omega, rfl, hjl, p⟩, fun x H' y => ?_⟩
        obtain ⟨e, hy⟩ := y
        subst e
        have hx := hy _ hbj
        rw [List.getElem?_map, List.getElem?_eq_getElem hjl] at hx
        cases hx
        have mv : (f S[k])[j'] ∈ f S[k] := List.getElem_mem hjl
        refine ⟨hw1 _ _, yesI (iteT (he _ mu _ mv _ _ sj fun H5 y5 s5 d5 => ?_))⟩
        have e5 := s5 _ _ eDj
        have kt : KT K H5 (upd H5 D (.lst (zs ++ [y5]))) := kt_lst e5
        refine ⟨zs, e5, Nat.lt_of_le_of_lt (show zs.length ≤ 20000 by omega) (by decide), zs ++ [y5], ?_, kt _ _ (Same.tup s5 hbj), upd_same, ?_, ?_⟩
        · intro c o e
          rw [upd_ne (ne_of_none e nD)]
          exact s5 _ _ (sj _ _ e)
        · rw [List.take_add_one, List.getElem?_eq_getElem hjl, List.map_append, ← List.append_assoc]
          refine DpAll.append (DpAll.kt kt (DpAll.same s5 dz) ?_) (.cons (Dp.kt kt d5 (ho _ _)) .nil)
          rw [onlyAll_app, ofl, onlyAll_map (ho _)]
          rfl
        · rw [List.length_append, List.length_singleton]
          omega
      · obtain rfl : j' = (f S[k]).length := by omega
        refine .inl ⟨⟨_, hbj, by rw [List.length_map]; exact Nat.le_refl _⟩, zs, sj, eDj, ?_, by omega⟩
        rw [List.take_length] at dz
        rw [tk, List.flatMap_append, List.flatMap_cons, List.flatMap_nil, List.append_nil]
        exact dz
  · obtain rfl : k = S.length := by omega
    rw [List.take_length] at dy
    exact .inl ⟨⟨_, Same.tup s hS, by rw [List.length_map]; exact Nat.le_refl _⟩, hd H ys s eD dy⟩
section
variable {X : Cx}
def tTruth (K : PySem.W.Frag) (ta : TE) : TT := fun σ H Q => ta σ H fun x H' => ∃ k, TruV K x H' k ∧ Q k H'
theorem truthK (K : PySem.W.Frag) {a : Expr} {ta : TE} (ha : PE X a ta)
    (he : ∀ whole, isTrue a X.env whole = (do let v ← whole; standAt a.pos; holding [v] (truthy v))) (h : X.K = K := by rfl) :
    PT X a (tTruth K ta) := h ▸ pt_truth ha he
theorem isiK (K : PySem.W.Frag) (h : X.K = K := by rfl) : CallR X (.builtin "isinstance") (rIsi K) := h ▸ call_isi
end
theorem ty_tup {K : PySem.W.Frag} {H : Hp} {a : Addr} {xs : List V} (h : SqT K H a xs) : TyX K H (.ref a) (.type "tuple") := by
  rcases h with (h | ⟨o, h⟩) | ⟨o, its, n, h, c, _⟩
  · exact .base (.tup h)
  · exact .fTuple h
  · exact .kTuple h c
end TL
namespace TL
/-! ### slides -/
def oth (m : Nat) (es : List (Int × Int)) (S : List Int) (u v : Int) : List Int := (nearL m es v).filter fun o => decide (o ∈ S) && !decide (o = u)
theorem mem_oth {m : Nat} {es : List (Int × Int)} {S : List Int} {u v o : Int} : o ∈ oth m es S u v ↔ o ∈ nearL m es v ∧ o ∈ S ∧ o ≠ u := by
  unfold oth
  rw [List.mem_filter, Bool.and_eq_true, decide_eq_true_eq, Bool.not_eq_true', decide_eq_false_iff_not]
def stepsL (m : Nat) (es : List (Int × Int)) (T : List Int) : List (Int × Int) := T.flatMap fun u => (nearL m es u).map fun v => (u, v)
def slidesP (m : Nat) (es : List (Int × Int)) (S : List Int) : List (Int × Int) := (stepsL m es S).filter fun p => decide (oth m es S p.1 p.2 = [])
def slidesT (m : Nat) (es : List (Int × Int)) (S T : List Int) : List (Int × Int) := T.flatMap fun u => ((nearL m es u).filter fun v => decide (oth m es S u v = [])).map fun v => (u, v)
theorem slides_eqT (m : Nat) (es : List (Int × Int)) (S : List Int) : ∀ T : List Int, (stepsL m es T).filter (fun p => decide (oth m es S p.1 p.2 = [])) = slidesT m es S T
  | [] => rfl
  | u :: T => by
    have ih := slides_eqT m es S T
    unfold stepsL slidesT at ih ⊢
    rw [List.flatMap_cons, List.flatMap_cons, List.filter_append, ih, List.filter_map]
    rfl
theorem slides_eq (m : Nat) (es : List (Int × Int)) (S : List Int) : slidesP m es S = slidesT m es S S := slides_eqT m es S S
theorem mem_slidesP {m : Nat} {es : List (Int × Int)} {S : List Int} {u v : Int} : (u, v) ∈ slidesP m es S ↔ u ∈ S ∧ v ∈ nearL m es u ∧ oth m es S u v = [] := by
  unfold slidesP stepsL
  rw [List.mem_filter, List.mem_flatMap, decide_eq_true_eq]
  constructor
  · rintro ⟨⟨a, ha, hb⟩, h⟩
    obtain ⟨b, hb, e⟩ := List.mem_map.mp hb
    cases e
    exact ⟨ha, hb, h⟩
  · rintro ⟨h1, h2, h3⟩
    exact ⟨⟨u, h1, List.mem_map.mpr ⟨v, h2, rfl⟩⟩, h3⟩
theorem ascP_steps (m : Nat) (es : List (Int × Int)) : ∀ {T : List Int}, Asc T → AscP (stepsL m es T)
  | [], _ => .nil
  | u :: T, h => by
    have h' := List.pairwise_cons.mp h
    unfold stepsL
    rw [List.flatMap_cons]
    refine List.pairwise_append.mpr ⟨?_, ascP_steps m es h'.2, ?_⟩
    · rw [List.pairwise_map]
      exact (nearL_asc m es u).imp fun h => .inr ⟨rfl, h⟩
    · intro a ha b hb
      obtain ⟨v, _, rfl⟩ := List.mem_map.mp ha
      obtain ⟨z, hz, hb⟩ := List.mem_flatMap.mp hb
      obtain ⟨y, _, rfl⟩ := List.mem_map.mp hb
      exact .inl (h'.1 z hz)
theorem ascP_slides {m : Nat} {es : List (Int × Int)} {S : List Int} (h : Asc S) : AscP (slidesP m es S) := (ascP_steps m es h).filter _
theorem nearL_len (m : Nat) (es : List (Int × Int)) (v : Int) : (nearL m es v).length ≤ m := by
  have := List.length_filter_le (fun o => decide (ordP o v ∈ es)) (rng m)
  rw [rng_length] at this
  exact this
theorem asc_len {m : Nat} : ∀ {S : List Int} {lo : Nat}, Asc S → (∀ v ∈ S, (lo : Int) ≤ v ∧ v < m) → S.length ≤ m - lo
  | [], _, _, _ => Nat.zero_le _
  | v :: S, lo, h, b => by
    have h' := List.pairwise_cons.mp h
    have hv := b v List.mem_cons_self
    have := asc_len (m := m) (lo := v.toNat + 1) h'.2 fun z hz => ⟨by have := h'.1 z hz; omega, (b z (List.mem_cons_of_mem _ hz)).2⟩
    rw [List.length_cons]
    omega
theorem IsSet.len {m : Nat} {es : List (Int × Int)} {S : List Int} (h : IsSet m es S) : S.length ≤ m := by
  have := asc_len (lo := 0) h.asc fun v hv => by have := h.rng v hv; omega
  omega
theorem steps_len (m : Nat) (es : List (Int × Int)) : ∀ T : List Int, (stepsL m es T).length ≤ T.length * m
  | [] => by simp [stepsL]
  | u :: T => by
    have ih := steps_len m es T
    unfold stepsL at ih ⊢
    rw [List.flatMap_cons, List.length_append, List.length_map, List.length_cons, Nat.add_mul, Nat.one_mul]
    have := nearL_len m es u
    omega
/-! ### the setting behind a slide -/
theorem move_perm {u v : Int} : ∀ {S : List Int}, S.Nodup → u ∈ S → (S.map fun l => if l = u then v else l).Perm (S.filter (fun l => !decide (l = u)) ++ [v])
  | [], _, h => nomatch h
  | a :: S, nd, h => by
    have nd' := List.nodup_cons.mp nd
    by_cases e : a = u
    · subst e
      rw [List.map_cons, if_pos rfl, List.filter_cons_of_neg (by simp)]
      have e1 : S.map (fun l => if l = a then v else l) = S := by
        have q : S.map (fun l => if l = a then v else l) = S.map id :=
          List.map_congr_left fun l hl => if_neg fun z => nd'.1 (by rw [← z]; exact hl)
        rw [q, List.map_id]
      have e2 : S.filter (fun l => !decide (l = a)) = S := List.filter_eq_self.mpr fun l hl => by
        have : l ≠ a := fun z => nd'.1 (z ▸ hl)
        simp [this]
      rw [e1, e2]
      exact (List.perm_append_singleton v S).symm
    · rw [List.map_cons, if_neg e, List.filter_cons_of_pos (by simp [e]), List.cons_append]
      exact List.Perm.cons a (move_perm nd'.2 ((List.mem_cons.mp h).resolve_left fun z => e z.symm))
def after (S : List Int) (u v : Int) : List Int := srtI (S.filter (fun l => !decide (l = u)) ++ [v])
theorem after_eq {S : List Int} {u v : Int} (nd : S.Nodup) (h : u ∈ S) : srtI (S.map fun l => if l = u then v else l) = after S u v := srtI_congr (move_perm nd h)
theorem IsFor.loop {m : Nat} {es : List (Int × Int)} (f : IsFor m es) (v : Int) : ordP v v ∉ es := fun h => by
  have := f.rng _ h
  unfold ordP at this
  rw [if_pos (Int.le_refl _)] at this
  simp only at this
  omega
theorem mem_after {S : List Int} {u v z : Int} : z ∈ after S u v ↔ (z ∈ S ∧ z ≠ u) ∨ z = v := by
  unfold after
  rw [mem_srtI, List.mem_append, List.mem_filter, List.mem_singleton, Bool.not_eq_true', decide_eq_false_iff_not]
theorem IsSet.after {m : Nat} {es : List (Int × Int)} {S : List Int} {u v : Int} (f : IsFor m es) (h : IsSet m es S) (hu : u ∈ S) (hv : v ∈ nearL m es u) (ho : oth m es S u v = []) :
    IsSet m es (after S u v) := by
  obtain ⟨rv, av⟩ := mem_nearL.mp hv
  have nv : v ∉ S := fun z => h.free v z u hu av
  have key : ∀ a ∈ S, a ≠ u → ordP a v ∉ es := fun a ha hne hin => by
    have : a ∈ oth m es S u v := mem_oth.mpr ⟨mem_nearL.mpr ⟨h.rng a ha, hin⟩, ha, hne⟩
    rw [ho] at this
    cases this
  refine ⟨srtI_asc ?_, fun z hz => ?_, fun a ha b hb => ?_⟩
  · refine List.nodup_append.mpr ⟨h.asc.nodup.filter _, List.pairwise_singleton _ _, fun a ha b hb e => ?_⟩
    rw [List.mem_singleton.mp hb] at e
    subst e
    exact nv (List.mem_filter.mp ha).1
  · rcases mem_after.mp hz with ⟨h1, _⟩ | rfl
    · exact h.rng z h1
    · exact rv
  · rcases mem_after.mp ha with ⟨h1, h2⟩ | rfl
    · rcases mem_after.mp hb with ⟨h3, h4⟩ | rfl
      · exact h.free a h1 b h3
      · exact key a h1 h2
    · rcases mem_after.mp hb with ⟨h3, h4⟩ | rfl
      · rw [ordP_comm]
        exact key b h3 h4
      · exact f.loop b
end TL
namespace TL
open PySem PySem.Spec PyProof.Rows L2
theorem Sm.ints {ns : List Int} {m : Nat} (h : ∀ v ∈ ns, sm v) (hm : ns.length ≤ m) : Sm (intsD ns) (m * 11) 1 :=
  Sm.tup (n := 10) (k := 0) (m := m) (fun d hd => by
    obtain ⟨p, hp, rfl⟩ := List.mem_map.mp hd
    exact Sm.int (h p hp)) (by rw [List.length_map]; exact hm)
theorem IsSet.shows {m : Nat} {es : List (Int × Int)} {S : List Int} (h : IsSet m es S) (hm : m ≤ 12) : Sm (intsD S) 132 1 :=
  Sm.ints (m := 12) (fun v hv => by have := h.rng v hv; unfold sm; omega) (by have := h.len; omega)
theorem IsFor.shows {m : Nat} {es : List (Int × Int)} (h : IsFor m es) (hm : m ≤ 12) : Sm (forD m es) 600 3 := by
  have h1 : Sm (prsD es) (12 * 23) 2 := Sm.prs (fun p hp => by have := h.rng p hp; unfold smP sm; omega) (by have := h.count; omega)
  have h2 : Sm (.int (m : Int)) (12 * 23) 2 := (Sm.int (by unfold sm; omega)).le (by decide) (by decide)
  refine (Sm.tup (n := 12 * 23) (k := 2) (m := 2) (fun d hd => ?_) (Nat.le_refl _)).le (by decide) (by decide)
  rcases List.mem_cons.mp hd with rfl | hd
  · exact h2
  · obtain rfl := List.mem_singleton.mp hd
    exact h1
theorem slides_small {m : Nat} {es : List (Int × Int)} {S : List Int} (h : IsSet m es S) (hm : m ≤ 12) : ∀ p ∈ slidesP m es S, smP p := by
  rintro ⟨u, v⟩ hp
  obtain ⟨h1, h2, _⟩ := mem_slidesP.mp hp
  have a := h.rng u h1
  have b := (mem_nearL.mp h2).1
  unfold smP sm
  exact ⟨⟨by show (-1000 : Int) ≤ u; omega, by show u ≤ 1000; omega⟩, by show (-1000 : Int) ≤ v; omega, by show v ≤ 1000; omega⟩
theorem slides_len {m : Nat} {es : List (Int × Int)} {S : List Int} (h : IsSet m es S) (hm : m ≤ 12) : (slidesP m es S).length ≤ 144 := by
  have h1 := List.length_filter_le (fun p => decide (oth m es S p.1 p.2 = [])) (stepsL m es S)
  have h2 := steps_len m es S
  have h3 : S.length * m ≤ 12 * 12 := Nat.mul_le_mul (by have := h.len; omega) hm
  unfold slidesP
  omega
theorem Sm.two {d e : PyData} {n k : Nat} (h1 : Sm d n k) (h2 : Sm e n k) : Sm (.list [d, e]) (2 * (n + 1)) (k + 1) :=
  Sm.lst (m := 2) (fun z hz => by
    rcases List.mem_cons.mp hz with rfl | hz
    · exact h1
    · obtain rfl := List.mem_singleton.mp hz
      exact h2) (Nat.le_refl _)
theorem show2 {m : Nat} {es : List (Int × Int)} {S : List Int} (f : IsFor m es) (h : IsSet m es S) (hm : m ≤ 12) : Shows (.list [forD m es, intsD S]) :=
  (Sm.two (f.shows hm) ((h.shows hm).le (by decide) (by decide))).shows (by decide) (by decide)
end TL
namespace TL
open PySem PySem.Spec PyProof.Rows L2
/-! ### enumerate(a tuple) -/
abbrev tupIt (l : Addr) : Obj := { cls := .type "tuple_iterator", data := .fields #[.ref l, .int 0 0] }
abbrev enumOb (it : Addr) : Obj :=
  { cls := .type "enumerate", data := .fields #[.none, .bool false, .ref it, rawInt 0, .none, .none] }
theorem meets_enumT (l : Addr) (items : Array Value) (n : Nat) (dct : Option Addr) (sl : Array (Option Value)) :
    Meets (Builtin.«enumerate.__new__» ⟨[.type "enumerate", .ref l], []⟩) (fun _ R s =>
      s.heap.get? l = some { cls := .type "tuple", dict := dct, data := .seq items n, slots := sl } ∧
      R (.ok (.ret (.ref (s.heap.push (tupIt l)).objs.size)))
        { s with heap := (s.heap.push (tupIt l)).push (enumOb s.heap.objs.size) }) :=
  .of_wp fun prog w A R s h => by
    obtain ⟨hp, g, d, tk, os⟩ := s
    obtain ⟨hl, h⟩ := h
    have hsub := sub_enumerate
    have hL : Heap.IsTuple (Shared.heap ⟨hp, g, d, tk, os⟩) l items := ⟨_, hl, rfl, n, rfl⟩
    wp_walk using AutoSeq1.wpAny_loadPart' hl
    refine wpAny_stack_any fun st => wpAny_pure ?_
    split
    · rename_i c _ _ _ _ _
      cases (c == Value.type "enumerate")
      · wp_walk using AutoSeq1.wpAny_loadPart' hl, wpAny_pyIter_tuple hL
        exact ⟨_, rfl, h⟩
      · wp_walk using AutoSeq1.wpAny_loadPart' hl, wpAny_pyIter_tuple hL
        exact ⟨_, rfl, h⟩
    · wp_walk using AutoSeq1.wpAny_loadPart' hl, wpAny_pyIter_tuple hL
      exact ⟨_, rfl, h⟩
section
variable {prog : Program} {w : World} {A : Around} {E : Value → Shared → Prop} {s : Shared}
theorem call_enumT {l : Addr} {items : Array Value} {Q : Value → Shared → Prop} (hL : s.heap.IsTuple l items)
    (h : ∀ h', IsEnum h' (s.heap.objs.size + 1) s.heap.objs.size 0 .none → h'.IsTupleIter s.heap.objs.size l 0 →
      (∀ b o, s.heap.get? b = some o → h'.get? b = some o) → Q (.ref (s.heap.objs.size + 1)) { s with heap := h' }) :
    wpAny (model prog w) A (call (.type "enumerate") [.ref l]) Q E s := by
  obtain ⟨⟨c, dct, dt, sl⟩, hl, hc, n, hd⟩ := hL
  obtain rfl : c = .type "tuple" := hc
  obtain rfl : dt = .seq items n := hd
  refine callType_new F.called_enumerate (by decide) (F.typeCall_enumerate_1 _) (F.newCall_enumerate_1 _)
    (fun obj => F.args_object_init_2 obj _) F.entry_enumerate_new (meets_enumT l items n dct sl) ⟨hl, ?_⟩
  have hz : (s.heap.push (tupIt l)).objs.size = s.heap.objs.size + 1 := Heap.size_push ..
  show _ ∧ _
  rw [hz]
  have he : IsEnum ((s.heap.push (tupIt l)).push (enumOb s.heap.objs.size)) (s.heap.objs.size + 1) s.heap.objs.size 0 .none := by
    have q := Heap.get?_push_size (s.heap.push (tupIt l)) (o := enumOb s.heap.objs.size) rfl
    rw [hz] at q
    exact q
  exact ⟨⟨_, he, rfl⟩, h _ he ⟨_, Heap.get?_push_of_some _ (Heap.get?_push_size _ rfl), rfl, rfl⟩
    fun b o x => Heap.get?_push_of_some _ (Heap.get?_push_of_some _ x)⟩
end
/-- the tuple at a, each item in a new pair -/
def IteT (K : PySem.W.Frag) (a : Addr) : It :=
  ⟨fun i H => ∃ (xs : List V) (x : V), SqT K H a xs ∧ xs[i]? = some x,
   fun i H v H' => ∃ T x, v = .ref T ∧ H T = none ∧ H' = upd H T (.tup [.int (i : Nat), x]) ∧ ∀ xs, SqT K H a xs → xs[i]? = some x,
   fun i H => ∃ xs : List V, SqT K H a xs ∧ xs.length ≤ i⟩
theorem turn_enumT {P : Program} {w : World} {K : PySem.W.Frag} {elts : List Expr} {kk : Nat} {tpos : Pos} (a e it : Addr) (ha : a ≠ it) :
    Turn P w K (.Tuple elts kk tpos) (IteT K a) [e, it] e
      (fun i h => (∃ old, IsEnum h e it ((i : Nat) : Int) old) ∧ h.IsTupleIter it a i ∧ e ≠ it) where
  mem := by simp
  obj := fun i h st b hb => by
    obtain ⟨⟨old, he⟩, ⟨o, ho, hc, hd⟩, _⟩ := st
    have e' : b = e ∨ b = it := by simpa using hb
    rcases e' with rfl | rfl
    · exact ⟨_, he, fun v q => nomatch q⟩
    · exact ⟨o, ho, fun v q => by rw [hd] at q; cases q⟩
  keep := fun i h h' st k => by
    obtain ⟨⟨old, he⟩, hi, hne⟩ := st
    exact ⟨⟨old, k e (by simp) _ he⟩, hi.at fun o q => k it (by simp) o q, hne⟩
  item := by
    intro X hP hw hK hc i pins s σ H E I hf st hg
    subst hP hw hK
    obtain ⟨⟨old, he⟩, hit, hne⟩ := st
    obtain ⟨xs, x, hq, hx⟩ := hg
    obtain ⟨its, rv, p, hz⟩ := I.tuple hq
    obtain ⟨u, hu, ru⟩ := rv.get hx
    have hel : e < s.heap.objs.size := Heap.lt_size he
    have hil : it < s.heap.objs.size := by
      obtain ⟨_, q, _⟩ := hit
      exact Heap.lt_size q
    have hi : i < its.toArray.size := by
      rw [List.size_toArray]
      exact (List.getElem?_eq_some_iff.mp hu).1
    obtain ⟨o0, ho0, hc0, n0, hd0⟩ := p
    have pT : s.heap.IsTuple a its.toArray := ⟨o0, ho0, hc0, n0, hd0⟩
    refine wpAny_pyNext_enum_itemD (Draws.tuple (A := X.A.in1) (I.ok.hd hc) it a ha its.toArray) he ⟨hit, pT⟩ hi hne (fun z => ?_) fun x' h' tk hP ho hit' hT hsz hk => ?_
    · rcases List.mem_cons.mp z with z | z
      · exact hne z
      · have z := List.mem_singleton.mp z
        rw [z] at he
        have q := Option.some.inj (ho0.symm.trans he)
        rw [q] at hc0
        exact absurd (show Value.type "enumerate" = Value.type "tuple" from hc0) (by decide)
    have ex : x' = u := by
      have h1 : its.toArray[i]? = some x' := hP
      have h2 : its.toArray[i]? = some u := by simpa using hu
      exact Option.some.inj (h1.symm.trans h2)
    subst ex
    refine ⟨_, rfl, wpAny_letOwnedTupleGo_enum (s := { s with heap := h', toks := tk + 1 }) ho fun h'' he' sb => ?_⟩
    have hT2 : h''.get? s.heap.objs.size = some { cls := .type "tuple", data := .seq #[.int i tk, x'] } := (sb.2 _ (Nat.ne_of_gt hel)).trans hT
    have new : ObjOk X.prog X.w (upd H s.heap.objs.size (.tup [.int (i : Nat), x])) h'' s.heap.objs.size (.tup [.int (i : Nat), x]) :=
      ⟨by show 2 ≤ sizeLine; decide, [.int i tk, x'], .cons ⟨_, rfl⟩ (.cons ru .nil), ⟨_, hT2, rfl, _, rfl⟩⟩
    have kept : ∀ b ob, b ∉ [e, it] → s.heap.get? b = some ob → h''.get? b = some ob := fun b ob hb q =>
      (sb.2 b (fun z => hb (by simp [z]))).trans (hk b ob (fun z => hb (by simp [z])) (fun z => hb (by simp [z])) q)
    have I1 := I.turnedNew (t' := tk + 1) (ch := [e, it]) kept hf (Nat.le_refl _) new
    refine ⟨.ref s.heap.objs.size, _, I1, rfl, ⟨_, x, rfl, I.hok.fresh (Nat.le_refl _), rfl, fun ys hy => by rw [I.tuple_inj hy hq]; exact hx⟩,
      ⟨⟨x', ?_⟩, hit'.1.at fun o q => (sb.2 it (Ne.symm hne)).trans q, hne⟩, fun b hb => ?_⟩
    · have e1 : ((i + 1 : Nat) : Int) = (i : Int) + 1 := by omega
      rw [e1]
      exact he'
    · have hb' : b < s.heap.objs.size := by
        have e' : b = e ∨ b = it := by simpa using hb
        rcases e' with rfl | rfl
        · exact hel
        · exact hil
      rw [upd_ne (Nat.ne_of_lt hb')]
      exact (hf b hb).1
  done := by
    intro X hP hw hK hc i pins s σ H E I hf st hg
    subst hP hw hK
    obtain ⟨⟨old, he⟩, hit, hne⟩ := st
    obtain ⟨xs, hq, hx⟩ := hg
    obtain ⟨its, rv, p, hz⟩ := I.tuple hq
    obtain ⟨f0, f1, f2, f3, f4, f5⟩ := hf it (by simp)
    have hl := rv.length
    obtain ⟨o0, ho0, hc0, n0, hd0⟩ := p
    have pT : s.heap.IsTuple a its.toArray := ⟨o0, ho0, hc0, n0, hd0⟩
    have hT : s.TypeIs (.ref e) "enumerate" := ⟨_, he, rfl⟩
    unfold pyNext
    refine wpAny_bind (wpAny_attempt (wpAny_callSpecial?_slot (name := Str.ofString "__next__") hT F.slot_enumerate_next
      (wpAny_call_entry F.slot_enumerate_next hT F.entry_enumerate_next ?_ (F.args_enumerate_next_1 _))))
    show wpAny _ _ (field (.ref e) 2 >>= _) _ _ _
    refine wpAny_bind (wpAny_field he rfl (x := .ref it) rfl ?_)
    refine wpAny_bind (wpAny_nextOf_tuple_end (I.ok.hd hc) hit pT (by simp; omega) fun h' x he' hx' => ?_)
    obtain ⟨o, ho, hc⟩ := hx'
    refine wpAny_bind (wpAny_isInstance (T := "StopIteration") (b := true) ⟨o, ho, hc⟩ isSubtype_stop ?_)
    exact wpAny_pure ⟨rfl, I.turned (t' := s.toks) (fun b o hb q => he' b o hb q) f0 f1 f3 f4 f5⟩
  self := fun A i s Q E st h => by
    obtain ⟨⟨_, he⟩, _⟩ := st
    exact wpAny_pyIter_enum he h
def iEnumT (K : PySem.W.Frag) (ta : TA) : TI := fun σ H R => ta σ H fun vs H1 => ∃ a xs, vs = [.ref a] ∧ SqT K H1 a xs ∧ R (IteT K a) H1
theorem pi_enumT (K : PySem.W.Frag) {X : Cx} {e : Expr} {ta : TA} {p pos tpos : Pos} {elts : List Expr} {kk : Nat} (hg : Gl X "enumerate") (hm : X.mg "enumerate" = none)
    (ha : PA X [e] ta) (hK : X.K = K := by rfl) (hs : starEach [e] X.env = [(false, eval e X.env)] := by rfl) :
    PI X (.Tuple elts kk tpos) (.Call (.Name "enumerate" p) [e] [] pos) (iEnumT K ta) := by
  subst hK
  refine ⟨fun pins s σ H R I h => ?_⟩
  refine Call_ (ld_blt I hg hm boot_enumerate (PyProof.Rows.callWith_type1
    (thn (ha.run pos pins s σ H _ I h) fun us s1 ⟨vs, H1, I1, r1, q1⟩ => ?_) hs rfl))
  obtain ⟨a, xs, ex, hq, q⟩ := q1
  subst ex
  cases r1 with
  | cons r rr =>
    cases rr
    cases r
    obtain ⟨its, rv, ⟨o0, ho0, hc0, n0, hd0⟩, hz⟩ := I1.tuple hq
    have pT : s1.heap.IsTuple a its.toArray := ⟨o0, ho0, hc0, n0, hd0⟩
    refine call_enumT pT fun h' he hit hk => wpAny_pyIter_enum he ?_
    have I2 : Inv X pins σ H1 { s1 with heap := h' } := I1.kept (t' := s1.toks) hk
    refine ⟨s1.heap.objs.size + 1, [s1.heap.objs.size + 1, s1.heap.objs.size], _, _, H1, rfl, I2,
      turn_enumT a (s1.heap.objs.size + 1) s1.heap.objs.size (Nat.ne_of_lt (Heap.lt_size ho0)), ⟨⟨.none, he⟩, hit, Nat.succ_ne_self _⟩, fun b hb => ?_, q⟩
    have hle : s1.heap.objs.size ≤ b := by
      have e' : b = s1.heap.objs.size + 1 ∨ b = s1.heap.objs.size := by simpa using hb
      rcases e' with z | z
      · rw [z]; exact Nat.le_add_right _ _
      · rw [z]; exact Nat.le_refl _
    exact I1.fpOk hle (I1.hok.fresh hle)
/-- a loop over enumerate(a tuple): the new pair at T -/
theorem for_enumT {K : PySem.W.Frag} {a : Addr} {xs : List V} {g : TG} {tb : TS} {D : Ends} {σ : L2.St} {H : Hp} (Pv : Nat → L2.St → Hp → Prop) (h0 : Pv 0 σ H) (hl : ∀ i σ H, Pv i σ H → SqT K H a xs)
    (hs : ∀ i x T σ H, xs[i]? = some x → H T = none → Pv i σ H →
      g (.ref T) σ (upd H T (.tup [.int (i : Nat), x])) fun σ2 H2 => tb { D with nx := Pv (i + 1), ct := Pv (i + 1), bk := D.nx } σ2 H2)
    (hd : ∀ σ H, Pv xs.length σ H → D.nx σ H) :
    ∃ W : Nat → Nat → L2.St → Hp → Prop, (∃ m, W 0 m σ H) ∧ ∀ i m σ H, W i m σ H →
      ((IteT K a).stop i H ∧ D.nx σ H) ∨ ((IteT K a).go i H ∧ ∃ N : L2.St → Hp → Prop, (∀ σ' H', N σ' H' → ∃ m', m' < m ∧ W (i + 1) m' σ' H') ∧
        ∀ v H', (IteT K a).yld i H v H' → g v σ H' fun σ2 H2 => tb { D with nx := N, ct := N, bk := D.nx } σ2 H2) := by
  refine ⟨fun i m σ H => m = xs.length - i ∧ i ≤ xs.length ∧ Pv i σ H, ⟨xs.length, rfl, Nat.zero_le _, h0⟩, fun i m σ H hW => ?_⟩
  obtain ⟨em, hi, p⟩ := hW
  by_cases hlt : i < xs.length
  · refine .inr ⟨⟨xs, _, hl i σ H p, List.getElem?_eq_getElem hlt⟩, Pv (i + 1), fun σ' H' p' => ⟨xs.length - (i + 1), by omega, rfl, hlt, p'⟩, fun v H' y => ?_⟩
    obtain ⟨T, x, rfl, nT, rfl, hx⟩ := y
    exact hs i x T σ H (hx _ (hl i σ H p)) nT p
  · obtain rfl : i = xs.length := by omega
    exact .inl ⟨⟨xs, hl _ σ H p, Nat.le_refl _⟩, hd σ H p⟩
end TL
namespace TL
/-! ### slides one after another -/
def walk (m : Nat) (es : List (Int × Int)) : List Int → List (Int × Int) → Option (List Int)
  | S, [] => some S
  | S, p :: ps => if p ∈ slidesP m es S then walk m es (after S p.1 p.2) ps else none
theorem walk_cons {m : Nat} {es : List (Int × Int)} {S T : List Int} {p : Int × Int} {ps : List (Int × Int)} (h : walk m es S (p :: ps) = some T) :
    p ∈ slidesP m es S ∧ walk m es (after S p.1 p.2) ps = some T := by
  unfold walk at h
  split at h
  · rename_i h1
    exact ⟨h1, h⟩
  · cases h
theorem IsSet.slide {m : Nat} {es : List (Int × Int)} {S : List Int} {p : Int × Int} (f : IsFor m es) (h : IsSet m es S) (hp : p ∈ slidesP m es S) : IsSet m es (TL.after S p.1 p.2) := by
  obtain ⟨u, v⟩ := p
  obtain ⟨h1, h2, h3⟩ := mem_slidesP.mp hp
  exact IsSet.after f h h1 h2 h3
theorem mem_nearL_comm {m : Nat} {es : List (Int × Int)} (f : IsFor m es) {u v : Int} : v ∈ nearL m es u ↔ u ∈ nearL m es v := by
  rw [mem_nearL, mem_nearL, ordP_comm v u]
  constructor
  · rintro ⟨_, h⟩
    refine ⟨?_, h⟩
    rcases f.mem_ord.mp h with q | q
    · have := f.rng _ q; simp only at this; omega
    · have := f.rng _ q; simp only at this; omega
  · rintro ⟨_, h⟩
    refine ⟨?_, h⟩
    rcases f.mem_ord.mp h with q | q
    · have := f.rng _ q; simp only at this; omega
    · have := f.rng _ q; simp only at this; omega
theorem adj_free {m : Nat} {es : List (Int × Int)} {S : List Int} (h : IsSet m es S) {u v : Int} (hu : u ∈ S) (hv : v ∈ nearL m es u) : v ∉ S :=
  fun z => h.free v z u hu (mem_nearL.mp hv).2
/-- another lamp's slide after a slide -/
theorem slide_other {m : Nat} {es : List (Int × Int)} {S : List Int} (f : IsFor m es) (h : IsSet m es S) {u v u' v' : Int} (p : (u, v) ∈ slidesP m es S) (q : (u', v') ∈ slidesP m es S) (ne : u ≠ u') :
    (u', v') ∈ slidesP m es (after S u v) ↔ v' ∉ nearL m es v := by
  obtain ⟨hu, hv, ho⟩ := mem_slidesP.mp p
  obtain ⟨hu', hv', ho'⟩ := mem_slidesP.mp q
  have nv := adj_free h hu hv
  rw [mem_slidesP]
  constructor
  · rintro ⟨_, _, o⟩ z
    have : v ∈ oth m es (after S u v) u' v' := mem_oth.mpr ⟨(mem_nearL_comm f).mp z, mem_after.mpr (.inr rfl), fun e => nv (e ▸ hu')⟩
    rw [o] at this
    cases this
  · intro z
    refine ⟨mem_after.mpr (.inl ⟨hu', fun e => ne e.symm⟩), hv', ?_⟩
    refine List.eq_nil_iff_forall_not_mem.mpr fun a ha => ?_
    obtain ⟨h1, h2, h3⟩ := mem_oth.mp ha
    rcases mem_after.mp h2 with ⟨h4, h5⟩ | rfl
    · have : a ∈ oth m es S u' v' := mem_oth.mpr ⟨h1, h4, h3⟩
      rw [ho'] at this
      cases this
    · exact z ((mem_nearL_comm f).mp h1)
theorem slide_same {m : Nat} {es : List (Int × Int)} {S : List Int} (f : IsFor m es) (h : IsSet m es S) {u v v' : Int} (p : (u, v) ∈ slidesP m es S) : (u, v') ∉ slidesP m es (after S u v) := by
  obtain ⟨hu, hv, ho⟩ := mem_slidesP.mp p
  have nv := adj_free h hu hv
  intro z
  rcases mem_after.mp (mem_slidesP.mp z).1 with ⟨_, h2⟩ | h2
  · exact h2 rfl
  · exact nv (h2 ▸ hu)
theorem slide_back {m : Nat} {es : List (Int × Int)} {S : List Int} (f : IsFor m es) (h : IsSet m es S) {u v : Int} (p : (u, v) ∈ slidesP m es S) : (v, u) ∈ slidesP m es (after S u v) := by
  obtain ⟨hu, hv, ho⟩ := mem_slidesP.mp p
  refine mem_slidesP.mpr ⟨mem_after.mpr (.inr rfl), (mem_nearL_comm f).mp hv, ?_⟩
  refine List.eq_nil_iff_forall_not_mem.mpr fun a ha => ?_
  obtain ⟨h1, h2, h3⟩ := mem_oth.mp ha
  rcases mem_after.mp h2 with ⟨h4, h5⟩ | h4
  · exact h.free a h4 u hu (mem_nearL.mp h1).2
  · exact h3 h4
theorem after_comm {m : Nat} {es : List (Int × Int)} {S : List Int} (f : IsFor m es) (h : IsSet m es S) {u v u' v' : Int} (p : (u, v) ∈ slidesP m es S) (q : (u', v') ∈ slidesP m es S) (ne : u ≠ u')
    (ap : v' ∉ nearL m es v) : after (after S u v) u' v' = after (after S u' v') u v := by
  obtain ⟨hu, hv, ho⟩ := mem_slidesP.mp p
  obtain ⟨hu', hv', ho'⟩ := mem_slidesP.mp q
  have nv := adj_free h hu hv
  have nv' := adj_free h hu' hv'
  have s1 := IsSet.slide f (IsSet.slide f h p) ((slide_other f h p q ne).mpr ap)
  have ap' : v ∉ nearL m es v' := fun z => ap ((mem_nearL_comm f).mp z)
  have s2 := IsSet.slide f (IsSet.slide f h q) ((slide_other f h q p (Ne.symm ne)).mpr ap')
  refine asc_ext s1.asc s2.asc fun z => ?_
  have e1 : v ≠ u' := fun e => nv (e ▸ hu')
  have e2 : v' ≠ u := fun e => nv' (e ▸ hu)
  rw [mem_after, mem_after, mem_after, mem_after]
  constructor
  · rintro (⟨⟨a, b⟩ | a, c⟩ | a)
    · exact .inl ⟨.inl ⟨a, c⟩, b⟩
    · exact .inr a
    · exact .inl ⟨.inr a, by rw [a]; exact e2⟩
  · rintro (⟨⟨a, b⟩ | a, c⟩ | a)
    · exact .inl ⟨.inl ⟨a, c⟩, b⟩
    · exact .inr a
    · exact .inl ⟨.inr a, by rw [a]; exact e1⟩
theorem walk_two {m : Nat} {es : List (Int × Int)} {S : List Int} (f : IsFor m es) (h : IsSet m es S) {p q : Int × Int} (hp : p ∈ slidesP m es S) (hq : q ∈ slidesP m es S) (ne : p.1 ≠ q.1)
    (ap : q.2 ∉ nearL m es p.2) : walk m es S [p, q] = some (after (after S p.1 p.2) q.1 q.2) := by
  have h2 : q ∈ slidesP m es (after S p.1 p.2) := (slide_other f h (u := p.1) (v := p.2) (u' := q.1) (v' := q.2) hp hq ne).mpr ap
  unfold walk
  rw [if_pos hp]
  unfold walk
  rw [if_pos h2]
  rfl
end TL
namespace TL
open PySem PySem.Spec PyProof.Rows L2
section
variable {X : Cx}
/-- name = {..} on one line, the name a local -/
theorem ps_setDc {i : Nat} {y : Str} {py : Pos} {kx vx tg iter : Expr} {ifs : List Expr} {scope : Scope} {own : List (Str × Nat)} {pos spos : Pos}
    {wi : TI} {g : TG} {tt : TT} {tk tv : TE} (hc : X.calm = true) (hN : X.N.Nodup) (hy : X.N[i]? = some y) (hyl : X.env.scope.names.lookup y = some .local)
    (hsw : swapsWith (.DictComp kx vx [⟨tg, iter, ifs, 0⟩] scope pos) (some (.Name y py)) spos.line X.env = pure true)
    (hi : PI X tg iter wi) (ok : BlkOk X.N X.env.scope scope own)
    (hg : ∀ (s : Shared) (H : Hp) (C : Addr) (cl : List (Str × Addr)) (fp : List Addr),
      PG (X.blk s H scope (compEnvC scope cl C X.env) fp) tg g)
    (ht : ∀ (s : Shared) (H : Hp) (C : Addr) (cl : List (Str × Addr)) (fp : List Addr),
      PTs (X.blk s H scope (compEnvC scope cl C X.env) fp) ifs tt)
    (hk : ∀ (s : Shared) (H : Hp) (C : Addr) (cl : List (Str × Addr)) (fp : List Addr),
      PE (X.blk s H scope (compEnvC scope cl C X.env) fp) kx tk)
    (he : ∀ (s : Shared) (H : Hp) (C : Addr) (cl : List (Str × Addr)) (fp : List Addr),
      PE (X.blk s H scope (compEnvC scope cl C X.env) fp) vx tv)
    (hs : ∀ x, foldedSetIterable iter X.env x = pure x := by intro _; rfl) :
    PS X (.Assign [.Name y py] (.DictComp kx vx [⟨tg, iter, ifs, 0⟩] scope pos) spos) (tAsg (tDc wi g tt tk tv (own.map (·.2))) (gName i)) := by
  refine ⟨fun pins s σ H D I h => ?_⟩
  rw [exec_Assign_Name_used _ _ _ _ hsw]
  refine wpAny_bind (wpAny_standAt (wpAny_bind ?_))
  show wpAny _ X.A (do
    let _ ← comprehension (.DictComp kx vx [⟨tg, iter, ifs, 0⟩] scope pos) scope X.env
      (firstIterPos [⟨tg, iter, ifs, 0⟩] pos) newDict false (eval iter X.env) (some (assign (.Name y py) X.env))) _ _ s
  have h2 : tDc wi g tt tk tv (own.map (·.2)) σ H (fun x H1 => gName i x σ H1 D.nx) := h
  refine wpAny_bind (thn (dc_core (Qf := fun _ s' => SP X pins D .next s') hc hN I hi ok hg ht hk he hs h2
    fun L C s' m H' I' q hn f => ?_) fun _ s' hq => wpAny_pure (wpAny_pure hq))
  show wpAny _ _ (assign (.Name y py) X.env (.ref L)) _ _ _
  refine wpAny_assign_Name (store_ok2 (v := V.ref L) I' hN hy (.inl hyl) rfl (fun s2 I2 ⟨a, sb, ha⟩ => ?_) (.inr hyl))
  obtain ⟨f0, f1, f2, f3, f4, f5⟩ := f
  have haC : C ≠ a := by
    rcases ha with z | z
    · rw [z]; exact f1
    · exact fun e => f4 y a z e.symm
  exact ⟨m, hn.sameBut sb haC, fun h3 sb3 => ⟨_, H', I2.turned (t' := s2.toks) (fun b o hb e => (sb3.2 b hb).trans e) f0 f1 f3 f4 f5, q⟩⟩
theorem sw_trueD {kx vx : Expr} {gs : List Comprehension} {scope : Scope} {pos py : Pos} {y : Str} {l : Nat} {env : Env} (hk : env.scope.kind = .function)
    (hy : env.scope.names.lookup y = some .local) (hl : (py.line == pos.line) = true)
    (ha : (scope.names.any fun (n, k) => n == y && (k == .local || k == .cell)) = false) :
    swapsWith (.DictComp kx vx gs scope pos) (some (.Name y py)) l env = pure true := by
  have ky : env.kindOf y = some .local := hy
  have hb : env.blockKind = .function := by
    unfold Env.blockKind
    rw [hk]
    rfl
  unfold swapsWith
  simp only [hb, ky, ha, Expr.pos, hl]
  rfl
end
/-! ### tables from ints to ints -/
def tab (f : Int → Int) (vs : List Int) : List (Key × V) := vs.map fun v => ((Sum.inl v : Key), V.int (f v))
theorem tab_val (f : Int → Int) (v : Int) : ∀ vs : List Int, valV (tab f vs) (Sum.inl v) = if v ∈ vs then some (V.int (f v)) else none
  | [] => rfl
  | u :: vs => by
    have ih := tab_val f v vs
    unfold tab at ih ⊢
    rw [List.map_cons]
    by_cases e : u = v
    · subst e
      rw [valV_pos rfl, if_pos List.mem_cons_self]
    · have e' : ¬ (Sum.inl u : Key) = Sum.inl v := fun z => e (Sum.inl.inj z)
      rw [valV_neg e', ih]
      by_cases h : v ∈ vs
      · rw [if_pos h, if_pos (List.mem_cons_of_mem _ h)]
      · rw [if_neg h, if_neg fun z => (List.mem_cons.mp z).elim (fun z => e z.symm) h]
theorem tab_len (f : Int → Int) (vs : List Int) : (tab f vs).length = vs.length := List.length_map _
theorem tab_snoc (f : Int → Int) (vs : List Int) (v : Int) (h : v ∉ vs) : putK (tab f vs) (Sum.inl v) (V.int (f v)) = tab f (vs ++ [v]) := by
  rw [putK_new _ (by rw [tab_val, if_neg h])]
  unfold tab
  rw [List.map_append]
  rfl
/-- {v: f(v) for v in ..}: the turns leave what was tracked as it was -/
theorem dc_tab {J : It} {g : TG} {tk tv : TE} {vs : List Nat} {σ : L2.St} {H1 : Hp} {D : Addr} {Qd : Hp → Prop} (f : Int → Int) (bs : List Int) (σb : Int → L2.St)
    (nd : bs.Nodup) (nD : H1 D = none) (hl : bs.length ≤ 1000)
    (hgo : ∀ j H', j < bs.length → Same H1 H' → J.go j H') (hst : ∀ H', Same H1 H' → J.stop bs.length H')
    (hg : ∀ j b x H' H'', bs[j]? = some b → Same H1 H' → J.yld j H' x H'' → H'' = H' ∧ ∀ Q : L2.St → Hp → Prop, Q (σb b) H' → g x (wipe σ vs) H' Q)
    (hw : ∀ b, wipe (σb b) vs = wipe σ vs)
    (hk : ∀ b ∈ bs, ∀ H' (Q : VK), Same H1 H' → Q (.int b) H' → tk (σb b) H' Q)
    (hv : ∀ b ∈ bs, ∀ H' (Q : VK), Same H1 H' → (∀ H2, Same H' H2 → Q (.int (f b)) H2) → tv (σb b) H' Q)
    (hd : ∀ H', Same H1 H' → H' D = some (.dK (tab f bs)) → Qd H') :
    ∃ W : Nat → Nat → Hp → Prop, (∃ m, W 0 m (upd H1 D (.dK []))) ∧ ∀ i m H, W i m H →
      (J.stop i H ∧ Qd H) ∨
      (J.go i H ∧ ∃ Nx : Hp → Prop, (∀ H', Nx H' → ∃ m', m' < m ∧ W (i + 1) m' H') ∧
        ∀ x H', J.yld i H x H' → g x (wipe σ vs) H' fun σ2 H2 => wipe σ2 vs = wipe σ vs ∧ tYes σ2 H2 fun b H3 =>
          if b = true then
            tk σ2 H3 fun y H4 => tv σ2 H4 fun z H5 => ∃ kvs k, y = kV k ∧ H5 D = some (.dK kvs) ∧ kvs.length < sizeLine ∧ Nx (upd H5 D (.dK (putK kvs k z)))
          else Nx H3) := by
  let Pv : Nat → Hp → Prop := fun i H' => Same H1 H' ∧ H' D = some (.dK (tab f (bs.take i)))
  refine ⟨fun i m H => m = bs.length - i ∧ i ≤ bs.length ∧ Pv i H, ⟨bs.length, rfl, Nat.zero_le _, same_upd nD, upd_same⟩, fun i m H hW => ?_⟩
  obtain ⟨em, hi, s, eD⟩ := hW
  by_cases hlt : i < bs.length
  · refine .inr ⟨hgo i H hlt s, Pv (i + 1), fun H' p => ⟨bs.length - (i + 1), by omega, rfl, hlt, p⟩, fun x H' y => ?_⟩
    obtain ⟨rfl, k⟩ := hg i bs[i] x H H' (List.getElem?_eq_getElem hlt) s y
    have mb : bs[i] ∈ bs := List.getElem_mem hlt
    refine k _ ⟨hw _, yesI (iteT (hk _ mb _ _ s (hv _ mb _ _ s fun H5 s5 => ?_)))⟩
    have tk' : bs.take (i + 1) = bs.take i ++ [bs[i]] := by rw [List.take_add_one, List.getElem?_eq_getElem hlt]; rfl
    have ni : bs[i] ∉ bs.take i := fun z => by
      obtain ⟨j, hj, e⟩ := List.mem_iff_getElem.mp z
      rw [List.length_take] at hj
      rw [List.getElem_take] at e
      have := (List.getElem_inj nd).mp e
      omega
    refine ⟨tab f (bs.take i), Sum.inl bs[i], rfl, s5 _ _ eD, ?_, ?_, ?_⟩
    · rw [tab_len, List.length_take]
      exact small1000 (by omega)
    · intro b o e
      rw [upd_ne (ne_of_none e nD)]
      exact s5 _ _ (s _ _ e)
    · rw [upd_same, tab_snoc f _ _ ni, tk']
  · obtain rfl : i = bs.length := by omega
    rw [List.take_length] at eD
    exact .inl ⟨hst H s, hd H s eD⟩
end TL
namespace TL
/-! ### labels: vertices that edges join have one label -/
inductive Conn (es : List (Int × Int)) : Int → Int → Prop
  | refl (a : Int) : Conn es a a
  | step {a b c : Int} : Conn es a b → ((b, c) ∈ es ∨ (c, b) ∈ es) → Conn es a c
theorem Conn.trans {es : List (Int × Int)} {a b c : Int} (h : Conn es a b) (k : Conn es b c) : Conn es a c := by
  induction k with
  | refl => exact h
  | step _ e ih => exact .step ih e
theorem Conn.symm {es : List (Int × Int)} {a b : Int} (h : Conn es a b) : Conn es b a := by
  induction h with
  | refl => exact .refl _
  | step _ e ih => exact Conn.trans (.step (.refl _) e.symm) ih
theorem Conn.mono {es fs : List (Int × Int)} (s : ∀ p ∈ es, p ∈ fs) {a b : Int} (h : Conn es a b) : Conn fs a b := by
  induction h with
  | refl => exact .refl _
  | step _ e ih => exact .step ih (e.imp (s _) (s _))
def mrg (f : Int → Int) (a b : Int) : Int → Int := fun v => if f v = f a then f b else f v
structure Lab (es : List (Int × Int)) (vs : List Int) (f : Int → Int) : Prop where
  join : ∀ p ∈ es, p.1 ∈ vs → p.2 ∈ vs → f p.1 = f p.2
  conn : ∀ a ∈ vs, ∀ b ∈ vs, f a = f b → Conn (es.filter fun p => decide (p.1 ∈ vs) && decide (p.2 ∈ vs)) a b
theorem Lab.start (vs : List Int) : Lab [] vs id := ⟨(fun _ h => nomatch h), fun a _ b _ e => by
  have e : a = b := e
  rw [e]
  exact .refl _⟩
theorem filt_sub {es : List (Int × Int)} {p : Int × Int} {q : Int × Int → Bool} : ∀ r ∈ es.filter q, r ∈ (es ++ [p]).filter q := fun r hr => by
  rw [List.filter_append]
  exact List.mem_append_left _ hr
theorem Lab.skip {es : List (Int × Int)} {vs : List Int} {f : Int → Int} {p : Int × Int} (h : Lab es vs f) (n : ¬ (p.1 ∈ vs ∧ p.2 ∈ vs)) : Lab (es ++ [p]) vs f where
  join := fun r hr h1 h2 => by
    rcases List.mem_append.mp hr with hr | hr
    · exact h.join r hr h1 h2
    · rw [List.mem_singleton.mp hr] at h1 h2
      exact absurd ⟨h1, h2⟩ n
  conn := fun a ha b hb e => (h.conn a ha b hb e).mono filt_sub
theorem Lab.merge {es : List (Int × Int)} {vs : List Int} {f : Int → Int} {p : Int × Int} (h : Lab es vs f) (h1 : p.1 ∈ vs) (h2 : p.2 ∈ vs) : Lab (es ++ [p]) vs (mrg f p.1 p.2) where
  join := fun r hr k1 k2 => by
    unfold mrg
    rcases List.mem_append.mp hr with hr | hr
    · rw [h.join r hr k1 k2]
    · rw [List.mem_singleton.mp hr, if_pos rfl]
      split <;> rfl
  conn := fun a ha b hb e => by
    have up : ∀ x ∈ vs, ∀ y ∈ vs, f x = f y → Conn ((es ++ [p]).filter fun p => decide (p.1 ∈ vs) && decide (p.2 ∈ vs)) x y := fun x hx y hy q => (h.conn x hx y hy q).mono filt_sub
    have ed : Conn ((es ++ [p]).filter fun p => decide (p.1 ∈ vs) && decide (p.2 ∈ vs)) p.1 p.2 := by
      refine .step (.refl _) (.inl ?_)
      refine List.mem_filter.mpr ⟨List.mem_append_right _ (List.mem_singleton.mpr rfl), ?_⟩
      rw [Bool.and_eq_true, decide_eq_true_eq, decide_eq_true_eq]
      exact ⟨h1, h2⟩
    unfold mrg at e
    by_cases ea : f a = f p.1
    · by_cases eb : f b = f p.1
      · exact up a ha b hb (ea.trans eb.symm)
      · rw [if_pos ea, if_neg eb] at e
        exact ((up a ha _ h1 ea).trans ed).trans (up _ h2 b hb e)
    · by_cases eb : f b = f p.1
      · rw [if_neg ea, if_pos eb] at e
        exact (((up b hb _ h1 eb).trans ed).trans (up _ h2 a ha e.symm)).symm
      · rw [if_neg ea, if_neg eb] at e
        exact up a ha b hb e
/-! ### groups of one label -/
structure Grp (f : Int → Int) (T : List Int) (gs : List (Int × List Int)) : Prop where
  nd : (gs.map (·.1)).Nodup
  is : ∀ g ∈ gs, g.2 = T.filter (fun v => decide (f v = g.1)) ∧ g.2 ≠ []
  all : ∀ v ∈ T, f v ∈ gs.map (·.1)
theorem Grp.start (f : Int → Int) : Grp f [] [] := ⟨.nil, (fun _ h => nomatch h), (fun _ h => nomatch h)⟩
def addG (gs : List (Int × List Int)) (l v : Int) : List (Int × List Int) :=
  if l ∈ gs.map (·.1) then gs.map (fun g => if g.1 = l then (g.1, g.2 ++ [v]) else g) else gs ++ [(l, [v])]
theorem addG_keys_old {gs : List (Int × List Int)} {l v : Int} : (gs.map (fun g => if g.1 = l then (g.1, g.2 ++ [v]) else g)).map (·.1) = gs.map (·.1) := by
  rw [List.map_map]
  refine List.map_congr_left fun g _ => ?_
  show (if g.1 = l then (g.1, g.2 ++ [v]) else g).1 = g.1
  split <;> rfl
theorem Grp.add {f : Int → Int} {T : List Int} {gs : List (Int × List Int)} (h : Grp f T gs) (v : Int) : Grp f (T ++ [v]) (addG gs (f v) v) := by
  unfold addG
  by_cases hin : f v ∈ gs.map (·.1)
  · rw [if_pos hin]
    refine ⟨by rw [addG_keys_old]; exact h.nd, fun g hg => ?_, fun u hu => ?_⟩
    · obtain ⟨g0, hg0, rfl⟩ := List.mem_map.mp hg
      obtain ⟨i1, i2⟩ := h.is g0 hg0
      by_cases e : g0.1 = f v
      · rw [if_pos e]
        refine ⟨?_, by simp⟩
        show g0.2 ++ [v] = _
        rw [List.filter_append, ← i1, List.filter_cons_of_pos (by simp [e])]
        rfl
      · rw [if_neg e]
        refine ⟨?_, i2⟩
        rw [List.filter_append, ← i1, List.filter_cons_of_neg (by simp; exact fun z => e z.symm), List.filter_nil, List.append_nil]
    · rw [addG_keys_old]
      rcases List.mem_append.mp hu with hu | hu
      · exact h.all u hu
      · rw [List.mem_singleton.mp hu]
        exact hin
  · rw [if_neg hin]
    have none : T.filter (fun u => decide (f u = f v)) = [] := List.filter_eq_nil_iff.mpr fun u hu z => hin (by
      rw [← of_decide_eq_true z]
      exact h.all u hu)
    refine ⟨?_, fun g hg => ?_, fun u hu => ?_⟩
    · rw [List.map_append]
      refine List.nodup_append.mpr ⟨h.nd, List.pairwise_singleton _ _, fun a ha b hb e => ?_⟩
      rw [List.mem_singleton.mp hb] at e
      have e : a = f v := e
      rw [e] at ha
      exact hin ha
    · rcases List.mem_append.mp hg with hg | hg
      · obtain ⟨i1, i2⟩ := h.is g hg
        refine ⟨?_, i2⟩
        have : ¬ f v = g.1 := fun z => hin (by rw [z]; exact List.mem_map.mpr ⟨g, hg, rfl⟩)
        rw [List.filter_append, ← i1, List.filter_cons_of_neg (by simp [this]), List.filter_nil, List.append_nil]
      · rw [List.mem_singleton.mp hg]
        refine ⟨?_, by simp⟩
        rw [List.filter_append, none, List.nil_append, List.filter_cons_of_pos (by simp)]
        rfl
    · rw [List.map_append]
      rcases List.mem_append.mp hu with hu | hu
      · exact List.mem_append_left _ (h.all u hu)
      · rw [List.mem_singleton.mp hu]
        exact List.mem_append_right _ (List.mem_singleton.mpr rfl)
theorem Grp.len {f : Int → Int} {T : List Int} {gs : List (Int × List Int)} (h : Grp f T gs) : gs.length ≤ T.length := by
  have key : ∀ (l : List Int), l.Nodup → (∀ x ∈ l, x ∈ T.map f) → l.length ≤ T.length := by
    intro l nd sub
    have := nd.length_le_of_subset sub
    rw [List.length_map] at this
    exact this
  have := key (gs.map (·.1)) h.nd fun x hx => by
    obtain ⟨g, hg, rfl⟩ := List.mem_map.mp hx
    obtain ⟨i1, i2⟩ := h.is g hg
    obtain ⟨u, hu⟩ := List.exists_mem_of_ne_nil _ i2
    rw [i1] at hu
    obtain ⟨a, b⟩ := List.mem_filter.mp hu
    exact List.mem_map.mpr ⟨u, a, of_decide_eq_true b⟩
  rw [List.length_map] at this
  exact this
end TL
namespace TL
open PySem PySem.Spec L2
/-! ### walks and the way back -/
def run (S : List Int) (ps : List (Int × Int)) : List Int := ps.foldl (fun S p => after S p.1 p.2) S
theorem run_snoc (S : List Int) (ps : List (Int × Int)) (p : Int × Int) : run S (ps ++ [p]) = after (run S ps) p.1 p.2 := by
  unfold run
  rw [List.foldl_append]
  rfl
theorem walk_run {m : Nat} {es : List (Int × Int)} : ∀ {ps : List (Int × Int)} {S T : List Int}, walk m es S ps = some T → T = run S ps
  | [], S, T, h => by cases h; rfl
  | p :: ps, S, T, h => by
    obtain ⟨_, h2⟩ := walk_cons h
    exact (walk_run h2 : T = run (after S p.1 p.2) ps)
theorem walk_push {m : Nat} {es : List (Int × Int)} {S : List Int} {p : Int × Int} {ps : List (Int × Int)} (h : p ∈ slidesP m es S) : walk m es S (p :: ps) = walk m es (after S p.1 p.2) ps := by
  show (if p ∈ slidesP m es S then _ else _) = _
  rw [if_pos h]
theorem walk_app {m : Nat} {es : List (Int × Int)} {qs : List (Int × Int)} : ∀ {ps : List (Int × Int)} {S T : List Int}, walk m es S ps = some T → walk m es S (ps ++ qs) = walk m es T qs
  | [], S, T, h => by cases h; rfl
  | p :: ps, S, T, h => by
    obtain ⟨h1, h2⟩ := walk_cons h
    rw [List.cons_append, walk_push h1]
    exact walk_app h2
theorem walk_some {m : Nat} {es : List (Int × Int)} {qs : List (Int × Int)} : ∀ {ps : List (Int × Int)} {S T : List Int}, walk m es S (ps ++ qs) = some T → walk m es S ps = some (run S ps) ∧ walk m es (run S ps) qs = some T
  | [], S, T, h => ⟨rfl, h⟩
  | p :: ps, S, T, h => by
    rw [List.cons_append] at h
    obtain ⟨h1, h2⟩ := walk_cons h
    rw [walk_push h1]
    exact walk_some h2
theorem walk_cut {m : Nat} {es : List (Int × Int)} {ps : List (Int × Int)} {S T : List Int} (n : Nat) (h : walk m es S ps = some T) : walk m es S (ps.take n) = some (run S (ps.take n)) ∧ walk m es (run S (ps.take n)) (ps.drop n) = some T := by
  rw [← List.take_append_drop n ps] at h
  exact walk_some h
theorem walk_set {m : Nat} {es : List (Int × Int)} (f : IsFor m es) : ∀ {ps : List (Int × Int)} {S T : List Int}, IsSet m es S → walk m es S ps = some T → IsSet m es T
  | [], S, T, i, h => by cases h; exact i
  | p :: ps, S, T, i, h => by
    obtain ⟨h1, h2⟩ := walk_cons h
    exact walk_set f (IsSet.slide f i h1) h2
theorem after_back {m : Nat} {es : List (Int × Int)} {S : List Int} (f : IsFor m es) (h : IsSet m es S) {u v : Int} (p : (u, v) ∈ slidesP m es S) : after (after S u v) v u = S := by
  obtain ⟨hu, hv, ho⟩ := mem_slidesP.mp p
  have nv := adj_free h hu hv
  have s1 := IsSet.slide f (IsSet.slide f h p) (slide_back f h p)
  refine asc_ext s1.asc h.asc fun z => ?_
  show z ∈ after (after S u v) v u ↔ _
  rw [mem_after, mem_after]
  constructor
  · rintro (⟨⟨a, b⟩ | a, c⟩ | a)
    · exact a
    · exact absurd a c
    · rw [a]; exact hu
  · intro hz
    by_cases e : z = u
    · exact .inr e
    · exact .inl ⟨.inl ⟨hz, e⟩, fun y => nv (y ▸ hz)⟩
def bk (ps : List (Int × Int)) : List (Int × Int) := (ps.map fun p => (p.2, p.1)).reverse
theorem bk_length (ps : List (Int × Int)) : (bk ps).length = ps.length := by
  unfold bk
  rw [List.length_reverse, List.length_map]
theorem walk_bk {m : Nat} {es : List (Int × Int)} (f : IsFor m es) : ∀ {ps : List (Int × Int)} {S T : List Int}, IsSet m es S → walk m es S ps = some T → walk m es T (bk ps) = some S
  | [], S, T, i, h => by cases h; rfl
  | p :: ps, S, T, i, h => by
    obtain ⟨h1, h2⟩ := walk_cons h
    have h3 := walk_bk f (IsSet.slide f i h1) h2
    have e : bk (p :: ps) = bk ps ++ [(p.2, p.1)] := by
      unfold bk
      rw [List.map_cons, List.reverse_cons]
    rw [e, walk_app h3, walk_push (slide_back f i (u := p.1) (v := p.2) h1)]
    show some (after (after S p.1 p.2) p.2 p.1) = _
    rw [after_back f i (u := p.1) (v := p.2) h1]
/-! ### the settings on the way -/
def sts (S : List Int) (ps : List (Int × Int)) : List (List Int) := (List.range (ps.length + 1)).map fun i => run S (ps.take i)
theorem sts_nil (S : List Int) : sts S [] = [S] := rfl
theorem sts_len (S : List Int) (ps : List (Int × Int)) : (sts S ps).length = ps.length + 1 := by
  unfold sts
  rw [List.length_map, List.length_range]
theorem sts_snoc (S : List Int) (ps : List (Int × Int)) (p : Int × Int) : sts S (ps ++ [p]) = sts S ps ++ [run S (ps ++ [p])] := by
  unfold sts
  rw [List.length_append, List.length_singleton, List.range_succ, List.map_append, List.map_singleton, List.take_of_length_le (l := ps ++ [p]) (by rw [List.length_append]; exact Nat.le_refl _)]
  congr 1
  refine List.map_congr_left fun i hi => ?_
  have := List.mem_range.mp hi
  rw [List.take_append_of_le_length (by omega)]
theorem sts_get {S : List Int} {ps : List (Int × Int)} {i : Nat} (h : i ≤ ps.length) : (sts S ps)[i]? = some (run S (ps.take i)) := by
  unfold sts
  rw [List.getElem?_map, List.getElem?_range (by omega)]
  rfl
theorem mem_sts {S R : List Int} {ps : List (Int × Int)} (h : R ∈ sts S ps) : ∃ i, i ≤ ps.length ∧ R = run S (ps.take i) := by
  unfold sts at h
  obtain ⟨i, hi, rfl⟩ := List.mem_map.mp h
  have := List.mem_range.mp hi
  exact ⟨i, by omega, rfl⟩
/-! ### lamps counted -/
def cnt (bs : List (List Int)) (S : List Int) : List Int := bs.map fun b => (((S.filter fun l => decide (l ∈ b)).length : Nat) : Int)
theorem cnt_slide {m : Nat} {es : List (Int × Int)} {f : Int → Int} {gs : List (Int × List Int)} {S : List Int} {u v : Int} {bs : List (List Int)} (isf : IsFor m es) (iss : IsSet m es S) (lab : Lab es (rng m) f) (gr : Grp f (rng m) gs)
    (hb : ∀ b ∈ bs, b ∈ gs.map (·.2)) (p : (u, v) ∈ slidesP m es S) : cnt bs (after S u v) = cnt bs S := by
  obtain ⟨hu, hv, ho⟩ := mem_slidesP.mp p
  obtain ⟨rv, av⟩ := mem_nearL.mp hv
  have ru := iss.rng u hu
  have mu : u ∈ rng m := mem_rng.mpr ru
  have mv : v ∈ rng m := mem_rng.mpr rv
  have e : f u = f v := by
    unfold ordP at av
    split at av
    · exact (lab.join _ av mv mu).symm
    · exact lab.join _ av mu mv
  unfold cnt
  refine List.map_congr_left fun b hb0 => ?_
  obtain ⟨g, hg, rfl⟩ := List.mem_map.mp (hb b hb0)
  have key : ∀ x, x ∈ g.2 ↔ x ∈ rng m ∧ f x = g.1 := fun x => by
    rw [(gr.is g hg).1, List.mem_filter, decide_eq_true_eq]
  have uv : u ∈ g.2 ↔ v ∈ g.2 := by
    rw [key, key, e]
    exact ⟨fun z => ⟨mv, z.2⟩, fun z => ⟨mu, z.2⟩⟩
  have h1 : (after S u v).Perm (S.map fun l => if l = u then v else l) := (srtI_perm _).trans (move_perm iss.asc.nodup hu).symm
  rw [(h1.filter _).length_eq, List.filter_map, List.length_map]
  congr 2
  refine List.filter_congr fun l _ => ?_
  show decide ((if l = u then v else l) ∈ g.2) = _
  split
  · rename_i h
    rw [h]
    exact decide_eq_decide.mpr uv.symm
  · rfl
theorem cnt_walk {m : Nat} {es : List (Int × Int)} {f : Int → Int} {gs : List (Int × List Int)} {bs : List (List Int)} (isf : IsFor m es) (lab : Lab es (rng m) f) (gr : Grp f (rng m) gs)
    (hb : ∀ b ∈ bs, b ∈ gs.map (·.2)) : ∀ {ps : List (Int × Int)} {S T : List Int}, IsSet m es S → walk m es S ps = some T → cnt bs T = cnt bs S
  | [], S, T, i, h => by cases h; rfl
  | p :: ps, S, T, i, h => by
    obtain ⟨h1, h2⟩ := walk_cons h
    rw [cnt_walk isf lab gr hb (IsSet.slide isf i h1) h2]
    exact cnt_slide isf i lab gr hb (u := p.1) (v := p.2) h1
/-! ### a comprehension within another -/
def env0 (sc : Scope) : Env := { scope := sc, locals := 0, globals := 0, cells := [], qual := "", func := none, code := .none, frame := default, builtins := default }
theorem blkOk_in {N : List Str} {scope0 scope : Scope} {own : List (Str × Nat)} {env : Env} {cl : List (Str × Addr)} {C : Addr} (sc : Scope) (e : env.scope = sc) (h : blkC N (relabel scope0 (env0 sc)) scope own = true) :
    BlkOk N (compEnvC scope0 cl C env).scope scope own := by
  subst e
  exact blkOk_by h
/-! ### comprehensions over lists and tuples of data -/
theorem zip_filter {α β γ : Type} {xs : List α} {bs : List β} (h : xs.length = bs.length) (p : β → Bool) (d : β → γ) : ((xs.zip bs).filter (fun q => p q.2)).map (fun q => d q.2) = (bs.filter p).map d := by
  have e : (xs.zip bs).map Prod.snd = bs := List.map_snd_zip (by omega)
  conv => rhs; rw [← e, List.filter_map, List.map_map]
  rfl
section
variable {K : PySem.W.Frag} {tt : TT} {te : TE} {vs : List Nat} {σ : L2.St} {H1 : Hp} {D : Addr} {Qd : Hp → Prop}
theorem lc_listD {a : Addr} {xs : List V} {β : Type} {bs : List β} {e : β → PyData} {i : Nat} (p : β → Bool) (d : β → PyData) (nD : H1 D = none) (hS : SqL K H1 a xs) (hA : DpAll K H1 xs (bs.map e))
    (hw : ∀ v, wipe ((wipe σ vs).set i (some v)) vs = wipe σ vs)
    (ht : ∀ x b, b ∈ bs → Dp K H1 x (e b) → ∀ H' (Q : Bool → Hp → Prop), Same H1 H' → (∀ H2, Same H' H2 → Q (p b) H2) → tt ((wipe σ vs).set i (some x)) H' Q)
    (he : ∀ x b, b ∈ bs → p b = true → Dp K H1 x (e b) → ∀ H' (Q : VK), Same H1 H' → (∀ H2 y, Same H' H2 → Dp K H2 y (d b) → Q y H2) → te ((wipe σ vs).set i (some x)) H' Q)
    (ho : ∀ o, only (d o) = true) (hl : bs.length ≤ 1000)
    (hd : ∀ H' ys, Same H1 H' → H' D = some (.lst ys) → DpAll K H' ys ((bs.filter p).map d) → Qd H') : LcGoal (Itl K a) (gName i) tt te vs σ H1 D Qd := by
  have xl : xs.length = bs.length := by rw [DpAll.length hA, List.length_map]
  have mem : ∀ q ∈ xs.zip bs, q.2 ∈ bs ∧ Dp K H1 q.1 (e q.2) := fun q hq => by
    obtain ⟨k, hk⟩ := List.getElem?_of_mem hq
    obtain ⟨h1, h2⟩ := List.getElem?_zip_eq_some.mp hk
    obtain ⟨z, hz, dz⟩ := DpAll.get hA h1
    rw [List.getElem?_map, h2] at hz
    cases hz
    exact ⟨List.mem_of_getElem? h2, dz⟩
  have zl : (xs.zip bs).length = xs.length := by rw [List.length_zip]; omega
  refine lc_gen (K := K) (xs.zip bs) (fun q => (wipe σ vs).set i (some q.1)) (fun q => p q.2) (fun q => d q.2) nD (fun j H' hj s => ⟨_, _, s.seq hS, List.getElem?_eq_getElem (by omega)⟩)
    (fun H' s => ⟨_, s.seq hS, by omega⟩) (fun j b x H' H'' hb s y => ?_) (fun b => hw _) (fun b hb H' Q s hQ => ht _ _ (mem b hb).1 (mem b hb).2 H' Q s hQ) (fun b hb hp H' Q s hQ => he _ _ (mem b hb).1 hp (mem b hb).2 H' Q s hQ) (fun o => ho _) (by omega)
    (fun H' ys s eD dy => hd H' ys s eD ?_)
  · obtain ⟨e1, hy⟩ := y
    have h1 := hy _ (s.seq hS)
    obtain ⟨h2, h3⟩ := List.getElem?_zip_eq_some.mp hb
    rw [h2] at h1
    cases h1
    exact ⟨e1, fun Q q => q⟩
  · rw [zip_filter xl] at dy
    exact dy
theorem lc_tupD {a : Addr} {xs : List V} {β : Type} {bs : List β} {e : β → PyData} {i : Nat} (p : β → Bool) (d : β → PyData) (nD : H1 D = none) (hS : SqT K H1 a xs) (hA : DpAll K H1 xs (bs.map e))
    (hw : ∀ v, wipe ((wipe σ vs).set i (some v)) vs = wipe σ vs)
    (ht : ∀ x b, b ∈ bs → Dp K H1 x (e b) → ∀ H' (Q : Bool → Hp → Prop), Same H1 H' → (∀ H2, Same H' H2 → Q (p b) H2) → tt ((wipe σ vs).set i (some x)) H' Q)
    (he : ∀ x b, b ∈ bs → p b = true → Dp K H1 x (e b) → ∀ H' (Q : VK), Same H1 H' → (∀ H2 y, Same H' H2 → Dp K H2 y (d b) → Q y H2) → te ((wipe σ vs).set i (some x)) H' Q)
    (ho : ∀ o, only (d o) = true) (hl : bs.length ≤ 1000)
    (hd : ∀ H' ys, Same H1 H' → H' D = some (.lst ys) → DpAll K H' ys ((bs.filter p).map d) → Qd H') : LcGoal (Itt K a) (gName i) tt te vs σ H1 D Qd := by
  have xl : xs.length = bs.length := by rw [DpAll.length hA, List.length_map]
  have mem : ∀ q ∈ xs.zip bs, q.2 ∈ bs ∧ Dp K H1 q.1 (e q.2) := fun q hq => by
    obtain ⟨k, hk⟩ := List.getElem?_of_mem hq
    obtain ⟨h1, h2⟩ := List.getElem?_zip_eq_some.mp hk
    obtain ⟨z, hz, dz⟩ := DpAll.get hA h1
    rw [List.getElem?_map, h2] at hz
    cases hz
    exact ⟨List.mem_of_getElem? h2, dz⟩
  have zl : (xs.zip bs).length = xs.length := by rw [List.length_zip]; omega
  refine lc_gen (K := K) (xs.zip bs) (fun q => (wipe σ vs).set i (some q.1)) (fun q => p q.2) (fun q => d q.2) nD (fun j H' hj s => ⟨_, _, Same.tup s hS, List.getElem?_eq_getElem (by omega)⟩)
    (fun H' s => ⟨_, Same.tup s hS, by omega⟩) (fun j b x H' H'' hb s y => ?_) (fun b => hw _) (fun b hb H' Q s hQ => ht _ _ (mem b hb).1 (mem b hb).2 H' Q s hQ) (fun b hb hp H' Q s hQ => he _ _ (mem b hb).1 hp (mem b hb).2 H' Q s hQ) (fun o => ho _) (by omega)
    (fun H' ys s eD dy => hd H' ys s eD ?_)
  · obtain ⟨e1, hy⟩ := y
    have h1 := hy _ (Same.tup s hS)
    obtain ⟨h2, h3⟩ := List.getElem?_zip_eq_some.mp hb
    rw [h2] at h1
    cases h1
    exact ⟨e1, fun Q q => q⟩
  · rw [zip_filter xl] at dy
    exact dy
end
end TL
namespace TL
open PySem PySem.Spec L2
/-! ### vertices joined by edges, found pass by pass -/
def stp (f : List Int) (p : Int × Int) : List Int := if decide (p.1 ∈ f) = decide (p.2 ∈ f) then f else f ++ [if p.1 ∈ f then p.2 else p.1]
def pas (E : List (Int × Int)) (f : List Int) : List Int := E.foldl stp f
def passes (E : List (Int × Int)) (v : Int) : Nat → List Int
  | 0 => [v]
  | n + 1 => pas E (passes E v n)
theorem filt_le {α : Type} {P Q : α → Bool} (h : ∀ x, P x = true → Q x = true) : ∀ l : List α, (l.filter P).length ≤ (l.filter Q).length
  | [] => Nat.le_refl _
  | a :: l => by
    have ih := filt_le h l
    rw [List.filter_cons, List.filter_cons]
    by_cases hp : P a = true
    · rw [if_pos hp, if_pos (h a hp), List.length_cons, List.length_cons]
      omega
    · rw [if_neg hp]
      split
      · rw [List.length_cons]
        omega
      · exact ih
theorem filt_lt {α : Type} {P Q : α → Bool} (h : ∀ x, P x = true → Q x = true) : ∀ {l : List α} {a : α}, a ∈ l → P a = false → Q a = true → (l.filter P).length < (l.filter Q).length
  | b :: l, a, ha, hp, hq => by
    rw [List.filter_cons, List.filter_cons]
    rcases List.mem_cons.mp ha with e | ha
    · rw [← e, if_neg (by rw [hp]; decide), if_pos hq, List.length_cons]
      have := filt_le h l
      omega
    · have ih := filt_lt h ha hp hq
      by_cases hb : P b = true
      · rw [if_pos hb, if_pos (h b hb), List.length_cons, List.length_cons]
        omega
      · rw [if_neg hb]
        split
        · rw [List.length_cons]
          omega
        · exact ih
def inn (f : List Int) (p : Int × Int) : Bool := decide (p.1 ∈ f) && decide (p.2 ∈ f)
structure Jn (E : List (Int × Int)) (v : Int) (f : List Int) : Prop where
  nd : f.Nodup
  has : v ∈ f
  conn : ∀ x ∈ f, Conn E v x
  cnt : f.length ≤ 1 + (E.filter (inn f)).length
theorem Jn.start (E : List (Int × Int)) (v : Int) : Jn E v [v] where
  nd := List.pairwise_singleton _ _
  has := List.mem_singleton.mpr rfl
  conn := fun x hx => by rw [List.mem_singleton.mp hx]; exact .refl _
  cnt := by rw [List.length_singleton]; omega
theorem Jn.put {E : List (Int × Int)} {v : Int} {f : List Int} {p : Int × Int} {y : Int} (h : Jn E v f) (hp : p ∈ E) (ny : y ∉ f) (cy : Conn E v y) (n : inn f p = false) (m : inn (f ++ [y]) p = true) : Jn E v (f ++ [y]) where
  nd := List.nodup_append.mpr ⟨h.nd, List.pairwise_singleton _ _, fun a ha b hb e => by rw [List.mem_singleton.mp hb] at e; exact ny (e ▸ ha)⟩
  has := List.mem_append_left _ h.has
  conn := fun x hx => (List.mem_append.mp hx).elim (h.conn x) fun z => by rw [List.mem_singleton.mp z]; exact cy
  cnt := by
    have := filt_lt (P := inn f) (Q := inn (f ++ [y])) (fun x hx => by
      unfold inn at hx ⊢
      rw [Bool.and_eq_true, decide_eq_true_eq, decide_eq_true_eq] at hx ⊢
      exact ⟨List.mem_append_left _ hx.1, List.mem_append_left _ hx.2⟩) hp n m
    have := h.cnt
    rw [List.length_append, List.length_singleton]
    omega
theorem Jn.stp {E : List (Int × Int)} {v : Int} {f : List Int} {p : Int × Int} (h : Jn E v f) (hp : p ∈ E) : Jn E v (TL.stp f p) := by
  unfold TL.stp
  split
  · exact h
  · rename_i ne
    by_cases h1 : p.1 ∈ f
    · have h2 : p.2 ∉ f := fun z => ne (by rw [decide_eq_true h1, decide_eq_true z])
      rw [if_pos h1]
      refine h.put hp h2 (.step (h.conn _ h1) (.inl hp)) ?_ ?_
      · unfold inn; rw [decide_eq_false h2, Bool.and_false]
      · unfold inn; rw [decide_eq_true (List.mem_append_left _ h1), decide_eq_true (List.mem_append_right _ (List.mem_singleton.mpr rfl))]; rfl
    · have h2 : p.2 ∈ f := Decidable.byContradiction fun z => ne (by rw [decide_eq_false h1, decide_eq_false z])
      rw [if_neg h1]
      refine h.put hp h1 (.step (h.conn _ h2) (.inr hp)) ?_ ?_
      · unfold inn; rw [decide_eq_false h1, Bool.false_and]
      · unfold inn; rw [decide_eq_true (List.mem_append_left _ h2), decide_eq_true (List.mem_append_right _ (List.mem_singleton.mpr rfl))]; rfl
theorem Jn.fold {E : List (Int × Int)} {v : Int} : ∀ {D : List (Int × Int)} {f : List Int}, (∀ p ∈ D, p ∈ E) → Jn E v f → Jn E v (D.foldl TL.stp f)
  | [], _, _, h => h
  | p :: D, f, s, h => Jn.fold (D := D) (fun q hq => s q (List.mem_cons_of_mem _ hq)) (h.stp (s p List.mem_cons_self))
theorem Jn.passes (E : List (Int × Int)) (v : Int) : ∀ n, Jn E v (TL.passes E v n)
  | 0 => Jn.start E v
  | n + 1 => Jn.fold (fun _ h => h) (Jn.passes E v n)
def Closed (E : List (Int × Int)) (f : List Int) : Prop := ∀ p ∈ E, decide (p.1 ∈ f) = decide (p.2 ∈ f)
theorem fold_grow : ∀ {D : List (Int × Int)} {f : List Int}, (D.foldl TL.stp f = f ∧ Closed D f) ∨ f.length + 1 ≤ (D.foldl TL.stp f).length
  | [], f => .inl ⟨rfl, fun _ h => nomatch h⟩
  | p :: D, f => by
    rw [List.foldl_cons]
    by_cases e : decide (p.1 ∈ f) = decide (p.2 ∈ f)
    · have es : TL.stp f p = f := by unfold TL.stp; rw [if_pos e]
      rw [es]
      rcases fold_grow (D := D) (f := f) with ⟨h1, h2⟩ | h
      · exact .inl ⟨h1, fun q hq => (List.mem_cons.mp hq).elim (fun z => z ▸ e) (h2 q)⟩
      · exact .inr h
    · have es : (TL.stp f p).length = f.length + 1 := by unfold TL.stp; rw [if_neg e, List.length_append, List.length_singleton]
      rcases fold_grow (D := D) (f := TL.stp f p) with ⟨h1, h2⟩ | h
      · rw [h1]
        exact .inr (by omega)
      · exact .inr (by omega)
theorem fold_closed : ∀ {D : List (Int × Int)} {f : List Int}, Closed D f → D.foldl TL.stp f = f
  | [], _, _ => rfl
  | p :: D, f, h => by
    have es : TL.stp f p = f := by unfold TL.stp; rw [if_pos (h p List.mem_cons_self)]
    rw [List.foldl_cons, es]
    exact fold_closed fun q hq => h q (List.mem_cons_of_mem _ hq)
theorem passes_grow (E : List (Int × Int)) (v : Int) : ∀ n, Closed E (passes E v n) ∨ n + 1 ≤ (passes E v n).length
  | 0 => .inr (Nat.le_refl _)
  | n + 1 => by
    rcases passes_grow E v n with h | h
    · left
      show Closed E (pas E (passes E v n))
      unfold pas
      rw [fold_closed h]
      exact h
    · rcases fold_grow (D := E) (f := passes E v n) with ⟨h1, h2⟩ | h3
      · left
        show Closed E (pas E (passes E v n))
        unfold pas
        rw [h1]
        exact h2
      · right
        show _ ≤ (pas E (passes E v n)).length
        unfold pas
        omega
theorem passes_closed (E : List (Int × Int)) (v : Int) : Closed E (passes E v E.length) := by
  rcases passes_grow E v E.length with h | h
  · exact h
  · have c := (Jn.passes E v E.length).cnt
    have l := List.length_filter_le (inn (passes E v E.length)) E
    have e : E.filter (inn (passes E v E.length)) = E := List.filter_sublist.eq_of_length (by omega)
    intro p hp
    rw [← e] at hp
    have h2 := (List.mem_filter.mp hp).2
    unfold inn at h2
    rw [Bool.and_eq_true] at h2
    rw [h2.1, h2.2]
theorem mem_passes (E : List (Int × Int)) (v x : Int) : x ∈ passes E v E.length ↔ Conn E v x := by
  refine ⟨(Jn.passes E v _).conn x, fun h => ?_⟩
  induction h with
  | refl => exact (Jn.passes E v _).has
  | step _ hp ih =>
    rcases hp with hp | hp
    · have := passes_closed E v _ hp
      exact of_decide_eq_true (by rw [← this]; exact decide_eq_true ih)
    · have := passes_closed E v _ hp
      exact of_decide_eq_true (by rw [this]; exact decide_eq_true ih)
/-! ### groups of one label -/
def within (es : List (Int × Int)) (ws : List Int) : List (Int × Int) := es.filter fun p => decide (p.1 ∈ ws) && decide (p.2 ∈ ws)
theorem mem_within {es : List (Int × Int)} {ws : List Int} {p : Int × Int} : p ∈ within es ws ↔ p ∈ es ∧ p.1 ∈ ws ∧ p.2 ∈ ws := by
  unfold within
  rw [List.mem_filter, Bool.and_eq_true, decide_eq_true_eq, decide_eq_true_eq]
theorem conn_lab {es : List (Int × Int)} {ws : List Int} {f : Int → Int} (h : Lab es ws f) {a b : Int} (ha : a ∈ ws) (c : Conn (within es ws) a b) : b ∈ ws ∧ f a = f b := by
  induction c with
  | refl => exact ⟨ha, rfl⟩
  | step _ hp ih =>
    rcases hp with hp | hp
    · obtain ⟨h1, h2, h3⟩ := mem_within.mp hp
      exact ⟨h3, ih.2.trans (h.join _ h1 h2 h3)⟩
    · obtain ⟨h1, h2, h3⟩ := mem_within.mp hp
      exact ⟨h2, ih.2.trans (h.join _ h1 h2 h3).symm⟩
theorem group_eq {es : List (Int × Int)} {ws : List Int} {f : Int → Int} (h : Lab es ws f) (asc : Asc ws) {v : Int} (hv : v ∈ ws) :
    srtI (passes (within es ws) v (within es ws).length) = ws.filter fun u => decide (f u = f v) := by
  refine asc_ext (srtI_asc (Jn.passes _ _ _).nd) (asc.filter _) fun z => ?_
  rw [(srtI_perm _).mem_iff, mem_passes, List.mem_filter, decide_eq_true_eq]
  constructor
  · intro c
    obtain ⟨h1, h2⟩ := conn_lab h hv c
    exact ⟨h1, h2.symm⟩
  · intro hz
    exact h.conn v hv z hz.1 hz.2.symm
end TL
namespace TL
/-! ### paths in forests: between two vertices there is at most one -/
def Adj (es : List (Int × Int)) (a b : Int) : Prop := (a, b) ∈ es ∨ (b, a) ∈ es
theorem Adj.symm {es : List (Int × Int)} {a b : Int} (h : Adj es a b) : Adj es b a := h.elim .inr .inl
inductive Pth (es : List (Int × Int)) : Int → Int → List Int → Prop
  | one (a : Int) : Pth es a a [a]
  | cons {a b c : Int} {p : List Int} : Adj es a b → Pth es b c p → a ∉ p → Pth es a c (a :: p)
theorem Pth.mono {es fs : List (Int × Int)} (s : ∀ p ∈ es, p ∈ fs) {a b : Int} {p : List Int} (h : Pth es a b p) : Pth fs a b p := by
  induction h with
  | one a => exact .one a
  | cons ad _ n ih => exact .cons (ad.elim (fun z => .inl (s _ z)) fun z => .inr (s _ z)) ih n
theorem Pth.first {es : List (Int × Int)} {a b : Int} {p : List Int} (h : Pth es a b p) : a ∈ p := by
  cases h with
  | one => exact List.mem_singleton.mpr rfl
  | cons => exact List.mem_cons_self
theorem Pth.last {es : List (Int × Int)} {a b : Int} {p : List Int} (h : Pth es a b p) : b ∈ p := by
  induction h with
  | one a => exact List.mem_singleton.mpr rfl
  | cons _ _ _ ih => exact List.mem_cons_of_mem _ ih
theorem Pth.self {es : List (Int × Int)} {a : Int} {p : List Int} (h : Pth es a a p) : p = [a] := by
  cases h with
  | one => rfl
  | cons _ h n => exact absurd h.last n
theorem Pth.nodup {es : List (Int × Int)} {a b : Int} {p : List Int} (h : Pth es a b p) : p.Nodup := by
  induction h with
  | one a => exact List.pairwise_singleton _ _
  | cons _ _ n ih => exact List.nodup_cons.mpr ⟨n, ih⟩
theorem Pth.snoc {es : List (Int × Int)} {a b c : Int} {p : List Int} (h : Pth es a b p) (ad : Adj es b c) (n : c ∉ p) : Pth es a c (p ++ [c]) := by
  induction h with
  | one a =>
    refine .cons ad (.one c) fun z => n ?_
    rw [List.mem_singleton.mp z]
    exact List.mem_singleton.mpr rfl
  | cons ad0 _ n0 ih =>
    refine .cons ad0 (ih ad fun z => n (List.mem_cons_of_mem _ z)) fun z => ?_
    rcases List.mem_append.mp z with z | z
    · exact n0 z
    · rw [List.mem_singleton.mp z] at n
      exact n List.mem_cons_self
theorem Pth.rev {es : List (Int × Int)} {a b : Int} {p : List Int} (h : Pth es a b p) : Pth es b a p.reverse := by
  induction h with
  | one a => exact .one a
  | cons ad _ n ih =>
    rw [List.reverse_cons]
    exact ih.snoc ad.symm fun z => n (List.mem_reverse.mp z)
def Uniq (es : List (Int × Int)) : Prop := ∀ a b p q, Pth es a b p → Pth es a b q → p = q
section
variable {es : List (Int × Int)} {u v : Int} {e : Int × Int} (he : e = (v, u) ∨ e = (u, v)) (nv : ∀ p ∈ es, p.1 ≠ v ∧ p.2 ≠ v) (uv : u ≠ v)
include he nv
theorem adj_snoc {a b : Int} (h : Adj (es ++ [e]) a b) : Adj es a b ∨ (a = v ∧ b = u) ∨ (a = u ∧ b = v) := by
  rcases h with h | h
  · rcases List.mem_append.mp h with h | h
    · exact .inl (.inl h)
    · have h := List.mem_singleton.mp h
      rcases he with he | he
      · rw [he] at h; cases h; exact .inr (.inl ⟨rfl, rfl⟩)
      · rw [he] at h; cases h; exact .inr (.inr ⟨rfl, rfl⟩)
  · rcases List.mem_append.mp h with h | h
    · exact .inl (.inr h)
    · have h := List.mem_singleton.mp h
      rcases he with he | he
      · rw [he] at h; cases h; exact .inr (.inr ⟨rfl, rfl⟩)
      · rw [he] at h; cases h; exact .inr (.inl ⟨rfl, rfl⟩)
include uv
theorem adj_leaf {b : Int} (h : Adj (es ++ [e]) v b) : b = u := by
  rcases adj_snoc he nv h with h | h | h
  · rcases h with h | h
    · exact absurd rfl (nv _ h).1
    · exact absurd rfl (nv _ h).2
  · exact h.2
  · exact absurd h.1.symm uv
theorem pth_leaf1 {a b : Int} {p : List Int} (h : Pth (es ++ [e]) a b p) (ha : a ≠ v) (hb : b ≠ v) : v ∉ p ∧ Pth es a b p := by
  induction h with
  | one a => exact ⟨fun z => ha (List.mem_singleton.mp z).symm, .one a⟩
  | @cons a x c p ad hp na ih =>
    by_cases hx : x = v
    · subst hx
      have au : a = u := adj_leaf he nv uv ad.symm
      cases hp with
      | one => exact absurd rfl hb
      | cons ad2 hp2 n2 =>
        have yu := adj_leaf he nv uv ad2
        rw [yu, ← au] at hp2
        exact absurd (List.mem_cons_of_mem _ hp2.first) na
    · obtain ⟨h1, h2⟩ := ih hx hb
      refine ⟨fun z => (List.mem_cons.mp z).elim (fun z => ha z.symm) h1, .cons ?_ h2 na⟩
      rcases adj_snoc he nv ad with h | h | h
      · exact h
      · exact absurd h.1 ha
      · exact absurd h.2 hx
theorem pth_leaf2 {b : Int} {p : List Int} (h : Pth (es ++ [e]) v b p) (hb : b ≠ v) : ∃ p', p = v :: p' ∧ Pth es u b p' := by
  cases h with
  | one => exact absurd rfl hb
  | cons ad hp _ =>
    have yu := adj_leaf he nv uv ad
    rw [yu] at hp
    exact ⟨_, rfl, (pth_leaf1 he nv uv hp uv hb).2⟩
theorem uniq_snoc (U : Uniq es) : Uniq (es ++ [e]) := by
  intro a b p q hp hq
  by_cases ha : a = v
  · by_cases hb : b = v
    · rw [ha, hb] at hp hq
      rw [hp.self, hq.self]
    · rw [ha] at hp hq
      obtain ⟨p', rfl, h1⟩ := pth_leaf2 he nv uv hp hb
      obtain ⟨q', rfl, h2⟩ := pth_leaf2 he nv uv hq hb
      rw [U _ _ _ _ h1 h2]
  · by_cases hb : b = v
    · rw [hb] at hp hq
      obtain ⟨p', e1, h1⟩ := pth_leaf2 he nv uv hp.rev ha
      obtain ⟨q', e2, h2⟩ := pth_leaf2 he nv uv hq.rev ha
      rw [← U _ _ _ _ h1 h2, ← e1] at e2
      exact (List.reverse_inj.mp e2).symm
    · exact U _ _ _ _ (pth_leaf1 he nv uv hp ha hb).2 (pth_leaf1 he nv uv hq ha hb).2
end
theorem uniq_nil : Uniq [] := by
  intro a b p q hp hq
  cases hp with
  | one => rw [hq.self]
  | cons ad => exact ad.elim (fun z => nomatch z) fun z => nomatch z
theorem uniq_grow {m : Nat} {nm : List Int} : ∀ {n : Nat} {ks : List (Nat × Nat)}, ks.length = n → Grow m nm ks → Uniq (ks.map (edgeOf nm))
  | 0, ks, hn, g => by
    rw [List.length_eq_zero_iff.mp hn]
    exact uniq_nil
  | n + 1, ks, hn, g => by
    have hne : ks ≠ [] := fun z => by rw [z] at hn; cases hn
    obtain ⟨js, q, rfl⟩ : ∃ js q, ks = js ++ [q] := ⟨_, _, (List.dropLast_concat_getLast hne).symm⟩
    rw [List.length_append, List.length_singleton] at hn
    have gj : Grow m nm js := ⟨g.names, (List.pairwise_append.mp g.up).1, fun r hr => g.down r (List.mem_append_left _ hr)⟩
    have up := (List.pairwise_append.mp g.up).2.2
    obtain ⟨hq1, hq2⟩ := g.down q (List.mem_append_right _ (List.mem_singleton.mpr rfl))
    rw [List.map_append, List.map_singleton]
    have ne : nm.getD q.2 0 ≠ nm.getD q.1 0 := fun z => by have := g.inj (Nat.lt_trans hq1 hq2) hq2 z; omega
    refine uniq_snoc (v := nm.getD q.1 0) (u := nm.getD q.2 0) ?_ (fun p hp => ?_) ne (uniq_grow (n := n) (by omega) gj)
    · unfold edgeOf ordP
      split
      · exact .inl rfl
      · exact .inr rfl
    · obtain ⟨r, hr, rfl⟩ := List.mem_map.mp hp
      obtain ⟨hr1, hr2⟩ := gj.down r hr
      have hlt := up r hr q (List.mem_singleton.mpr rfl)
      have n1 : nm.getD r.1 0 ≠ nm.getD q.1 0 := fun z => by have := g.inj hr2 hq2 z; omega
      have n2 : nm.getD r.2 0 ≠ nm.getD q.1 0 := fun z => by have := g.inj (Nat.lt_trans hr1 hr2) hq2 z; omega
      unfold edgeOf ordP
      split
      · exact ⟨n1, n2⟩
      · exact ⟨n2, n1⟩
theorem IsFor.uniq {m : Nat} {es : List (Int × Int)} (f : IsFor m es) : Uniq es := by
  obtain ⟨nm, ks, g, p⟩ := f.grow
  intro a b x y hx hy
  exact uniq_grow rfl g a b x y (hx.mono fun q hq => p.mem_iff.mp hq) (hy.mono fun q hq => p.mem_iff.mp hq)
end TL
namespace TL
/-! ### an edge of a forest joins what no other edges join -/
theorem Pth.cut {es : List (Int × Int)} {a b : Int} {p : List Int} (h : Pth es a b p) : ∀ c ∈ p, ∃ q, Pth es a c q ∧ ∀ x ∈ q, x ∈ p := by
  induction h with
  | one a =>
    intro c hc
    rw [List.mem_singleton.mp hc]
    exact ⟨[a], .one a, fun x hx => hx⟩
  | @cons a y b p ad hp n ih =>
    intro c hc
    rcases List.mem_cons.mp hc with rfl | hc
    · exact ⟨[c], .one c, fun x hx => by rw [List.mem_singleton.mp hx]; exact List.mem_cons_self⟩
    · obtain ⟨q, hq, sub⟩ := ih c hc
      refine ⟨a :: q, .cons ad hq fun z => n (sub a z), fun x hx => ?_⟩
      rcases List.mem_cons.mp hx with rfl | hx
      · exact List.mem_cons_self
      · exact List.mem_cons_of_mem _ (sub x hx)
theorem Conn.pth {es : List (Int × Int)} {a b : Int} (h : Conn es a b) : ∃ p, Pth es a b p := by
  induction h with
  | refl => exact ⟨_, .one _⟩
  | @step b c _ e ih =>
    obtain ⟨p, hp⟩ := ih
    by_cases hc : c ∈ p
    · obtain ⟨q, hq, _⟩ := hp.cut c hc
      exact ⟨q, hq⟩
    · exact ⟨_, hp.snoc e hc⟩
theorem Pth.pair {es : List (Int × Int)} {a b x y : Int} {l : List Int} (h : Pth es a b l) (e : l = [x, y]) : Adj es x y := by
  cases h with
  | one => cases e
  | cons ad hp n =>
    cases hp with
    | one => cases e; exact ad
    | cons _ hp _ => cases hp <;> cases e
theorem IsFor.open {m : Nat} {A B : List (Int × Int)} {p : Int × Int} (f : IsFor m (A ++ p :: B)) : ¬ Conn A p.1 p.2 := by
  intro h
  obtain ⟨q, hq⟩ := h.pth
  have mem : p ∈ A ++ p :: B := List.mem_append_right _ List.mem_cons_self
  have r := f.rng p mem
  have h1 : Pth (A ++ p :: B) p.1 p.2 q := hq.mono fun x hx => List.mem_append_left _ hx
  have h2 : Pth (A ++ p :: B) p.1 p.2 [p.1, p.2] := .cons (.inl mem) (.one _) fun z => by
    have := List.mem_singleton.mp z
    omega
  have e := f.uniq _ _ _ _ h1 h2
  subst e
  have ad : Adj A p.1 p.2 := hq.pair rfl
  rcases ad with z | z
  · have := (List.pairwise_append.mp f.asc).2.2 _ z p List.mem_cons_self
    rcases this with y | y
    · simp only at y; omega
    · simp only at y; omega
  · have := f.rng _ (List.mem_append_left _ z)
    simp only at this
    omega
/-! ### sorted pairs -/
theorem srtP_congr {a b : List (Int × Int)} (h : a.Perm b) : srtP a = srtP b := by
  have p : (srtP a).Perm (srtP b) := (srtP_perm a).trans (h.trans (srtP_perm b).symm)
  refine p.eq_of_pairwise (fun x y _ _ h1 h2 => ?_) (srtP_le a) (srtP_le b)
  refine Prod.ext ?_ ?_ <;> omega
theorem Grow.sorted {m : Nat} {nm : List Int} {ks : List (Nat × Nat)} {es : List (Int × Int)} (g : Grow m nm ks) (p : es.Perm (ks.map (edgeOf nm))) : IsFor m (srtP es) := by
  rw [srtP_congr p]
  exact g.isFor
theorem ordP_eq {a b : Int} (h : a ≤ b) : ordP a b = (a, b) := by
  unfold ordP
  rw [if_pos h]
/-! ### names for vertices -/
def nam (ns : List Int) (v : Int) : Int := ns.getD v.toNat 0
def ren (ns : List Int) (p : Int × Int) : Int × Int := ordP (nam ns p.1) (nam ns p.2)
theorem ren_ord (ns : List Int) (a b : Int) : ren ns (ordP a b) = ordP (nam ns a) (nam ns b) := by
  unfold ren ordP
  by_cases h : a ≤ b
  · rw [if_pos h]
  · rw [if_neg h]
    exact ordP_comm (nam ns b) (nam ns a)
theorem nam_rng {ns : List Int} : (rng ns.length).map (nam ns) = ns := by
  unfold rng
  rw [List.map_map]
  refine List.ext_getElem? fun i => ?_
  rw [List.getElem?_map]
  by_cases h : i < ns.length
  · rw [List.getElem?_range h, List.getElem?_eq_getElem h]
    show some (ns.getD (Int.toNat (Int.ofNat i)) 0) = _
    show some (ns.getD i 0) = _
    rw [List.getD_eq_getElem?_getD, List.getElem?_eq_getElem h]
    rfl
  · rw [List.getElem?_eq_none (by rw [List.length_range]; omega), List.getElem?_eq_none (by omega)]
    rfl
theorem perm_len {m : Nat} {ns : List Int} (h : ns.Perm (rng m)) : ns.length = m := by rw [h.length_eq, rng_length]
theorem nam_in {m : Nat} {ns : List Int} (h : ns.Perm (rng m)) {v : Int} (hv : 0 ≤ v ∧ v < m) : 0 ≤ nam ns v ∧ nam ns v < m := by
  have hl : v.toNat < ns.length := by rw [perm_len h]; omega
  refine mem_rng.mp (h.mem_iff.mp ?_)
  unfold nam
  rw [List.getD_eq_getElem?_getD, List.getElem?_eq_getElem hl]
  exact List.getElem_mem hl
theorem nam_inj {m : Nat} {ns : List Int} (h : ns.Perm (rng m)) {u v : Int} (hu : 0 ≤ u ∧ u < m) (hv : 0 ≤ v ∧ v < m) (e : nam ns u = nam ns v) : u = v := by
  have hl : u.toNat < ns.length := by rw [perm_len h]; omega
  have hk : v.toNat < ns.length := by rw [perm_len h]; omega
  unfold nam at e
  rw [List.getD_eq_getElem?_getD, List.getElem?_eq_getElem hl, List.getD_eq_getElem?_getD, List.getElem?_eq_getElem hk] at e
  have nd : ns.Nodup := h.nodup_iff.mpr (rng_asc m).nodup
  have := (List.getElem_inj nd).mp e
  omega
theorem IsFor.renamed {m : Nat} {es : List (Int × Int)} {ns : List Int} (f : IsFor m es) (h : ns.Perm (TL.rng m)) : IsFor m (srtP (es.map (ren ns))) := by
  obtain ⟨nm, ks, g, p⟩ := f.grow
  have gn : ∀ i, i < m → (nm.map (nam ns)).getD i 0 = nam ns (nm.getD i 0) := fun i hi => by
    have hl : i < nm.length := by rw [g.len]; exact hi
    rw [List.getD_eq_getElem?_getD, List.getElem?_map, List.getD_eq_getElem?_getD, List.getElem?_eq_getElem hl]
    rfl
  have g' : Grow m (nm.map (nam ns)) ks := ⟨by
    refine (g.names.map (nam ns)).trans ?_
    have e : (TL.rng m).map (nam ns) = ns := by rw [← perm_len h]; exact nam_rng
    rw [e]
    exact h, g.up, g.down⟩
  refine g'.sorted ((p.map (ren ns)).trans ?_)
  rw [List.map_map]
  refine List.Perm.of_eq (List.map_congr_left fun q hq => ?_)
  obtain ⟨h1, h2⟩ := g.down q hq
  show ren ns (edgeOf nm q) = edgeOf (nm.map (nam ns)) q
  unfold edgeOf
  rw [ren_ord, gn _ h2, gn _ (Nat.lt_trans h1 h2)]
theorem ren_back {m : Nat} {es : List (Int × Int)} {ns ms : List Int} (f : IsFor m es) (back : ∀ v : Int, 0 ≤ v → v < m → nam ms (nam ns v) = v) : srtP ((srtP (es.map (ren ns))).map (ren ms)) = es := by
  rw [srtP_congr ((srtP_perm _).map (ren ms)), List.map_map]
  have e : es.map (ren ms ∘ ren ns) = es := by
    conv => rhs; rw [← List.map_id es]
    refine List.map_congr_left fun p hp => ?_
    have r := f.rng p hp
    show ren ms (ren ns p) = p
    unfold ren
    have := ren_ord ms (nam ns p.1) (nam ns p.2)
    unfold ren at this
    rw [this, back _ r.1 (by omega), back _ (by omega) r.2.2, ordP_eq (by omega)]
  rw [e]
  exact srtP_of_asc f.asc
/-! ### side by side -/
def shf (m : Nat) (p : Int × Int) : Int × Int := (p.1 + m, p.2 + m)
theorem rng_add (m n : Nat) : rng (m + n) = rng m ++ (rng n).map (· + (m : Int)) := by
  unfold rng
  rw [List.range_add, List.map_append, List.map_map, List.map_map]
  congr 1
  refine List.map_congr_left fun i _ => ?_
  show Int.ofNat (m + i) = Int.ofNat i + (m : Int)
  simp only [Int.ofNat_eq_natCast]
  omega
theorem ordP_add (a b c : Int) : ordP (a + c) (b + c) = ((ordP a b).1 + c, (ordP a b).2 + c) := by
  unfold ordP
  by_cases h : a ≤ b
  · rw [if_pos h, if_pos (by omega)]
  · rw [if_neg h, if_neg (by omega)]
theorem IsFor.beside {m n : Nat} {es fs : List (Int × Int)} (f : IsFor m es) (g : IsFor n fs) : IsFor (m + n) (es ++ fs.map (shf m)) := by
  obtain ⟨nm, ks, G, p⟩ := f.grow
  obtain ⟨nn, js, G2, p2⟩ := g.grow
  have l1 := G.len
  have l2 := G2.len
  have left : ∀ i, i < m → (nm ++ nn.map (· + (m : Int))).getD i 0 = nm.getD i 0 := fun i hi => by
    rw [List.getD_eq_getElem?_getD, List.getElem?_append_left (by omega), List.getD_eq_getElem?_getD]
  have right : ∀ i, i < n → (nm ++ nn.map (· + (m : Int))).getD (i + m) 0 = nn.getD i 0 + m := fun i hi => by
    rw [List.getD_eq_getElem?_getD, List.getElem?_append_right (by omega), l1, Nat.add_sub_cancel, List.getElem?_map, List.getD_eq_getElem?_getD, List.getElem?_eq_getElem (by omega)]
    rfl
  refine ⟨?_, fun q hq => ?_, nm ++ nn.map (· + (m : Int)), ks ++ js.map (fun q => (q.1 + m, q.2 + m)), ⟨?_, ?_, fun q hq => ?_⟩, ?_⟩
  · refine List.pairwise_append.mpr ⟨f.asc, ?_, fun a ha b hb => ?_⟩
    · refine List.pairwise_map.mpr ?_
      refine g.asc.imp fun {a b} h => ?_
      unfold shf LtP
      simp only
      rcases h with h | h
      · left; omega
      · right; omega
    · obtain ⟨c, hc, rfl⟩ := List.mem_map.mp hb
      have := f.rng a ha
      have := g.rng c hc
      left
      unfold shf
      simp only
      omega
  · rcases List.mem_append.mp hq with hq | hq
    · have := f.rng q hq
      omega
    · obtain ⟨c, hc, rfl⟩ := List.mem_map.mp hq
      have := g.rng c hc
      unfold shf
      simp only
      omega
  · rw [rng_add]
    exact G.names.append (G2.names.map _)
  · refine List.pairwise_append.mpr ⟨G.up, ?_, fun a ha b hb => ?_⟩
    · rw [List.pairwise_map]
      exact G2.up.imp fun {a b} h => by simp only; omega
    · obtain ⟨c, hc, rfl⟩ := List.mem_map.mp hb
      have := G.down a ha
      simp only
      omega
  · rcases List.mem_append.mp hq with hq | hq
    · have := G.down q hq
      omega
    · obtain ⟨c, hc, rfl⟩ := List.mem_map.mp hq
      have := G2.down c hc
      simp only
      omega
  · rw [List.map_append]
    refine List.Perm.append (p.trans (List.Perm.of_eq (List.map_congr_left fun q hq => ?_))) ((p2.map (shf m)).trans (List.Perm.of_eq ?_))
    · have := G.down q hq
      unfold edgeOf
      rw [left _ (by omega), left _ (by omega)]
    · rw [List.map_map, List.map_map]
      refine List.map_congr_left fun q hq => ?_
      have := G2.down q hq
      show shf m (edgeOf nn q) = ordP ((nm ++ nn.map (· + (m : Int))).getD (q.1 + m) 0) ((nm ++ nn.map (· + (m : Int))).getD (q.2 + m) 0)
      rw [right _ (by omega), right _ (by omega), ordP_add]
      rfl
/-! ### one vertex more -/
theorem Grow.more {m : Nat} {nm : List Int} {ks : List (Nat × Nat)} (g : Grow m nm ks) : Grow (m + 1) (nm ++ [(m : Int)]) ks where
  names := by
    have e : rng (m + 1) = rng m ++ [(m : Int)] := by
      rw [rng_add]
      congr 1
      show [Int.ofNat 0 + (m : Int)] = _
      simp
    rw [e]
    exact g.names.append (List.Perm.refl _)
  up := g.up
  down := fun q hq => by have := g.down q hq; omega
theorem more_get {m : Nat} {nm : List Int} {i : Nat} (l : nm.length = m) (hi : i < m) : (nm ++ [(m : Int)]).getD i 0 = nm.getD i 0 := by
  rw [List.getD_eq_getElem?_getD, List.getElem?_append_left (by omega), List.getD_eq_getElem?_getD]
theorem more_edges {m : Nat} {nm : List Int} {ks : List (Nat × Nat)} (g : Grow m nm ks) : ks.map (edgeOf (nm ++ [(m : Int)])) = ks.map (edgeOf nm) :=
  List.map_congr_left fun q hq => by
    have := g.down q hq
    unfold edgeOf
    rw [more_get g.len (by omega), more_get g.len (by omega)]
theorem IsFor.more {m : Nat} {es : List (Int × Int)} (f : IsFor m es) : IsFor (m + 1) es := by
  obtain ⟨nm, ks, g, p⟩ := f.grow
  refine ⟨f.asc, fun q hq => by have := f.rng q hq; omega, nm ++ [(m : Int)], ks, g.more, ?_⟩
  rw [more_edges g]
  exact p
theorem IsFor.attach {m : Nat} {es : List (Int × Int)} {v : Int} (f : IsFor m es) (hv : 0 ≤ v ∧ v < m) : IsFor (m + 1) (srtP (es ++ [(v, (m : Int))])) := by
  obtain ⟨nm, ks, g, p⟩ := f.grow
  have l := g.len
  obtain ⟨i, hi, ei⟩ := List.mem_iff_getElem.mp (g.names.mem_iff.mpr (mem_rng.mpr hv))
  have gi : nm.getD i 0 = v := by rw [List.getD_eq_getElem?_getD, List.getElem?_eq_getElem hi]; exact ei
  have gm : (nm ++ [(m : Int)]).getD m 0 = (m : Int) := by
    rw [List.getD_eq_getElem?_getD, List.getElem?_append_right (by omega), l, Nat.sub_self]
    rfl
  have g' : Grow (m + 1) (nm ++ [(m : Int)]) (ks ++ [(m, i)]) := ⟨g.more.names, List.pairwise_append.mpr ⟨g.up, List.pairwise_singleton _ _, fun a ha b hb => by
    rw [List.mem_singleton.mp hb]
    exact (g.down a ha).2⟩, fun q hq => by
    rcases List.mem_append.mp hq with hq | hq
    · have := g.down q hq
      omega
    · rw [List.mem_singleton.mp hq]
      simp only
      omega⟩
  refine g'.sorted ?_
  rw [List.map_append, more_edges g]
  refine List.Perm.append p (List.Perm.of_eq ?_)
  rw [List.map_singleton]
  unfold edgeOf
  simp only
  rw [gm, more_get l (by omega), gi, ordP_comm, ordP_eq (by omega)]
theorem IsFor.empty : IsFor 0 [] := ⟨.nil, (fun _ h => nomatch h), [], [], ⟨.nil, .nil, (fun _ h => nomatch h)⟩, .nil⟩
end TL
namespace TL
open PySem PySem.Spec PyProof.Rows L2
section
variable {X : Cx} {pos : Pos}
theorem pgLK (K : PySem.W.Frag) {es : List Expr} {k : Nat} {t : TGs} {n : Nat} (h : PGs X es t) (hc : X.calm = true := by rfl) (hK : X.K = K := by rfl)
    (hn : (assignEach es X.env).length = n := by rfl) (hst : (assignEach es X.env).findIdx? (·.1) = none := by rfl) :
    PG X (.Tuple es k pos) (gLst K n t) := hK ▸ pg_lst hc h hn hst
theorem leTK (K : PySem.W.Frag) (hu : X.A.units + 64 < cLine) (h : X.K = K := by rfl) : OpR X (compareOp .LtE) (rLeT K) := h ▸ op_leT (by omega)
end
section
variable {X : Cx}
/-- t.index(n), t a tuple of ints that holds n -/
def rTix (K : PySem.W.Frag) : V → List V → Hp → VK → Prop := fun x xs H Q => ∃ (p : Addr) (ns : List Int) (k : Int), x = .ref p ∧ xs = [.int k] ∧ SqT K H p (ns.map V.int) ∧ k ∈ ns ∧ Q (.int (ns.idxOf k : Nat)) H
theorem mt_tix : MtR X "tuple.index" (rTix X.K) := by
  intro pins s σ H x xs v us Q I rx rs h
  obtain ⟨p, ns, k, rfl, rfl, hq, hk, q⟩ := h
  cases rx
  obtain ⟨u, rfl, t, rfl⟩ := vals1 rs
  obtain ⟨its, r, ⟨o0, ho0, hc0, n0, hd0⟩, hz⟩ := I.tuple hq
  have i1 : IntsAre its ns := Vals.ints r
  refine SeqAt.call_tuple_index (ks := ns) (k := k) ⟨o0, ho0, hc0, n0, hd0⟩ ⟨i1.length, fun j h1 h2 => ?_⟩ hk ⟨.int _, H, I.tok _, ⟨_, rfl⟩, q⟩
  obtain ⟨t', et⟩ := PyProof.Rows.IntsAre.int_at i1 j its[j] (List.getElem?_eq_getElem h1)
  rw [et]
  have e : ns.getD j 0 = ns[j] := by rw [List.getD_eq_getElem?_getD, List.getElem?_eq_getElem h2]; rfl
  rw [e]
  have z : (ns[j] == k) = decide (ns[j] = k) := by
    by_cases q : ns[j] = k
    · rw [decide_eq_true q]; exact beq_iff_eq.mpr q
    · rw [decide_eq_false q]; exact beq_eq_false_iff_ne.mpr q
  rw [← z]
  exact SeqAt.EqAt.int_int _ _ _ _
theorem tixK (K : PySem.W.Frag) (h : X.K = K := by rfl) : MtR X "tuple.index" (rTix K) := h ▸ mt_tix
end
theorem filt_true {α : Type} (l : List α) : l.filter (fun _ => true) = l := List.filter_eq_self.mpr fun _ _ => rfl
/-- a loop by a measure that is carried along -/
theorem while_ms {c : TT} {tb : TS} {D : Ends} {σ : L2.St} {H : Hp} (W : Nat → L2.St → Hp → Prop) (n : Nat) (h0 : W n σ H)
    (hs : ∀ n σ H, W n σ H → c σ H fun b H1 => if b = true then tb { D with nx := fun σ' H' => ∃ n', n' < n ∧ W n' σ' H', ct := fun σ' H' => ∃ n', n' < n ∧ W n' σ' H', bk := D.nx } σ H1 else D.nx σ H1)
    (mono : ∀ σ H Q Q', (∀ b H1, Q b H1 → Q' b H1) → c σ H Q → c σ H Q') : tWhile c tb D σ H := by
  refine ⟨W, ⟨n, h0⟩, fun m σ H p => mono σ H _ _ (fun b H1 q => ?_) (hs m σ H p)⟩
  cases b with
  | true => exact ⟨_, fun σ' H' h => h, q⟩
  | false => exact q
/-! ### the state of the draws: cells, a count, what is left of great cells -/
structure Dw (H : Hp) (d r c : Addr) (n : Nat) : Prop where
  ex : ∃ (k : Nat) (cs rs : List Int), k ≤ n ∧ H d = some (.lst [.ref c, .int (k : Int), .ref r]) ∧ H c = some (.lst (cs.map V.int)) ∧ H r = some (.lst (rs.map V.int)) ∧
    c ≠ r ∧ 0 < cs.length ∧ rs.length = cs.length ∧ cs.length ≤ 63 ∧ (∀ z ∈ cs, 0 ≤ z) ∧ (∀ z ∈ rs, 0 ≤ z)
theorem ne_ints {H : Hp} {d c x : Addr} {vs : List V} {ns : List Int} (h1 : H d = some (.lst (.ref x :: vs))) (h2 : H c = some (.lst (ns.map V.int))) : d ≠ c := by
  intro e
  rw [e, h2] at h1
  cases ns with
  | nil => cases h1
  | cons z r => cases h1
theorem Dw.same {H H' : Hp} {d r c : Addr} {n : Nat} (h : Dw H d r c n) (e : Same H H') : Dw H' d r c n := by
  obtain ⟨k, cs, rs, hk, h1, h2, h3, h4⟩ := h.ex
  exact ⟨k, cs, rs, hk, e _ _ h1, e _ _ h2, e _ _ h3, h4⟩
theorem Dw.le {H : Hp} {d r c : Addr} {n m : Nat} (h : Dw H d r c n) (e : n ≤ m) : Dw H d r c m := by
  obtain ⟨k, cs, rs, hk, h4⟩ := h.ex
  exact ⟨k, cs, rs, Nat.le_trans hk e, h4⟩
theorem Dw.off {H : Hp} {d r c a : Addr} {n : Nat} (h : Dw H d r c n) (ha : H a = none) : a ≠ d ∧ a ≠ r ∧ a ≠ c := by
  obtain ⟨k, cs, rs, hk, h1, h2, h3, h4⟩ := h.ex
  exact ⟨fun z => (by rw [z, h1] at ha; cases ha), fun z => (by rw [z, h3] at ha; cases ha), fun z => (by rw [z, h2] at ha; cases ha)⟩
theorem Dw.put {H : Hp} {d r c a : Addr} {n : Nat} {o : HO} (h : Dw H d r c n) (e : a ≠ d ∧ a ≠ r ∧ a ≠ c) : Dw (upd H a o) d r c n := by
  obtain ⟨k, cs, rs, hk, h1, h2, h3, h4⟩ := h.ex
  exact ⟨k, cs, rs, hk, by rw [upd_ne e.1.symm]; exact h1, by rw [upd_ne e.2.2.symm]; exact h2, by rw [upd_ne e.2.1.symm]; exact h3, h4⟩
theorem Fm.ktw {K : PySem.W.Frag} {H H' : Hp} {d r c : Addr} {n : Nat} (e : Fm d r H H') (h : Dw H d r c n) : KT K H H' := by
  obtain ⟨k, cs, rs, hk, h1, h2, h3, h4⟩ := h.ex
  intro a xs q
  rcases q with (q | ⟨o, q⟩) | q
  · refine .inl (.inl (e _ _ (fun z => ?_) (fun z => ?_) q))
    · rw [z, h1] at q; cases q
    · rw [z, h3] at q; cases q
  · refine .inl (.inr ⟨o, e _ _ (fun z => ?_) (fun z => ?_) q⟩)
    · rw [z, h1] at q; cases q
    · rw [z, h3] at q; cases q
  · exact .inr q
theorem Fm.put1 {d l a : Addr} {H H' : Hp} {o : HO} (h : Fm d l H H') (ha : H a = none) : Fm d l H (upd H' a o) := fun b u n1 n2 e => by
  rw [upd_ne (ne_of_none e ha)]
  exact h b u n1 n2 e
theorem erase_prm {rs : List Int} {k : Nat} (h : k < rs.length) : (rs[k] :: rs.eraseIdx k).Perm rs := by
  induction rs generalizing k with
  | nil => exact absurd h (Nat.not_lt_zero _)
  | cons a r ih =>
    cases k with
    | zero => exact List.Perm.refl _
    | succ k =>
      have h' : k < r.length := by rw [List.length_cons] at h; omega
      exact (List.Perm.swap _ _ _).trans (List.Perm.cons a (ih h'))
theorem erase_mp : ∀ (rs : List Int) (k : Nat), (rs.map V.int).eraseIdx k = (rs.eraseIdx k).map V.int
  | [], _ => rfl
  | a :: r, 0 => rfl
  | a :: r, k + 1 => congrArg (V.int a :: ·) (erase_mp r k)
theorem modIn {x m : Int} (h : 0 < m) : 0 ≤ x % m ∧ x % m < m := ⟨Int.emod_nonneg x (by omega), Int.emod_lt_of_pos x h⟩
theorem rgVrng (m : Nat) : rgV 0 (m : Int) = (rng m).map V.int := by
  unfold rgV rng
  rw [List.map_map]
  have e : ((m : Int) - 0).toNat = m := by omega
  rw [e]
  refine List.map_congr_left fun i _ => ?_
  show V.int (0 + (i : Int)) = V.int (Int.ofNat i)
  rw [Int.zero_add]
  rfl
theorem decInt (a b : Int) : decide (V.int a = V.int b) = decide (a = b) := by
  by_cases h : a = b
  · subst h; simp
  · have : ¬ V.int a = V.int b := fun z => h (V.int.inj z)
    rw [decide_eq_false h, decide_eq_false this]
theorem cut63 {ns : List Int} (h : ns.length ≤ 63) : cutV (ns.map V.int) none (some 63) = ns.map V.int := by
  unfold cutV
  rw [HT.sIx_none, show HT.sIx (ns.map V.int).length (ns.map V.int).length (some 63) = min 63 (ns.map V.int).length from HT.sIx_nat _ _ 63]
  rw [List.drop_zero]
  exact List.take_of_length_le (by rw [List.length_map]; omega)
theorem shaped_forD (m : Nat) (es : List (Int × Int)) : SeqAt.shaped (forD m es) = true := by
  have h1 : ∀ l : List (Int × Int), PyData.depthAll (l.map prD) ≤ 1 := by
    intro l
    induction l with
    | nil => simp [PyData.depthAll]
    | cons p l ih =>
      simp only [List.map_cons, PyData.depthAll]
      exact Nat.max_le.mpr ⟨by simp [prD, PyData.depth, PyData.depthAll], ih⟩
  have h2 := h1 es
  have h : (forD m es).depth ≤ 64 := by
    simp only [forD, prsD, PyData.depth, PyData.depthAll]
    omega
  unfold SeqAt.shaped
  rw [decide_eq_true h, Bool.and_true]
  simp only [forD, prsD, PyData.canLay0, PyData.canLayAll0, lay_prs, Bool.and_self, Bool.and_true]
theorem idx_back {m : Nat} {ns : List Int} (h : ns.Perm (rng m)) {v : Int} (v0 : 0 ≤ v) (v1 : v < m) : nam ((rng m).map fun u => ((ns.idxOf u : Nat) : Int)) (nam ns v) = v := by
  have hn := nam_in h ⟨v0, v1⟩
  have nd : ns.Nodup := h.nodup_iff.mpr (rng_asc m).nodup
  have hl : v.toNat < ns.length := by rw [perm_len h]; omega
  have e1 : nam ns v = ns[v.toNat] := by
    unfold nam
    rw [List.getD_eq_getElem?_getD, List.getElem?_eq_getElem hl]
    rfl
  have e2 : (rng m)[(nam ns v).toNat]? = some (nam ns v) := by
    unfold rng
    rw [List.getElem?_map, List.getElem?_range (by omega)]
    show some (Int.ofNat (nam ns v).toNat) = _
    congr 1
    simp only [Int.ofNat_eq_natCast]
    omega
  have e3 : ns.idxOf (nam ns v) = v.toNat := by
    rw [e1]
    exact nd.idxOf_getElem _ hl
  show ((rng m).map fun u => ((ns.idxOf u : Nat) : Int)).getD (nam ns v).toNat 0 = v
  rw [List.getD_eq_getElem?_getD, List.getElem?_map, e2]
  show ((ns.idxOf (nam ns v) : Nat) : Int) = v
  rw [e3]
  omega
theorem nam_at {m : Nat} {ns : List Int} (h : ns.length = m) {v : Int} (v0 : 0 ≤ v) (v1 : v < m) : atI (ns.map V.int) v = some (.int (nam ns v)) := by
  have hl : v.toNat < ns.length := by omega
  refine at_of (j := v.toNat) (by omega) ?_
  unfold nam
  rw [List.getElem?_map, List.getD_eq_getElem?_getD, List.getElem?_eq_getElem hl]
  rfl
end TL
namespace TL
open PySem PySem.Spec PyProof.Rows L2
section
variable {X : Cx} {o e : Expr} {to te : TE}
theorem joinK (K : PySem.W.Frag) {apos pos : Pos} (ho : PE X o to) (he : PE X e te) (h : X.K = K := by rfl) (hs : starEach [e] X.env = [(false, eval e X.env)] := by rfl) (hbase : attributeBase o "join" X.env (eval o X.env) = eval o X.env := by rfl) (hline : (apos.endLine == pos.line) = true := by rfl) :
    PE X (.Call (.Attribute o "join" apos) [e] [] pos) (tM1 (fun x xs H Q => ∃ a p, ∃ ys : List Str, x = .str a ∧ xs = [.ref p] ∧ (SqL K H p (ys.map V.str) ∨ SqT K H p (ys.map V.str)) ∧
      (ys.map (·.length)).sum + ys.length * a.length ≤ 16777216 ∧ Q (.str (Txt.join a ys)) H) to te) := by
  subst h
  exact pe_join ho he hs hbase hline
end
def tJd (ts : List TE) : TE := fun σ H Q => tJs ts Str.empty σ H fun out H1 => Q (.str out) H1
theorem pe_jd {X : Cx} {v1 v2 : Expr} {rest : List Expr} {ts : List TE} {pos : Pos} (h : PJ X (v1 :: v2 :: rest) ts) : PE X (.JoinedStr (v1 :: v2 :: rest) pos) (tJd ts) := pe_joined h
/-! ### texts of pairs -/
abbrev dig (i : Int) : Str := (toString i : String)
def wrd (g : Str) (p : Int × Int) : Str := dig p.1 ++ g ++ dig p.2
def wds (g : Str) (ps : List (Int × Int)) : List Str := if ps = [] then [("none" : Str)] else ps.map (wrd g)
def txt (g : Str) (ps : List (Int × Int)) : Str := Txt.join " " (wds g ps)
def sm12 (p : Int × Int) : Prop := (0 ≤ p.1 ∧ p.1 ≤ 12) ∧ 0 ≤ p.2 ∧ p.2 ≤ 12
theorem dig_all : ∀ i : Fin 13, (∀ c ∈ tl (dig ((i : Nat) : Int)), 48 ≤ c ∧ c ≤ 57) ∧ (dig ((i : Nat) : Int)).length ≤ 2 ∧ ∀ j : Fin 13, tl (dig ((i : Nat) : Int)) = tl (dig ((j : Nat) : Int)) → i = j := by
  decide +kernel
theorem dig_ok {i : Int} (h : 0 ≤ i ∧ i ≤ 12) : (∀ c ∈ tl (dig i), 48 ≤ c ∧ c ≤ 57) ∧ (dig i).length ≤ 2 := by
  have e : i = (((⟨i.toNat, by omega⟩ : Fin 13) : Nat) : Int) := by show i = (i.toNat : Int); omega
  have := dig_all ⟨i.toNat, by omega⟩
  rw [e]
  exact ⟨this.1, this.2.1⟩
theorem dig_inj {i j : Int} (h : 0 ≤ i ∧ i ≤ 12) (g : 0 ≤ j ∧ j ≤ 12) (e : dig i = dig j) : i = j := by
  have ei : i = (((⟨i.toNat, by omega⟩ : Fin 13) : Nat) : Int) := by show i = (i.toNat : Int); omega
  have ej : j = (((⟨j.toNat, by omega⟩ : Fin 13) : Nat) : Int) := by show j = (j.toNat : Int); omega
  have := (dig_all ⟨i.toNat, by omega⟩).2.2 ⟨j.toNat, by omega⟩ (by rw [← ei, ← ej, e])
  have := congrArg (fun z : Fin 13 => z.val) this
  simp only at this
  omega
/-- a sign of its own between two numbers -/
structure Sg (g : Str) (s : Nat) : Prop where
  one : tl g = [s]
  low : g.cps.all (· < 256) = true
  is : s = 45 ∨ s = 62
theorem sg_edge : Sg "-" 45 := ⟨by decide +kernel, by decide +kernel, .inl rfl⟩
theorem sg_slide : Sg ">" 62 := ⟨by decide +kernel, by decide +kernel, .inr rfl⟩
section
variable {g : Str} {s : Nat}
theorem wrd_join (g : Str) (p : Int × Int) : wrd g p = Txt.join g [dig p.1, dig p.2] := by
  rw [join_eq]
  rfl
theorem wrd_split (G : Sg g s) {p : Int × Int} (h : sm12 p) : Txt.split (wrd g p) g = [dig p.1, dig p.2] := by
  rw [wrd_join]
  refine split_join (s := s) (S := []) G.one G.low (by simp) fun z hz => ?_
  have key : ∀ i : Int, 0 ≤ i ∧ i ≤ 12 → s ∉ tl (dig i) := fun i hi z => by
    have := (dig_ok hi).1 s z
    have := G.is
    omega
  rcases List.mem_cons.mp hz with rfl | hz
  · exact key _ h.1
  · rw [List.mem_singleton.mp hz]
    exact key _ h.2
theorem wrd_inj (G : Sg g s) {p q : Int × Int} (h : sm12 p) (k : sm12 q) (e : wrd g p = wrd g q) : p = q := by
  have h1 := wrd_split G h
  rw [e, wrd_split G k] at h1
  injection h1 with e1 e2
  injection e2 with e2 _
  exact Prod.ext (dig_inj h.1 k.1 e1.symm) (dig_inj h.2 k.2 e2.symm)
theorem wrd_mem (G : Sg g s) {p : Int × Int} (h : sm12 p) : s ∈ tl (wrd g p) ∧ (32 ∉ tl (wrd g p)) ∧ (wrd g p).length ≤ 5 := by
  unfold wrd
  rw [tl_append, tl_append, G.one]
  refine ⟨by simp, fun z => ?_, ?_⟩
  · rcases List.mem_append.mp z with z | z
    · rcases List.mem_append.mp z with z | z
      · have := (dig_ok h.1).1 _ z
        omega
      · have := List.mem_singleton.mp z
        have := G.is
        omega
    · have := (dig_ok h.2).1 _ z
      omega
  · rw [Str.length_append, Str.length_append]
    have h1 := (dig_ok h.1).2
    have h2 := (dig_ok h.2).2
    have h3 : g.length = 1 := by rw [len_tl, G.one]; rfl
    omega
theorem wds_ok (G : Sg g s) {ps : List (Int × Int)} (h : ∀ p ∈ ps, sm12 p) : wds g ps ≠ [] ∧ (∀ w ∈ wds g ps, 32 ∉ tl w ∧ w.length ≤ 5) ∧ (wds g ps).length ≤ ps.length + 1 := by
  unfold wds
  split
  · refine ⟨by simp, fun w hw => ?_, by simp⟩
    rw [List.mem_singleton.mp hw]
    exact ⟨by decide +kernel, by decide +kernel⟩
  · rename_i hn
    refine ⟨fun z => hn (List.map_eq_nil_iff.mp z), fun w hw => ?_, by rw [List.length_map]; omega⟩
    obtain ⟨p, hp, rfl⟩ := List.mem_map.mp hw
    exact ⟨(wrd_mem G (h p hp)).2.1, (wrd_mem G (h p hp)).2.2⟩
theorem txt_inj (G : Sg g s) {ps qs : List (Int × Int)} (h : ∀ p ∈ ps, sm12 p) (k : ∀ p ∈ qs, sm12 p) (e : txt g ps = txt g qs) : ps = qs := by
  have sp : ∀ {ps : List (Int × Int)}, (∀ p ∈ ps, sm12 p) → Txt.split (txt g ps) " " = wds g ps := fun {ps} h => by
    obtain ⟨h1, h2, _⟩ := wds_ok G h
    exact split_join (s := 32) (S := []) (by decide +kernel) (by decide +kernel) h1 fun w hw => (h2 w hw).1
  have e2 : wds g ps = wds g qs := by rw [← sp h, e, sp k]
  have no : ∀ {qs : List (Int × Int)}, (∀ p ∈ qs, sm12 p) → ("none" : Str) ∉ qs.map (wrd g) := fun {qs} k z => by
    obtain ⟨q, hq, eq⟩ := List.mem_map.mp z
    have := (wrd_mem G (k q hq)).1
    rw [eq] at this
    have n1 : tl ("none" : Str) = [110, 111, 110, 101] := by decide +kernel
    rw [n1] at this
    have := G.is
    simp at *
    omega
  unfold wds at e2
  split at e2
  · split at e2
    · rename_i h1 h2
      rw [h1, h2]
    · exact absurd (by rw [← e2]; exact List.mem_singleton.mpr rfl) (no k)
  · split at e2
    · exact absurd (by rw [e2]; exact List.mem_singleton.mpr rfl) (no h)
    · rename_i h1 h2
      clear h1 h2 e
      induction ps generalizing qs with
      | nil =>
        cases qs with
        | nil => rfl
        | cons _ _ => cases e2
      | cons p ps ih =>
        cases qs with
        | nil => cases e2
        | cons q qs =>
          rw [List.map_cons, List.map_cons] at e2
          injection e2 with e3 e4
          rw [wrd_inj G (h p List.mem_cons_self) (k q List.mem_cons_self) e3, ih (fun p hp => h p (List.mem_cons_of_mem _ hp)) (fun p hp => k p (List.mem_cons_of_mem _ hp)) e4]
theorem joinL_len (S : List Nat) : ∀ parts : List (List Nat), (joinL S parts).length ≤ (parts.map List.length).sum + parts.length * S.length
  | [] => Nat.zero_le _
  | [p] => by
    show p.length ≤ _
    rw [List.map_cons, List.sum_cons]
    omega
  | p :: q :: r => by
    have ih := joinL_len S (q :: r)
    show (p ++ (S ++ joinL S (q :: r))).length ≤ _
    rw [List.length_append, List.length_append, List.map_cons, List.sum_cons, List.length_cons (a := p), Nat.add_mul]
    omega
theorem sum_le {ws : List Str} {n : Nat} (h : ∀ w ∈ ws, w.length ≤ n) : (ws.map (·.length)).sum ≤ n * ws.length := by
  induction ws with
  | nil => exact Nat.zero_le _
  | cons w ws ih =>
    have h1 := h w List.mem_cons_self
    have h2 := ih fun w hw => h w (List.mem_cons_of_mem _ hw)
    rw [List.map_cons, List.sum_cons, List.length_cons, Nat.mul_add]
    omega
theorem txt_len (G : Sg g s) {ps : List (Int × Int)} (h : ∀ p ∈ ps, sm12 p) : (txt g ps).length ≤ 6 * (ps.length + 1) := by
  obtain ⟨h1, h2, h3⟩ := wds_ok G h
  unfold txt
  rw [len_tl, join_eq, tl_join]
  have e : (((wds g ps).map tl).map List.length).sum = ((wds g ps).map (·.length)).sum := by
    rw [List.map_map]
    congr 1
  have h4 := joinL_len (tl (" " : Str)) ((wds g ps).map tl)
  rw [e, List.length_map, show (tl (" " : Str)).length = 1 by decide +kernel] at h4
  have h5 := sum_le fun w hw => (h2 w hw).2
  omega
end
/-! ### texts of forests -/
def ftx (n : Int) (es : List (Int × Int)) : Str := dig n ++ ": " ++ txt "-" es
theorem ftx_inj {n k : Int} {es fs : List (Int × Int)} (hn : 0 ≤ n ∧ n ≤ 12) (hk : 0 ≤ k ∧ k ≤ 12) (h : ∀ p ∈ es, sm12 p) (g : ∀ p ∈ fs, sm12 p) (e : ftx n es = ftx k fs) : n = k ∧ es = fs := by
  have key : ∀ {n : Int} {es : List (Int × Int)}, (0 ≤ n ∧ n ≤ 12) → Txt.partition (ftx n es) (": " : Str) = (dig n, (": " : Str), txt "-" es) := fun {n es} hn =>
    partition_app (y := (": " : Str)) (s := 58) (S := [32]) (by decide +kernel) fun z => by
      have := (dig_ok hn).1 _ z
      omega
  have e1 := key (es := es) hn
  rw [e, key hk] at e1
  injection e1 with e2 e3
  injection e3 with _ e4
  exact ⟨dig_inj hn hk e2.symm, txt_inj sg_edge h g e4.symm⟩
end TL
namespace TL
open PySem PySem.Spec PyProof.Rows L2
/-! ### methods of a tuple: the tuple is laid with its very object, so that it is known to have no dict -/
def rTupF (K : PySem.W.Frag) : List V → Hp → VK → Prop := fun xs H Q => ∃ p ys, xs = [.ref p] ∧ SqL K H p ys ∧
  ∀ l ob, H l = none → ob.dict = none → Q (.ref l) (upd H l (.frz ob (.tup ys)))
/-- the value is a tuple laid so -/
def FrzT (x : V) (H : Hp) : Prop := ∃ p ob xs, x = .ref p ∧ H p = some (.frz ob (.tup xs)) ∧ ob.dict = none
def tBMF (r : V → List V → Hp → VK → Prop) (to : TE) (t : TA) : TE := fun σ H Q => to σ H fun x G => FrzT x G ∧ t σ G fun ys G2 => r x ys G2 Q
section
variable {X : Cx}
theorem call_tupF : CallR X (.type "tuple") (rTupF X.K) := by
  intro pins s σ H xs us Q I rr ⟨p, ys, ex, hq, q⟩
  subst ex
  obtain ⟨u, eu, rx⟩ := vals1 rr
  subst eu
  cases rx
  obtain ⟨its, rv, pl, hz⟩ := I.list hq
  have ln := rv.length
  refine call_tuple_list pl.isList (fun G kp => ?_) (by rw [List.size_toArray]; omega)
  have J : Inv X pins σ H { s with heap := G } := I.kept (t' := s.toks) kp
  let ob : Obj := { cls := .type "tuple", data := .seq its.toArray }
  have at0 : (G.push ob).get? G.objs.size = some ob := Heap.get?_push_size _ rfl
  have new : ObjOk X.prog X.w (upd H G.objs.size (.frz ob (.tup ys))) (G.push ob) G.objs.size (.frz ob (.tup ys)) := ⟨at0, hz, its, rv, ob, at0, rfl, _, rfl⟩
  have J2 := J.laid (t' := s.toks) (h' := G.push ob) (fun b o e => Heap.get?_push_of_some _ e) (Nat.le_refl _) new
  exact ⟨.ref G.objs.size, _, J2, rfl, q _ ob (J.hok.fresh (Nat.le_refl _)) rfl⟩
theorem frz_is {pins : List (Addr × Obj)} {σ : L2.St} {H : Hp} {s : Shared} {x : V} {v : Value} (I : Inv X pins σ H s) (rx : RelV x v) (f : FrzT x H) :
    s.TypeIs v "tuple" ∧ ∀ a, v = .ref a → ∃ o, s.heap.get? a = some o ∧ o.dict = none := by
  obtain ⟨p, ob, xs, ex, hp, nd⟩ := f
  subst ex
  cases rx
  obtain ⟨g, _, its, _, o, ho, hc, _⟩ := I.hok p _ hp
  exact ⟨⟨o, ho, hc⟩, fun a e => by cases e; exact ⟨ob, g, nd⟩⟩
theorem pe_bmF {o e : Expr} {es : List Expr} {to : TE} {t : TA} {name : Str} {apos cpos : Pos} {id : String} {r : V → List V → Hp → VK → Prop}
    (slot : Slot "tuple" name id) (hty : typeOf (.builtin id) = pure (.type "method_descriptor")) (hm : MtR X id r) (ho : PE X o to) (ha : PA X (e :: es) t)
    (hbase : attributeBase o name X.env (eval o X.env) = eval o X.env := by rfl)
    (few : ((backTo cpos (starEach (e :: es) X.env)).all (fun z => !z.1) && (backToKw cpos (keywordEach [] X.env)).all (fun z => z.1.isSome)
      && decide ((e :: es).length + ([] : List Keyword).length + (if ([] : List Keyword).isEmpty then 0 else 1) < 30)) = true := by rfl)
    (hline : (apos.endLine == cpos.line) = true := by rfl) (hst : starEach (e :: es) X.env = (false, eval e X.env) :: starEach es X.env := by rfl)
    (hpl : (backTo cpos (starEach es X.env)).any (·.1) = false := by rfl) :
    PE X (.Call (.Attribute o name apos) (e :: es) [] cpos) (tBMF r to t) := by
  constructor
  intro pins s σ H Q I h
  refine wpAny_Call_method_late hbase few hline rfl (thn (ho.run pins s σ H _ I h) fun v s1 got => ?_)
  obtain ⟨x, H1, J, rx, fz, rest⟩ := got
  have ty := frz_is J rx fz
  refine ⟨"tuple", id, PySem.F.plainAttrs_tuple, slot, hty, ty.1, ty.2, ?_⟩
  have args := ha.run cpos pins s1 σ H1 _ J rest
  rw [hst] at args ⊢
  have noStar : ((false, eval e X.env) :: backTo cpos (starEach es X.env)).any (·.1) = false := by
    rw [List.any_cons, hpl]
    rfl
  refine Calls.callWith_builtin (by exact noStar) (Calls.evalArgs_plain (thn args fun us s2 got2 => ?_))
  obtain ⟨vs, H2, J2, r2, q2⟩ := got2
  exact hm pins s2 σ H2 x vs v us Q J2 rx r2 q2
theorem tupFK (K : PySem.W.Frag) (h : X.K = K := by rfl) : CallR X (.type "tuple") (rTupF K) := h ▸ call_tupF
end
theorem lay_forD (m : Nat) (es : List (Int × Int)) : (forD m es).canLay0 = true := by
  simp only [forD, prsD, PyData.canLay0, PyData.canLayAll0, lay_prs, Bool.and_self, Bool.and_true]
theorem frz_T {K : PySem.W.Frag} {H : Hp} {p : Addr} {ob : Obj} {xs : List V} (h : H p = some (.frz ob (.tup xs))) : SqT K H p xs := .inl (.inr ⟨ob, h⟩)
end TL
namespace TL
/-! ### locks: no lamp of it has a neighbour without another one of it -/
def Cl (m : Nat) (es : List (Int × Int)) (T : List Int) : Prop := ∀ x ∈ T, ∀ v ∈ nearL m es x, oth m es T x v ≠ []
theorem Cl.other {m : Nat} {es : List (Int × Int)} {T : List Int} (h : Cl m es T) {x v : Int} (hx : x ∈ T) (hv : v ∈ nearL m es x) : ∃ y ∈ T, y ≠ x ∧ y ∈ nearL m es v := by
  obtain ⟨y, hy⟩ := List.exists_mem_of_ne_nil _ (h x hx v hv)
  obtain ⟨h1, h2, h3⟩ := mem_oth.mp hy
  exact ⟨y, h2, h3, h1⟩
theorem Cl.of {m : Nat} {es : List (Int × Int)} {T : List Int} (h : ∀ x ∈ T, ∀ v ∈ nearL m es x, ∃ y ∈ T, y ≠ x ∧ y ∈ nearL m es v) : Cl m es T := fun x hx v hv e => by
  obtain ⟨y, h1, h2, h3⟩ := h x hx v hv
  have : y ∈ oth m es T x v := mem_oth.mpr ⟨h3, h1, h2⟩
  rw [e] at this
  cases this
structure IsGr (m : Nat) (es : List (Int × Int)) (S G : List Int) : Prop where
  asc : Asc G
  sub : ∀ x ∈ G, x ∈ S
  cl : Cl m es G
  max : ∀ T : List Int, (∀ x ∈ T, x ∈ S) → Cl m es T → ∀ x ∈ T, x ∈ G
theorem IsGr.mono {m : Nat} {es : List (Int × Int)} {S S' G G' : List Int} (h : IsGr m es S G) (h' : IsGr m es S' G') (s : ∀ x ∈ S, x ∈ S') : ∀ x ∈ G, x ∈ G' :=
  h'.max G (fun x hx => s x (h.sub x hx)) h.cl
theorem IsGr.uniq {m : Nat} {es : List (Int × Int)} {S G G' : List Int} (h : IsGr m es S G) (h' : IsGr m es S G') : G = G' :=
  asc_ext h.asc h'.asc fun x => ⟨h.mono h' (fun _ z => z) x, h'.mono h (fun _ z => z) x⟩
theorem IsGr.set {m : Nat} {es : List (Int × Int)} {S G : List Int} (h : IsGr m es S G) (iss : IsSet m es S) : IsSet m es G :=
  ⟨h.asc, fun v hv => iss.rng v (h.sub v hv), fun u hu v hv => iss.free u (h.sub u hu) v (h.sub v hv)⟩
theorem IsGr.self {m : Nat} {es : List (Int × Int)} {S G G' : List Int} (h : IsGr m es S G) (h' : IsGr m es G G') : G' = G :=
  asc_ext h'.asc h.asc fun x => ⟨h'.sub x, h'.max G (fun _ z => z) h.cl x⟩
/-! ### slides and locks -/
theorem IsGr.fixed {m : Nat} {es : List (Int × Int)} {S G : List Int} (h : IsGr m es S G) {u v : Int} (p : (u, v) ∈ slidesP m es S) : u ∉ G ∧ ∀ o ∈ nearL m es v, o ∉ G := by
  obtain ⟨hu, hv, ho⟩ := mem_slidesP.mp p
  have nu : u ∉ G := fun z => by
    obtain ⟨y, y1, y2, y3⟩ := h.cl.other z hv
    have : y ∈ oth m es S u v := mem_oth.mpr ⟨y3, h.sub y y1, y2⟩
    rw [ho] at this
    cases this
  refine ⟨nu, fun o h1 z => ?_⟩
  by_cases e : o = u
  · subst e
    exact nu z
  · have : o ∈ oth m es S u v := mem_oth.mpr ⟨h1, h.sub o z, e⟩
    rw [ho] at this
    cases this
theorem IsGr.none {m : Nat} {es : List (Int × Int)} {S G : List Int} (h : IsGr m es S G) (asc : Asc S) : slidesP m es S = [] ↔ G = S := by
  constructor
  · intro e
    refine asc_ext h.asc asc fun x => ⟨h.sub x, h.max S (fun _ z => z) (fun x hx v hv eo => ?_) x⟩
    have : (x, v) ∈ slidesP m es S := mem_slidesP.mpr ⟨hx, hv, eo⟩
    rw [e] at this
    cases this
  · rintro rfl
    refine List.eq_nil_iff_forall_not_mem.mpr fun p hp => ?_
    obtain ⟨u, v⟩ := p
    exact (h.fixed hp).1 (mem_slidesP.mp hp).1
theorem IsGr.len {m : Nat} {es : List (Int × Int)} {S G : List Int} (h : IsGr m es S G) (asc : Asc S) : G.length ≤ S.length ∧ (G.length < S.length ↔ G ≠ S) := by
  have le : G.length ≤ S.length := h.asc.nodup.length_le_of_subset h.sub
  refine ⟨le, fun z e => ?_, fun ne => ?_⟩
  · rw [e] at z
    exact Nat.lt_irrefl _ z
  · refine Nat.lt_of_le_of_ne le fun e => ne ?_
    refine asc_ext h.asc asc fun x => ⟨h.sub x, fun hx => ?_⟩
    by_cases hg : x ∈ G
    · exact hg
    · exfalso
      have nd : (x :: G).Nodup := List.nodup_cons.mpr ⟨hg, h.asc.nodup⟩
      have := nd.length_le_of_subset (l₂ := S) fun y hy => by
        rcases List.mem_cons.mp hy with rfl | hy
        · exact hx
        · exact h.sub y hy
      rw [List.length_cons] at this
      omega
theorem IsGr.slid {m : Nat} {es : List (Int × Int)} {S G G' : List Int} (f : IsFor m es) (iss : IsSet m es S) (h : IsGr m es S G) {u v : Int} (p : (u, v) ∈ slidesP m es S) (h' : IsGr m es (after S u v) G') : G' = G := by
  have q := slide_back f iss p
  have bk := after_back f iss p
  refine asc_ext h'.asc h.asc fun x => ⟨fun hx => ?_, fun hx => ?_⟩
  · refine h.max G' (fun y hy => ?_) h'.cl x hx
    rcases mem_after.mp (h'.sub y hy) with ⟨h1, _⟩ | h1
    · exact h1
    · exact absurd (h1 ▸ hy) (h'.fixed q).1
  · refine h'.max G (fun y hy => ?_) h.cl x hx
    exact mem_after.mpr (.inl ⟨h.sub y hy, fun e => (h.fixed p).1 (e ▸ hy)⟩)
end TL
namespace TL
/-! ### the lamps that are lit in every setting that can be reached are the greatest lock -/
inductive Rch (m : Nat) (es : List (Int × Int)) (S : List Int) : List Int → Prop
  | refl : Rch m es S S
  | step {T : List Int} {u v : Int} : Rch m es S T → (u, v) ∈ slidesP m es T → Rch m es S (after T u v)
theorem Rch.trans {m : Nat} {es : List (Int × Int)} {S T W : List Int} (h : Rch m es S T) (k : Rch m es T W) : Rch m es S W := by
  induction k with
  | refl => exact h
  | step _ p ih => exact .step ih p
theorem Rch.both {m : Nat} {es : List (Int × Int)} {S T : List Int} (f : IsFor m es) (iss : IsSet m es S) (h : Rch m es S T) : IsSet m es T ∧ Rch m es T S := by
  induction h with
  | refl => exact ⟨iss, .refl⟩
  | @step T u v _ p ih =>
    obtain ⟨isT, back⟩ := ih
    obtain ⟨p1, p2, p3⟩ := mem_slidesP.mp p
    refine ⟨IsSet.after f isT p1 p2 p3, ?_⟩
    have q := Rch.step (.refl) (slide_back f isT p)
    rw [after_back f isT p] at q
    exact q.trans back
theorem near_adj {m : Nat} {es : List (Int × Int)} {a b : Int} (h : a ∈ nearL m es b) : Adj es a b := by
  have := (mem_nearL.mp h).2
  unfold ordP at this
  split at this
  · exact .inl this
  · exact .inr this
/-- the edges without those of a vertex -/
def cutE (es : List (Int × Int)) (v : Int) : List (Int × Int) := es.filter fun p => !decide (p.1 = v) && !decide (p.2 = v)
theorem adj_cut {es : List (Int × Int)} {v a b : Int} : Adj (cutE es v) a b ↔ Adj es a b ∧ a ≠ v ∧ b ≠ v := by
  unfold Adj cutE
  simp only [List.mem_filter, Bool.and_eq_true, Bool.not_eq_true', decide_eq_false_iff_not]
  constructor
  · rintro (⟨h1, h2, h3⟩ | ⟨h1, h2, h3⟩)
    · exact ⟨.inl h1, h2, h3⟩
    · exact ⟨.inr h1, h3, h2⟩
  · rintro ⟨h1 | h1, h2, h3⟩
    · exact .inl ⟨h1, h2, h3⟩
    · exact .inr ⟨h1, h3, h2⟩
theorem Pth.avoid {es : List (Int × Int)} {v a b : Int} {p : List Int} (h : Pth (cutE es v) a b p) : a ≠ v → v ∉ p := by
  induction h with
  | one a => exact fun n z => n (List.mem_singleton.mp z).symm
  | cons ad _ _ ih =>
    intro n z
    rcases List.mem_cons.mp z with z | z
    · exact n z.symm
    · exact ih (adj_cut.mp ad).2.2 z
theorem branch_apart {m : Nat} {es : List (Int × Int)} (f : IsFor m es) {v y z : Int} (hy : y ∈ nearL m es v) (hz : z ∈ nearL m es v) (ny : y ≠ v) (nz : z ≠ v) (c : Conn (cutE es v) y z) : y = z := by
  obtain ⟨p, hp⟩ := c.pth
  have nv := hp.avoid ny
  have hp' : Pth es y z p := hp.mono fun q hq => (List.mem_filter.mp hq).1
  have h1 : Pth es v z (v :: p) := .cons (near_adj hy).symm hp' nv
  have h2 : Pth es v z [v, z] := .cons (near_adj hz).symm (.one z) fun h => nz (List.mem_singleton.mp h).symm
  have e := f.uniq _ _ _ _ h1 h2
  have e2 : p = [z] := (List.cons.inj e).2
  have := hp.first
  rw [e2] at this
  exact List.mem_singleton.mp this
/-- slides inside of a branch at a dark vertex can be done by themselves -/
theorem Rch.inside {m : Nat} {es : List (Int × Int)} (f : IsFor m es) {v : Int} {B : Int → Prop} (hB : ∀ p q, B p → q ∈ nearL m es p → q ≠ v → B q) {T W : List Int} (dark : ∀ W, Rch m es T W → v ∉ W) (h : Rch m es T W) :
    ∃ W', Rch m es T W' ∧ (∀ z, B z → (z ∈ W' ↔ z ∈ W)) ∧ ∀ z, ¬ B z → (z ∈ W' ↔ z ∈ T) := by
  induction h with
  | refl => exact ⟨T, .refl, (fun _ _ => Iff.rfl), fun _ _ => Iff.rfl⟩
  | @step W a b hW p ih =>
    obtain ⟨W', r, h1, h2⟩ := ih
    obtain ⟨ha, hb, ho⟩ := mem_slidesP.mp p
    have na : a ≠ v := fun z => dark _ hW (z ▸ ha)
    have nb : b ≠ v := fun z => dark _ (.step hW p) (mem_after.mpr (.inr z.symm))
    by_cases Ba : B a
    · have Bb := hB a b Ba hb nb
      have q : (a, b) ∈ slidesP m es W' := mem_slidesP.mpr ⟨(h1 a Ba).mpr ha, hb, List.eq_nil_iff_forall_not_mem.mpr fun o z => by
        obtain ⟨o1, o2, o3⟩ := mem_oth.mp z
        have no : o ≠ v := fun z => dark _ r (z ▸ o2)
        have : o ∈ oth m es W a b := mem_oth.mpr ⟨o1, (h1 o (hB b o Bb o1 no)).mp o2, o3⟩
        rw [ho] at this
        cases this⟩
      refine ⟨_, .step r q, fun z Bz => ?_, fun z nz => ?_⟩
      · rw [mem_after, mem_after, h1 z Bz]
      · have za : z ≠ a := fun e => nz (e ▸ Ba)
        have zb : z ≠ b := fun e => nz (e ▸ Bb)
        rw [mem_after, h2 z nz]
        exact ⟨fun h => h.elim (·.1) (fun e => absurd e zb), fun h => .inl ⟨h, za⟩⟩
    · have Bb : ¬ B b := fun h => Ba (hB b a h ((mem_nearL_comm f).mp hb) na)
      refine ⟨W', r, fun z Bz => ?_, h2⟩
      have za : z ≠ a := fun e => Ba (e ▸ Bz)
      have zb : z ≠ b := fun e => Bb (e ▸ Bz)
      rw [mem_after, h1 z Bz]
      exact ⟨fun h => .inl ⟨h, za⟩, fun h => h.elim (·.1) (fun e => absurd e zb)⟩
theorem IsGr.lit {m : Nat} {es : List (Int × Int)} {S G : List Int} (f : IsFor m es) (iss : IsSet m es S) (h : IsGr m es S G) {x : Int} : x ∈ G ↔ ∀ W, Rch m es S W → x ∈ W := by
  constructor
  · intro hx W r
    have sub : ∀ y ∈ G, y ∈ W := by
      induction r with
      | refl => exact h.sub
      | @step T u v _ p ih =>
        intro y hy
        refine mem_after.mpr (.inl ⟨ih y hy, fun e => ?_⟩)
        subst e
        obtain ⟨_, hv, ho⟩ := mem_slidesP.mp p
        obtain ⟨z, z1, z2, z3⟩ := h.cl.other hy hv
        have : z ∈ oth m es T y v := mem_oth.mpr ⟨z3, ih z z1, z2⟩
        rw [ho] at this
        cases this
    exact sub x hx
  · intro hx
    have key : ∀ z, z ∈ S.filter (fun x => @decide (∀ W, Rch m es S W → x ∈ W) (Classical.propDecidable _)) ↔ ∀ W, Rch m es S W → z ∈ W := fun z => by
      rw [List.mem_filter]
      constructor
      · exact fun h => @of_decide_eq_true _ (Classical.propDecidable _) h.2
      · exact fun h => ⟨h S .refl, @decide_eq_true _ (Classical.propDecidable _) h⟩
    refine h.max _ (fun z hz => (List.mem_filter.mp hz).1) (Cl.of fun x hx v hv => ?_) x ((key x).mpr hx)
    have litx := (key x).mp hx
    refine Classical.byContradiction fun no => ?_
    have hxv : x ∈ nearL m es v := (mem_nearL_comm f).mp hv
    have nxv : x ≠ v := fun e => by
      have := (mem_nearL.mp hv).2
      rw [e] at this
      exact f.loop v this
    have step : ∀ N : List Int, (∀ y ∈ N, y ∈ nearL m es v) → ∃ T, Rch m es S T ∧ ∀ y ∈ N, y ≠ x → y ∉ T := by
      intro N
      induction N with
      | nil => exact fun _ => ⟨S, .refl, fun _ h => nomatch h⟩
      | cons y N ih =>
        intro hN
        obtain ⟨T, rT, dk⟩ := ih fun z hz => hN z (List.mem_cons_of_mem _ hz)
        by_cases hy : y ≠ x ∧ y ∈ T
        · have yv := hN y List.mem_cons_self
          have nyv : y ≠ v := fun e => by
            have := (mem_nearL.mp yv).2
            rw [e] at this
            exact f.loop v this
          have : ∃ W, Rch m es S W ∧ y ∉ W := Classical.byContradiction fun n2 => no ⟨y, (key y).mpr fun W r => Classical.byContradiction fun n3 => n2 ⟨W, r, n3⟩, hy.1, yv⟩
          obtain ⟨W, rW, nyW⟩ := this
          have isT := rT.both f iss
          have rTW : Rch m es T W := isT.2.trans rW
          have dark : ∀ W, Rch m es T W → v ∉ W := fun W r hvW => by
            have rS := rT.trans r
            have isW := (rS.both f iss).1
            exact isW.free x (litx W rS) v hvW (mem_nearL.mp hxv).2
          obtain ⟨W', r', i1, i2⟩ := Rch.inside f (B := fun z => Conn (cutE es v) y z) (v := v) (fun p q Bp hq nq => by
            by_cases np : p = v
            · exfalso
              obtain ⟨pp, hp⟩ := Bp.pth
              exact hp.avoid nyv (np ▸ hp.last)
            · exact .step Bp (adj_cut.mpr ⟨(near_adj hq).symm, np, nq⟩)) dark rTW
          refine ⟨W', rT.trans r', fun z hz nz => ?_⟩
          rcases List.mem_cons.mp hz with rfl | hz
          · exact fun h => nyW ((i1 z (.refl _)).mp h)
          · have zv := hN z (List.mem_cons_of_mem _ hz)
            have nzv : z ≠ v := fun e => by
              have := (mem_nearL.mp zv).2
              rw [e] at this
              exact f.loop v this
            by_cases Bz : Conn (cutE es v) y z
            · have := branch_apart f yv zv nyv nzv Bz
              subst this
              exact fun h => nyW ((i1 y (.refl _)).mp h)
            · exact fun h => dk z hz nz ((i2 z Bz).mp h)
        · refine ⟨T, rT, fun z hz nz hT => ?_⟩
          rcases List.mem_cons.mp hz with rfl | hz
          · exact hy ⟨nz, hT⟩
          · exact dk z hz nz hT
    obtain ⟨T, rT, dk⟩ := step (nearL m es v) fun _ h => h
    have p : (x, v) ∈ slidesP m es T := mem_slidesP.mpr ⟨litx T rT, hv, List.eq_nil_iff_forall_not_mem.mpr fun o z => by
      obtain ⟨o1, o2, o3⟩ := mem_oth.mp z
      exact dk o o1 o3 o2⟩
    rcases mem_after.mp (litx _ (.step rT p)) with h | h
    · exact h.2 rfl
    · exact nxv h
end TL
namespace TL
/-! ### a list of different ascending lists of vertices has at most 2 ^ m items -/
def subs : List Int → List (List Int)
  | [] => [[]]
  | a :: l => subs l ++ (subs l).map (a :: ·)
theorem subs_length : ∀ l : List Int, (subs l).length = 2 ^ l.length
  | [] => rfl
  | a :: l => by
    show (subs l ++ (subs l).map (a :: ·)).length = 2 ^ (l.length + 1)
    rw [List.length_append, List.length_map, subs_length l, Nat.pow_succ]
    omega
theorem mem_subs {r l : List Int} (h : r.Sublist l) : r ∈ subs l := by
  induction h with
  | slnil => exact List.mem_singleton.mpr rfl
  | cons a _ ih => exact List.mem_append_left _ ih
  | cons_cons a _ ih => exact List.mem_append_right _ (List.mem_map.mpr ⟨_, ih, rfl⟩)
theorem asc_sublist : ∀ {l r : List Int}, Asc l → Asc r → (∀ x ∈ r, x ∈ l) → r.Sublist l
  | [], [], _, _, _ => List.Sublist.slnil
  | [], x :: _, _, _, h => nomatch h x List.mem_cons_self
  | a :: l, [], _, _, _ => List.nil_sublist _
  | a :: l, x :: r, hl, hr, h => by
    obtain ⟨l1, l2⟩ := List.pairwise_cons.mp hl
    obtain ⟨r1, r2⟩ := List.pairwise_cons.mp hr
    by_cases e : x = a
    · subst e
      refine (asc_sublist l2 r2 fun y hy => ?_).cons_cons _
      rcases List.mem_cons.mp (h y (List.mem_cons_of_mem _ hy)) with rfl | z
      · exact absurd (r1 _ hy) (Int.lt_irrefl _)
      · exact z
    · refine (asc_sublist l2 hr fun y hy => ?_).cons _
      have hx : x ∈ l := (List.mem_cons.mp (h x List.mem_cons_self)).resolve_left e
      rcases List.mem_cons.mp (h y hy) with rfl | z
      · exfalso
        have ax := l1 x hx
        rcases List.mem_cons.mp hy with rfl | hy
        · exact e rfl
        · have := r1 _ hy
          omega
      · exact z
theorem sets_few {m : Nat} {es : List (Int × Int)} {L : List (List Int)} (nd : L.Nodup) (h : ∀ r ∈ L, IsSet m es r) : L.length ≤ 2 ^ m := by
  have := nd.length_le_of_subset (l₂ := subs (rng m)) fun r hr => mem_subs (asc_sublist (rng_asc m) (h r hr).asc fun x hx => mem_rng.mpr ((h r hr).rng x hx))
  rw [subs_length, rng_length] at this
  exact this
end TL
namespace TL
open PySem PySem.Spec PyProof.Rows L2
/-! ### least numbers of slides -/
inductive Rn (m : Nat) (es : List (Int × Int)) (S : List Int) : Nat → List Int → Prop
  | zero : Rn m es S 0 S
  | step {k : Nat} {T : List Int} {u v : Int} : Rn m es S k T → (u, v) ∈ slidesP m es T → Rn m es S (k + 1) (after T u v)
def Dst (m : Nat) (es : List (Int × Int)) (S : List Int) (k : Nat) (T : List Int) : Prop := Rn m es S k T ∧ ∀ j, Rn m es S j T → k ≤ j
section
variable {m : Nat} {es : List (Int × Int)} {S T : List Int}
theorem Rn.rch {k : Nat} (h : Rn m es S k T) : Rch m es S T := by
  induction h with
  | zero => exact .refl
  | step _ p ih => exact .step ih p
theorem Rch.rn (h : Rch m es S T) : ∃ k, Rn m es S k T := by
  induction h with
  | refl => exact ⟨0, .zero⟩
  | step _ p ih =>
    obtain ⟨k, hk⟩ := ih
    exact ⟨k + 1, .step hk p⟩
theorem Dst.uniq {j k : Nat} (h : Dst m es S j T) (g : Dst m es S k T) : j = k := Nat.le_antisymm (h.2 _ g.1) (g.2 _ h.1)
theorem Dst.least {k : Nat} (h : Rn m es S k T) : ∃ j, Dst m es S j T := by
  induction k using Nat.strongRecOn with
  | _ k ih =>
    by_cases e : ∃ j, j < k ∧ Rn m es S j T
    · obtain ⟨j, hj, hr⟩ := e
      exact ih j hj hr
    · exact ⟨k, h, fun j hj => Nat.le_of_not_lt fun z => e ⟨j, z, hj⟩⟩
theorem Dst.prev {k : Nat} (h : Dst m es S (k + 1) T) : ∃ T' u v, Dst m es S k T' ∧ (u, v) ∈ slidesP m es T' ∧ T = after T' u v := by
  obtain ⟨h1, h2⟩ := h
  cases h1 with
  | @step _ T' u v hr p =>
    refine ⟨T', u, v, ⟨hr, fun j hj => ?_⟩, p, rfl⟩
    have := h2 _ (.step hj p)
    omega
theorem Dst.zero : Dst m es S 0 S := ⟨.zero, fun _ _ => Nat.zero_le _⟩
theorem Dst.zeroI (h : Dst m es S 0 T) : T = S := by
  obtain ⟨h1, _⟩ := h
  cases h1
  rfl
end
/-- a search that goes by distances: P what was found, A still to be seen at the distance d, B at d + 1 -/
structure Bf (m : Nat) (es : List (Int × Int)) (S : List Int) (P : List (List Int × Nat)) (A B : List (List Int)) (d : Nat) : Prop where
  dst : ∀ p ∈ P, Dst m es S p.2 p.1
  lo : ∀ r ∈ A, Dst m es S d r
  hi : ∀ r ∈ B, Dst m es S (d + 1) r
  all : ∀ T k, k ≤ d → Dst m es S k T → T ∈ P.map Prod.fst
section
variable {m : Nat} {es : List (Int × Int)} {S : List Int} {P : List (List Int × Nat)} {A B : List (List Int)} {d : Nat}
theorem Bf.start (m : Nat) (es : List (Int × Int)) (S : List Int) : Bf m es S [(S, 0)] [S] [] 0 :=
  ⟨fun p hp => by rw [List.mem_singleton.mp hp]; exact .zero, fun r hr => by rw [List.mem_singleton.mp hr]; exact .zero, (fun _ h => nomatch h), fun T k hk h => by
    obtain rfl : k = 0 := by omega
    rw [h.zeroI]
    exact List.mem_singleton.mpr rfl⟩
theorem Bf.shift (h : Bf m es S P [] B d) (cl : ∀ r ∈ P.map Prod.fst, r ∉ B → ∀ u v, (u, v) ∈ slidesP m es r → after r u v ∈ P.map Prod.fst) : Bf m es S P B [] (d + 1) :=
  ⟨h.dst, h.hi, (fun _ z => nomatch z), fun T k hk hd => by
    by_cases e : k ≤ d
    · exact h.all T k e hd
    · obtain rfl : k = d + 1 := by omega
      obtain ⟨T', u, v, h1, h2, rfl⟩ := hd.prev
      refine cl T' (h.all T' d (Nat.le_refl _) h1) (fun z => ?_) u v h2
      have := (h.hi T' z).uniq h1
      omega⟩
theorem Bf.pop {r : List Int} (h : Bf m es S P (r :: A) B d) : Bf m es S P A B d := ⟨h.dst, fun z hz => h.lo z (List.mem_cons_of_mem _ hz), h.hi, h.all⟩
theorem Bf.new {r : List Int} {u v : Int} (h : Bf m es S P A B d) (hr : Dst m es S d r) (p : (u, v) ∈ slidesP m es r) (n : after r u v ∉ P.map Prod.fst) : Bf m es S (P ++ [(after r u v, d + 1)]) A (B ++ [after r u v]) d := by
  have hd : Dst m es S (d + 1) (after r u v) := by
    have hr1 : Rn m es S (d + 1) (after r u v) := .step hr.1 p
    obtain ⟨j, hj⟩ := Dst.least hr1
    have h1 := hj.2 _ hr1
    by_cases e : j ≤ d
    · exact absurd (h.all _ j e hj) n
    · obtain rfl : j = d + 1 := by omega
      exact hj
  refine ⟨fun q hq => ?_, h.lo, fun z hz => ?_, fun T k hk hT => ?_⟩
  · rcases List.mem_append.mp hq with z | z
    · exact h.dst q z
    · rw [List.mem_singleton.mp z]
      exact hd
  · rcases List.mem_append.mp hz with z | z
    · exact h.hi _ z
    · rw [List.mem_singleton.mp z]
      exact hd
  · rw [List.map_append]
    exact List.mem_append_left _ (h.all T k hk hT)
end
end TL
namespace TL
open PySem PySem.Spec PyProof.Rows L2
/-! ### forests without edges, a path -/
theorem isFor_nil (m : Nat) : IsFor m [] := ⟨.nil, (fun _ h => nomatch h), rng m, [], ⟨List.Perm.refl _, .nil, (fun _ h => nomatch h)⟩, .nil⟩
def pathE : List (Int × Int) := (rng 11).map fun k => (k, k + 1)
theorem isFor_path : IsFor 12 pathE := by
  refine ⟨by unfold AscP LtP; decide +kernel, by decide +kernel, rng 12, (List.range 11).map (fun k => (k + 1, k)), ⟨List.Perm.refl _, by decide +kernel, by decide +kernel⟩, ?_⟩
  rw [show ((List.range 11).map fun k => (k + 1, k)).map (edgeOf (rng 12)) = pathE by decide +kernel]
theorem isSet_one {m : Nat} {es : List (Int × Int)} (f : IsFor m es) {a : Int} (h : 0 ≤ a ∧ a < m) : IsSet m es [a] :=
  ⟨.cons (fun _ h => nomatch h) .nil, fun v hv => by rw [List.mem_singleton.mp hv]; exact h, fun u hu v hv z => by
    rw [List.mem_singleton.mp hu, List.mem_singleton.mp hv] at z
    exact f.loop _ z⟩
theorem after_one (a v : Int) : after [a] a v = [v] := by
  unfold after
  simp [srtI]
theorem mem_path {u v : Int} : (u, v) ∈ pathE ↔ v = u + 1 ∧ 0 ≤ u ∧ u < 11 := by
  unfold pathE
  rw [List.mem_map]
  constructor
  · rintro ⟨k, hk, e⟩
    have := Prod.mk.inj e
    have := mem_rng.mp hk
    omega
  · rintro ⟨h1, h2, h3⟩
    exact ⟨u, mem_rng.mpr ⟨h2, by omega⟩, by rw [h1]⟩
theorem path_up : ∀ k : Nat, k ≤ 11 → Rn 12 pathE [0] k [(k : Int)]
  | 0, _ => .zero
  | k + 1, h => by
    have ih := path_up k (by omega)
    have p : ((k : Int), (k : Int) + 1) ∈ slidesP 12 pathE [(k : Int)] := by
      refine mem_slidesP.mpr ⟨List.mem_singleton.mpr rfl, mem_nearL.mpr ⟨⟨by omega, by omega⟩, ?_⟩, ?_⟩
      · rw [ordP_comm]
        unfold ordP
        rw [if_pos (by omega)]
        exact mem_path.mpr ⟨rfl, by omega, by omega⟩
      · refine List.filter_eq_nil_iff.mpr fun o _ => ?_
        intro z
        obtain ⟨h1, h2⟩ := Bool.and_eq_true_iff.mp z
        rw [List.mem_singleton.mp (of_decide_eq_true h1)] at h2
        simp at h2
    have := Rn.step ih p
    rw [after_one] at this
    have e : ((k + 1 : Nat) : Int) = (k : Int) + 1 := by omega
    rw [e]
    exact this
theorem path_low {j : Nat} {T : List Int} (h : Rn 12 pathE [0] j T) : ∃ x : Int, T = [x] ∧ x ≤ j := by
  induction h with
  | zero => exact ⟨0, rfl, by omega⟩
  | @step k T u v _ p ih =>
    obtain ⟨x, rfl, hx⟩ := ih
    obtain ⟨h1, h2, _⟩ := mem_slidesP.mp p
    obtain rfl := List.mem_singleton.mp h1
    have h3 := isFor_path.mem_ord.mp (mem_nearL.mp h2).2
    refine ⟨v, after_one _ _, ?_⟩
    rcases h3 with z | z
    · have := mem_path.mp z
      omega
    · have := mem_path.mp z
      omega
theorem path_dst : Dst 12 pathE [0] 11 [11] := ⟨path_up 11 (Nat.le_refl _), fun j hj => by
  obtain ⟨x, e, hx⟩ := path_low hj
  have := (List.cons.inj e).1
  omega⟩
theorem bare_low {m : Nat} {S T : List Int} {j : Nat} (h : Rn m [] S j T) : T = S := by
  induction h with
  | zero => rfl
  | step _ p _ =>
    have := (mem_nearL.mp (mem_slidesP.mp p).2.1).2
    exact nomatch this
/-! ### a distance is smaller than the number of settings -/
theorem Dst.chain {m : Nat} {es : List (Int × Int)} {S : List Int} : ∀ {n : Nat} {T : List Int}, Dst m es S n T → ∃ l : List (List Int), l.length = n + 1 ∧ l.Nodup ∧ ∀ r ∈ l, ∃ j, j ≤ n ∧ Dst m es S j r
  | 0, T, h => ⟨[T], rfl, List.pairwise_singleton _ _, fun r hr => ⟨0, Nat.le_refl _, by rw [List.mem_singleton.mp hr]; exact h⟩⟩
  | n + 1, T, h => by
    obtain ⟨T', u, v, h1, _, _⟩ := h.prev
    obtain ⟨l, e, nd, al⟩ := Dst.chain h1
    refine ⟨T :: l, by rw [List.length_cons, e], List.nodup_cons.mpr ⟨fun z => ?_, nd⟩, fun r hr => ?_⟩
    · obtain ⟨j, hj, hd⟩ := al T z
      have := hd.uniq h
      omega
    · rcases List.mem_cons.mp hr with rfl | hr
      · exact ⟨n + 1, Nat.le_refl _, h⟩
      · obtain ⟨j, hj, hd⟩ := al r hr
        exact ⟨j, by omega, hd⟩
theorem nd_sub {l : List (List Int)} (nd : l.Nodup) : ∀ {L : List (List Int)}, (∀ r ∈ l, r ∈ L) → l.length ≤ L.length := by
  induction l with
  | nil => intro L _; exact Nat.zero_le _
  | cons a l ih =>
    intro L h
    obtain ⟨na, nd'⟩ := List.nodup_cons.mp nd
    have ha := h a List.mem_cons_self
    have := ih nd' (L := L.erase a) fun r hr => (List.mem_erase_of_ne fun z => na (by rw [← z]; exact hr)).mpr (h r (List.mem_cons_of_mem _ hr))
    rw [List.length_erase_of_mem ha] at this
    have := List.length_pos_of_mem ha
    rw [List.length_cons]
    omega
theorem Dst.few {m : Nat} {es : List (Int × Int)} {S T : List Int} {n : Nat} {L : List (List Int)} (h : Dst m es S n T) (rc : ∀ r, Rch m es S r → r ∈ L) (hl : L.length ≤ 4096) : n ≤ 4096 := by
  obtain ⟨l, e, nd, al⟩ := h.chain
  have : l.length ≤ L.length := nd_sub nd fun r hr => by
    obtain ⟨j, _, hd⟩ := al r hr
    exact rc r hd.1.rch
  omega
theorem shows_int {i : Int} (h0 : 0 ≤ i) (h : i ≤ 5000) : Shows (.int i) := by
  have h1 : i.natAbs.log2 < 13 := PySem.Flt.log2_lt_of (by decide) (by omega)
  refine Sm.shows (n := 20) (k := 0) ⟨?_, by simp [PyData.hasDict], by simp [PyData.depth], ?_, ?_⟩ (by decide) (by decide)
  · simp only [PyData.showable]
    exact decide_eq_true (by omega)
  · simp only [PyData.leavesShort]
    exact decide_eq_true (PyData.shown_int_le (by omega))
  · simp only [PyData.weight]
    split <;> omega
end TL
namespace TL
open PySem PySem.Spec PyProof.Rows L2
def topS (i : Nat) : Stmt := PySem.Challenge.pw_treelamps_k64_forest_and_slides_texts.main.body.getD i (.Pass ⟨0, 0, 0, 0⟩)
abbrev sListText : Stmt := topS 2
abbrev nListText : List Str := ["words"]
theorem scListText : FnScope nListText ["words"] (defScope sListText) :=
  ⟨rfl, rfl, rfl, by decide +kernel, rfl, by decide +kernel, by decide +kernel⟩
abbrev sSlidesText : Stmt := topS 3
abbrev nSlidesText : List Str := ["slides", "u", "v"]
theorem scSlidesText : FnScope nSlidesText ["slides"] (defScope sSlidesText) :=
  ⟨rfl, rfl, rfl, by decide +kernel, rfl, by decide +kernel, by decide +kernel⟩
abbrev sForestText : Stmt := topS 4
abbrev nForestText : List Str := ["forest", "n", "edges", "a", "b"]
theorem scForestText : FnScope nForestText ["forest"] (defScope sForestText) :=
  ⟨rfl, rfl, rfl, by decide +kernel, rfl, by decide +kernel, by decide +kernel⟩
abbrev sLDeck : Stmt := topS 6
abbrev nLDeck : List Str := ["_law_script", "_law_cell"]
theorem scLDeck : FnScope nLDeck ["_law_script"] (defScope sLDeck) :=
  ⟨rfl, rfl, rfl, by decide +kernel, rfl, by decide +kernel, by decide +kernel⟩
abbrev sLDraw : Stmt := topS 7
abbrev nLDraw : List Str := ["_law_deck_here", "_law_many", "_law_cell", "_law_place"]
theorem scLDraw : FnScope nLDraw ["_law_deck_here", "_law_many"] (defScope sLDraw) :=
  ⟨rfl, rfl, rfl, by decide +kernel, rfl, by decide +kernel, by decide +kernel⟩
abbrev sLForest : Stmt := topS 8
abbrev nLForest : List Str := ["_law_deck_here", "_law_most", "_law_n", "_law_left", "_law_order", "_law_edges", "_law_lacks", "_law_way", "_law_k", "_law_other"]
theorem scLForest : FnScope nLForest ["_law_deck_here", "_law_most"] (defScope sLForest) :=
  ⟨rfl, rfl, rfl, by decide +kernel, rfl, by decide +kernel, by decide +kernel⟩
abbrev sLPairsText : Stmt := topS 9
abbrev nLPairsText : List Str := ["_law_pairs", "_law_sign", "_law_one", "_law_two"]
theorem scLPairsText : FnScope nLPairsText ["_law_pairs", "_law_sign"] (defScope sLPairsText) :=
  ⟨rfl, rfl, rfl, by decide +kernel, rfl, by decide +kernel, by decide +kernel⟩
abbrev sLForestText : Stmt := topS 10
abbrev nLForestText : List Str := ["_law_forest_here"]
theorem scLForestText : FnScope nLForestText ["_law_forest_here"] (defScope sLForestText) :=
  ⟨rfl, rfl, rfl, by decide +kernel, rfl, by decide +kernel, by decide +kernel⟩
abbrev sLaw : Stmt := topS 11
abbrev nLaw : List Str := ["_law_script", "_law_deck_here", "_law_forests", "_law_texts", "_law_forest_here", "_law_kept", "_law_text", "_law_rows", "_law_many", "_law_told", "_law_row", "_law_k", "_law_other"]
theorem scLaw : FnScope nLaw ["_law_script"] (defScope sLaw) :=
  ⟨rfl, rfl, rfl, by decide +kernel, rfl, by decide +kernel, by decide +kernel⟩
section
variable {P : Program} {w : World} {K : PySem.W.Frag} {mg : Str → Option Value} {base : Heap}
/-! ### the deck and its draws -/
def spLDeck (K : PySem.W.Frag) : Sp := fun vs H Q _ => ∃ (a : Addr) (ns : List Int), vs = [.ref a] ∧
  SqL K H a (ns.map V.int) ∧ ns.length ≤ 63 ∧ ∀ H' d l, Same H H' → Deck H' d l 0 → Q (.ref d) H'
theorem ok_LDeck {f : Addr} {fd : FuncData} {k : Nat} (F : Fun K "_law_deck" "_law_deck" sLDeck f fd) (m_abs : mg "abs" = none) :
    FnOk P w K mg base CX0 (k + 1) f fd ["_law_script"] (spLDeck K) := by
  refine F.ok scLDeck (fun vs H Q E h => ?_) (fun cdv A outer s H vs Q E hr h => ?_)
  · obtain ⟨a, ns, rfl, _⟩ := h
    rfl
  · obtain ⟨a, ns, rfl, hS, hlen, q⟩ := h
    refine ⟨_, (pss_one (ps_ret (pe_lst (pa_cons (pe_lc (own := [("_law_cell", 1)]) (g := (gName 1)) (tt := tYes) rfl scLDeck.nd (piLK K (pe_slice (slLK K) (pv 0) po_none (po_some pe_int)))
      (blkOk_by (own := [("_law_cell", 1)]) (N := nLDeck) (sc := (defScope sLDeck)) (by decide +kernel))
      (fun _ _ _ _ _ => (pg_name (i := 1) scLDeck.nd rfl (Or.inl rfl))) (fun _ _ _ _ _ => pts_nil)
      (fun _ _ _ _ _ => (pe_callB call_abs (by rfl) m_abs (by decide +kernel) (pa_cons (pv 1) pa_nil)))) (pa_cons pe_int pa_nil))))), ?_⟩
    refine ⟨.ref a, rfl, 63, rfl, a, ns.map V.int, rfl, hS, fun c nc => ?_⟩
    rw [cut63 hlen]
    refine ⟨c, rfl, ⟨_, SqL.of upd_same⟩, fun D nD => ?_⟩
    have s1 : Same H (upd H c (.lst (ns.map V.int))) := same_upd nc
    have s2 : Same (upd H c (.lst (ns.map V.int))) (upd (upd H c (.lst (ns.map V.int))) D (.lst [])) := same_upd nD
    have ncD : c ≠ D := ne_of_none (upd_same) nD
    have nHD : H D = none := s1.free nD
    refine lc_list (K := K) (a := c) (xs := ns.map V.int) (fun i H' => Same H H' ∧ H' c = some (.lst (ns.map V.int)) ∧
      H' D = some (.lst (((ns.take i).map fun z => if z < 0 then -z else z).map V.int))) ?_ ?_ ?_ ?_
    · exact ⟨s1.trans s2, by rw [upd_ne ncD, upd_same], by rw [upd_same]; rfl⟩
    · exact fun i H' _ p => SqL.of p.2.1
    · rintro i x H' hx ⟨p1, p2, p3⟩
      rw [List.getElem?_map] at hx
      obtain ⟨z, hz, rfl⟩ := Option.map_eq_some_iff.mp hx
      obtain ⟨hi, _⟩ := List.getElem?_eq_some_iff.mp hz
      refine ⟨rfl, yesI (iteT ?_)⟩
      refine ⟨.int z, rfl, z, rfl, _, p3, ?_, ?_, ?_, ?_⟩
      · rw [List.length_map, List.length_map, List.length_take]
        exact small1000 (by omega)
      · exact fun b o e => by
          have nb : b ≠ D := ne_of_none e nHD
          rw [upd_ne nb]
          exact p1 b o e
      · rw [upd_ne ncD]
        exact p2
      · rw [upd_same, List.take_add_one, hz, List.map_append, List.map_append]
        rfl
    · rintro H' ⟨p1, p2, p3⟩
      rw [List.length_map, List.take_length] at p3
      refine ⟨by show 2 ≤ sizeLine; decide, fun d nd => ?_⟩
      have ndD : D ≠ d := ne_of_none p3 nd
      refine q _ d D (p1.trans (same_upd nd)) ⟨0, (ns.map fun z => if z < 0 then -z else z), Nat.le_refl _, ?_, ?_, ?_, ?_⟩
      · rw [upd_same]
        rfl
      · rw [upd_ne ndD]
        exact p3
      · intro z hz
        obtain ⟨y, _, rfl⟩ := List.mem_map.mp hz
        show 0 ≤ if y < 0 then -y else y
        split <;> omega
      · rw [List.length_map]
        exact hlen

def spLDraw : Sp := fun vs H Q _ => ∃ (d l : Addr) (n : Nat) (m : Int), vs = [.ref d, .int m] ∧ 0 < m ∧ m < 1000000 ∧ Deck H d l n ∧ n < 1000000 ∧
  ∀ H' r, 0 ≤ r → r < m → Fm d l H H' → Deck H' d l (n + 1) → Q (.int r) H'
theorem deck_put {H : Hp} {d l : Addr} {n c : Nat} {ns ns' : List Int} {H1 : Hp} (hc : c ≤ n) (h1 : H1 d = some (.lst [.ref l, .int (c : Int)])) (h2 : H1 l = some (.lst (ns'.map V.int)))
    (h3 : ∀ z ∈ ns', 0 ≤ z) (h4 : ns'.length ≤ 63) : Deck H1 d l n := ⟨c, ns', hc, h1, h2, h3, h4⟩
theorem mod_in {x m : Int} (h : 0 < m) : 0 ≤ x % m ∧ x % m < m := ⟨Int.emod_nonneg x (by omega), Int.emod_lt_of_pos x h⟩
theorem pow_in {x : Int} {c : Nat} (h : c < 1000001) : ((x % 2147483587 + 7919 * (c : Int) + 1)).natAbs < 2 ^ 64 := by
  have := mod_in (x := x) (m := 2147483587) (by decide)
  omega
theorem ok_LDraw {f : Addr} {fd : FuncData} {k : Nat} (F : Fun K "_law_draw" "_law_draw" sLDraw f fd) (m_len : mg "len" = none) :
    FnOk P w K mg base CX0 (k + 1) f fd ["_law_deck_here", "_law_many"] spLDraw := by
  refine F.ok scLDraw (fun vs H Q E h => ?_) (fun cdv A outer s H vs Q E hr h => ?_)
  · obtain ⟨d, l, n, m, rfl, _⟩ := h
    rfl
  · obtain ⟨d, l, n, m, rfl, m0, m1, hD, hn, q⟩ := h
    refine ⟨_, (pss_cons (ps_asg (pe_op op_add (pe_ix (ixLK K) (pv 0) pe_int (fun _ _ => rfl)) pe_int) (pg_sub (pv 0) pe_int set_list))
    (pss_cons (ps_set (i := 2) scLDraw.nd rfl (.inl rfl) pe_int)
    (pss_cons (ps_set (i := 3) scLDraw.nd rfl (.inl rfl) (pe_un un_neg pe_int))
    (pss_cons (ps_if (pt_cmpR op_gt (pe_callB (lenK K) (by rfl) m_len (by decide +kernel) (pa_cons (pe_ix (ixLK K) (pv 0) pe_int (fun _ _ => rfl)) pa_nil)) pe_int (nomark _)) (pss_cons (ps_set (i := 3) scLDraw.nd rfl (.inl rfl) (pe_op op_mod (pe_ix (ixLK K) (pv 0) pe_int (fun _ _ => rfl)) (pe_callB (lenK K) (by rfl) m_len (by decide +kernel) (pa_cons (pe_ix (ixLK K) (pv 0) pe_int (fun _ _ => rfl)) pa_nil))))
    (pss_one (ps_set (i := 2) scLDraw.nd rfl (.inl rfl) (pe_ix (ixLK K) (pe_ix (ixLK K) (pv 0) pe_int (fun _ _ => rfl)) (pv 3) (fun _ _ => rfl))))) pss_nil)
    (pss_cons (ps_if (pt_cmpR op_ge (pv 2) (pe_op op_pow pe_int pe_int) (nomark _)) (pss_cons (ps_asg (pe_op op_fdiv (pv 2) (pv 1)) (pg_sub (pe_ix (ixLK K) (pv 0) pe_int (fun _ _ => rfl)) (pv 3) set_list))
    (pss_one (ps_ret (pe_op op_mod (pv 2) (pv 1))))) pss_nil)
    (pss_one (ps_ret (pe_op op_mod (pe_op op_mod (pe_op op_pow (pe_op op_add (pe_op op_add (pe_op op_mod (pv 2) pe_int) (pe_op op_mul pe_int (pe_ix (ixLK K) (pv 0) pe_int (fun _ _ => rfl)))) pe_int) pe_int) pe_int) (pv 1))))))))), ?_⟩
    have nel := hD.ne
    obtain ⟨c, ns, hc, h1, h2, h3, h4⟩ := hD
    -- deck[1] = deck[1] + 1
    refine ⟨.ref d, rfl, d, _, 1, .int (c : Int), rfl, rfl, SqL.of h1, atI_nat (j := 1) rfl, (c : Int), 1, rfl, rfl,
      .ref d, rfl, d, _, 1, 1, rfl, rfl, h1, rfl, ?_⟩
    have e1 : (upd H d (.lst ([V.ref l, V.int (c : Int)].set 1 (.int ((c : Int) + 1))))) d = some (.lst [V.ref l, V.int ((c : Int) + 1)]) := upd_same
    generalize hH1 : upd H d (.lst ([V.ref l, V.int (c : Int)].set 1 (.int ((c : Int) + 1)))) = H1 at e1 ⊢
    have e2 : H1 l = some (.lst (ns.map V.int)) := by
      rw [← hH1, upd_ne nel.symm]
      exact h2
    have f1 : Fm d l H H1 := fun b o n1 n2 e => by
      rw [← hH1, upd_ne n1]
      exact e
    have ec : ((c : Int) + 1) = ((c + 1 : Nat) : Int) := by omega
    rw [ec] at e1
    -- cell, place
    refine ⟨1, rfl, ?_⟩
    generalize hH2 : H1 = H2 at e1 e2 f1 ⊢
    -- the last row, for any cell
    have last : ∀ (x : Int), (0 : Int) ≤ ((x % 2147483587 + 7919 * ((c + 1 : Nat) : Int) + 1) ^ (5 : Int).toNat % 2147483647) % m ∧
        ((x % 2147483587 + 7919 * ((c + 1 : Nat) : Int) + 1) ^ (5 : Int).toNat % 2147483647) % m < m := fun x => mod_in m0
    have p64 : ∀ x : Int, (x % 2147483587 + 7919 * ((c + 1 : Nat) : Int) + 1).natAbs < 2 ^ 64 := fun x => pow_in (by omega)
    have dk : Deck H2 d l (n + 1) := ⟨c + 1, ns, by omega, e1, e2, h3, h4⟩
    -- if len(deck[0]) > 0
    refine ⟨.ref d, rfl, d, _, 0, .ref l, rfl, rfl, SqL.of e1, atI_nat (j := 0) rfl, l, ns.map V.int, rfl, .inl (SqL.of e2), _, 0, rfl, rfl, _, rfl, ite2 (fun hlen => ?_) (fun hlen => ?_)⟩
    · have hpos : 0 < ns.length := by
        have := of_decide_eq_true hlen
        rw [List.length_map] at this
        omega
      obtain ⟨i0, i1⟩ := mod_in (x := ((c + 1 : Nat) : Int)) (m := (((ns.map V.int).length : Nat) : Int)) (by rw [List.length_map]; omega)
      -- index
      refine ⟨.ref d, rfl, d, _, 1, .int ((c + 1 : Nat) : Int), rfl, rfl, SqL.of e1, atI_nat (j := 1) rfl, .ref d, rfl, d, _, 0, .ref l, rfl, rfl, SqL.of e1, atI_nat (j := 0) rfl, l, ns.map V.int, rfl, .inl (SqL.of e2), _, _, rfl, rfl, by rw [List.length_map]; omega, ?_⟩
      obtain ⟨j, hj⟩ : ∃ j : Nat, ((c + 1 : Nat) : Int) % (((ns.map V.int).length : Nat) : Int) = (j : Int) :=
        ⟨(((c + 1 : Nat) : Int) % (((ns.map V.int).length : Nat) : Int)).toNat, by omega⟩
      have hjl : j < ns.length := by
        rw [hj, List.length_map] at i1
        omega
      have hx : (ns.map V.int)[j]? = some (.int ns[j]) := by
        rw [List.getElem?_map, List.getElem?_eq_getElem hjl]
        rfl
      have hx0 : 0 ≤ ns[j] := h3 _ (List.getElem_mem hjl)
      generalize ns[j] = z at hx hx0
      -- cell
      refine ⟨.ref d, rfl, d, _, 0, .ref l, rfl, rfl, SqL.of e1, atI_nat (j := 0) rfl, _, rfl, l, _, _, .int z, rfl, rfl, SqL.of e2, at_of hj hx, ?_⟩
      -- if cell >= 10 ** 18
      refine ⟨.int z, rfl, 10, 18, rfl, rfl, ⟨by decide, by decide, by decide⟩, z, _, rfl, rfl, _, rfl, ite2 (fun hbig => ?_) (fun hbig => ?_)⟩
      · refine ⟨.int z, rfl, .int m, rfl, z, m, rfl, rfl, ⟨m0, by omega⟩, .ref d, rfl, d, _, 0, .ref l, rfl, rfl, SqL.of e1, atI_nat (j := 0) rfl, _, rfl, l, _, _, j, rfl, rfl, e2, ?_, ?_⟩
        · rw [hj]
          unfold ixN
          rw [if_pos (by omega), if_pos (by rw [List.length_map]; omega)]
          simp
        · refine ⟨.int z, rfl, .int m, rfl, z, m, rfl, rfl, m0, ?_⟩
          obtain ⟨r0, r1⟩ := mod_in (x := z) m0
          refine q _ _ r0 r1 (fun b o n1 n2 e => ?_) ⟨c + 1, ns.set j (z / m), by omega, ?_, ?_, ?_, ?_⟩
          · rw [upd_ne n2]
            exact f1 b o n1 n2 e
          · rw [upd_ne nel]
            exact e1
          · rw [upd_same, List.map_set]
          · intro y hy
            rcases List.mem_or_eq_of_mem_set hy with hy | rfl
            · exact h3 y hy
            · exact Int.ediv_nonneg hx0 (by omega)
          · rw [List.length_set]
            exact h4
      · -- the last row
        refine ⟨.int z, rfl, z, 2147483587, rfl, rfl, (by show (0 : Int) < 2147483587; decide), .ref d, rfl, d, _, 1, .int ((c + 1 : Nat) : Int), rfl, rfl, SqL.of e1, atI_nat (j := 1) rfl, 7919, _, rfl, rfl, .inl ⟨by decide, by decide⟩,
          _, _, rfl, rfl, _, _, rfl, rfl, _, _, rfl, rfl, ⟨by decide, by decide, p64 z⟩, _, _, rfl, rfl, (by show (0 : Int) < 2147483647; decide), .int m, rfl, _, m, rfl, rfl, m0, ?_⟩
        exact q _ _ (last z).1 (last z).2 f1 dk
    · refine ⟨.int 0, rfl, 10, 18, rfl, rfl, ⟨by decide, by decide, by decide⟩, 0, _, rfl, rfl, _, rfl, ite2 (fun hbig => ?_) (fun hbig => ?_)⟩
      · exact absurd (of_decide_eq_true hbig) (by decide)
      · refine ⟨.int 0, rfl, 0, 2147483587, rfl, rfl, (by show (0 : Int) < 2147483587; decide), .ref d, rfl, d, _, 1, .int ((c + 1 : Nat) : Int), rfl, rfl, SqL.of e1, atI_nat (j := 1) rfl, 7919, _, rfl, rfl, .inl ⟨by decide, by decide⟩,
          _, _, rfl, rfl, _, _, rfl, rfl, _, _, rfl, rfl, ⟨by decide, by decide, p64 0⟩, _, _, rfl, rfl, (by show (0 : Int) < 2147483647; decide), .int m, rfl, _, m, rfl, rfl, m0, ?_⟩
        exact q _ _ (last 0).1 (last 0).2 f1 dk
end
end TL
namespace TL
open PySem PySem.Spec PyProof.Rows L2
section
variable {P : Program} {w : World} {K : PySem.W.Frag} {mg : Str → Option Value} {base : Heap}
/-! ### forest -/
theorem ord_min (a b : Int) : (if a < b then a else b) = (ordP a b).1 := by
  unfold ordP
  by_cases h : a ≤ b
  · rw [if_pos h]
    show _ = a
    split <;> omega
  · rw [if_neg h, if_neg (by omega)]
theorem ord_max (a b : Int) : (if a > b then a else b) = (ordP a b).2 := by
  unfold ordP
  by_cases h : a ≤ b
  · rw [if_pos h, if_neg (by omega)]
  · rw [if_neg h, if_pos (by omega)]
def spLForest (K : PySem.W.Frag) : Sp := fun vs H Q _ => ∃ (d l : Addr) (n most : Nat), vs = [.ref d, .int (most : Int)] ∧ most ≤ 12 ∧ Deck H d l n ∧ n < 800000 ∧
  ∀ (H' : Hp) (x : V) (m : Nat) (es : List (Int × Int)), Fm d l H H' → Deck H' d l (n + 60) → m ≤ most → IsFor m es → Dp K H' x (forD m es) → Q x H'
theorem ok_LForest {f : Addr} {fd : FuncData} (F : Fun K "_law_forest" "_law_forest" sLForest f fd) (m_list : mg "list" = none) (m_range : mg "range" = none) (m_len : mg "len" = none)
    (m_max : mg "max" = none) (m_min : mg "min" = none) (m_tuple : mg "tuple" = none) (m_sorted : mg "sorted" = none)
    (oLDraw : Own P w K mg base "_law_draw" 1 ["_law_deck_here", "_law_many"] spLDraw) :
    FnOk P w K mg base CX0 2 f fd ["_law_deck_here", "_law_most"] (spLForest K) := by
  refine F.ok scLForest (fun vs H Q E h => ?_) (fun cdv A outer s H vs Q E hr h => ?_)
  · obtain ⟨d, l, n, most, rfl, _⟩ := h
    rfl
  · obtain ⟨d, l, n, most, rfl, hm, hD, hn, q⟩ := h
    refine ⟨_, (pss_cons (ps_set (i := 2) scLForest.nd rfl (.inl rfl) (pe_own oLDraw (hr.mono (by decide)) (by rfl) (pa_cons (pv 0) (pa_cons (pe_op op_add (pv 1) pe_int) pa_nil))))
    (pss_cons (ps_par3 (by rfl) scLForest.nd (i := 3) (j := 4) (l := 5) rfl rfl rfl (by decide) (by decide) (by decide) rfl rfl rfl (pa_cons (pe_listRg rfl (by rfl) m_list (prg_1 (by rfl) m_range (pv 2))) (pa_cons (pe_lst pa_nil) (pa_cons (pe_lst pa_nil) pa_nil))) (by rfl))
    (pss_cons (ps_while PassesOwn.never (pt_cmpR (neDK K hr.units) (pv 3) (pe_lst pa_nil) (nomark _)) (pss_one (ps_expr (bmK K PySem.F.plainAttrs_list PySem.F.slot_list_append PySem.F.type_list_append mt_append (pv 4) (pa_cons (bmK K PySem.F.plainAttrs_list PySem.F.slot_list_pop PySem.F.type_list_pop mt_popAt (pv 3) (pa_cons (pe_own oLDraw (hr.mono (by decide)) (by rfl) (pa_cons (pv 0) (pa_cons (pe_callB (lenK K) (by rfl) m_len (by decide +kernel) (pa_cons (pv 3) pa_nil)) pa_nil))) pa_nil)) pa_nil)))))
    (pss_cons (ps_set (i := 6) scLForest.nd rfl (.inl rfl) (pe_ix (ixLK K) (pe_lst (pa_cons pe_int (pa_cons pe_int (pa_cons pe_int pa_nil)))) (pe_own oLDraw (hr.mono (by decide)) (by rfl) (pa_cons (pv 0) (pa_cons pe_int pa_nil))) (fun _ _ => rfl)))
    (pss_cons (ps_set (i := 7) scLForest.nd rfl (.inl rfl) (pe_own oLDraw (hr.mono (by decide)) (by rfl) (pa_cons (pv 0) (pa_cons pe_int pa_nil))))
    (pss_cons (ps_for PassesOwn.never rfl (pi_range2 (by rfl) m_range (pa_cons pe_int (pa_cons (pv 2) pa_nil))) (pg_name (i := 8) scLForest.nd rfl (Or.inl rfl))
    (pss_cons (ps_set (i := 9) scLForest.nd rfl (.inl rfl) (pe_ix (ixLK K) (pv 4) (pe_ix (ixLK K) (pe_lst (pa_cons (pe_op op_sub (pv 8) pe_int) (pa_cons pe_int (pa_cons (pe_own oLDraw (hr.mono (by decide)) (by rfl) (pa_cons (pv 0) (pa_cons (pv 8) pa_nil))) (pa_cons (pe_callB (call_max2 rfl) (by rfl) m_max (by decide +kernel) (pa_cons pe_int (pa_cons (pe_op op_sub (pv 8) pe_int) pa_nil))) pa_nil))))) (pv 7) (fun _ _ => rfl)) (fun _ _ => rfl)))
    (pss_one (ps_if (PW.pt (pw_or (pt_cmpR op_eq (pv 6) pe_int (nomark _)) (pw_or1 (pt_cmpR op_gt (pe_own oLDraw (hr.mono (by decide)) (by rfl) (pa_cons (pv 0) (pa_cons (pv 6) pa_nil))) pe_int (nomark _))))) (pss_one (ps_expr (bmK K PySem.F.plainAttrs_list PySem.F.slot_list_append PySem.F.type_list_append mt_append (pv 5) (pa_cons (pe_tup (pa_cons (pe_callB (call_min2 rfl) (by rfl) m_min (by decide +kernel) (pa_cons (pv 9) (pa_cons (pe_ix (ixLK K) (pv 4) (pv 8) (fun _ _ => rfl)) pa_nil))) (pa_cons (pe_callB (call_max2 rfl) (by rfl) m_max (by decide +kernel) (pa_cons (pv 9) (pa_cons (pe_ix (ixLK K) (pv 4) (pv 8) (fun _ _ => rfl)) pa_nil))) pa_nil))) pa_nil)))) pss_nil))))
    (pss_one (ps_ret (pe_tup (pa_cons (pv 2) (pa_cons (pe_callTy (tupleK K) (by rfl) m_tuple (by decide +kernel) (pa_cons (pe_callB (sortK K hr.units) (by rfl) m_sorted (by decide +kernel) (pa_cons (pv 5) pa_nil)) pa_nil)) pa_nil))))))))))), ?_⟩
    -- n
    refine ⟨.ref d, rfl, .int (most : Int), rfl, _, _, rfl, rfl, d, l, n, _, rfl, by omega, by omega, hD, by omega, fun H1 x x0 x1 f1 d1 => ?_⟩
    obtain ⟨m, hmx⟩ : ∃ m : Nat, x = (m : Int) := ⟨x.toNat, by omega⟩
    subst hmx
    have hmm : m ≤ most := by omega
    -- left, order, edges
    refine ⟨.int (m : Int), rfl, (m : Int), rfl, RgOk.of_le (by omega) (by omega) (by omega) (by omega), fun L nL => ?_⟩
    rw [rgVrng]
    have sL := same_upd (o := .lst ((rng m).map V.int)) nL
    have eL := same_at (o := .lst ((rng m).map V.int)) nL
    have offL := d1.off nL
    refine ⟨Nat.zero_le _, fun D nD => ?_⟩
    have sD := same_upd (o := .lst []) nD
    have eD := same_at (o := .lst []) nD
    have offD := (d1.same sL).off nD
    have nLD : L ≠ D := ne_of_none eL nD
    refine ⟨Nat.zero_le _, fun E nE => ?_⟩
    have sE := same_upd (o := .lst []) nE
    have eE := same_at (o := .lst []) nE
    have offE := ((d1.same sL).same sD).off nE
    have nLE : L ≠ E := ne_of_none (sD _ _ eL) nE
    have nDE : D ≠ E := ne_of_none eD nE
    refine ⟨.ref L, .ref D, .ref E, rfl, ?_⟩
    have s14 := (sL.trans sD).trans sE
    have f4 : Fm d l H _ := f1.trans (Same.fm s14)
    have d4 := d1.same s14
    have eL4 := (sD.trans sE) _ _ eL
    have eD4 := sE _ _ eD
    have eE4 := eE
    have nHL : H1 L = none := nL
    have nHD : H1 D = none := sL.free nD
    have nHE : H1 E = none := (sL.trans sD).free nE
    generalize upd _ E (.lst []) = H4 at f4 d4 eL4 eD4 eE4 s14 ⊢
    dsimp only [gName]
    refine while_ms (fun tt σ H' => ∃ (ms rs : List Int), σ = [some (.ref d), some (.int (most : Int)), some (.int (m : Int)), some (.ref L), some (.ref D), some (.ref E), none, none, none, none] ∧ (ms ++ rs).Perm (rng m) ∧ tt = rs.length ∧ Fm d l H1 H' ∧ Deck H' d l (n + 1 + ms.length) ∧
      H' L = some (.lst (rs.map V.int)) ∧ H' D = some (.lst (ms.map V.int)) ∧ H' E = some (.lst [])) (rng m).length ⟨[], rng m, rfl, List.Perm.refl _, rfl, Same.fm s14, d4, eL4, eD4, eE4⟩ ?_ ?_
    · rintro tt σ H5 ⟨ms, rs, rfl, pm, rfl, f5, d5, eL5, eD5, eE5⟩
      have er : ms.length + rs.length = m := by
        have := pm.length_eq
        rw [List.length_append, rng_length] at this
        exact this
      refine ⟨.ref L, rfl, Nat.zero_le _, fun e ne => ?_⟩
      have se := same_upd (o := .lst []) ne
      refine ⟨.list (rs.map .int), .list [], .lst (SqL.of (se _ _ eL5)) (DpAll.of_ints rs), .lst (SqL.of upd_same) .nil, shaped_ints rs, shaped_ints [], _, rfl, ?_⟩
      rw [eqv_nil]
      by_cases hr0 : rs = []
      · subst hr0
        rw [decide_eq_true rfl]
        refine iteF ?_
        rw [List.append_nil] at pm
        have nm_pm := pm
        generalize hms : ms = nm at pm d5 eD5
        have lnm : nm.length = m := by rw [pm.length_eq, rng_length]
        have d6 := d5.same se
        have eD6 := se _ _ eD5
        have eE6 := se _ _ eE5
        have f6 := f5.trans (Same.fm se)
        rw [lnm] at d6
        generalize upd H5 e (.lst []) = H6 at d6 eD6 eE6 f6 ⊢
        -- lacks
        refine ⟨by show 3 ≤ sizeLine; decide, fun p np => ?_⟩
        have sp := same_upd (o := .lst [V.int 0, V.int 0, V.int 5]) np
        have ep := same_at (o := .lst [V.int 0, V.int 0, V.int 5]) np
        have offp := d6.off np
        refine ⟨.ref d, rfl, d, l, _, 3, rfl, by decide, by decide, d6.same sp, by omega, fun H7 t' t0 t1 f7 d7 => ?_⟩
        obtain ⟨t, ht, hti⟩ : ∃ t : Int, atI [V.int 0, V.int 0, V.int 5] t' = some (V.int t) ∧ (t = 0 ∨ t = 5) := by
          have h3 : t' = 0 ∨ t' = 1 ∨ t' = 2 := by omega
          rcases h3 with rfl | rfl | rfl
          · exact ⟨0, rfl, .inl rfl⟩
          · exact ⟨0, rfl, .inl rfl⟩
          · exact ⟨5, rfl, .inr rfl⟩
        refine ⟨p, _, _, .int t, rfl, rfl, SqL.of (f7 _ _ offp.1 offp.2 ep), ht, ?_⟩
        -- way
        refine ⟨.ref d, rfl, d, l, _, 4, rfl, by decide, by decide, d7, by omega, fun H8 w3 w0 w1 f8 d8 => ?_⟩
        have f68 : Fm d l H6 H8 := ((Same.fm sp).trans f7).trans f8
        have eD8 := f68 _ _ offD.1 offD.2 eD6
        have eE8 := f68 _ _ offE.1 offE.2 eE6
        refine ⟨.int (m : Int), rfl, 1, (m : Int), rfl, ⟨by omega, by omega, by omega, by omega⟩, for_range (lo := 1) (n := ((m : Int) - 1).toNat) (fun i σ H' => ∃ (y8 y9 : Option V) (ks : List (Nat × Nat)) (xs : List V),
          σ = [some (.ref d), some (.int (most : Int)), some (.int (m : Int)), some (.ref L), some (.ref D), some (.ref E), some (.int t), some (.int w3), y8, y9] ∧ Fm d l H1 H' ∧ Deck H' d l (n + 15 + 3 * i) ∧
          H' D = some (.lst (nm.map V.int)) ∧ H' E = some (.lst xs) ∧ DpAll K H' xs ((ks.map (edgeOf nm)).map prD) ∧ ks.Pairwise (fun a b => a.1 < b.1) ∧ (∀ q ∈ ks, q.2 < q.1 ∧ q.1 < i + 1) ∧ ks.length ≤ i) ?_ ?_ ?_⟩
        · exact ⟨none, none, [], [], rfl, f6.trans f68, d8.le (by omega), eD8, eE8, .nil, .nil, (fun _ z => nomatch z), Nat.le_refl _⟩
        · rintro i σ H5 hi ⟨y8, y9, ks, xs, rfl, f5, d5, eD5, eE5, a5, up, down, cnt⟩
          have hi' : i + 1 < m := by omega
          refine ⟨.ref D, rfl, .int (1 + (i : Int)), rfl, _, _, rfl, rfl, .ref d, rfl, .int (1 + (i : Int)), rfl, d, l, _, _, rfl, by omega, by omega, d5, by omega, fun H6 x x0 x1 f6 d6 => ?_⟩
          refine ⟨.int (1 + (i : Int)), rfl, _, _, rfl, rfl, 0, _, rfl, by show 4 ≤ sizeLine; decide, fun p6 np6 => ?_⟩
          have sp6 := same_upd (o := .lst [.int (1 + (i : Int) - 1), .int 0, .int x, .int (if 1 + (i : Int) - 2 > 0 then 1 + (i : Int) - 2 else 0)]) np6
          obtain ⟨o, ho, lo⟩ : ∃ o : Nat, atI [V.int (1 + (i : Int) - 1), V.int 0, V.int x, V.int (if 1 + (i : Int) - 2 > 0 then 1 + (i : Int) - 2 else 0)] w3 = some (V.int (o : Int)) ∧ o < i + 1 := by
            have h4 : w3 = 0 ∨ w3 = 1 ∨ w3 = 2 ∨ w3 = 3 := by omega
            rcases h4 with rfl | rfl | rfl | rfl
            · exact ⟨i, by show some (V.int (1 + (i : Int) - 1)) = _; congr 2; omega, by omega⟩
            · exact ⟨0, rfl, by omega⟩
            · exact ⟨x.toNat, by show some (V.int x) = _; congr 2; omega, by omega⟩
            · refine ⟨(1 + (i : Int) - 2).toNat, ?_, by omega⟩
              show some (V.int (if 1 + (i : Int) - 2 > 0 then 1 + (i : Int) - 2 else 0)) = _
              congr 2
              split <;> omega
          have go : (nm.map V.int)[o]? = some (.int (nm.getD o 0)) := by
            rw [List.getElem?_map, List.getD_eq_getElem?_getD, List.getElem?_eq_getElem (by omega)]
            rfl
          have gk : (nm.map V.int)[i + 1]? = some (.int (nm.getD (i + 1) 0)) := by
            rw [List.getElem?_map, List.getD_eq_getElem?_getD, List.getElem?_eq_getElem (by omega)]
            rfl
          have eD7 := sp6 _ _ (f6 _ _ offD.1 offD.2 eD5)
          have eE7 := sp6 _ _ (f6 _ _ offE.1 offE.2 eE5)
          refine ⟨.int w3, rfl, p6, _, _, _, rfl, rfl, SqL.of upd_same, ho, D, _, _, _, rfl, rfl, SqL.of eD7, at_of (j := o) rfl go, ?_⟩
          have d6' := d6.same sp6
          have f6' : Fm d l H1 _ := (f5.trans f6).trans (Same.fm sp6)
          have k6 : KT K H5 _ := (f6.kt d5).trans (Same.kt sp6)
          have a6 := DpAll.kt k6 a5 (only_prs _)
          generalize upd H6 p6 (.lst [.int (1 + (i : Int) - 1), .int 0, .int x, .int (if 1 + (i : Int) - 2 > 0 then 1 + (i : Int) - 2 else 0)]) = H8 at eD7 eE7 d6' f6' a6 ⊢
          dsimp only [gName]
          refine ifJ (R := fun b H9 => Fm d l H8 H9 ∧ Deck H9 d l (n + 15 + 3 * (i + 1))) (fun R hR => ?_) (fun H9 hR => ?_) (fun H9 hR => ?_)
          · refine ⟨.int t, rfl, rfl, _, rfl, ?_⟩
            rw [decInt]
            rcases hti with rfl | rfl
            · rw [decide_eq_true rfl]
              exact iteT (hR _ _ ⟨Fm.refl, d6'.le (by omega)⟩)
            · rw [decide_eq_false (by decide)]
              refine iteF ⟨.ref d, rfl, .int 5, rfl, d, l, _, 5, rfl, by decide, by decide, d6', by omega, fun H9 y y0 y1 f9 d9 => ⟨_, _, rfl, rfl, _, rfl, hR _ _ ⟨f9, d9.le (by omega)⟩⟩⟩
          · obtain ⟨f9, d9⟩ := hR
            have eD9 := f9 _ _ offD.1 offD.2 eD7
            have eE9 := f9 _ _ offE.1 offE.2 eE7
            have a9 := DpAll.kt (f9.kt d6') a6 (only_prs _)
            refine ⟨.ref E, rfl, .inl ⟨rfl, _, SqL.of eE9⟩, .int (nm.getD o 0), rfl, .ref D, rfl, .int (1 + (i : Int)), rfl, D, _, _, _, rfl, rfl, SqL.of eD9, at_of (j := i + 1) (by omega) gk, _, _, rfl,
              .int (nm.getD o 0), rfl, .ref D, rfl, .int (1 + (i : Int)), rfl, D, _, _, _, rfl, rfl, SqL.of eD9, at_of (j := i + 1) (by omega) gk, _, _, rfl, by show 2 ≤ sizeLine; decide, fun p3 np3 => ?_⟩
            dsimp only
            rw [ord_min, ord_max]
            have s3 := same_upd (o := .tup [V.int (ordP (nm.getD (i + 1) 0) (nm.getD o 0)).1, V.int (ordP (nm.getD (i + 1) 0) (nm.getD o 0)).2]) np3
            have eE10 := s3 _ _ eE9
            have eD10 := s3 _ _ eD9
            have a10 := DpAll.same s3 a9
            have d10 := d9.same s3
            have f10 := (f6'.trans f9).trans (Same.fm s3)
            have hp : SqT K _ p3 [.int (edgeOf nm (i + 1, o)).1, .int (edgeOf nm (i + 1, o)).2] := SqT.of (K := K) (same_at (o := .tup [V.int (ordP (nm.getD (i + 1) 0) (nm.getD o 0)).1, V.int (ordP (nm.getD (i + 1) 0) (nm.getD o 0)).2]) np3)
            generalize upd _ p3 (.tup [V.int (ordP (nm.getD (i + 1) 0) (nm.getD o 0)).1, V.int (ordP (nm.getD (i + 1) 0) (nm.getD o 0)).2]) = H10 at eE10 eD10 a10 d10 f10 hp ⊢
            have kt : KT K H10 (upd H10 E (.lst (xs ++ [.ref p3]))) := kt_lst eE10
            refine ⟨E, xs, .ref p3, rfl, rfl, eE10, ?_, _, _, ks ++ [(i + 1, o)], xs ++ [.ref p3], rfl, ?_, d10.put offE.1 offE.2, by rw [upd_ne nDE]; exact eD10, upd_same, ?_, ?_, ?_, ?_⟩
            · have := DpAll.length a10
              rw [List.length_map, List.length_map] at this
              exact small1000 (by omega)
            · exact f10.put1 nHE
            · rw [List.map_append, List.map_append]
              exact DpAll.append (DpAll.kt kt a10 (only_prs _)) (.cons (Dp.kt kt (Dp.pr hp) (only_pr _)) .nil)
            · refine List.pairwise_append.mpr ⟨up, List.pairwise_singleton _ _, fun a ha b hb => ?_⟩
              obtain rfl := List.mem_singleton.mp hb
              have := (down a ha).2
              exact this
            · intro z hz
              rcases List.mem_append.mp hz with hz | hz
              · have := down z hz
                omega
              · obtain rfl := List.mem_singleton.mp hz
                exact ⟨lo, Nat.lt_succ_self _⟩
            · rw [List.length_append, List.length_singleton]
              omega
          · obtain ⟨f9, d9⟩ := hR
            exact ⟨_, _, ks, xs, rfl, f6'.trans f9, d9, f9 _ _ offD.1 offD.2 eD7, f9 _ _ offE.1 offE.2 eE7, DpAll.kt (f9.kt d6') a6 (only_prs _), up, fun z hz => by have := down z hz; omega, by omega⟩
        · rintro σ H5 ⟨y8, y9, ks, xs, rfl, f5, d5, eD5, eE5, a5, up, down, cnt⟩
          have g : Grow m nm ks := ⟨pm, up, fun z hz => by have := down z hz; omega⟩
          refine ⟨.int (m : Int), rfl, .ref E, rfl, sortPairs (SqL.of eE5) a5 fun p ys np dy => ?_⟩
          have s1 := same_upd (o := .lst ys) np
          refine ⟨p, ys, rfl, .inl ⟨SqL.of upd_same, fun t nt => ?_⟩⟩
          have s2 := same_upd (o := .tup ys) nt
          refine ⟨by show 2 ≤ sizeLine; decide, fun z nz => ?_⟩
          have s3 := same_upd (o := .tup [.int (m : Int), .ref t]) nz
          have s13 := (s1.trans s2).trans s3
          refine q _ _ m _ ((f1.trans f5).trans (Same.fm s13)) ((d5.same s13).le (by omega)) hmm g.isFor ?_
          exact .tup (SqT.of upd_same) (.cons (.int _) (.cons (Dp.same s3 (.tup (SqT.of upd_same) (DpAll.same (s1.trans s2) dy))) .nil))
      · rw [decide_eq_false hr0]
        have hp : 0 < rs.length := List.length_pos_iff.mpr hr0
        refine iteT ?_
        have eL2 := se _ _ eL5
        have eD2 := se _ _ eD5
        have eE2 := se _ _ eE5
        refine ⟨.ref D, rfl, .inl ⟨rfl, _, SqL.of eD2⟩, .ref L, rfl, .inl ⟨rfl, _, SqL.of eL2⟩, .ref d, rfl, .ref L, rfl, L, _, rfl, .inl (SqL.of eL2), d, l, _, _, rfl, by rw [List.length_map]; omega, by rw [List.length_map]; omega, d5.same se, by omega, fun H3 x x0 x1 f3 d3 => ?_⟩
        rw [List.length_map] at x1
        have eL3 := f3 _ _ offL.1 offL.2 eL2
        have eD3 := f3 _ _ offD.1 offD.2 eD2
        have eE3 := f3 _ _ offE.1 offE.2 eE2
        have hk : x.toNat < rs.length := by omega
        refine ⟨L, _, x, x.toNat, .int rs[x.toNat], rfl, rfl, eL3, by omega, by omega, ?_, ?_, D, ms.map V.int, _, rfl, rfl, ?_, ?_, (rs.eraseIdx x.toNat).length, ?_, ms ++ [rs[x.toNat]], rs.eraseIdx x.toNat, rfl, ?_, rfl, ?_, ?_, ?_, ?_, ?_⟩
        · unfold seqIndex?
          rw [List.length_map]
          simp
          omega
        · rw [List.getElem?_map, List.getElem?_eq_getElem hk]
          rfl
        · rw [upd_ne nLD.symm]
          exact eD3
        · rw [List.length_map]
          exact small1000 (by omega)
        · rw [List.length_eraseIdx_of_lt hk]
          omega
        · rw [List.append_assoc]
          refine List.Perm.trans ?_ pm
          exact List.Perm.append_left ms (erase_prm hk)
        · exact (((f5.trans (Same.fm se)).trans f3).put1 nHL).put1 nHD
        · rw [List.length_append]
          exact (d3.put offL.1 offL.2).put offD.1 offD.2
        · rw [upd_ne nLD, upd_same]
          exact congrArg (fun z => some (HO.lst z)) (erase_mp rs x.toNat)
        · rw [upd_same, List.map_append]
          rfl
        · rw [upd_ne nDE.symm, upd_ne nLE.symm]
          exact eE3
    · rintro σ H' Q1 Q2 hQ ⟨y, e, h0, h1⟩
      exact ⟨y, e, h0, fun Z nZ => by
        obtain ⟨d1, d2, e1, e2, e3, e4, b, eb, k⟩ := h1 Z nZ
        exact ⟨d1, d2, e1, e2, e3, e4, b, eb, hQ _ _ k⟩⟩
end
end TL
namespace TL
open PySem PySem.Spec PyProof.Rows L2
section
variable {P : Program} {w : World} {K : PySem.W.Frag} {mg : Str → Option Value} {base : Heap}
/-! ### the program: texts -/
theorem small_log {i : Int} (h : 0 ≤ i ∧ i ≤ 12) : i.natAbs.log2 < 1920 := Nat.lt_trans (sm_log (i := i) (by unfold sm; omega)) (by decide)
def spListText (K : PySem.W.Frag) : Sp := fun vs H Q _ => ∃ (a : Addr) (ws : List Str), vs = [.ref a] ∧ H a = some (.lst (ws.map V.str)) ∧ (∀ w ∈ ws, w.length ≤ 5) ∧ ws.length ≤ 1000 ∧ Q (.str (if ws = [] then ("none" : Str) else Txt.join " " ws)) H
theorem ok_ListText {t0 : Tok} {f : Addr} {fd : FuncData} {k : Nat} (F : Fun K "list_text" "list_text" sListText f fd) (m_NONE : mg "NONE" = some (.str "none" t0)) :
    FnOk P w K mg base CX0 (k + 1) f fd ["words"] (spListText K) := by
  refine F.ok scListText (fun vs H Q E h => ?_) (fun cdv A outer s H vs Q E hr h => ?_)
  · obtain ⟨a, ws, rfl, _⟩ := h
    rfl
  · obtain ⟨a, ws, rfl, ha, hl, h1, q⟩ := h
    refine ⟨_, (pss_one (ps_ret (pe_ifExp (truthK K (pv 0) (by intro _; rfl)) (joinK K pe_str (pv 0)) (pe_glob (v := V.str "none") (by rfl) m_NONE ⟨_, rfl⟩)))), ?_⟩
    refine ⟨.ref a, rfl, _, .inl ⟨_, SqL.of ha, rfl⟩, ?_⟩
    by_cases e : ws = []
    · subst e
      exact iteF q
    · rw [if_neg e] at q
      have : (!(ws.map V.str).isEmpty) = true := by
        cases ws with
        | nil => exact absurd rfl e
        | cons _ _ => rfl
      rw [this]
      refine iteT ⟨⟨_, rfl⟩, .ref a, rfl, _, a, ws, rfl, rfl, .inl (SqL.of ha), ?_, q⟩
      have h2 := sum_le hl
      have h3 : (" " : Str).length = 1 := by decide +kernel
      rw [h3]
      omega
theorem DpAll.strs {H : Hp} : ∀ {xs : List V} {ws : List Str}, DpAll K H xs (ws.map .str) → xs = ws.map V.str
  | [], [], _ => rfl
  | _ :: _, w :: ws, .cons h a => by
    cases h
    rw [DpAll.strs a]
    rfl
theorem wds_text (g : Str) (ps : List (Int × Int)) : (if ps.map (wrd g) = [] then ("none" : Str) else Txt.join " " (ps.map (wrd g))) = txt g ps := by
  unfold txt wds
  cases ps with
  | nil => 
    show ("none" : Str) = Txt.join " " [("none" : Str)]
    decide +kernel
  | cons p ps => rfl
def spSlidesText (K : PySem.W.Frag) : Sp := fun vs H Q _ => ∃ (x : V) (ps : List (Int × Int)), vs = [x] ∧ Dp K H x (prsD ps) ∧ (∀ p ∈ ps, sm12 p) ∧ ps.length ≤ 500 ∧ ∀ H', Same H H' → Q (.str (txt ">" ps)) H'
theorem ok_SlidesText {f : Addr} {fd : FuncData} (F : Fun K "slides_text" "slides_text" sSlidesText f fd) (oListText : Own P w K mg base "list_text" 1 ["words"] (spListText K)) :
    FnOk P w K mg base CX0 2 f fd ["slides"] (spSlidesText K) := by
  refine F.ok scSlidesText (fun vs H Q E h => ?_) (fun cdv A outer s H vs Q E hr h => ?_)
  · obtain ⟨x, ps, rfl, _⟩ := h
    rfl
  · obtain ⟨x, ps, rfl, hx, sp, hl, q⟩ := h
    obtain ⟨a, xs, rfl, ha, hA⟩ := Dp.tupI hx
    refine ⟨_, (pss_one (ps_ret (pe_own oListText (hr.mono (by decide)) (by rfl) (pa_cons (pe_lc (own := [("u", 1), ("v", 2)]) (g := (gTup K 2 (gCons (gName 1) (gCons (gName 2) gNil)))) (tt := tYes) rfl scSlidesText.nd (piTK K (pv 0))
      (blkOk_by (own := [("u", 1), ("v", 2)]) (N := nSlidesText) (sc := (defScope sSlidesText)) (by decide +kernel))
      (fun _ _ _ _ _ => (pgTK K (pgs_cons (pg_name (i := 1) scSlidesText.nd rfl (Or.inl rfl)) (pgs_cons (pg_name (i := 2) scSlidesText.nd rfl (Or.inl rfl)) pgs_nil)))) (fun _ _ _ _ _ => pts_nil)
      (fun _ _ _ _ _ => (pe_jd (.cons (pe_fmt (pv 1)) (.cons pe_str (.cons (pe_fmt (pv 2)) .nil)))))) pa_nil)))), ?_⟩
    refine ⟨.ref a, rfl, a, rfl, ⟨_, ha⟩, fun D nD => ?_⟩
    refine lc_tupP (K := K) (fun _ => true) (fun p => .str (wrd ">" p)) nD ha hA (fun _ _ => rfl) (fun o _ H' R s1 hR => ?_) (fun o ho _ H' R s1 hR => ?_) (fun o => by simp [only]) (by omega) (fun H2 ys s2 eD dy => ?_)
    · exact hR H' (Same.refl _)
    · have so := sp o ho
      have l1 := (dig_ok so.1).2
      have l2 := (dig_ok so.2).2
      have l3 : (">" : Str).length = 1 := by decide +kernel
      have le : (Str.empty ++ dig o.1 ++ (">" : Str) ++ dig o.2).length ≤ 5 := by
        rw [Str.empty_append, Str.length_append, Str.length_append]
        omega
      refine ⟨.int o.1, rfl, .inr ⟨o.1, rfl, small_log so.1, _, rfl, ?_, _, rfl, ?_, .int o.2, rfl, .inr ⟨o.2, rfl, small_log so.2, _, rfl, ?_, ?_⟩⟩⟩
      · rw [Str.empty_append]
        exact Nat.le_trans l1 (by decide)
      · rw [Str.empty_append, Str.length_append]
        exact Nat.le_trans (Nat.add_le_add l1 (Nat.le_of_eq l3)) (by decide)
      · exact Nat.le_trans le (by decide)
      · rw [Str.empty_append]
        exact hR H' _ (Same.refl _) (.str _)
    · rw [filt_true] at dy
      have ey : ys = (ps.map (wrd ">")).map V.str := DpAll.strs (by rw [List.map_map]; exact dy)
      subst ey
      refine ⟨D, ps.map (wrd ">"), rfl, eD, fun w hw => ?_, by rw [List.length_map]; omega, ?_⟩
      · obtain ⟨p, hp, rfl⟩ := List.mem_map.mp hw
        exact (wrd_mem sg_slide (sp p hp)).2.2
      · rw [wds_text]
        exact q _ s2
def spForestText (K : PySem.W.Frag) : Sp := fun vs H Q _ => ∃ (x : V) (m : Nat) (es : List (Int × Int)), vs = [x] ∧ Dp K H x (forD m es) ∧ m ≤ 12 ∧ (∀ p ∈ es, sm12 p) ∧ es.length ≤ 500 ∧ ∀ H', Same H H' → Q (.str (ftx m es)) H'
theorem ok_ForestText {f : Addr} {fd : FuncData} (F : Fun K "forest_text" "forest_text" sForestText f fd) (oListText : Own P w K mg base "list_text" 1 ["words"] (spListText K)) :
    FnOk P w K mg base CX0 2 f fd ["forest"] (spForestText K) := by
  refine F.ok scForestText (fun vs H Q E h => ?_) (fun cdv A outer s H vs Q E hr h => ?_)
  · obtain ⟨x, m, es, rfl, _⟩ := h
    rfl
  · obtain ⟨x, m, es, rfl, hx, hm, sp, hl, q⟩ := h
    obtain ⟨a, b, xs, rfl, ha, hb, hA⟩ := Dp.forI hx
    have sm : 0 ≤ (m : Int) ∧ (m : Int) ≤ 12 := by omega
    have lm := (dig_ok sm).2
    have l4 : (": " : Str).length = 2 := by decide +kernel
    refine ⟨_, (pss_cons (ps_asg (pv 0) (pgTK K (pgs_cons (pg_name (i := 1) scForestText.nd rfl (Or.inl rfl)) (pgs_cons (pg_name (i := 2) scForestText.nd rfl (Or.inl rfl)) pgs_nil))))
    (pss_one (ps_ret (pe_op op_add_str (pe_jd (.cons (pe_fmt (pv 1)) (.cons pe_str .nil))) (pe_own oListText (hr.mono (by decide)) (by rfl) (pa_cons (pe_lc (own := [("a", 3), ("b", 4)]) (g := (gTup K 2 (gCons (gName 3) (gCons (gName 4) gNil)))) (tt := tYes) rfl scForestText.nd (piTK K (pv 2))
      (blkOk_by (own := [("a", 3), ("b", 4)]) (N := nForestText) (sc := (defScope sForestText)) (by decide +kernel))
      (fun _ _ _ _ _ => (pgTK K (pgs_cons (pg_name (i := 3) scForestText.nd rfl (Or.inl rfl)) (pgs_cons (pg_name (i := 4) scForestText.nd rfl (Or.inl rfl)) pgs_nil)))) (fun _ _ _ _ _ => pts_nil)
      (fun _ _ _ _ _ => (pe_jd (.cons (pe_fmt (pv 3)) (.cons pe_str (.cons (pe_fmt (pv 4)) .nil)))))) pa_nil)))))), ?_⟩
    refine ⟨.ref a, rfl, a, _, rfl, ha, rfl, _, _, rfl, _, _, rfl, rfl, ?_⟩
    refine ⟨.int (m : Int), rfl, .inr ⟨(m : Int), rfl, small_log sm, _, rfl, ?_, _, rfl, ?_, ?_⟩⟩
    · rw [Str.empty_append]
      exact Nat.le_trans lm (by decide)
    · rw [Str.empty_append, Str.length_append]
      exact Nat.le_trans (Nat.add_le_add lm (Nat.le_of_eq l4)) (by decide)
    refine ⟨.ref b, rfl, b, rfl, ⟨_, hb⟩, fun D nD => ?_⟩
    refine lc_tupP (K := K) (fun _ => true) (fun p => .str (wrd "-" p)) nD hb hA (fun _ _ => rfl) (fun o _ H' R s1 hR => hR H' (Same.refl _)) (fun o ho _ H' R s1 hR => ?_) (fun o => by simp [only]) (by omega) (fun H2 ys s2 eD dy => ?_)
    · have so := sp o ho
      have l1 := (dig_ok so.1).2
      have l2 := (dig_ok so.2).2
      have l3 : ("-" : Str).length = 1 := by decide +kernel
      have le : (Str.empty ++ dig o.1 ++ ("-" : Str) ++ dig o.2).length ≤ 5 := by
        rw [Str.empty_append, Str.length_append, Str.length_append]
        omega
      refine ⟨.int o.1, rfl, .inr ⟨o.1, rfl, small_log so.1, _, rfl, ?_, _, rfl, ?_, .int o.2, rfl, .inr ⟨o.2, rfl, small_log so.2, _, rfl, ?_, ?_⟩⟩⟩
      · rw [Str.empty_append]
        exact Nat.le_trans l1 (by decide)
      · rw [Str.empty_append, Str.length_append]
        exact Nat.le_trans (Nat.add_le_add l1 (Nat.le_of_eq l3)) (by decide)
      · exact Nat.le_trans le (by decide)
      · rw [Str.empty_append]
        exact hR H' _ (Same.refl _) (.str _)
    · rw [filt_true] at dy
      have ey : ys = (es.map (wrd "-")).map V.str := DpAll.strs (by rw [List.map_map]; exact dy)
      subst ey
      refine ⟨D, es.map (wrd "-"), rfl, eD, fun w hw => ?_, by rw [List.length_map]; omega, ?_⟩
      · obtain ⟨p, hp, rfl⟩ := List.mem_map.mp hw
        exact (wrd_mem sg_edge (sp p hp)).2.2
      · rw [wds_text, Str.empty_append]
        have lt := txt_len sg_edge sp
        refine ⟨_, _, rfl, rfl, ?_, q _ s2⟩
        rw [Str.length_append]
        exact Nat.le_trans (Nat.add_le_add (Nat.add_le_add lm (Nat.le_of_eq l4)) lt) (by rw [sizeLine_eq]; omega)
end
end TL
namespace TL
open PySem PySem.Spec PyProof.Rows L2
section
variable {P : Program} {w : World} {K : PySem.W.Frag} {mg : Str → Option Value} {base : Heap}
/-! ### the law's own texts -/
def spLPairsText (K : PySem.W.Frag) : Sp := fun vs H Q _ => ∃ (x : V) (g : Str) (s : Nat) (ps : List (Int × Int)), vs = [x, .str g] ∧ Sg g s ∧ Dp K H x (prsD ps) ∧ (∀ p ∈ ps, sm12 p) ∧ ps.length ≤ 500 ∧ ∀ H', Same H H' → Q (.str (txt g ps)) H'
theorem ok_LPairsText {f : Addr} {fd : FuncData} {k : Nat} (F : Fun K "_law_pairs_text" "_law_pairs_text" sLPairsText f fd) (m_str : mg "str" = none) (m_int : mg "int" = none) (m_len : mg "len" = none) :
    FnOk P w K mg base CX0 (k + 1) f fd ["_law_pairs", "_law_sign"] (spLPairsText K) := by
  refine F.ok scLPairsText (fun vs H Q E h => ?_) (fun cdv A outer s H vs Q E hr h => ?_)
  · obtain ⟨x, g, s, ps, rfl, _⟩ := h
    rfl
  · obtain ⟨x, g, sg, ps, rfl, G, hx, sp, hl, q⟩ := h
    obtain ⟨a, xs, rfl, ha, hA⟩ := Dp.tupI hx
    have xl : xs.length = ps.length := by rw [DpAll.length hA, List.length_map]
    have lg : g.length = 1 := by rw [len_tl, G.one]; rfl
    refine ⟨_, (pss_one (ps_ret (joinK K pe_str (pe_op op_cat (pe_lc (own := [("_law_one", 2), ("_law_two", 3)]) (g := (gTup K 2 (gCons (gName 2) (gCons (gName 3) gNil)))) (tt := tYes) rfl scLPairsText.nd (piTK K (pv 0))
      (blkOk_by (own := [("_law_one", 2), ("_law_two", 3)]) (N := nLPairsText) (sc := (defScope sLPairsText)) (by decide +kernel))
      (fun _ _ _ _ _ => (pgTK K (pgs_cons (pg_name (i := 2) scLPairsText.nd rfl (Or.inl rfl)) (pgs_cons (pg_name (i := 3) scLPairsText.nd rfl (Or.inl rfl)) pgs_nil)))) (fun _ _ _ _ _ => pts_nil)
      (fun _ _ _ _ _ => (pe_op op_add_str (pe_op op_add_str (pe_callTy call_str_int (by rfl) m_str (by decide +kernel) (pa_cons (pv 2) pa_nil)) (pv 1)) (pe_callTy call_str_int (by rfl) m_str (by decide +kernel) (pa_cons (pv 3) pa_nil))))) (pe_op op_rep (pe_lst (pa_cons pe_str pa_nil)) (pe_callTy call_int1 (by rfl) m_int (by decide +kernel) (pa_cons (pe_cmpR op_eq (pe_callB (lenK K) (by rfl) m_len (by decide +kernel) (pa_cons (pv 0) pa_nil)) pe_int (nomark _)) pa_nil))))))), ?_⟩
    refine ⟨⟨_, rfl⟩, .ref a, rfl, a, rfl, ⟨_, ha⟩, fun D nD => ?_⟩
    refine lc_tupP (K := K) (fun _ => true) (fun p => .str (wrd g p)) nD ha hA (fun _ _ => rfl) (fun o _ H' R s1 hR => hR H' (Same.refl _)) (fun o ho _ H' R s1 hR => ?_) (fun o => by simp [only]) (by omega) (fun H2 ys s2 eD dy => ?_)
    · have so := sp o ho
      have l1 := (dig_ok so.1).2
      have l2 := (dig_ok so.2).2
      refine ⟨.int o.1, rfl, o.1, rfl, small_log so.1, .str g, rfl, _, _, rfl, rfl, ?_, .int o.2, rfl, o.2, rfl, small_log so.2, _, _, rfl, rfl, ?_, ?_⟩
      · exact Nat.le_trans (Nat.add_le_add l1 (Nat.le_of_eq lg)) (by decide)
      · rw [Str.length_append]
        exact Nat.le_trans (Nat.add_le_add (Nat.add_le_add l1 (Nat.le_of_eq lg)) l2) (by decide)
      · exact hR H' _ (Same.refl _) (.str _)
    rw [filt_true] at dy
    have ey : ys = (ps.map (wrd g)).map V.str := DpAll.strs (by rw [List.map_map]; exact dy)
    subst ey
    refine ⟨by show 1 ≤ sizeLine; decide, fun z nz => ?_⟩
    have s3 := same_upd (o := .lst [V.str "none"]) nz
    have e3 := same_at (o := .lst [V.str "none"]) nz
    refine ⟨.ref a, rfl, a, xs, rfl, .inr (Same.tup (s2.trans s3) ha), rfl, .inr ⟨_, rfl, ?_⟩⟩
    obtain ⟨j, hj, hj1, hw⟩ : ∃ j : Nat, (if decide (V.int (xs.length : Nat) = V.int 0) = true then (1 : Int) else 0) = (j : Int) ∧ j ≤ 1 ∧ (ps.map (wrd g)).map V.str ++ (List.replicate (j : Int).toNat [V.str "none"]).flatten = (wds g ps).map V.str := by
      rw [decInt, xl]
      unfold wds
      cases ps with
      | nil => exact ⟨1, rfl, by decide, rfl⟩
      | cons p ps =>
        refine ⟨0, ?_, by decide, ?_⟩
        · rw [decide_eq_false (by rw [List.length_cons]; omega)]
          rfl
        · rw [if_neg (fun z => nomatch z)]
          simp
    rw [hj]
    refine ⟨z, _, _, rfl, rfl, e3, by omega, by omega, ?_, fun p np => ?_⟩
    · show 1 * (j : Int).toNat ≤ sizeLine
      exact Nat.le_of_lt (small1000 (by omega))
    have s4 := same_upd (o := .lst (List.replicate (j : Int).toNat [V.str "none"]).flatten) np
    have e4 := same_at (o := .lst (List.replicate (j : Int).toNat [V.str "none"]).flatten) np
    obtain ⟨w1, w2, w3⟩ := wds_ok G sp
    refine ⟨D, p, _, _, rfl, rfl, (s3.trans s4) _ _ eD, e4, ?_, fun c nc => ?_⟩
    · rw [← List.length_append, hw, List.length_map]
      exact Nat.le_of_lt (small1000 (by omega))
    rw [hw]
    have s5 := same_upd (o := .lst ((wds g ps).map V.str)) nc
    refine ⟨_, c, wds g ps, rfl, rfl, .inl (SqL.of upd_same), ?_, q _ (((s2.trans s3).trans s4).trans s5)⟩
    have h2 := sum_le fun w hw => (w2 w hw).2
    have h3 : (" " : Str).length = 1 := by decide +kernel
    rw [h3]
    omega
def spLForestText (K : PySem.W.Frag) : Sp := fun vs H Q _ => ∃ (x : V) (m : Nat) (es : List (Int × Int)), vs = [x] ∧ Dp K H x (forD m es) ∧ m ≤ 12 ∧ (∀ p ∈ es, sm12 p) ∧ es.length ≤ 500 ∧ ∀ H', Same H H' → Q (.str (ftx m es)) H'
theorem ok_LForestText {f : Addr} {fd : FuncData} (F : Fun K "_law_forest_text" "_law_forest_text" sLForestText f fd) (m_str : mg "str" = none) (oLPairsText : Own P w K mg base "_law_pairs_text" 1 ["_law_pairs", "_law_sign"] (spLPairsText K)) :
    FnOk P w K mg base CX0 2 f fd ["_law_forest_here"] (spLForestText K) := by
  refine F.ok scLForestText (fun vs H Q E h => ?_) (fun cdv A outer s H vs Q E hr h => ?_)
  · obtain ⟨x, m, es, rfl, _⟩ := h
    rfl
  · obtain ⟨x, m, es, rfl, hx, hm, sp, hl, q⟩ := h
    obtain ⟨a, b, xs, rfl, ha, hb, hA⟩ := Dp.forI hx
    have sm : 0 ≤ (m : Int) ∧ (m : Int) ≤ 12 := by omega
    have lm := (dig_ok sm).2
    have l4 : (": " : Str).length = 2 := by decide +kernel
    have lt := txt_len sg_edge sp
    refine ⟨_, (pss_one (ps_ret (pe_op op_add_str (pe_op op_add_str (pe_callTy call_str_int (by rfl) m_str (by decide +kernel) (pa_cons (pe_ix (ixTK K) (pv 0) pe_int (fun _ _ => rfl)) pa_nil)) pe_str) (pe_own oLPairsText (hr.mono (by decide)) (by rfl) (pa_cons (pe_ix (ixTK K) (pv 0) pe_int (fun _ _ => rfl)) (pa_cons pe_str pa_nil)))))), ?_⟩
    refine ⟨.ref a, rfl, a, _, 0, .int (m : Int), rfl, rfl, ha, atI_nat (j := 0) rfl, (m : Int), rfl, small_log sm, _, _, rfl, rfl, ?_, .ref a, rfl, a, _, 1, .ref b, rfl, rfl, ha, atI_nat (j := 1) rfl, .ref b, "-", 45, es, rfl, sg_edge, .tup hb hA, sp, hl, fun H1 s1 => ⟨_, _, rfl, rfl, ?_, q _ s1⟩⟩
    · exact Nat.le_trans (Nat.add_le_add lm (Nat.le_of_eq l4)) (by decide)
    · rw [Str.length_append]
      exact Nat.le_trans (Nat.add_le_add (Nat.add_le_add lm (Nat.le_of_eq l4)) lt) (by rw [sizeLine_eq]; omega)
end
end TL
namespace TL
open PySem PySem.Spec PyProof.Rows L2
section
variable {P : Program} {w : World} {K : PySem.W.Frag} {mg : Str → Option Value} {base : Heap}
/-! ### equal data, walks -/
theorem eqv_prs : ∀ es fs : List (Int × Int), PyData.eqvAll (es.map prD) (fs.map prD) = decide (es = fs)
  | [], [] => by simp [PyData.eqvAll]
  | [], _ :: _ => by simp [PyData.eqvAll]
  | _ :: _, [] => by simp [PyData.eqvAll]
  | e :: es, f :: fs => by
    have ih := eqv_prs es fs
    rw [List.map_cons, List.map_cons]
    simp only [PyData.eqvAll, eqv_pr, ih]
    by_cases h1 : e = f
    · by_cases h2 : es = fs
      · subst h1 h2; simp
      · simp [h1, h2]
    · simp [h1]
theorem eqv_prsD (es fs : List (Int × Int)) : PyData.eqv (prsD es) (prsD fs) = decide (es = fs) := by
  unfold prsD
  simp only [PyData.eqv, eqv_prs]
theorem eqv_forD (m n : Nat) (es fs : List (Int × Int)) : PyData.eqv (forD m es) (forD n fs) = decide (m = n ∧ es = fs) := by
  have e := eqv_prsD es fs
  unfold forD
  simp only [PyData.eqv, PyData.eqvAll] at e ⊢
  rw [Bool.eq_iff_iff]
  simp [e]
  omega
theorem for_enumL {K : PySem.W.Frag} {a : Addr} {xs : List V} {g : TG} {tb : TS} {D : Ends} {σ : L2.St} {H : Hp} (Pv : Nat → L2.St → Hp → Prop) (h0 : Pv 0 σ H) (hl : ∀ i σ H, Pv i σ H → SqL K H a xs)
    (hs : ∀ i x T σ H, xs[i]? = some x → H T = none → Pv i σ H →
      g (.ref T) σ (upd H T (.tup [.int (i : Nat), x])) fun σ2 H2 => tb { D with nx := Pv (i + 1), ct := Pv (i + 1), bk := D.nx } σ2 H2)
    (hd : ∀ σ H, Pv xs.length σ H → D.nx σ H) :
    ∃ W : Nat → Nat → L2.St → Hp → Prop, (∃ m, W 0 m σ H) ∧ ∀ i m σ H, W i m σ H →
      ((Ite K a).stop i H ∧ D.nx σ H) ∨ ((Ite K a).go i H ∧ ∃ N : L2.St → Hp → Prop, (∀ σ' H', N σ' H' → ∃ m', m' < m ∧ W (i + 1) m' σ' H') ∧
        ∀ v H', (Ite K a).yld i H v H' → g v σ H' fun σ2 H2 => tb { D with nx := N, ct := N, bk := D.nx } σ2 H2) := by
  refine ⟨fun i m σ H => m = xs.length - i ∧ i ≤ xs.length ∧ Pv i σ H, ⟨xs.length, rfl, Nat.zero_le _, h0⟩, fun i m σ H hW => ?_⟩
  obtain ⟨em, hi, p⟩ := hW
  by_cases hlt : i < xs.length
  · refine .inr ⟨⟨xs, _, hl i σ H p, List.getElem?_eq_getElem hlt⟩, Pv (i + 1), fun σ' H' p' => ⟨xs.length - (i + 1), by omega, rfl, hlt, p'⟩, fun v H' y => ?_⟩
    obtain ⟨T, x, rfl, nT, rfl, hx⟩ := y
    exact hs i x T σ H (hx _ (hl i σ H p)) nT p
  · obtain rfl : i = xs.length := by omega
    exact .inl ⟨⟨xs, hl _ σ H p, Nat.le_refl _⟩, hd σ H p⟩
abbrev Fo := Nat × List (Int × Int)
def fD (q : Fo) : PyData := forD q.1 q.2
def PF (q : Fo) : Prop := q.1 ≤ 12 ∧ IsFor q.1 q.2
theorem PF.sm {q : Fo} (h : PF q) : ∀ p ∈ q.2, sm12 p := fun p hp => by
  have := h.2.rng p hp
  have := h.1
  unfold sm12
  omega
theorem PF.len {q : Fo} (h : PF q) : q.2.length ≤ 500 := by
  have := h.2.count
  have := h.1
  omega
def fT (q : Fo) : Str := ftx q.1 q.2
theorem fT_eq {q r : Fo} (h : PF q) (k : PF r) : decide (V.str (fT q) = V.str (fT r)) = PyData.eqv (fD q) (fD r) := by
  unfold fD
  rw [eqv_forD, Bool.eq_iff_iff, decide_eq_true_iff, decide_eq_true_iff]
  constructor
  · intro e
    obtain ⟨e1, e2⟩ := ftx_inj (by have := h.1; omega) (by have := k.1; omega) h.sm k.sm (V.str.inj e)
    exact ⟨by omega, e2⟩
  · rintro ⟨e1, e2⟩
    unfold fT
    rw [e1, e2]
def PR2 (ps : List (Int × Int)) : Prop := (∀ p ∈ ps, sm12 p) ∧ ps.length ≤ 120
theorem rT_eq {ps qs : List (Int × Int)} (h : PR2 ps) (k : PR2 qs) : decide (V.str (txt ">" ps) = V.str (txt ">" qs)) = PyData.eqv (prsD ps) (prsD qs) := by
  rw [eqv_prsD, Bool.eq_iff_iff, decide_eq_true_iff, decide_eq_true_iff]
  exact ⟨fun e => txt_inj sg_slide h.1 k.1 (V.str.inj e), fun e => by rw [e]⟩
theorem onlyAll_fD : ∀ qs : List Fo, onlyAll (qs.map fD) = true
  | [] => rfl
  | q :: qs => by
    rw [List.map_cons]
    unfold onlyAll
    rw [show only (fD q) = true from only_forD _ _, onlyAll_fD qs]
    rfl
theorem onlyAll_prs : ∀ rs : List (List (Int × Int)), onlyAll (rs.map prsD) = true
  | [] => rfl
  | r :: rs => by
    rw [List.map_cons]
    unfold onlyAll
    rw [only_prsD, onlyAll_prs rs]
    rfl
end
end TL
namespace TL
open PySem PySem.Spec PyProof.Rows L2
section
variable {P : Program} {w : World} {K : PySem.W.Frag} {mg : Str → Option Value} {base : Heap}
/-! ### more about data -/
theorem catD {H : Hp} {x y : V} {ds es : List PyData} {Q : VK} (hx : Dp K H x (.tuple ds)) (hy : Dp K H y (.tuple es)) (hl : ds.length + es.length ≤ 1000)
    (q : ∀ H' z, Same H H' → Dp K H' z (.tuple (ds ++ es)) → Q z H') : rCatA K x y H Q := by
  obtain ⟨a, xs, rfl, h1, a1⟩ := Dp.tupI hx
  obtain ⟨b, ys, rfl, h2, a2⟩ := Dp.tupI hy
  have l1 := DpAll.length a1
  have l2 := DpAll.length a2
  refine ⟨a, b, xs, ys, rfl, rfl, h1, h2, Nat.le_of_lt (small1000 (by omega)), fun e => ?_, fun _ e => ?_, fun _ _ p np => ?_⟩
  · subst e
    cases a1
    exact q H _ (Same.refl H) hy
  · subst e
    cases a2
    rw [List.append_nil] at q
    exact q H _ (Same.refl H) hx
  · have st := same_upd (o := .tup (xs ++ ys)) np
    exact q _ _ st (.tup (SqT.of upd_same) (DpAll.same st (DpAll.append a1 a2)))
theorem shaped_prs (ps : List (Int × Int)) : SeqAt.shaped (prsD ps) = true := by
  have h : (prsD ps).depth ≤ 64 := by
    have : ∀ l : List (Int × Int), PyData.depthAll (l.map prD) ≤ 1 := by
      intro l
      induction l with
      | nil => simp [PyData.depthAll]
      | cons p l ih =>
        simp only [List.map_cons, PyData.depthAll]
        exact Nat.max_le.mpr ⟨by simp [prD, PyData.depth, PyData.depthAll], ih⟩
    have := this ps
    simp only [prsD, PyData.depth]
    omega
  unfold SeqAt.shaped
  rw [decide_eq_true h, Bool.and_true]
  simp only [prsD, PyData.canLay0]
  exact lay_prs ps
theorem atI_two {xs : List V} {v : V} {n : Nat} (hn : xs.length = n + 2) (h : xs[n]? = some v) : atI xs (-2) = some v := by
  unfold atI ixN
  rw [if_neg (by decide), if_pos (by omega)]
  have e : ((-2 : Int) + (xs.length : Int)).toNat = n := by omega
  rw [e]
  exact h
theorem lay_bools : ∀ ns : List Bool, PyData.canLayAll0 (ns.map PyData.bool) = true
  | [] => by simp [PyData.canLayAll0]
  | n :: ns => by simp [PyData.canLayAll0, PyData.canLay0, lay_bools ns]
theorem dep_bools : ∀ ns : List Bool, PyData.depthAll (ns.map PyData.bool) = 0
  | [] => by simp [PyData.depthAll]
  | n :: ns => by simp [PyData.depthAll, PyData.depth, dep_bools ns]
theorem shaped_bools {α : Type} (g : α → Bool) (ns : List α) : SeqAt.shaped (.list (ns.map fun a => PyData.bool (g a))) = true := by
  have e : (ns.map fun a => PyData.bool (g a)) = (ns.map g).map PyData.bool := by rw [List.map_map]; rfl
  rw [e]
  unfold SeqAt.shaped
  simp only [PyData.canLay0, PyData.depth, lay_bools, dep_bools]
  decide
theorem DpAll.texts {K : PySem.W.Frag} {H : Hp} {α : Type} (g : α → Str) : ∀ qs : List α, DpAll K H (qs.map fun q => V.str (g q)) (qs.map fun q => PyData.str (g q))
  | [] => .nil
  | _ :: qs => .cons (.str _) (DpAll.texts g qs)
/-! ### the law -/
def spLaw (K : PySem.W.Frag) : Sp := fun vs H Q _ => ∃ (a : Addr) (ns : List Int), vs = [.ref a] ∧ SqL K H a (ns.map V.int) ∧ ns.length ≤ 63 ∧ ∀ H', Q (.bl true) H'
theorem ok_Law {f : Addr} {fd : FuncData} (F : Fun K "law" "law" sLaw f fd) (m_range : mg "range" = none) (m_tuple : mg "tuple" = none) (m_repr : mg "repr" = none) (m_isinstance : mg "isinstance" = none) (m_str : mg "str" = none) (m_enumerate : mg "enumerate" = none)
    (oLDeck : Own P w K mg base "_law_deck" 1 ["_law_script"] (spLDeck K)) (oLDraw : Own P w K mg base "_law_draw" 1 ["_law_deck_here", "_law_many"] spLDraw) (oLForest : Own P w K mg base "_law_forest" 2 ["_law_deck_here", "_law_most"] (spLForest K))
    (oLPairsText : Own P w K mg base "_law_pairs_text" 1 ["_law_pairs", "_law_sign"] (spLPairsText K)) (oLForestText : Own P w K mg base "_law_forest_text" 2 ["_law_forest_here"] (spLForestText K))
    (oForestText : Own P w K mg base "forest_text" 2 ["forest"] (spForestText K)) (oSlidesText : Own P w K mg base "slides_text" 2 ["slides"] (spSlidesText K)) :
    FnG P w K mg base 3 f fd ["_law_script"] (spLaw K) := by
  refine okG F scLaw (fun vs H Q E h => ?_) (fun cdv A outer s H vs Q E hr gd h => ?_)
  · obtain ⟨a, ns, rfl, _⟩ := h
    rfl
  · obtain ⟨a, ns, rfl, hS, hlen, q⟩ := h
    refine ⟨_, (pss_cons (ps_set (i := 1) scLaw.nd rfl (.inr rfl) (pe_own oLDeck (hr.mono (by decide)) (by rfl) (pa_cons (pv 0) pa_nil)))
    (pss_cons (ps_set (i := 2) scLaw.nd rfl (.inr rfl) (pe_lst (pa_cons (pe_tup (pa_cons pe_int (pa_cons (pe_tup pa_nil) pa_nil))) (pa_cons (pe_tup (pa_cons pe_int (pa_cons (pe_tup pa_nil) pa_nil))) (pa_cons (pe_tup (pa_cons pe_int (pa_cons (pe_tup pa_nil) pa_nil))) (pa_cons (pe_tup (pa_cons pe_int (pa_cons (pe_callTy (tupleK K) (by rfl) m_tuple (by decide +kernel) (pa_cons (pe_lc (own := [("_law_k", 11)]) (g := (gName 11)) (tt := tYes) rfl scLaw.nd (pi_range1 (by rfl) m_range (pa_cons pe_int pa_nil))
      (blkOk_by (own := [("_law_k", 11)]) (N := nLaw) (sc := (defScope sLaw)) (by decide +kernel))
      (fun _ _ _ _ _ => (pg_name (i := 11) scLaw.nd rfl (Or.inl rfl))) (fun _ _ _ _ _ => pts_nil)
      (fun _ _ _ _ _ => (pe_tup (pa_cons (pv 11) (pa_cons (pe_op op_add (pv 11) pe_int) pa_nil))))) pa_nil)) pa_nil))) pa_nil))))))
    (pss_cons (ps_set (i := 2) scLaw.nd rfl (.inr rfl) (pe_op op_cat (pv 2) (pe_lc (own := [("_law_k", 11)]) (g := (gName 11)) (tt := tYes) rfl scLaw.nd (pi_range1 (by rfl) m_range (pa_cons pe_int pa_nil))
      (blkOk_by (own := [("_law_k", 11)]) (N := nLaw) (sc := (defScope sLaw)) (by decide +kernel))
      (fun _ _ _ _ _ => (pg_name (i := 11) scLaw.nd rfl (Or.inl rfl))) (fun _ _ _ _ _ => pts_nil)
      (fun _ _ _ _ _ => (pe_own oLForest (hr.mono (by decide)) (by rfl) (pa_cons (pv 1) (pa_cons pe_int pa_nil)))))))
    (pss_cons (ps_set (i := 3) scLaw.nd rfl (.inl rfl) (pe_lst pa_nil))
    (pss_cons (ps_for PassesOwn.never rfl (piLK K (pv 2)) (pg_name (i := 4) scLaw.nd rfl (Or.inl rfl))
    (pss_cons (ps_set (i := 5) scLaw.nd rfl (.inl rfl) (pe_callB (reprK K gd hr.units) (by rfl) m_repr (by decide +kernel) (pa_cons (pv 4) pa_nil)))
    (pss_cons (ps_set (i := 6) scLaw.nd rfl (.inr rfl) (pe_own oForestText (hr.mono (by decide)) (by rfl) (pa_cons (pv 4) pa_nil)))
    (pss_cons (ps_if (PW.pt (pw_or (pt_not (pt_val (pe_callB (isiK K) (by rfl) m_isinstance (by decide +kernel) (pa_cons (pv 6) (pa_cons (pe_bltn (v := .ty "str") (by rfl) m_str (by decide +kernel) rfl) pa_nil))))) (pw_or (pt_cmpR op_ne (pv 6) (pe_own oLForestText (hr.mono (by decide)) (by rfl) (pa_cons (pv 4) pa_nil)) (nomark _)) (pw_or1 (pt_cmpR op_ne (pe_own oForestText (hr.mono (by decide)) (by rfl) (pa_cons (pv 4) pa_nil)) (pv 6) (nomark _)))))) (pss_one (ps_ret pe_bl)) pss_nil)
    (pss_cons (ps_if (pt_cmpR op_ne (pe_callB (reprK K gd hr.units) (by rfl) m_repr (by decide +kernel) (pa_cons (pv 4) pa_nil)) (pv 5) (nomark _)) (pss_one (ps_ret pe_bl)) pss_nil)
    (pss_one (ps_expr (bmK K PySem.F.plainAttrs_list PySem.F.slot_list_append PySem.F.type_list_append mt_append (pv 3) (pa_cons (pv 6) pa_nil)))))))))
    (pss_cons (ps_set (i := 7) scLaw.nd rfl (.inr rfl) (pe_lst (pa_cons (pe_tup pa_nil) (pa_cons (pe_tup (pa_cons (pe_tup (pa_cons pe_int (pa_cons pe_int pa_nil))) pa_nil)) (pa_cons (pe_tup (pa_cons (pe_tup (pa_cons pe_int (pa_cons pe_int pa_nil))) (pa_cons (pe_tup (pa_cons pe_int (pa_cons pe_int pa_nil))) pa_nil))) pa_nil)))))
    (pss_cons (ps_for PassesOwn.never rfl (piLK K (pe_lst (pa_cons pe_int (pa_cons pe_int (pa_cons pe_int (pa_cons pe_int pa_nil)))))) (pg_name (i := 8) scLaw.nd rfl (Or.inl rfl))
    (pss_one (ps_expr (bmK K PySem.F.plainAttrs_list PySem.F.slot_list_append PySem.F.type_list_append mt_append (pv 7) (pa_cons (pe_callTy (tupleK K) (by rfl) m_tuple (by decide +kernel) (pa_cons (pe_lc (own := [("_law_k", 11)]) (g := (gName 11)) (tt := tYes) rfl scLaw.nd (pi_range1 (by rfl) m_range (pa_cons (pv 8) pa_nil))
      (blkOk_by (own := [("_law_k", 11)]) (N := nLaw) (sc := (defScope sLaw)) (by decide +kernel))
      (fun _ _ _ _ _ => (pg_name (i := 11) scLaw.nd rfl (Or.inl rfl))) (fun _ _ _ _ _ => pts_nil)
      (fun _ _ _ _ _ => (pe_tup (pa_cons (pe_own oLDraw (hr.mono (by decide)) (by rfl) (pa_cons (pv 1) (pa_cons pe_int pa_nil))) (pa_cons (pe_own oLDraw (hr.mono (by decide)) (by rfl) (pa_cons (pv 1) (pa_cons pe_int pa_nil))) pa_nil))))) pa_nil)) pa_nil)))))
    (pss_cons (ps_expr (bmK K PySem.F.plainAttrs_list PySem.F.slot_list_append PySem.F.type_list_append mt_append (pv 7) (pa_cons (pe_op (catAK K) (pe_ix (ixLK K) (pv 7) (pe_un un_neg pe_int) (fun _ _ => rfl)) (revTK K (pe_ix (ixLK K) (pv 7) (pe_un un_neg pe_int) (fun _ _ => rfl)))) pa_nil)))
    (pss_cons (ps_set (i := 9) scLaw.nd rfl (.inl rfl) (pe_lst pa_nil))
    (pss_cons (ps_for PassesOwn.never rfl (piLK K (pv 7)) (pg_name (i := 10) scLaw.nd rfl (Or.inl rfl))
    (pss_cons (ps_set (i := 5) scLaw.nd rfl (.inl rfl) (pe_callB (reprK K gd hr.units) (by rfl) m_repr (by decide +kernel) (pa_cons (pv 10) pa_nil)))
    (pss_cons (ps_set (i := 6) scLaw.nd rfl (.inr rfl) (pe_own oSlidesText (hr.mono (by decide)) (by rfl) (pa_cons (pv 10) pa_nil)))
    (pss_cons (ps_if (PW.pt (pw_or (pt_not (pt_val (pe_callB (isiK K) (by rfl) m_isinstance (by decide +kernel) (pa_cons (pv 6) (pa_cons (pe_bltn (v := .ty "str") (by rfl) m_str (by decide +kernel) rfl) pa_nil))))) (pw_or (pt_cmpR op_ne (pv 6) (pe_own oLPairsText (hr.mono (by decide)) (by rfl) (pa_cons (pv 10) (pa_cons pe_str pa_nil))) (nomark _)) (pw_or1 (pt_cmpR op_ne (pe_own oSlidesText (hr.mono (by decide)) (by rfl) (pa_cons (pv 10) pa_nil)) (pv 6) (nomark _)))))) (pss_one (ps_ret pe_bl)) pss_nil)
    (pss_cons (ps_if (pt_cmpR op_ne (pe_callB (reprK K gd hr.units) (by rfl) m_repr (by decide +kernel) (pa_cons (pv 10) pa_nil)) (pv 5) (nomark _)) (pss_one (ps_ret pe_bl)) pss_nil)
    (pss_one (ps_expr (bmK K PySem.F.plainAttrs_list PySem.F.slot_list_append PySem.F.type_list_append mt_append (pv 9) (pa_cons (pv 6) pa_nil)))))))))
    (pss_cons (ps_for PassesOwn.never rfl (pi_enum (by rfl) m_enumerate (pa_cons (pv 3) pa_nil)) (pgTK K (pgs_cons (pg_name (i := 11) scLaw.nd rfl (Or.inr rfl)) (pgs_cons (pg_name (i := 6) scLaw.nd rfl (Or.inr rfl)) pgs_nil)))
    (pss_one (ps_if (pt_cmpR (neDK K hr.units) (pe_lc (own := [("_law_other", 12)]) (g := (gName 12)) (tt := tYes) rfl scLaw.nd (piLK K (pv 3))
      (blkOk_by (own := [("_law_other", 12)]) (N := nLaw) (sc := (defScope sLaw)) (by decide +kernel))
      (fun _ _ _ _ _ => (pg_name (i := 12) scLaw.nd rfl (Or.inl rfl))) (fun _ _ _ _ _ => pts_nil)
      (fun _ _ _ _ _ => (pe_cmpR op_eq (pv 6) (pv 12) (nomark _)))) (pe_lc (own := [("_law_other", 12)]) (g := (gName 12)) (tt := tYes) rfl scLaw.nd (piLK K (pv 2))
      (blkOk_by (own := [("_law_other", 12)]) (N := nLaw) (sc := (defScope sLaw)) (by decide +kernel))
      (fun _ _ _ _ _ => (pg_name (i := 12) scLaw.nd rfl (Or.inl rfl))) (fun _ _ _ _ _ => pts_nil)
      (fun _ _ _ _ _ => (pe_cmpR (eqDK K hr.units) (pe_ix (ixLK K) (pv 2) (pv 11) (fun _ _ => rfl)) (pv 12) (nomark _)))) (nomark _)) (pss_one (ps_ret pe_bl)) pss_nil)))
    (pss_cons (ps_for PassesOwn.never rfl (pi_enum (by rfl) m_enumerate (pa_cons (pv 9) pa_nil)) (pgTK K (pgs_cons (pg_name (i := 11) scLaw.nd rfl (Or.inr rfl)) (pgs_cons (pg_name (i := 6) scLaw.nd rfl (Or.inr rfl)) pgs_nil)))
    (pss_one (ps_if (pt_cmpR (neDK K hr.units) (pe_lc (own := [("_law_other", 12)]) (g := (gName 12)) (tt := tYes) rfl scLaw.nd (piLK K (pv 9))
      (blkOk_by (own := [("_law_other", 12)]) (N := nLaw) (sc := (defScope sLaw)) (by decide +kernel))
      (fun _ _ _ _ _ => (pg_name (i := 12) scLaw.nd rfl (Or.inl rfl))) (fun _ _ _ _ _ => pts_nil)
      (fun _ _ _ _ _ => (pe_cmpR op_eq (pv 6) (pv 12) (nomark _)))) (pe_lc (own := [("_law_other", 12)]) (g := (gName 12)) (tt := tYes) rfl scLaw.nd (piLK K (pv 7))
      (blkOk_by (own := [("_law_other", 12)]) (N := nLaw) (sc := (defScope sLaw)) (by decide +kernel))
      (fun _ _ _ _ _ => (pg_name (i := 12) scLaw.nd rfl (Or.inl rfl))) (fun _ _ _ _ _ => pts_nil)
      (fun _ _ _ _ _ => (pe_cmpR (eqDK K hr.units) (pe_ix (ixLK K) (pv 7) (pv 11) (fun _ _ => rfl)) (pv 12) (nomark _)))) (nomark _)) (pss_one (ps_ret pe_bl)) pss_nil)))
    (pss_one (ps_ret pe_bl)))))))))))))), ?_⟩
    refine ⟨.ref a, rfl, a, ns, rfl, hS, hlen, fun J0 d l s1 d1 => ?_⟩
    -- forests
    refine ⟨Nat.zero_le _, fun a1 m1 => ?_⟩
    have sa1 := same_upd (o := .tup []) m1
    have ea1 := same_at (o := .tup []) m1
    generalize upd J0 a1 (.tup []) = J1 at sa1 ea1 ⊢
    refine ⟨by show 2 ≤ sizeLine; decide, fun a2 m2 => ?_⟩
    have sa2 := same_upd (o := .tup [V.int 0, V.ref a1]) m2
    have ea2 := same_at (o := .tup [V.int 0, V.ref a1]) m2
    generalize upd J1 a2 (.tup [V.int 0, V.ref a1]) = J2 at sa2 ea2 ⊢
    refine ⟨Nat.zero_le _, fun a3 m3 => ?_⟩
    have sa3 := same_upd (o := .tup []) m3
    have ea3 := same_at (o := .tup []) m3
    generalize upd J2 a3 (.tup []) = J3 at sa3 ea3 ⊢
    refine ⟨by show 2 ≤ sizeLine; decide, fun a4 m4 => ?_⟩
    have sa4 := same_upd (o := .tup [V.int 1, V.ref a3]) m4
    have ea4 := same_at (o := .tup [V.int 1, V.ref a3]) m4
    generalize upd J3 a4 (.tup [V.int 1, V.ref a3]) = J4 at sa4 ea4 ⊢
    refine ⟨Nat.zero_le _, fun a5 m5 => ?_⟩
    have sa5 := same_upd (o := .tup []) m5
    have ea5 := same_at (o := .tup []) m5
    generalize upd J4 a5 (.tup []) = J5 at sa5 ea5 ⊢
    refine ⟨by show 2 ≤ sizeLine; decide, fun a6 m6 => ?_⟩
    have sa6 := same_upd (o := .tup [V.int 12, V.ref a5]) m6
    have ea6 := same_at (o := .tup [V.int 12, V.ref a5]) m6
    generalize upd J5 a6 (.tup [V.int 12, V.ref a5]) = J6 at sa6 ea6 ⊢
    refine ⟨11, rfl, by decide, by decide, fun D nD => ?_⟩
    refine lc_rng (K := K) (m := 11) (fun _ => true) (fun k => prD (k, k + 1)) nD (fun _ => rfl) (fun o _ H' R s1 hR => hR H' (Same.refl _)) (fun o ho _ H' R s1 hR => ?_) (fun o => only_pr _) (by decide) (fun J7 ys s7 eD dy => ?_)
    · exact ⟨.int o, rfl, .int o, rfl, _, _, rfl, rfl, by show 2 ≤ sizeLine; decide, fun t nt => hR _ _ (same_upd nt) (Dp.pr (SqT.of upd_same))⟩
    rw [filt_true] at dy
    refine ⟨D, _, rfl, .inl ⟨SqL.of eD, fun a8 m8 => ?_⟩⟩
    have sa8 := same_upd (o := .tup ys) m8
    have ea8 := same_at (o := .tup ys) m8
    generalize upd J7 a8 (.tup ys) = J8 at sa8 ea8 ⊢
    refine ⟨by show 2 ≤ sizeLine; decide, fun a9 m9 => ?_⟩
    have sa9 := same_upd (o := .tup [V.int 12, V.ref a8]) m9
    have ea9 := same_at (o := .tup [V.int 12, V.ref a8]) m9
    generalize upd J8 a9 (.tup [V.int 12, V.ref a8]) = J9 at sa9 ea9 ⊢
    refine ⟨by show 4 ≤ sizeLine; decide, fun L0 n0 => ?_⟩
    have sL0 := same_upd (o := .lst [V.ref a2, V.ref a4, V.ref a6, V.ref a9]) n0
    have eL0 := same_at (o := .lst [V.ref a2, V.ref a4, V.ref a6, V.ref a9]) n0
    have s8L := sa9.trans sL0
    have s7L := sa8.trans s8L
    have s6L := s7.trans s7L
    have s5L := sa6.trans s6L
    have s4L := sa5.trans s5L
    have s3L := sa4.trans s4L
    have s2L := sa3.trans s3L
    have s1L := sa2.trans s2L
    have s0L := sa1.trans s1L
    have d2 := d1.same ((sa1.trans sa2).trans (((sa3.trans sa4).trans ((sa5.trans sa6).trans s7)).trans (sa8.trans sa9)))
    have offL0 := d2.off n0
    have d3 := d2.same sL0
    have dF0 : DpAll K (upd J9 L0 (.lst [V.ref a2, V.ref a4, V.ref a6, V.ref a9])) [V.ref a2, V.ref a4, V.ref a6, V.ref a9] ([((0 : Nat), ([] : List (Int × Int))), (1, []), (12, []), (12, pathE)].map fD) :=
      .cons (.tup (SqT.of (s2L _ _ ea2)) (.cons (.int 0) (.cons (.tup (SqT.of (s1L _ _ ea1)) .nil) .nil)))
        (.cons (.tup (SqT.of (s4L _ _ ea4)) (.cons (.int 1) (.cons (.tup (SqT.of (s3L _ _ ea3)) .nil) .nil)))
          (.cons (.tup (SqT.of (s6L _ _ ea6)) (.cons (.int 12) (.cons (.tup (SqT.of (s5L _ _ ea5)) .nil) .nil)))
            (.cons (.tup (SqT.of (sL0 _ _ ea9)) (.cons (.int 12) (.cons (.tup (SqT.of (s8L _ _ ea8)) (by
              have : DpAll K (upd J9 L0 (.lst [V.ref a2, V.ref a4, V.ref a6, V.ref a9])) ys (((rng 11).map fun k => (k, k + 1)).map prD) := by
                rw [List.map_map]
                exact DpAll.same s7L dy
              exact this)) .nil))) .nil)))
    have pF0 : ∀ q ∈ [((0 : Nat), ([] : List (Int × Int))), (1, []), (12, []), (12, pathE)], PF q := by
      intro q hq
      rcases List.mem_cons.mp hq with rfl | hq
      · exact ⟨by decide, isFor_nil 0⟩
      rcases List.mem_cons.mp hq with rfl | hq
      · exact ⟨by decide, isFor_nil 1⟩
      rcases List.mem_cons.mp hq with rfl | hq
      · exact ⟨by decide, isFor_nil 12⟩
      · rw [List.mem_singleton.mp hq]
        exact ⟨Nat.le_refl _, isFor_path⟩
    generalize hq0 : [((0 : Nat), ([] : List (Int × Int))), (1, []), (12, []), (12, pathE)] = q0 at dF0 pF0
    have lq0 : q0.length = 4 := by rw [← hq0]; rfl
    generalize upd J9 L0 (.lst [V.ref a2, V.ref a4, V.ref a6, V.ref a9]) = H1 at eL0 d3 dF0 ⊢
    -- drawn ones
    refine ⟨.ref L0, rfl, 6, rfl, by decide, by decide, fun D2 nD2 => ?_⟩
    have offD2 := d3.off nD2
    have sD2 := same_upd (o := .lst []) nD2
    refine lc_range (lo := 0) (n := 6) (fun j H' => ∃ (ys : List V) (qs : List Fo), Fm d l H1 H' ∧ Deck H' d l (60 * j) ∧ H' D2 = some (.lst ys) ∧ DpAll K H' ys (qs.map fD) ∧ (∀ q ∈ qs, PF q) ∧ qs.length = j) ?_ ?_ ?_
    · exact ⟨[], [], Same.fm sD2, d3.same sD2, upd_same, .nil, (fun _ h => nomatch h), rfl⟩
    · rintro j H' hj ⟨ys, qs, g1, w1, eD, dq, pq, lq⟩
      refine ⟨rfl, yesI (iteT ?_)⟩
      refine ⟨.ref d, rfl, d, l, _, 12, rfl, Nat.le_refl _, w1, by omega, fun H'' x m es g2 w2 hm isf hx => ?_⟩
      have eD' := g2 _ _ offD2.1 offD2.2 eD
      have ly : ys.length = qs.length := by rw [DpAll.length dq, List.length_map]
      have kt : KT K H'' (upd H'' D2 (.lst (ys ++ [x]))) := kt_lst eD'
      refine ⟨ys, eD', small1000 (by omega), ys ++ [x], qs ++ [(m, es)], (g1.trans g2).put1 nD2, (w2.put offD2.1 offD2.2).le (by omega), upd_same, ?_, fun q hq => ?_, by rw [List.length_append, lq]; rfl⟩
      · rw [List.map_append]
        exact DpAll.append (DpAll.kt kt (DpAll.kt (g2.kt w1) dq (onlyAll_fD _)) (onlyAll_fD _)) (.cons (Dp.kt kt hx (only_forD _ _)) .nil)
      · rcases List.mem_append.mp hq with hq | hq
        · exact pq q hq
        · rw [List.mem_singleton.mp hq]
          exact ⟨hm, isf⟩
    rintro H2 ⟨ys2, qs2, g2, w2, eD2, dq2, pq2, lq2⟩
    have ly2 : ys2.length = 6 := by rw [DpAll.length dq2, List.length_map, lq2]
    refine ⟨L0, D2, _, _, rfl, rfl, g2 _ _ offL0.1 offL0.2 eL0, eD2, Nat.le_of_lt (small1000 (by show 4 + ys2.length ≤ 1000; omega)), fun L n1 => ?_⟩
    have sL := same_upd (o := .lst ([V.ref a2, V.ref a4, V.ref a6, V.ref a9] ++ ys2)) n1
    have eL := same_at (o := .lst ([V.ref a2, V.ref a4, V.ref a6, V.ref a9] ++ ys2)) n1
    have offL := w2.off n1
    have dF : DpAll K (upd H2 L (.lst ([V.ref a2, V.ref a4, V.ref a6, V.ref a9] ++ ys2))) ([V.ref a2, V.ref a4, V.ref a6, V.ref a9] ++ ys2) ((q0 ++ qs2).map fD) := by
      rw [List.map_append]
      exact DpAll.same sL (DpAll.append (DpAll.kt (g2.kt d3) dF0 (onlyAll_fD _)) dq2)
    have pF : ∀ q ∈ q0 ++ qs2, PF q := fun q hq => (List.mem_append.mp hq).elim (pF0 q) (pq2 q)
    have w3 := w2.same sL
    have lq : (q0 ++ qs2).length = 10 := by rw [List.length_append, lq0, lq2]
    generalize q0 ++ qs2 = qF at dF pF lq
    generalize [V.ref a2, V.ref a4, V.ref a6, V.ref a9] ++ ys2 = xF at eL dF w3 ⊢
    generalize upd H2 L (.lst xF) = H3 at eL dF w3 ⊢
    have lF : xF.length = qF.length := by rw [DpAll.length dF, List.length_map]
    clear sL sL0 s0L s1L s2L s3L s4L s5L s6L s7L s8L dy sa9 sa8 s7 sa6 sa5 sa4 sa3 sa2 sa1 ea1 ea2 ea3 ea4 ea5 ea6 ea8 ea9 eD dF0 pF0 lq0 hq0 eL0 d3 nD2 sD2 g2 w2 eD2 dq2 pq2 lq2 ly2 n1 d2 d1 s1 n0 m9 m8 nD m6 m5 m4 m3 m2 m1
    -- texts
    refine ⟨Nat.zero_le _, fun T nT => ?_⟩
    have offT := w3.off nT
    have sT := same_upd (o := .lst []) nT
    have eT := same_at (o := .lst []) nT
    have LT : L ≠ T := ne_of_none eL nT
    have eL4 := sT _ _ eL
    have w4 := w3.same sT
    have dF4 := DpAll.same sT dF
    generalize upd H3 T (.lst []) = H4 at eT eL4 w4 dF4 ⊢
    refine ⟨.ref L, rfl, L, rfl, ⟨_, SqL.of eL4⟩, for_list (K := K) (a := L) (xs := xF) (fun j σ H' => ∃ (y4 y5 y6 : Option V), σ = [some (.ref a), some (.ref d), some (.ref L), some (.ref T), y4, y5, y6, none, none, none, none, none, none] ∧ KT K H4 H' ∧ Deck H' d l (60 * 6) ∧ H' L = some (.lst xF) ∧ H' T = some (.lst ((qF.take j).map fun q => V.str (fT q)))) ?_ ?_ ?_ ?_⟩
    · exact ⟨_, _, _, rfl, KT.refl, w4, eL4, eT⟩
    · rintro j σ H' _ ⟨_, _, _, rfl, _, _, e, _⟩
      exact SqL.of e
    · rintro j v σ H' hv ⟨y4, y5, y6, rfl, kt, w5, e1, e2⟩
      obtain ⟨z, hz, dz⟩ := DpAll.get (DpAll.kt kt dF4 (onlyAll_fD _)) hv
      rw [List.getElem?_map] at hz
      obtain ⟨qq, hqq, rfl⟩ := Option.map_eq_some_iff.mp hz
      have pq := pF _ (List.mem_of_getElem? hqq)
      have sh : Shows (fD qq) := (pq.2.shows pq.1).shows (by decide) (by decide)
      refine ⟨v, rfl, v, fD qq, rfl, dz, sh, v, rfl, v, qq.1, qq.2, rfl, dz, pq.1, pq.sm, pq.len, fun K1 t1 => ?_⟩
      have dz1 := Dp.same t1 dz
      refine ⟨.str _, rfl, _, _, _, _, true, rfl, .ty "str", .base (.str _), kit_ty (by decide +kernel), true, rfl, iteF ?_⟩
      refine ⟨.str _, rfl, v, rfl, v, qq.1, qq.2, rfl, dz1, pq.1, pq.sm, pq.len, fun K2 t2 => ⟨rfl, _, rfl, ?_⟩⟩
      rw [decide_eq_true rfl]
      refine iteF ⟨v, rfl, v, qq.1, qq.2, rfl, Dp.same t2 dz1, pq.1, pq.sm, pq.len, fun K3 t3 => ⟨.str _, rfl, rfl, _, rfl, ?_⟩⟩
      rw [decide_eq_true rfl]
      have t4 := (t1.trans t2).trans t3
      refine iteF ⟨v, rfl, v, fD qq, rfl, Dp.same t4 dz, sh, .str _, rfl, rfl, _, rfl, ?_⟩
      rw [decide_eq_true rfl]
      refine iteF ?_
      have eT3 := t4 _ _ e2
      have hj := (List.getElem?_eq_some_iff.mp hqq).1
      have tk : qF.take (j + 1) = qF.take j ++ [qq] := by rw [List.take_add_one, hqq]; rfl
      refine ⟨.ref T, rfl, .inl ⟨rfl, _, SqL.of eT3⟩, .str (fT qq), rfl, T, _, .str (fT qq), rfl, rfl, eT3, small1000 (by rw [List.length_map, List.length_take]; omega), ?_⟩
      refine ⟨_, _, _, rfl, (kt.trans (Same.kt t4)).trans (kt_lst eT3), (w5.same t4).put offT.1 offT.2, by rw [upd_ne LT]; exact t4 _ _ e1, ?_⟩
      rw [tk, List.map_append]
      exact upd_same
    rintro σ H5 ⟨y4, y5, y6, rfl, kt5, w5, eL5, eT5⟩
    rw [lF, List.take_length] at eT5
    have dF5 := DpAll.kt kt5 dF4 (onlyAll_fD _)
    have lT : (qF.map fun q => V.str (fT q)).length = 10 := by rw [List.length_map, lq]
    clear dF4 eL4 w4 eT sT dF kt5
    -- rows
    refine ⟨Nat.zero_le _, fun b1 m1 => ?_⟩
    have sb1 := same_upd (o := .tup []) m1
    have eb1 := same_at (o := .tup []) m1
    generalize upd H5 b1 (.tup []) = J1 at sb1 eb1 ⊢
    refine ⟨by show 2 ≤ sizeLine; decide, fun b2 m2 => ?_⟩
    have sb2 := same_upd (o := .tup [V.int 0, V.int 0]) m2
    have eb2 := same_at (o := .tup [V.int 0, V.int 0]) m2
    generalize upd J1 b2 (.tup [V.int 0, V.int 0]) = J2 at sb2 eb2 ⊢
    refine ⟨by show 1 ≤ sizeLine; decide, fun b3 m3 => ?_⟩
    have sb3 := same_upd (o := .tup [V.ref b2]) m3
    have eb3 := same_at (o := .tup [V.ref b2]) m3
    generalize upd J2 b3 (.tup [V.ref b2]) = J3 at sb3 eb3 ⊢
    refine ⟨by show 2 ≤ sizeLine; decide, fun b4 m4 => ?_⟩
    have sb4 := same_upd (o := .tup [V.int 11, V.int 10]) m4
    have eb4 := same_at (o := .tup [V.int 11, V.int 10]) m4
    generalize upd J3 b4 (.tup [V.int 11, V.int 10]) = J4 at sb4 eb4 ⊢
    refine ⟨by show 2 ≤ sizeLine; decide, fun b5 m5 => ?_⟩
    have sb5 := same_upd (o := .tup [V.int 10, V.int 11]) m5
    have eb5 := same_at (o := .tup [V.int 10, V.int 11]) m5
    generalize upd J4 b5 (.tup [V.int 10, V.int 11]) = J5 at sb5 eb5 ⊢
    refine ⟨by show 2 ≤ sizeLine; decide, fun b6 m6 => ?_⟩
    have sb6 := same_upd (o := .tup [V.ref b4, V.ref b5]) m6
    have eb6 := same_at (o := .tup [V.ref b4, V.ref b5]) m6
    generalize upd J5 b6 (.tup [V.ref b4, V.ref b5]) = J6 at sb6 eb6 ⊢
    refine ⟨by show 3 ≤ sizeLine; decide, fun R nR => ?_⟩
    have sR := same_upd (o := .lst [V.ref b1, V.ref b3, V.ref b6]) nR
    have eR := same_at (o := .lst [V.ref b1, V.ref b3, V.ref b6]) nR
    have s56 := ((sb1.trans sb2).trans (sb3.trans sb4)).trans (sb5.trans sb6)
    have s5R := s56.trans sR
    have offR := (w5.same s56).off nR
    have LR : L ≠ R := ne_of_none (s56 _ _ eL5) nR
    have TR : T ≠ R := ne_of_none (s56 _ _ eT5) nR
    have dR : DpAll K (upd J6 R (.lst [V.ref b1, V.ref b3, V.ref b6])) [V.ref b1, V.ref b3, V.ref b6] ([[], [(0, 0)], [(11, 10), (10, 11)]].map prsD) :=
      .cons (.tup (SqT.of ((((sb2.trans sb3).trans (sb4.trans sb5)).trans (sb6.trans sR)) _ _ eb1)) .nil)
        (.cons (.tup (SqT.of (((sb4.trans sb5).trans (sb6.trans sR)) _ _ eb3)) (.cons (Dp.pr (SqT.of (((sb3.trans (sb4.trans sb5)).trans (sb6.trans sR)) _ _ eb2))) .nil))
          (.cons (.tup (SqT.of (sR _ _ eb6)) (.cons (Dp.pr (SqT.of ((sb5.trans (sb6.trans sR)) _ _ eb4))) (.cons (Dp.pr (SqT.of ((sb6.trans sR) _ _ eb5))) .nil))) .nil))
    have pR : ∀ r ∈ [[], [((0 : Int), (0 : Int))], [(11, 10), (10, 11)]], (∀ p ∈ r, sm12 p) ∧ r.length ≤ 60 := by
      intro r hr
      rcases List.mem_cons.mp hr with rfl | hr
      · exact ⟨(fun _ h => nomatch h), by decide⟩
      rcases List.mem_cons.mp hr with rfl | hr
      · refine ⟨?_, by decide⟩
        show ∀ p ∈ [((0 : Int), (0 : Int))], (0 ≤ p.1 ∧ p.1 ≤ 12) ∧ 0 ≤ p.2 ∧ p.2 ≤ 12
        decide
      · rw [List.mem_singleton.mp hr]
        refine ⟨?_, by decide⟩
        show ∀ p ∈ [((11 : Int), (10 : Int)), (10, 11)], (0 ≤ p.1 ∧ p.1 ≤ 12) ∧ 0 ≤ p.2 ∧ p.2 ≤ 12
        decide
    have lR : [[], [((0 : Int), (0 : Int))], [(11, 10), (10, 11)]].length = 3 := rfl
    have w6 := w5.same s5R
    have eL6 := s5R _ _ eL5
    have eT6 := s5R _ _ eT5
    have dF6 := DpAll.same s5R dF5
    generalize [[], [((0 : Int), (0 : Int))], [(11, 10), (10, 11)]] = r0 at dR pR lR
    generalize [V.ref b1, V.ref b3, V.ref b6] = x0 at eR dR w6 eL6 eT6 dF6 ⊢
    generalize upd J6 R (.lst x0) = H6 at eR dR w6 eL6 eT6 dF6 ⊢
    clear s5R s56 sb1 sb2 sb3 sb4 sb5 sb6 eb1 eb2 eb3 eb4 eb5 eb6 m1 m2 m3 m4 m5 m6 dF5 eL5 eT5 w5
    refine ⟨by show 4 ≤ sizeLine; decide, fun M nM => ?_⟩
    have sM := same_upd (o := .lst [V.int 1, V.int 2, V.int 7, V.int 60]) nM
    have eM := same_at (o := .lst [V.int 1, V.int 2, V.int 7, V.int 60]) nM
    have offM := w6.off nM
    have RM : R ≠ M := ne_of_none eR nM
    generalize upd H6 M (.lst [V.int 1, V.int 2, V.int 7, V.int 60]) = H7 at sM eM ⊢
    refine ⟨M, rfl, ⟨_, SqL.of eM⟩, for_list (K := K) (a := M) (xs := [V.int 1, V.int 2, V.int 7, V.int 60]) (fun j σ H' => ∃ (y8 : Option V) (rs : List (List (Int × Int))) (xs : List V), σ = [some (.ref a), some (.ref d), some (.ref L), some (.ref T), y4, y5, y6, some (.ref R), y8, none, none, none, none] ∧
      KT K H7 H' ∧ Deck H' d l (60 * 6 + 120 * j) ∧ H' M = some (.lst [V.int 1, V.int 2, V.int 7, V.int 60]) ∧ H' L = some (.lst xF) ∧ H' T = some (.lst (qF.map fun q => V.str (fT q))) ∧ H' R = some (.lst xs) ∧ DpAll K H' xs (rs.map prsD) ∧ (∀ r ∈ rs, (∀ p ∈ r, sm12 p) ∧ r.length ≤ 60) ∧ rs.length = 3 + j) ?_ ?_ ?_ ?_⟩
    · exact ⟨_, r0, x0, rfl, KT.refl, (w6.same sM).le (by omega), eM, sM _ _ eL6, sM _ _ eT6, sM _ _ eR, DpAll.same sM dR, pR, lR⟩
    · rintro j σ H' _ ⟨_, _, _, rfl, _, _, e, _⟩
      exact SqL.of e
    · rintro j v σ H' hv ⟨y8, rs, xs, rfl, kt, w7, e1, e2, e3, e4, dr, pr, lr⟩
      have hj : j < 4 := (List.getElem?_eq_some_iff.mp hv).1
      obtain ⟨mm, rfl, hmm⟩ : ∃ mm : Nat, v = V.int (mm : Int) ∧ mm ≤ 60 := by
        have := List.mem_of_getElem? hv
        rcases List.mem_cons.mp this with rfl | this
        · exact ⟨1, rfl, by decide⟩
        rcases List.mem_cons.mp this with rfl | this
        · exact ⟨2, rfl, by decide⟩
        rcases List.mem_cons.mp this with rfl | this
        · exact ⟨7, rfl, by decide⟩
        · rw [List.mem_singleton.mp this]
          exact ⟨60, rfl, by decide⟩
      have lxs : xs.length = rs.length := by rw [DpAll.length dr, List.length_map]
      refine ⟨.ref R, rfl, .inl ⟨rfl, _, SqL.of e4⟩, .int (mm : Int), rfl, (mm : Int), rfl, by omega, by omega, fun D nD => ?_⟩
      have offD := w7.off nD
      have sD := same_upd (o := .lst []) nD
      have DR : D ≠ R := fun z => by rw [z, e4] at nD; cases nD
      refine lc_range (lo := 0) (n := (mm : Int).toNat) (fun k H'' => ∃ (ys : List V) (ps : List (Int × Int)), Fm d l H' H'' ∧ Deck H'' d l (60 * 6 + 120 * j + 2 * k) ∧ H'' D = some (.lst ys) ∧ DpAll K H'' ys (ps.map prD) ∧ (∀ p ∈ ps, sm12 p) ∧ ps.length = k) ?_ ?_ ?_
      · exact ⟨[], [], Same.fm sD, (w7.same sD).le (by omega), upd_same, .nil, (fun _ h => nomatch h), rfl⟩
      · rintro k H'' hk ⟨ys, ps, g1, v1, eD, dp, pp, lp⟩
        have hk' : k < 60 := by omega
        refine ⟨rfl, yesI (iteT ?_)⟩
        refine ⟨.ref d, rfl, d, l, _, 12, rfl, by decide, by decide, v1, by omega, fun K1 r1 h0 h1 g2 v2 => ?_⟩
        refine ⟨.ref d, rfl, d, l, _, 12, rfl, by decide, by decide, v2, by omega, fun K2 r2 h2 h3 g3 v3 => ?_⟩
        refine ⟨by show 2 ≤ sizeLine; decide, fun t nt => ?_⟩
        have st := same_upd (o := .tup [V.int r1, V.int r2]) nt
        have g4 : Fm d l H'' (upd K2 t (.tup [V.int r1, V.int r2])) := (g2.trans g3).trans (Same.fm st)
        have eD4 := g4 _ _ offD.1 offD.2 eD
        have v4 := v3.same st
        have ly : ys.length = ps.length := by rw [DpAll.length dp, List.length_map]
        have ktd : KT K (upd K2 t (.tup [V.int r1, V.int r2])) (upd (upd K2 t (.tup [V.int r1, V.int r2])) D (.lst (ys ++ [V.ref t]))) := kt_lst eD4
        refine ⟨ys, eD4, small1000 (by omega), ys ++ [V.ref t], ps ++ [(r1, r2)], (g1.trans g4).put1 nD, (v4.put offD.1 offD.2).le (by omega), upd_same, ?_, fun p hp => ?_, by rw [List.length_append, lp]; rfl⟩
        · rw [List.map_append]
          exact DpAll.append (DpAll.kt ktd (DpAll.kt (g4.kt v1) dp (only_prs _)) (only_prs _)) (.cons (Dp.kt ktd (Dp.pr (SqT.of upd_same)) (only_pr _)) .nil)
        · rcases List.mem_append.mp hp with hp | hp
          · exact pp p hp
          · rw [List.mem_singleton.mp hp]
            show (0 ≤ r1 ∧ r1 ≤ 12) ∧ 0 ≤ r2 ∧ r2 ≤ 12
            omega
      rintro H'' ⟨ys, ps, g1, v1, eD, dp, pp, lp⟩
      refine ⟨D, ys, rfl, .inl ⟨SqL.of eD, fun c nc => ?_⟩⟩
      have sc := same_upd (o := .tup ys) nc
      have ec := same_at (o := .tup ys) nc
      have gc : Fm d l H' (upd H'' c (.tup ys)) := g1.trans (Same.fm sc)
      have vc := v1.same sc
      have dc : Dp K (upd H'' c (.tup ys)) (.ref c) (prsD ps) := .tup (SqT.of ec) (DpAll.same sc dp)
      generalize upd H'' c (.tup ys) = H8 at gc vc dc ⊢
      have eR8 := gc _ _ offR.1 offR.2 e4
      have ktr : KT K H8 (upd H8 R (.lst (xs ++ [V.ref c]))) := kt_lst eR8
      refine ⟨R, xs, .ref c, rfl, rfl, eR8, small1000 (by omega), ?_⟩
      refine ⟨_, rs ++ [ps], xs ++ [V.ref c], rfl, (kt.trans (gc.kt w7)).trans ktr, (vc.put offR.1 offR.2).le (by omega), by rw [upd_ne RM.symm]; exact gc _ _ offM.1 offM.2 e1, by rw [upd_ne LR]; exact gc _ _ offL.1 offL.2 e2, by rw [upd_ne TR]; exact gc _ _ offT.1 offT.2 e3, upd_same, ?_, fun r hr => ?_, by rw [List.length_append, lr]; simp only [List.length_cons, List.length_nil]; omega⟩
      · rw [List.map_append]
        exact DpAll.append (DpAll.kt ktr (DpAll.kt (gc.kt w7) dr (onlyAll_prs _)) (onlyAll_prs _)) (.cons (Dp.kt ktr dc (only_prsD _)) .nil)
      · rcases List.mem_append.mp hr with hr | hr
        · exact pr r hr
        · rw [List.mem_singleton.mp hr]
          exact ⟨pp, by omega⟩
    rintro σ H8 ⟨y8, rs, xs, rfl, kt8, w8, eM8, eL8, eT8, eR8, dr8, pr8, lr8⟩
    have lr8 : rs.length = 7 := lr8
    have lx8 : xs.length = 7 := by rw [DpAll.length dr8, List.length_map, lr8]
    have dF8 := DpAll.kt ((Same.kt sM).trans kt8) dF6 (onlyAll_fD _)
    clear kt8 dF6 eM8 eL6 eT6 w6 eR dR pR sM eM nM
    -- there and back
    obtain ⟨v, hv⟩ : ∃ v, xs[5]? = some v := ⟨_, List.getElem?_eq_getElem (by omega)⟩
    obtain ⟨z, hz, dv⟩ := DpAll.get dr8 hv
    rw [List.getElem?_map] at hz
    obtain ⟨r, hr, rfl⟩ := Option.map_eq_some_iff.mp hz
    have pr := pr8 r (List.mem_of_getElem? hr)
    have av := atI_two (n := 5) lx8 hv
    obtain ⟨c, ws, rfl, hc, hA⟩ := Dp.tupI dv
    refine ⟨.ref R, rfl, .inl ⟨rfl, _, SqL.of eR8⟩, .ref R, rfl, 2, rfl, R, xs, -2, .ref c, rfl, rfl, SqL.of eR8, av, .ref R, rfl, 2, rfl, R, xs, -2, .ref c, rfl, rfl, SqL.of eR8, av, c, ws, rfl, hc, fun p np => ?_⟩
    have sp := same_upd (o := .tup ws.reverse) np
    have dp : Dp K (upd H8 p (.tup ws.reverse)) (.ref p) (.tuple (r.reverse.map prD)) := .tup (SqT.of upd_same) (by
      rw [List.map_reverse]
      exact DpAll.reverse (DpAll.same sp hA))
    refine catD (ds := r.map prD) (es := r.reverse.map prD) (Dp.same sp dv) dp (by rw [List.length_map, List.length_map, List.length_reverse]; omega) fun H9 z s9 dz => ?_
    rw [← List.map_append] at dz
    have s89 := sp.trans s9
    have eR9 := s89 _ _ eR8
    have ktr : KT K H9 (upd H9 R (.lst (xs ++ [z]))) := kt_lst eR9
    refine ⟨R, xs, z, rfl, rfl, eR9, small1000 (by omega), ?_⟩
    have wr := (w8.same s89).put (o := .lst (xs ++ [z])) offR.1 offR.2
    have eL10 : upd H9 R (.lst (xs ++ [z])) L = some (.lst xF) := by rw [upd_ne LR]; exact s89 _ _ eL8
    have eT10 : upd H9 R (.lst (xs ++ [z])) T = some (.lst (qF.map fun q => V.str (fT q))) := by rw [upd_ne TR]; exact s89 _ _ eT8
    have eR10 : upd H9 R (.lst (xs ++ [z])) R = some (.lst (xs ++ [z])) := upd_same
    have dF10 := DpAll.kt ((Same.kt s89).trans ktr) dF8 (onlyAll_fD _)
    have dr10 : DpAll K (upd H9 R (.lst (xs ++ [z]))) (xs ++ [z]) ((rs ++ [r ++ r.reverse]).map prsD) := by
      rw [List.map_append]
      exact DpAll.append (DpAll.kt ((Same.kt s89).trans ktr) dr8 (onlyAll_prs _)) (.cons (Dp.kt ktr dz (only_prsD _)) .nil)
    have pr10 : ∀ q ∈ rs ++ [r ++ r.reverse], PR2 q := fun q hq => by
      rcases List.mem_append.mp hq with hq | hq
      · have := pr8 q hq
        exact ⟨this.1, by omega⟩
      · rw [List.mem_singleton.mp hq]
        refine ⟨fun p hp => ?_, by rw [List.length_append, List.length_reverse]; omega⟩
        rcases List.mem_append.mp hp with hp | hp
        · exact pr.1 p hp
        · exact pr.1 p (List.mem_reverse.mp hp)
    have lr10 : (rs ++ [r ++ r.reverse]).length = 8 := by rw [List.length_append, lr8]; rfl
    generalize upd H9 R (.lst (xs ++ [z])) = H10 at wr eL10 eT10 eR10 dF10 dr10 ⊢
    generalize xs ++ [z] = xR at eR10 dr10 ⊢
    generalize rs ++ [r ++ r.reverse] = rR at dr10 pr10 lr10
    clear dv hA dp dz s89 sp s9 eR9 dF8 dr8 pr8 lr8 lx8 eL8 eT8 eR8 w8 ktr hc av hv hr pr np
    have lxR : xR.length = rR.length := by rw [DpAll.length dr10, List.length_map]
    -- told
    refine ⟨Nat.zero_le _, fun U nU => ?_⟩
    have sU := same_upd (o := .lst []) nU
    have eU := same_at (o := .lst []) nU
    have LU : L ≠ U := ne_of_none eL10 nU
    have TU : T ≠ U := ne_of_none eT10 nU
    have RU : R ≠ U := ne_of_none eR10 nU
    have eL11 := sU _ _ eL10
    have eT11 := sU _ _ eT10
    have eR11 := sU _ _ eR10
    have dF11 := DpAll.same sU dF10
    have dr11 := DpAll.same sU dr10
    generalize upd H10 U (.lst []) = H11 at eU eL11 eT11 eR11 dF11 dr11 ⊢
    refine ⟨.ref R, rfl, R, rfl, ⟨_, SqL.of eR11⟩, for_list (K := K) (a := R) (xs := xR) (fun j σ H' => ∃ (y5 y6 y10 : Option V), σ = [some (.ref a), some (.ref d), some (.ref L), some (.ref T), y4, y5, y6, some (.ref R), y8, some (.ref U), y10, none, none] ∧ KT K H11 H' ∧ H' L = some (.lst xF) ∧ H' T = some (.lst (qF.map fun q => V.str (fT q))) ∧ H' R = some (.lst xR) ∧ H' U = some (.lst ((rR.take j).map fun q => V.str (txt ">" q)))) ?_ ?_ ?_ ?_⟩
    · exact ⟨_, _, _, rfl, KT.refl, eL11, eT11, eR11, eU⟩
    · rintro j σ H' _ ⟨_, _, _, rfl, _, _, _, e, _⟩
      exact SqL.of e
    · rintro j v σ H' hv ⟨y5, y6, y10, rfl, kt, e1, e2, e3, e4⟩
      obtain ⟨z, hz, dz⟩ := DpAll.get (DpAll.kt kt dr11 (onlyAll_prs _)) hv
      rw [List.getElem?_map] at hz
      obtain ⟨qq, hqq, rfl⟩ := Option.map_eq_some_iff.mp hz
      have pq := pr10 _ (List.mem_of_getElem? hqq)
      have pl : qq.length ≤ 500 := by have := pq.2; omega
      have sh : Shows (prsD qq) := (Sm.prs (m := 120) (fun p hp => by have := pq.1 p hp; unfold sm12 at this; unfold smP sm; omega) pq.2).shows (by decide) (by decide)
      refine ⟨v, rfl, v, prsD qq, rfl, dz, sh, v, rfl, v, qq, rfl, dz, pq.1, pl, fun K1 t1 => ?_⟩
      have dz1 := Dp.same t1 dz
      refine ⟨.str _, rfl, _, _, _, _, true, rfl, .ty "str", .base (.str _), kit_ty (by decide +kernel), true, rfl, iteF ?_⟩
      refine ⟨.str _, rfl, v, rfl, v, ">", _, qq, rfl, sg_slide, dz1, pq.1, pl, fun K2 t2 => ⟨rfl, _, rfl, ?_⟩⟩
      rw [decide_eq_true rfl]
      refine iteF ⟨v, rfl, v, qq, rfl, Dp.same t2 dz1, pq.1, pl, fun K3 t3 => ⟨.str _, rfl, rfl, _, rfl, ?_⟩⟩
      rw [decide_eq_true rfl]
      have t4 := (t1.trans t2).trans t3
      refine iteF ⟨v, rfl, v, prsD qq, rfl, Dp.same t4 dz, sh, .str _, rfl, rfl, _, rfl, ?_⟩
      rw [decide_eq_true rfl]
      refine iteF ?_
      have eU3 := t4 _ _ e4
      have hj := (List.getElem?_eq_some_iff.mp hqq).1
      have tk : rR.take (j + 1) = rR.take j ++ [qq] := by rw [List.take_add_one, hqq]; rfl
      refine ⟨.ref U, rfl, .inl ⟨rfl, _, SqL.of eU3⟩, .str (txt ">" qq), rfl, U, _, .str (txt ">" qq), rfl, rfl, eU3, small1000 (by rw [List.length_map, List.length_take]; omega), ?_⟩
      refine ⟨_, _, _, rfl, (kt.trans (Same.kt t4)).trans (kt_lst eU3), by rw [upd_ne LU]; exact t4 _ _ e1, by rw [upd_ne TU]; exact t4 _ _ e2, by rw [upd_ne RU]; exact t4 _ _ e3, ?_⟩
      rw [tk, List.map_append]
      exact upd_same
    rintro σ H12 ⟨y5, y6, y10, rfl, kt12, eL12, eT12, eR12, eU12⟩
    rw [lxR, List.take_length] at eU12
    have dF12 := DpAll.kt kt12 dF11 (onlyAll_fD _)
    have dr12 := DpAll.kt kt12 dr11 (onlyAll_prs _)
    clear dF11 dr11 eL11 eT11 eR11 eU sU kt12 dF10 dr10 eL10 eT10 eR10 wr
    -- the texts tell forests apart
    refine ⟨.ref T, rfl, T, _, rfl, SqL.of eT12, for_enumL (K := K) (a := T) (xs := qF.map fun q => V.str (fT q)) (fun i σ H' => ∃ (y6 y11 : Option V), σ = [some (.ref a), some (.ref d), some (.ref L), some (.ref T), y4, y5, y6, some (.ref R), y8, some (.ref U), y10, y11, none] ∧ Same H12 H') ?_ ?_ ?_ ?_⟩
    · exact ⟨_, _, rfl, Same.refl _⟩
    · rintro i σ H' ⟨_, _, rfl, s'⟩
      exact SqL.of (s' _ _ eT12)
    · rintro i x Tp σ H' hx nTp ⟨y6, y11, rfl, s'⟩
      rw [List.getElem?_map] at hx
      obtain ⟨qq, hqq, rfl⟩ := Option.map_eq_some_iff.mp hx
      have pq := pF _ (List.mem_of_getElem? hqq)
      have hi := (List.getElem?_eq_some_iff.mp hqq).1
      have sTp := same_upd (o := .tup [.int (i : Nat), .str (fT qq)]) nTp
      refine ⟨Tp, _, rfl, SqT.of upd_same, rfl, _, _, rfl, _, _, rfl, rfl, ?_⟩
      have s1 := s'.trans sTp
      generalize upd H' Tp (.tup [.int (i : Nat), .str (fT qq)]) = H'' at s1 ⊢
      refine ⟨.ref T, rfl, T, rfl, ⟨_, SqL.of (s1 _ _ eT12)⟩, fun D nD => ?_⟩
      refine lc_listD (K := K) (bs := qF) (e := fun q => .str (fT q)) (fun _ => true) (fun r => .bool (decide (V.str (fT qq) = V.str (fT r)))) nD (SqL.of (s1 _ _ eT12)) (DpAll.texts fT qF) (fun _ => rfl) (fun x b _ _ K1 R1 t1 hR => hR K1 (Same.refl _)) (fun x b hb _ dx K1 R1 t1 hR => ?_) (fun o => by simp [only]) (by omega) (fun K1 ys1 t1 eD dy => ?_)
      · cases dx
        exact ⟨.str (fT qq), rfl, _, rfl, rfl, hR K1 _ (Same.refl _) (.bl _)⟩
      rw [filt_true] at dy
      have s2 := s1.trans t1
      refine ⟨.ref L, rfl, L, rfl, ⟨_, SqL.of (s2 _ _ eL12)⟩, fun D2 nD2 => ?_⟩
      obtain ⟨xi, hxi⟩ : ∃ v, xF[i]? = some v := ⟨_, List.getElem?_eq_getElem (by omega)⟩
      obtain ⟨zi, hzi, dxi⟩ := DpAll.get dF12 hxi
      rw [List.getElem?_map, hqq] at hzi
      cases hzi
      refine lc_listD (K := K) (bs := qF) (e := fD) (fun _ => true) (fun r => .bool (PyData.eqv (fD qq) (fD r))) nD2 (SqL.of (s2 _ _ eL12)) (DpAll.same s2 dF12) (fun _ => rfl) (fun x b _ _ K2 R1 t2 hR => hR K2 (Same.refl _)) (fun x b hb _ dx K2 R1 t2 hR => ?_) (fun o => by simp [only]) (by omega) (fun K2 ys2 t2 eD2 dy2 => ?_)
      · exact ⟨.ref L, rfl, .int (i : Nat), rfl, L, xF, _, xi, rfl, rfl, SqL.of ((s2.trans t2) _ _ eL12), atI_nat hxi, x, rfl, fD qq, fD b, Dp.same (s2.trans t2) dxi, Dp.same t2 dx, shaped_forD _ _, shaped_forD _ _, hR K2 _ (Same.refl _) (.bl _)⟩
      rw [filt_true] at dy2
      have eb : (qF.map fun r => PyData.bool (PyData.eqv (fD qq) (fD r))) = qF.map fun r => PyData.bool (decide (V.str (fT qq) = V.str (fT r))) :=
        List.map_congr_left fun r hr => by rw [fT_eq pq (pF r hr)]
      rw [eb] at dy2
      refine ⟨_, _, .lst (SqL.of (t2 _ _ eD)) (DpAll.same t2 dy), .lst (SqL.of eD2) dy2, shaped_bools _ _, shaped_bools _ _, _, rfl, ?_⟩
      rw [SeqAt.eqv_refl _ (SeqAt.canLay_of_shaped (shaped_bools _ _))]
      exact iteF ⟨_, _, rfl, s2.trans t2⟩
    rintro σ H13 ⟨y6, y11, rfl, s13⟩
    have dr13 := DpAll.same s13 dr12
    have eR13 := s13 _ _ eR12
    have eU13 := s13 _ _ eU12
    -- and slides
    refine ⟨.ref U, rfl, U, _, rfl, SqL.of eU13, for_enumL (K := K) (a := U) (xs := rR.map fun q => V.str (txt ">" q)) (fun i σ H' => ∃ (y6 y11 : Option V), σ = [some (.ref a), some (.ref d), some (.ref L), some (.ref T), y4, y5, y6, some (.ref R), y8, some (.ref U), y10, y11, none] ∧ Same H13 H') ?_ ?_ ?_ ?_⟩
    · exact ⟨_, _, rfl, Same.refl _⟩
    · rintro i σ H' ⟨_, _, rfl, s'⟩
      exact SqL.of (s' _ _ eU13)
    · rintro i x Tp σ H' hx nTp ⟨y6, y11, rfl, s'⟩
      rw [List.getElem?_map] at hx
      obtain ⟨qq, hqq, rfl⟩ := Option.map_eq_some_iff.mp hx
      have pq := pr10 _ (List.mem_of_getElem? hqq)
      have hi := (List.getElem?_eq_some_iff.mp hqq).1
      have sTp := same_upd (o := .tup [.int (i : Nat), .str (txt ">" qq)]) nTp
      refine ⟨Tp, _, rfl, SqT.of upd_same, rfl, _, _, rfl, _, _, rfl, rfl, ?_⟩
      have s1 := s'.trans sTp
      generalize upd H' Tp (.tup [.int (i : Nat), .str (txt ">" qq)]) = H'' at s1 ⊢
      refine ⟨.ref U, rfl, U, rfl, ⟨_, SqL.of (s1 _ _ eU13)⟩, fun D nD => ?_⟩
      refine lc_listD (K := K) (bs := rR) (e := fun q => .str (txt ">" q)) (fun _ => true) (fun r => .bool (decide (V.str (txt ">" qq) = V.str (txt ">" r)))) nD (SqL.of (s1 _ _ eU13)) (DpAll.texts (txt ">") rR) (fun _ => rfl) (fun x b _ _ K1 R1 t1 hR => hR K1 (Same.refl _)) (fun x b hb _ dx K1 R1 t1 hR => ?_) (fun o => by simp [only]) (by omega) (fun K1 ys1 t1 eD dy => ?_)
      · cases dx
        exact ⟨.str (txt ">" qq), rfl, _, rfl, rfl, hR K1 _ (Same.refl _) (.bl _)⟩
      rw [filt_true] at dy
      have s2 := s1.trans t1
      refine ⟨.ref R, rfl, R, rfl, ⟨_, SqL.of (s2 _ _ eR13)⟩, fun D2 nD2 => ?_⟩
      obtain ⟨xi, hxi⟩ : ∃ v, xR[i]? = some v := ⟨_, List.getElem?_eq_getElem (by omega)⟩
      obtain ⟨zi, hzi, dxi⟩ := DpAll.get dr13 hxi
      rw [List.getElem?_map, hqq] at hzi
      cases hzi
      refine lc_listD (K := K) (bs := rR) (e := prsD) (fun _ => true) (fun r => .bool (PyData.eqv (prsD qq) (prsD r))) nD2 (SqL.of (s2 _ _ eR13)) (DpAll.same s2 dr13) (fun _ => rfl) (fun x b _ _ K2 R1 t2 hR => hR K2 (Same.refl _)) (fun x b hb _ dx K2 R1 t2 hR => ?_) (fun o => by simp [only]) (by omega) (fun K2 ys2 t2 eD2 dy2 => ?_)
      · exact ⟨.ref R, rfl, .int (i : Nat), rfl, R, xR, _, xi, rfl, rfl, SqL.of ((s2.trans t2) _ _ eR13), atI_nat hxi, x, rfl, prsD qq, prsD b, Dp.same (s2.trans t2) dxi, Dp.same t2 dx, shaped_prs _, shaped_prs _, hR K2 _ (Same.refl _) (.bl _)⟩
      rw [filt_true] at dy2
      have eb : (rR.map fun r => PyData.bool (PyData.eqv (prsD qq) (prsD r))) = rR.map fun r => PyData.bool (decide (V.str (txt ">" qq) = V.str (txt ">" r))) :=
        List.map_congr_left fun r hr => by rw [rT_eq pq (pr10 r hr)]
      rw [eb] at dy2
      refine ⟨_, _, .lst (SqL.of (t2 _ _ eD)) (DpAll.same t2 dy), .lst (SqL.of eD2) dy2, shaped_bools _ _, shaped_bools _ _, _, rfl, ?_⟩
      rw [SeqAt.eqv_refl _ (SeqAt.canLay_of_shaped (shaped_bools _ _))]
      exact iteF ⟨_, _, rfl, s2.trans t2⟩
    rintro σ H14 ⟨y6, y11, rfl, s14⟩
    exact q H14
end
end TL
namespace TL
open PySem PySem.Spec PyProof.Rows L2
section
variable {P : Program} {w : World} {K : PySem.W.Frag} {mg : Str → Option Value} {base : Heap}
end
theorem all_mk {l : PySem.W.OpenLaw} {w : World} {K : PySem.W.Frag} {h : Heap} {mg : Str → Option Value} {fa f0 f1 f2 f3 f4 f5 f6 f7 f8 : Addr} (X : K.In h) (G : h.Ns mainGlobals mg) (hfa : mg "law" = some (.ref fa))
    {od0 an0 od1 an1 od2 an2 od3 an3 od4 an4 od5 an5 od6 an6 od7 an7 od8 an8 : Option Addr} {sl0 sl1 sl2 sl3 sl4 sl5 sl6 sl7 sl8 : Array (Option Value)} {oc0 kV0 dc0 pm0 cd0 ct0 oc1 kV1 dc1 pm1 cd1 ct1 oc2 kV2 dc2 pm2 cd2 ct2 oc3 kV3 dc3 pm3 cd3 ct3 oc4 kV4 dc4 pm4 cd4 ct4 oc5 kV5 dc5 pm5 cd5 ct5 oc6 kV6 dc6 pm6 cd6 ct6 oc7 kV7 dc7 pm7 cd7 ct7 oc8 kV8 dc8 pm8 cd8 ct8 : Value}
    (a0 : PySem.W.nsIn K mainGlobals "list_text" = some (some (.ref f0))) (l0 : K.lookup f0 = some ⟨oc0, od0, .func (PySem.W.fnOf "list_text" "list_text" (defArgs sListText) (defBody sListText) (defScope sListText) .none kV0 dc0 pm0 an0 cd0 ct0), sl0⟩) (c0 : PySem.W.codeIn K cd0 "list_text" = true) (k0 : PySem.W.keepIn K (.ref f0) = true)
    (a1 : PySem.W.nsIn K mainGlobals "slides_text" = some (some (.ref f1))) (l1 : K.lookup f1 = some ⟨oc1, od1, .func (PySem.W.fnOf "slides_text" "slides_text" (defArgs sSlidesText) (defBody sSlidesText) (defScope sSlidesText) .none kV1 dc1 pm1 an1 cd1 ct1), sl1⟩) (c1 : PySem.W.codeIn K cd1 "slides_text" = true) (k1 : PySem.W.keepIn K (.ref f1) = true)
    (a2 : PySem.W.nsIn K mainGlobals "forest_text" = some (some (.ref f2))) (l2 : K.lookup f2 = some ⟨oc2, od2, .func (PySem.W.fnOf "forest_text" "forest_text" (defArgs sForestText) (defBody sForestText) (defScope sForestText) .none kV2 dc2 pm2 an2 cd2 ct2), sl2⟩) (c2 : PySem.W.codeIn K cd2 "forest_text" = true) (k2 : PySem.W.keepIn K (.ref f2) = true)
    (a3 : PySem.W.nsIn K mainGlobals "_law_deck" = some (some (.ref f3))) (l3 : K.lookup f3 = some ⟨oc3, od3, .func (PySem.W.fnOf "_law_deck" "_law_deck" (defArgs sLDeck) (defBody sLDeck) (defScope sLDeck) .none kV3 dc3 pm3 an3 cd3 ct3), sl3⟩) (c3 : PySem.W.codeIn K cd3 "_law_deck" = true) (k3 : PySem.W.keepIn K (.ref f3) = true)
    (a4 : PySem.W.nsIn K mainGlobals "_law_draw" = some (some (.ref f4))) (l4 : K.lookup f4 = some ⟨oc4, od4, .func (PySem.W.fnOf "_law_draw" "_law_draw" (defArgs sLDraw) (defBody sLDraw) (defScope sLDraw) .none kV4 dc4 pm4 an4 cd4 ct4), sl4⟩) (c4 : PySem.W.codeIn K cd4 "_law_draw" = true) (k4 : PySem.W.keepIn K (.ref f4) = true)
    (a5 : PySem.W.nsIn K mainGlobals "_law_forest" = some (some (.ref f5))) (l5 : K.lookup f5 = some ⟨oc5, od5, .func (PySem.W.fnOf "_law_forest" "_law_forest" (defArgs sLForest) (defBody sLForest) (defScope sLForest) .none kV5 dc5 pm5 an5 cd5 ct5), sl5⟩) (c5 : PySem.W.codeIn K cd5 "_law_forest" = true) (k5 : PySem.W.keepIn K (.ref f5) = true)
    (a6 : PySem.W.nsIn K mainGlobals "_law_pairs_text" = some (some (.ref f6))) (l6 : K.lookup f6 = some ⟨oc6, od6, .func (PySem.W.fnOf "_law_pairs_text" "_law_pairs_text" (defArgs sLPairsText) (defBody sLPairsText) (defScope sLPairsText) .none kV6 dc6 pm6 an6 cd6 ct6), sl6⟩) (c6 : PySem.W.codeIn K cd6 "_law_pairs_text" = true) (k6 : PySem.W.keepIn K (.ref f6) = true)
    (a7 : PySem.W.nsIn K mainGlobals "_law_forest_text" = some (some (.ref f7))) (l7 : K.lookup f7 = some ⟨oc7, od7, .func (PySem.W.fnOf "_law_forest_text" "_law_forest_text" (defArgs sLForestText) (defBody sLForestText) (defScope sLForestText) .none kV7 dc7 pm7 an7 cd7 ct7), sl7⟩) (c7 : PySem.W.codeIn K cd7 "_law_forest_text" = true) (k7 : PySem.W.keepIn K (.ref f7) = true)
    (a8 : PySem.W.nsIn K mainGlobals "law" = some (some (.ref f8))) (l8 : K.lookup f8 = some ⟨oc8, od8, .func (PySem.W.fnOf "law" "law" (defArgs sLaw) (defBody sLaw) (defScope sLaw) .none kV8 dc8 pm8 an8 cd8 ct8), sl8⟩) (c8 : PySem.W.codeIn K cd8 "law" = true) (k8 : PySem.W.keepIn K (.ref f8) = true)
    {yt0 : Tok} (y0 : PySem.W.nsIn K mainGlobals "NONE" = some (some (.str "none" yt0)))
    (z0 : PySem.W.nsIn K mainGlobals "abs" = some none) (z1 : PySem.W.nsIn K mainGlobals "len" = some none) (z2 : PySem.W.nsIn K mainGlobals "int" = some none) (z3 : PySem.W.nsIn K mainGlobals "list" = some none) (z4 : PySem.W.nsIn K mainGlobals "range" = some none) (z5 : PySem.W.nsIn K mainGlobals "max" = some none) (z6 : PySem.W.nsIn K mainGlobals "min" = some none) (z7 : PySem.W.nsIn K mainGlobals "tuple" = some none) (z8 : PySem.W.nsIn K mainGlobals "sorted" = some none) (z9 : PySem.W.nsIn K mainGlobals "isinstance" = some none) (z10 : PySem.W.nsIn K mainGlobals "repr" = some none) (z11 : PySem.W.nsIn K mainGlobals "str" = some none) (z12 : PySem.W.nsIn K mainGlobals "enumerate" = some none) :
    ∃ fd : FuncData, (∀ (s : Shared) (v : Value), BindsTo s fd ⟨[v], []⟩ [("_law_script", v)]) ∧ ∀ base : Heap, K.In base → base.Ns mainGlobals mg → FnG l.prog w K mg base 3 fa fd ["_law_script"] (spLaw K) := by
  cases hfa.symm.trans (PySem.W.mg_of X G a8)
  have FListText := fun_mk (st := sListText) l0 c0 k0
  have FSlidesText := fun_mk (st := sSlidesText) l1 c1 k1
  have FForestText := fun_mk (st := sForestText) l2 c2 k2
  have FLDeck := fun_mk (st := sLDeck) l3 c3 k3
  have FLDraw := fun_mk (st := sLDraw) l4 c4 k4
  have FLForest := fun_mk (st := sLForest) l5 c5 k5
  have FLPairsText := fun_mk (st := sLPairsText) l6 c6 k6
  have FLForestText := fun_mk (st := sLForestText) l7 c7 k7
  have FLaw := fun_mk (st := sLaw) l8 c8 k8
  have bListText := FListText.binds (ps := ["words"]) fun _ _ _ _ _ _ us hl => match us, hl with | [_], _ => rfl
  have bSlidesText := FSlidesText.binds (ps := ["slides"]) fun _ _ _ _ _ _ us hl => match us, hl with | [_], _ => rfl
  have bForestText := FForestText.binds (ps := ["forest"]) fun _ _ _ _ _ _ us hl => match us, hl with | [_], _ => rfl
  have bLDeck := FLDeck.binds (ps := ["_law_script"]) fun _ _ _ _ _ _ us hl => match us, hl with | [_], _ => rfl
  have bLDraw := FLDraw.binds (ps := ["_law_deck_here", "_law_many"]) fun _ _ _ _ _ _ us hl => match us, hl with | [_, _], _ => rfl
  have bLForest := FLForest.binds (ps := ["_law_deck_here", "_law_most"]) fun _ _ _ _ _ _ us hl => match us, hl with | [_, _], _ => rfl
  have bLPairsText := FLPairsText.binds (ps := ["_law_pairs", "_law_sign"]) fun _ _ _ _ _ _ us hl => match us, hl with | [_, _], _ => rfl
  have bLForestText := FLForestText.binds (ps := ["_law_forest_here"]) fun _ _ _ _ _ _ us hl => match us, hl with | [_], _ => rfl
  have m_abs := PySem.W.mg_none_of X G z0
  have m_len := PySem.W.mg_none_of X G z1
  have m_int := PySem.W.mg_none_of X G z2
  have m_list := PySem.W.mg_none_of X G z3
  have m_range := PySem.W.mg_none_of X G z4
  have m_max := PySem.W.mg_none_of X G z5
  have m_min := PySem.W.mg_none_of X G z6
  have m_tuple := PySem.W.mg_none_of X G z7
  have m_sorted := PySem.W.mg_none_of X G z8
  have m_isinstance := PySem.W.mg_none_of X G z9
  have m_repr := PySem.W.mg_none_of X G z10
  have m_str := PySem.W.mg_none_of X G z11
  have m_enumerate := PySem.W.mg_none_of X G z12
  have m_NONE := PySem.W.mg_of X G y0
  refine ⟨PySem.W.fnOf "law" "law" (defArgs sLaw) (defBody sLaw) (defScope sLaw) .none kV8 dc8 pm8 an8 cd8 ct8, fun s v => .of_eq rfl, fun base _ _ => ?_⟩
  have ownListText := fun {k : Nat} {sp : Sp} (G0 : FnOk l.prog w K mg base CX0 k f0 _ _ sp) => (Own.mk ⟨f0, _, G0, PySem.W.mg_of X G a0, k0, bListText⟩ : Own l.prog w K mg base "list_text" k ["words"] sp)
  have ownSlidesText := fun {k : Nat} {sp : Sp} (G0 : FnOk l.prog w K mg base CX0 k f1 _ _ sp) => (Own.mk ⟨f1, _, G0, PySem.W.mg_of X G a1, k1, bSlidesText⟩ : Own l.prog w K mg base "slides_text" k ["slides"] sp)
  have ownForestText := fun {k : Nat} {sp : Sp} (G0 : FnOk l.prog w K mg base CX0 k f2 _ _ sp) => (Own.mk ⟨f2, _, G0, PySem.W.mg_of X G a2, k2, bForestText⟩ : Own l.prog w K mg base "forest_text" k ["forest"] sp)
  have ownLDeck := fun {k : Nat} {sp : Sp} (G0 : FnOk l.prog w K mg base CX0 k f3 _ _ sp) => (Own.mk ⟨f3, _, G0, PySem.W.mg_of X G a3, k3, bLDeck⟩ : Own l.prog w K mg base "_law_deck" k ["_law_script"] sp)
  have ownLDraw := fun {k : Nat} {sp : Sp} (G0 : FnOk l.prog w K mg base CX0 k f4 _ _ sp) => (Own.mk ⟨f4, _, G0, PySem.W.mg_of X G a4, k4, bLDraw⟩ : Own l.prog w K mg base "_law_draw" k ["_law_deck_here", "_law_many"] sp)
  have ownLForest := fun {k : Nat} {sp : Sp} (G0 : FnOk l.prog w K mg base CX0 k f5 _ _ sp) => (Own.mk ⟨f5, _, G0, PySem.W.mg_of X G a5, k5, bLForest⟩ : Own l.prog w K mg base "_law_forest" k ["_law_deck_here", "_law_most"] sp)
  have ownLPairsText := fun {k : Nat} {sp : Sp} (G0 : FnOk l.prog w K mg base CX0 k f6 _ _ sp) => (Own.mk ⟨f6, _, G0, PySem.W.mg_of X G a6, k6, bLPairsText⟩ : Own l.prog w K mg base "_law_pairs_text" k ["_law_pairs", "_law_sign"] sp)
  have ownLForestText := fun {k : Nat} {sp : Sp} (G0 : FnOk l.prog w K mg base CX0 k f7 _ _ sp) => (Own.mk ⟨f7, _, G0, PySem.W.mg_of X G a7, k7, bLForestText⟩ : Own l.prog w K mg base "_law_forest_text" k ["_law_forest_here"] sp)
  have oLDeck := ownLDeck (ok_LDeck (k := 0) FLDeck m_abs)
  have oLDraw := ownLDraw (ok_LDraw (k := 0) FLDraw m_len)
  have oLForest := ownLForest (ok_LForest FLForest m_list m_range m_len m_max m_min m_tuple m_sorted oLDraw)
  have oLPairsText := ownLPairsText (ok_LPairsText (k := 0) FLPairsText m_str m_int m_len)
  have oLForestText := ownLForestText (ok_LForestText FLForestText m_str oLPairsText)
  have oListText := ownListText (ok_ListText (k := 0) FListText m_NONE)
  have oSlidesText := ownSlidesText (ok_SlidesText FSlidesText oListText)
  have oForestText := ownForestText (ok_ForestText FForestText oListText)
  exact ok_Law FLaw m_range m_tuple m_repr m_isinstance m_str m_enumerate oLDeck oLDraw oLForest oLPairsText oLForestText oForestText oSlidesText
end TL
open PySem PySem.W PyProof.Rows
set_option maxHeartbeats 0 in
theorem PySem.Challenge.cw_treelamps_k64_forest_and_slides_texts_holds : PySem.Challenge.rw_treelamps_k64_forest_and_slides_texts.Holds := by
  w_on; o_law; k_head; (case hw => w_witness2)
  k_fill
  refine TL.walk_ofG (l := PySem.Challenge.rw_treelamps_k64_forest_and_slides_texts) (n := 63) (k := 3) (x := "_law_script") (sp := fun w => TL.spLaw _) rfl (by decide) rfl ⟨rfl, by decide, by decide⟩
    (fun w h Y => PySem.W.kIn_of Y) ?F (fun _ _ a ns hl _ hS => ⟨a, ns, rfl, hS, hl, fun _ => rfl⟩)
  case F =>
    intro w mg fa h KX G hmg
    refine' TL.all_mk KX G hmg ?a0 ?l0 ?c0 ?k0 ?a1 ?l1 ?c1 ?k1 ?a2 ?l2 ?c2 ?k2 ?a3 ?l3 ?c3 ?k3 ?a4 ?l4 ?c4 ?k4 ?a5 ?l5 ?c5 ?k5 ?a6 ?l6 ?c6 ?k6 ?a7 ?l7 ?c7 ?k7 ?a8 ?l8 ?c8 ?k8 ?y0 ?z0 ?z1 ?z2 ?z3 ?z4 ?z5 ?z6 ?z7 ?z8 ?z9 ?z10 ?z11 ?z12
    (case a0 => k_is); (case l0 => k_is); (case c0 => k_is); (case k0 => k_is); (case a1 => k_is); (case l1 => k_is); (case c1 => k_is); (case k1 => k_is); (case a2 => k_is); (case l2 => k_is); (case c2 => k_is); (case k2 => k_is); (case a3 => k_is); (case l3 => k_is); (case c3 => k_is); (case k3 => k_is); (case a4 => k_is); (case l4 => k_is); (case c4 => k_is); (case k4 => k_is); (case a5 => k_is); (case l5 => k_is); (case c5 => k_is); (case k5 => k_is); (case a6 => k_is); (case l6 => k_is); (case c6 => k_is); (case k6 => k_is); (case a7 => k_is); (case l7 => k_is); (case c7 => k_is); (case k7 => k_is); (case a8 => k_is); (case l8 => k_is); (case c8 => k_is); (case k8 => k_is); (case y0 => k_is); (case z0 => k_is); (case z1 => k_is); (case z2 => k_is); (case z3 => k_is); (case z4 => k_is); (case z5 => k_is); (case z6 => k_is); (case z7 => k_is); (case z8 => k_is); (case z9 => k_is); (case z10 => k_is); (case z11 => k_is); (case z12 => k_is)
