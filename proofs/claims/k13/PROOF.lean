import PyProof.Rows.All
import Wide.All
import OpenK.AllK
import Wide.FinOn
import HandS.ForMost
import HandS.Rev
import HandS.TupAny
import HandS.Wide
import PyProof.ReprRoads
import KE.SortData
import HandS.Conv
import HandS.IsInst
import HandS.Style
import KE.GoesMore
import HandS.DictComp
import HandS.TupLe
import HandS.TryOnly
import PyProof.SeqIndex
import KE.DataMinMax
import HandS.TupSets
import HandS.ExcInit
import HandS.ExcField
import HandS.WordsExc
import KE.KExcIs
import KE.KTryMore
import HandS.ExcIs
import HandS.SetFor
import PyProof.EqKinds
import PySem.Challenge.RW_treelamps_k13_lamp_certificates_judged
set_option Elab.async false
set_option linter.all false
set_option maxRecDepth 100000
set_option maxHeartbeats 4000000
namespace TL
open PySem PySem.Spec PyProof.Rows L2

/-! ### defs that show data: they run where no text is being made -/
/-- as the layer's promise of a def, for callers outside of any showing -/
structure FnG (P : Program) (w : World) (K : PySem.W.Frag) (mg : Str → Option Value)
    (base : Heap) (k : Nat) (f : Addr) (fd : FuncData) (ps : List Str) (sp : Sp) : Prop where
  wide : ∀ vs H Q E, sp vs H Q E → vs.length = ps.length
  goes : ∀ (A : Around) (out : List Env) (s : Shared) (H : Hp) (args : Args) (us : List Value)
    (vs : List V) (Q : VK) (E : XK), Room k A → A.guards = some [] →
    Env0 P w K mg base A out s H → BindsTo s fd args (ps.zip us) → Vals vs us → sp vs H Q E →
    codeAny (model P w) A (.call (.ref f) args) (CR CX0 out P w H s Q E) s
section
variable {P : Program} {w : World} {K : PySem.W.Frag} {mg : Str → Option Value} {base : Heap}
theorem FnG.of {k : Nat} {f : Addr} {fd : FuncData} {ps : List Str} {sp : Sp}
    (F : FnOk P w K mg base CX0 k f fd ps sp) : FnG P w K mg base k f fd ps sp :=
  ⟨F.len, fun A out s H args us vs Q E hr _ => F.run A out s H args us vs Q E hr⟩

theorem okG {x qual : Str} {st : Stmt} {f : Addr} {fd : FuncData} {N ps : List Str} {k : Nat} {sp : Sp}
    (F : Fun K x qual st f fd) (S : FnScope N ps (defScope st))
    (len : ∀ vs H Q E, sp vs H Q E → vs.length = ps.length)
    (hb : ∀ (cdv : Value) (A : Around) (out : List Env) (s : Shared) (H : Hp) (vs : List V) (Q : VK) (E : XK),
      Room k (A.deeper (envOfC qual (defScope st) s.heap.objs.size f cdv)) → A.guards = some [] → sp vs H Q E →
      ∃ t, PSs (cxOf CX0 P w K mg base N qual (defScope st) f cdv A out s H E).nox (defBody st) t ∧
        t { nx := fun _ H' => Q .non H', rt := Q } (start N vs) H) :
    FnG P w K mg base (k + 1) f fd ps sp := by
  obtain ⟨oc, od, kV, doc, pm, an, cdv, ct, osl, rfl, lk, hcd⟩ := F.ex
  refine ⟨len, fun A out s H args us vs Q E hr gd e0 bnd r hsp => ?_⟩
  have stays : ∀ b o, base.get? b = some o → s.heap.get? b = some o := fun b o e => (e0.bs b o e).1
  have KX : K.In s.heap := e0.mod.kin.keeps stays
  have nl : s.heap.NoLimit := e0.mod.nolimit.keeps stays
  have kinds : ∀ y ∈ ps.zip us, (defScope st).names.lookup y.1 = some .local ∨
      ((defScope st).names.lookup y.1 = some .cell ∧
        ((cellsFrom (s.heap.objs.size + 1) (defScope st).names []).lookup y.1).isSome = true) := by
    rintro ⟨n, v⟩ hy
    exact (S.par n (List.of_mem_zip hy).1).imp id fun q => ⟨q, PySem.W.cellsFrom_some _ _ _ (.inl q)⟩
  refine codeAny_call_function hr.depth (KX _ _ lk) rfl S.co S.gen rfl
    (PySem.W.codeRec_of KX hcd) (bnd _ _ _ _ ?_)
  refine wpAny_newFunctionEnv_cells S.kind kinds fun env he s1 ic => ?_
  subst he
  refine ⟨nl.keeps ic.toInCall.keep, codeAny_func ?_⟩
  obtain ⟨t, ht, hq⟩ := hb cdv A out s H vs Q E (hr.deeper _) gd hsp
  have J := inv_start (CX := CX0) (E := E) S hr.hd e0 (len _ _ _ _ hsp) r ic
  refine wpAny_mono (ht.nox.run [] s1 (start N vs) H _ J hq) (fun fl s' hs => ?_) fun e s' hs => hs
  match fl, hs with
  | .ret u, ⟨v, σ', H', J', rv, q⟩ => exact ⟨v, H', J'.os, J'.bare, J'.base, J'.hok, rv, q⟩
  | .next, ⟨σ', H', J', q⟩ => exact ⟨V.non, H', J'.os, J'.bare, J'.base, J'.hok, rfl, q⟩
  | .brk, ⟨_, _, _, q⟩ => exact False.elim q
  | .cont, ⟨_, _, _, q⟩ => exact False.elim q
end

section
variable {X : Cx} {k : Nat} {f : Addr} {fd : FuncData} {ps : List Str} {sp : Sp} {x : Str} {p pos : Pos}
  {e : Expr} {es : List Expr} {t : TA}
theorem pe_callG (F : FnG X.prog X.w X.K X.mg X.base k f fd ps sp) (hr : Room k X.A) (gd : X.A.guards = some [])
    (hg : Gl X x) (hm : X.mg x = some (.ref f)) (hk : PySem.W.keepIn X.K (.ref f) = true) (hb : Binds X.K fd ps [])
    (ha : PA X (e :: es) t) (hdb : (x == ("__debug__" : Str)) = false := by decide)
    (he : starEach (e :: es) X.env = (false, eval e X.env) :: starEach es X.env := by rfl)
    (hpl : (backTo pos (starEach es X.env)).any (·.1) = false := by rfl) :
    PE X (.Call (.Name x p) (e :: es) [] pos) (tCall sp [] E0 t) := by
  refine ⟨fun pins s σ H Q I h => wpAny_Call_Name_kw (ld_glob I hg hm ?_ hdb)⟩
  refine PySem.W.callWith_K (h₀ := X.base) I.ok.mod.kin hk
    (thn (ha.run pos pins s σ H _ I h) fun us s1 ⟨vs, H1, I1, r, q⟩ => ⟨I1.kIn, ?_⟩) he hpl
  have q1 : sp (vs ++ []) H1 Q E0 := q
  have q2 : sp vs H1 Q E0 := by rw [List.append_nil] at q1; exact q1
  have bd := hb s1 us I1.kIn (by rw [List.append_nil, ← r.length]; exact F.wide _ _ _ _ q2)
  rw [List.append_nil] at bd
  refine wpAny_call (codeAny_mono (F.goes X.A X.stack s1 H1 ⟨us, []⟩ us vs Q E0 hr gd I1.env0 bd r q2)
    fun res s' hq => ?_)
  match res, hq with
  | .ok (.ret u), hq => exact I1.after hq
  | .ok .next, hq => exact False.elim hq
  | .ok .brk, hq => exact False.elim hq
  | .ok .cont, hq => exact False.elim hq
  | .error e, hq => exact False.elim hq
end

/-! ### the law's own call -/
theorem law_callG {P : Program} {w : World} {K : PySem.W.Frag} {mg mb : Str → Option Value} {k : Nat}
    {fa a : Addr} {fd : FuncData} {x : Str} {sp : Sp} {s : Shared} {vs : List Value} {ns : List Int}
    (KX : K.In s.heap) (hns : s.heap.Ns mainGlobals mg) (hb : s.heap.Ns builtinsNs mb)
    (hbb : ∀ x : Str, x ≠ "__name__" → mb x = bootBuiltins x) (nl : s.heap.NoLimit) (hg : s.gens = #[])
    (ha : s.heap.get? a = some { cls := .type "list", data := .seq vs.toArray }) (hi : IntsAre vs ns)
    (hl : ns.length ≤ sizeLine) (hr : Room k callerA)
    (F : ∀ base : Heap, K.In base → base.Ns mainGlobals mg → FnG P w K mg base k fa fd [x] sp)
    (bnd : ∀ (s : Shared) (u : Value), BindsTo s fd ⟨[u], []⟩ [(x, u)])
    (hsp : ∀ H : Hp, Only H → SqL K H a (ns.map V.int) → sp [.ref a] H (fun v _ => v = .bl true) E0) :
    codeAny (model P w) callerA (.call (.ref fa) ⟨[.ref a], []⟩)
      (fun r s' => r = .ok (.ret (.bool true)) ∧ OldK s.heap s'.heap ∧ s'.os = s.os ∧ AllBare s'.gens) s := by
  have rv := vals_ints hi
  have core : ∀ H : Hp, Only H → SqL K H a (ns.map V.int) → HOk P w H s.heap →
      (∀ b u, H b = some u → b = a) → ((∃ u, H a = some u) → K.lookup a = none) →
      codeAny (model P w) callerA (.call (.ref fa) ⟨[.ref a], []⟩)
        (fun r s' => r = .ok (.ret (.bool true)) ∧ OldK s.heap s'.heap ∧ s'.os = s.os ∧ AllBare s'.gens) s := by
    intro H hO hS hok hA hK
    have dictFree : ∀ {b : Addr} {o : Obj} {es : Array DictEntry} {ep : Nat},
        s.heap.get? b = some o → o.data = .dict es ep → H b = none := by
      intro b o es ep e d
      cases q : H b with
      | none => rfl
      | some u =>
        rw [hA b u q, ha] at e
        cases e
        exact nomatch d
    have nsK : ∀ {b : Addr} {m : Str → Option Value}, s.heap.Ns b m → (hidT s.heap H).Ns b m := by
      rintro b m ⟨o, es, ep, e, d, r⟩
      exact ⟨o, es, ep, hidT_get e (dictFree e d), d, r⟩
    have hKb : K.In (hidT s.heap H) := by
      intro b o e
      refine hidT_get (KX b o e) ?_
      cases q : H b with
      | none => rfl
      | some u =>
        have eb := hA b u q
        rw [eb] at e q
        rw [hK ⟨u, q⟩] at e
        cases e
    have hM : Mod K mg (hidT s.heap H) :=
      ⟨hKb, nsK hns, ⟨mb, nsK hb, hbb⟩, let ⟨mc, h1, h2⟩ := nl; ⟨mc, nsK h1, h2⟩⟩
    have e0 : Env0 P w K mg (hidT s.heap H) callerA [] s H :=
      ⟨rfl, hM, fun b o e => of_hidT e, Nat.le_of_eq (hidT_size _ _), trivial, fun b z => (nomatch z), hok, .of_eq hg⟩
    refine codeAny_mono ((F _ hKb (nsK hns)).goes callerA [] s H ⟨[.ref a], []⟩ [.ref a] [.ref a] _ _ hr rfl
      e0 (bnd s (.ref a)) (.cons rfl .nil) (hsp H hO hS)) fun r s' h => ?_
    match r, h with
    | .error e, h => exact False.elim h
    | .ok .next, h => exact False.elim h
    | .ok .brk, h => exact False.elim h
    | .ok .cont, h => exact False.elim h
    | .ok (.ret u), h =>
      obtain ⟨v, H', os, bare, un, hok', r', q⟩ := h
      obtain rfl : v = .bl true := q
      obtain rfl : u = Value.bool true := r'
      refine ⟨rfl, OldK.of_keep fun b o e => ?_, os, bare⟩
      rcases hO b with z | ⟨ob, xs, z⟩
      · exact un.keep b o e z (fun m => (nomatch m)) (fun m => (nomatch m))
      · have z2 := un.frzs b ob _ z
        have e1 := (hok b _ z).1
        have e2 := (hok' b _ z2).1
        rw [e] at e1
        cases e1
        exact e2
  cases hk : K.lookup a with
  | some o =>
    have e := KX a o hk
    rw [ha] at e
    cases e
    refine core (fun _ => none) (fun _ => .inl rfl) (.inr ⟨_, vs.toArray, _, hk, rfl, rfl, rfl, ?_, by simpa using rv⟩)
      (fun b u z => (nomatch z)) (fun b u z => (nomatch z)) fun ⟨u, z⟩ => (nomatch z)
    rw [List.size_toArray, hi.length]
    exact hl
  | none =>
    let ob : Obj := { cls := .type "list", data := .seq vs.toArray }
    let G : Hp := fun b => if b = a then some (.frz ob (.lst (ns.map V.int))) else none
    have at_a : G a = some (.frz ob (.lst (ns.map V.int))) := if_pos rfl
    have off : ∀ b, b ≠ a → G b = none := fun b z => if_neg z
    refine core G (fun b => ?_) (.inl (.inr ⟨ob, at_a⟩)) (fun b u z => ?_) (fun b u z => ?_) fun _ => hk
    · by_cases hb : b = a
      · exact .inr ⟨ob, _, by rw [hb]; exact at_a⟩
      · exact .inl (off b hb)
    · by_cases hb : b = a
      · rw [hb, at_a] at z
        cases z
        rw [hb]
        exact ⟨ha, by rw [List.length_map]; exact hl, vs, _, rv, ha⟩
      · rw [off b hb] at z
        cases z
    · by_cases hb : b = a
      · exact hb
      · rw [off b hb] at z
        cases z

theorem walk_ofG {l : PySem.W.OpenLaw} {n k : Nat} {q : Program} {loose : List Str}
    {XP : (Str → Option Value) → Heap → Prop} {YP : World → Heap → Prop} {d : DefRec}
    {K : Params → PySem.W.Frag} {sp : World → Sp} {x : Str}
    (hn : l.most = some n) (hn2 : n ≤ sizeLine) (hdf : d.params.defaults = []) (hr : Room k callerA)
    (hY : ∀ (w : World) (h : Heap), YP w h → (K w.params).In h)
    (F : ∀ (w : World) (mg : Str → Option Value) (fa : Addr) (h : Heap), (K w.params).In h →
      h.Ns mainGlobals mg → mg d.name = some (.ref fa) →
      ∃ fd : FuncData, (∀ (s : Shared) (u : Value), BindsTo s fd ⟨[u], []⟩ [(x, u)]) ∧
        ∀ base : Heap, (K w.params).In base → base.Ns mainGlobals mg →
          FnG l.prog w (K w.params) mg base k fa fd [x] (sp w))
    (hsp : ∀ (w : World) (H : Hp) (a : Addr) (ns : List Int), ns.length ≤ n → Only H →
      SqL (K w.params) H a (ns.map V.int) → sp w [.ref a] H (fun v _ => v = .bl true) E0) :
    PySem.W.WalkO q loose XP YP l.row.toRowW d [] (fun f vs => PySem.call f vs) := by
  refine Att.attach_call hn hdf fun w s₀ s₁ mg mb fa o pm cd doc a vs ns G Y ho hd hcd hmg hobj hints hlen hg => ?_
  obtain ⟨fd, hb, hF⟩ := F w mg fa _ (hY w _ Y) G.T.g hmg
  exact law_callG (hY w _ Y) G.T.g G.T.b G.T.builtins G.T.nolimit hg hobj hints
    (Nat.le_trans hlen hn2) hr hF hb fun H hO hS => hsp w H a ns hlen hO hS
end TL
namespace TL
open PySem PySem.Spec PyProof.Rows L2

/-! ### repr of data -/
structure Shows (d : PyData) : Prop where
  can : d.showable = true
  nod : d.hasDict = false
  deep : d.depth ≤ 60
  fits : d.shown.length ≤ sizeLine
def rRepr (K : PySem.W.Frag) : List V → Hp → VK → Prop := fun xs H Q =>
  ∃ (y : V) (d : PyData), xs = [y] ∧ Dp K H y d ∧ Shows d ∧ Q (.str d.shown) H
section
variable {X : Cx}
theorem call_reprD (gd : X.A.guards = some []) (hu : X.A.units + 64 < cLine) :
    CallR X (.builtin "repr") (rRepr X.K) := by
  intro pins s σ H xs us Q I r h
  obtain ⟨y, d, rfl, hd, sh, q⟩ := h
  cases r with
  | cons r1 r2 =>
    rename_i u us'
    cases r2
    obtain ⟨as, rd⟩ := Dp.reads I d y u hd r1
    have big : ∀ a, u = Value.ref a → wpAny (model X.prog X.w) X.A (call (.builtin "repr") [u]) (EP X pins σ Q) X.xe s := by
      intro a e
      subst e
      refine repr_of_reads' rd sh.can (fun z => ?_) gd (by have := sh.deep; omega) (fun _ _ e => e) (fun h' u tk hk => ?_) sh.fits
      · rw [sh.nod] at z
        cases z
      · exact ⟨.str d.shown, H, I.kept (t' := tk) hk, ⟨u, rfl⟩, q⟩
    cases hd with
    | non =>
      obtain rfl : u = Value.none := r1
      rw [PyData.shown_none] at q
      exact PySem.P.repr_of_none ⟨.str _, H, I.tok _, ⟨_, rfl⟩, q⟩
    | bl b =>
      obtain rfl : u = Value.bool b := r1
      rw [PyData.shown_bool] at q
      exact PySem.P.repr_of_bool ⟨.str _, H, I.tok _, ⟨_, rfl⟩, q⟩
    | int i =>
      obtain ⟨t, rfl⟩ := r1
      rw [PyData.shown_int] at q
      exact PySem.P.repr_of_int (by have := sh.can; simpa [PyData.showable] using this) ⟨.str _, H, I.tok _, ⟨_, rfl⟩, q⟩
    | str x =>
      obtain ⟨t, rfl⟩ := r1
      have z := sh.fits
      rw [PyData.shown_str] at q z
      exact PySem.P.repr_of_str ⟨.str _, H, I.tok _, ⟨_, rfl⟩, q⟩ z
    | lst hs ha => exact big _ r1
    | tup hs ha => exact big _ r1
end

/-! ### t[::-1], t a tuple -/
section
variable {prog : Program} {w : World} {A : Around} {E : Value → Shared → Prop} {s : Shared}
theorem fm_congr {α β : Type} (f g : α → Option β) : ∀ l : List α, (∀ x ∈ l, f x = g x) → l.filterMap f = l.filterMap g
  | [], _ => rfl
  | a :: r, h => by
    rw [List.filterMap_cons, List.filterMap_cons, h a List.mem_cons_self, fm_congr f g r fun x hx => h x (List.mem_cons_of_mem _ hx)]
theorem places_back (n : Nat) : Builtin.Slice.slicePlaces ((n : Int) - 1) (-1) (-1) = n := by
  unfold Builtin.Slice.slicePlaces
  rw [if_neg (by decide)]
  by_cases h : (n : Int) - 1 > -1
  · rw [if_pos h]
    have e : ((n : Int) - 1 - -1 - 1) / (- -1) + 1 = (n : Int) := by
      rw [show (- -1 : Int) = 1 by decide, Int.ediv_one]
      omega
    rw [e]
    exact Int.toNat_natCast n
  · rw [if_neg h]
    show (0 : Nat) = n
    omega
theorem pick_back (xs : Array Value) :
    ((List.range xs.size).filterMap fun (m : Nat) => xs[((xs.size : Int) - 1 + (m : Int) * (-1)).toNat]?).toArray = xs.toList.reverse.toArray := by
  have e : (List.range xs.size).filterMap (fun (m : Nat) => xs[((xs.size : Int) - 1 + (m : Int) * (-1)).toNat]?)
      = ((List.range xs.size).map fun k => xs.size - 1 - k).filterMap (xs[·]?) := by
    rw [List.filterMap_map]
    refine fm_congr _ _ _ fun m hm => ?_
    have := List.mem_range.mp hm
    have q : ((xs.size : Int) - 1 + (m : Int) * (-1)).toNat = xs.size - 1 - m := by omega
    rw [q]
    rfl
  rw [e, PySem.W.krv_range, List.filterMap_reverse, PySem.W.krv_all]
theorem back_applied {sl : Addr} {vk : Value} {n : Nat} {Q : Int × Int × Nat → Shared → Prop}
    (hs : s.heap.IsSliceOf sl .none .none vk) (pk : IsPart vk (some (-1)))
    (h : Q ((n : Int) - 1, -1, n) s) : wpAny (model prog w) A (Builtin.Slice.sliceApplied (.ref sl) (pure (n : Int))) Q E s := by
  obtain ⟨os, hos, hcs, hds⟩ := id hs
  unfold Builtin.Slice.sliceApplied Builtin.Slice.sliceFields
  refine wpAny_bind (wpAny_bind (wpAny_field hos hds (x := .none) rfl (wpAny_bind (wpAny_field hos hds (x := .none) rfl
    (wpAny_bind (wpAny_field hos hds (x := vk) rfl (wpAny_pure ?_)))))))
  refine wpAny_bind (HT.slicePart_ pk ?_)
  show wpAny _ _ (if ((-1 : Int) == 0) = true then _ else _) _ _ s
  rw [if_neg (by decide)]
  refine wpAny_bind (slicePart_none (wpAny_bind (slicePart_none (wpAny_bind (wpAny_pure ?_)))))
  show wpAny _ _ (pure ((n : Int) - 1, (-1 : Int), Builtin.Slice.slicePlaces ((n : Int) - 1) (-1) (-1))) _ _ s
  rw [places_back]
  exact wpAny_pure h
theorem getItem_back {t sl : Addr} {items : Array Value} {vk : Value} {Q : Value → Shared → Prop}
    (ht : IsTup s.heap t items) (hs : s.heap.IsSliceOf sl .none .none vk) (pk : IsPart vk (some (-1)))
    (h : Q (.ref s.heap.objs.size) { s with heap := s.heap.push { cls := .type "tuple", data := .seq items.toList.reverse.toArray } })
    (hsz : items.size ≤ sizeLine) : wpAny (model prog w) A (getItem (.ref t) (.ref sl)) Q E s := by
  have hz : sizeOk (.seq items.toList.reverse.toArray) := by
    show items.toList.reverse.toArray.size ≤ sizeLine
    rw [List.size_toArray, List.length_reverse, Array.length_toList]
    exact hsz
  obtain ⟨os, hos, hcs, hds⟩ := id hs
  have hTs : s.TypeIs (.ref sl) "slice" := ⟨os, hos, hcs⟩
  unfold getItem
  try with_reducible refine wpAny_holding ?_
  first | refine wpAny_bind (wpAny_pure ?_) | skip
  refine wpAny_bind (wpAny_sequenceKey ht.typeIs (by decide) ?_)
  refine wpAny_bind (wpAny_callSpecial?_slot (name := Str.ofString "__getitem__") ht.typeIs
    PyProof.Rows.slot_tuple_getitem (wpAny_call_entry PyProof.Rows.slot_tuple_getitem ht.typeIs
      entry_tuple_getitem ?_ (args_tuple_getitem _ _)))
  show wpAny _ _ (Builtin.Tuple.tupleItemsOf (.ref t) >>= _) _ _ s
  refine wpAny_bind (tupleItemsOf_ ht (wpAny_bind (wpAny_typeOf hTs ?_)))
  rw [if_pos (by decide)]
  refine wpAny_bind (back_applied hs pk ?_)
  show wpAny _ _ (if (((items.size : Int) - 1 == 0) && ((-1 : Int) == 1) && (items.size == items.size)) = true then _ else _) _ _ s
  rw [if_neg (by rw [show ((-1 : Int) == 1) = false by decide, Bool.and_false, Bool.false_and]; decide), pick_back]
  first
    | exact wpAny_bind (m := Builtin.Tuple.tupleExact _) (wpAny_newObj_type (wpAny_pure ⟨_, rfl, wpAny_pure h⟩) hz)
    | exact wpAny_bind (m := Builtin.Tuple.tupleExact _) (wpAny_newObj_type (wpAny_bind (wpAny_pure (wpAny_pure ⟨_, rfl, wpAny_pure h⟩))) hz)
    | exact wpAny_bind (wpAny_bind (m := Builtin.Tuple.tupleExact _) (wpAny_newObj_type (wpAny_pure (wpAny_pure ⟨_, rfl, wpAny_pure h⟩)) hz))
    | exact wpAny_bind (wpAny_bind (m := Builtin.Tuple.tupleExact _) (wpAny_newObj_type (wpAny_pure ⟨_, rfl, wpAny_pure h⟩) hz))
end
section
variable {X : Cx}
def tRevT (K : PySem.W.Frag) (te : TE) : TE := fun σ H Q => te σ H fun x H1 =>
  ∃ a xs, x = .ref a ∧ SqT K H1 a xs ∧ ∀ p, H1 p = none → Q (.ref p) (upd H1 p (.tup xs.reverse))
theorem pe_revT {e : Expr} {te : TE} {k : Nat} {p1 p2 p3 pos : Pos} (he : PE X e te) :
    PE X (.Subscript e (.Slice none none (some (.UnaryOp .USub (.Constant (.int 1) k p1) p2)) p3) pos) (tRevT X.K te) := by
  refine ⟨fun pins s σ H Q I h => Subscript_ (thn (he.run pins s σ H _ I h) fun v s1 ⟨x, H1, I1, r1, q1⟩ => ?_)⟩
  obtain ⟨a, xs, ex, hx, q⟩ := q1
  subst ex
  cases r1
  have hst : PO X (some (.UnaryOp .USub (.Constant (.int 1) k p1) p2))
    (tPart (tUn (rU fun i => .int (-i)) (tC (.int 1)))) := po_some (pe_un un_neg pe_int)
  refine wpAny_Slice ?_
  rw [evalPart_none]
  refine wpAny_pure ?_
  refine wpAny_pure ?_
  refine thn (hst.run pins s1 σ H1 (fun o H4 => o = some (-1) ∧ H4 = H1) I1 ⟨1, rfl, -1, rfl, rfl, rfl⟩)
    fun vk s4 ⟨o, H4, I4, pk, eo, e4⟩ => ?_
  subst eo e4
  have I5 : Inv X pins σ H4 { s4 with heap := s4.heap.push { cls := .type "slice", data := .fields #[.none, .none, vk] } } :=
    I4.kept (t' := s4.toks) fun b ob q => Heap.get?_push_of_some _ q
  obtain ⟨its, r, ht, hz⟩ := I5.tuple hx
  have hlen := r.length
  refine tail_any (ops := [.ref a, .ref s4.heap.objs.size]) ht.typeIs PyProof.Rows.slot_tuple_getitem.lookup ?_ (by with_unfolding_all rfl)
  refine getItem_back ht (Heap.IsSliceOf.new _ .none .none vk) pk ?_ (by rw [List.size_toArray]; omega)
  refine ⟨.ref _, _, I5.laid (t' := s4.toks) (o := .tup xs.reverse) (fun b ob q => Heap.get?_push_of_some _ q) (Nat.le_refl _) ?_,
    rfl, q _ (I5.hok.fresh (Nat.le_refl _))⟩
  exact ⟨by rw [List.length_reverse]; exact hz, _, r.reverse, IsTup.new _ _⟩
end
/-! ### the rules with the written part as a letter of its own (within comprehensions) -/
section
variable {X : Cx}
theorem ixTK (K : PySem.W.Frag) (h : X.K = K := by rfl) : IxR X (rIxT K) := h ▸ ix_tup
theorem ixLK (K : PySem.W.Frag) (h : X.K = K := by rfl) : IxR X (rIxL K) := h ▸ ix_list
def rLenK (K : PySem.W.Frag) : List V → Hp → VK → Prop := fun xs H Q => ∃ p ys, xs = [.ref p] ∧ (SqL K H p ys ∨ SqT K H p ys) ∧ Q (.int ys.length) H
theorem lenK (K : PySem.W.Frag) (h : X.K = K := by rfl) : CallR X (.builtin "len") (rLenK K) := h ▸ call_len_seq
def rTupK (K : PySem.W.Frag) : List V → Hp → VK → Prop := fun xs H Q => ∃ p ys, xs = [.ref p] ∧
  ((SqL K H p ys ∧ ∀ l, H l = none → Q (.ref l) (upd H l (.tup ys))) ∨ (SqT K H p ys ∧ Q (.ref p) H))
theorem tupleK (K : PySem.W.Frag) (h : X.K = K := by rfl) : CallR X (.type "tuple") (rTupK K) := h ▸ call_tuple_of
theorem catAK (K : PySem.W.Frag) (h : X.K = K := by rfl) : OpR X (binaryOp .Add) (rCatA K) := h ▸ op_catA
theorem revTK (K : PySem.W.Frag) {e : Expr} {te : TE} {k : Nat} {p1 p2 p3 pos : Pos} (he : PE X e te) (h : X.K = K := by rfl) :
    PE X (.Subscript e (.Slice none none (some (.UnaryOp .USub (.Constant (.int 1) k p1) p2)) p3) pos) (tRevT K te) := h ▸ pe_revT he
theorem reprK (K : PySem.W.Frag) (gd : X.A.guards = some []) (hu : X.A.units + 64 < cLine) (h : X.K = K := by rfl) :
    CallR X (.builtin "repr") (rRepr K) := h ▸ call_reprD gd hu
end
end TL
namespace TL
open PySem PySem.Spec PyProof.Rows L2

/-! ### heaps -/
theorem same_upd {H : Hp} {p : Addr} {o : HO} (h : H p = none) : Same H (upd H p o) := fun b x e => by
  rw [upd_ne (ne_of_none e h)]
  exact e
theorem same_at {H : Hp} {p : Addr} {o : HO} (_ : H p = none) : upd H p o p = some o := upd_same
theorem Same.tup {K : PySem.W.Frag} {H H' : Hp} {a : Addr} {xs : List V} (e : Same H H') (h : SqT K H a xs) : SqT K H' a xs := by
  rcases h with (h | ⟨o, h⟩) | h
  · exact .inl (.inl (e _ _ h))
  · exact .inl (.inr ⟨o, e _ _ h⟩)
  · exact .inr h
/-- every tuple stays -/
def KT (K : PySem.W.Frag) (H H' : Hp) : Prop := ∀ a xs, SqT K H a xs → SqT K H' a xs
theorem KT.refl {K : PySem.W.Frag} {H : Hp} : KT K H H := fun _ _ h => h
theorem KT.trans {K : PySem.W.Frag} {H H1 H2 : Hp} (a : KT K H H1) (b : KT K H1 H2) : KT K H H2 := fun c o h => b c o (a c o h)
theorem Same.kt {K : PySem.W.Frag} {H H' : Hp} (e : Same H H') : KT K H H' := fun _ _ h => Same.tup e h
/-- all but what stands at d and l is as it was -/
def Fm (d l : Addr) (H H' : Hp) : Prop := ∀ b o, b ≠ d → b ≠ l → H b = some o → H' b = some o
theorem Fm.refl {d l : Addr} {H : Hp} : Fm d l H H := fun _ _ _ _ h => h
theorem Fm.trans {d l : Addr} {H H1 H2 : Hp} (a : Fm d l H H1) (b : Fm d l H1 H2) : Fm d l H H2 :=
  fun c o h1 h2 h => b c o h1 h2 (a c o h1 h2 h)
theorem Same.fm {d l : Addr} {H H' : Hp} (e : Same H H') : Fm d l H H' := fun b o _ _ h => e b o h

/-! ### the deck: a list of cells and a count -/
def Deck (H : Hp) (d l : Addr) (n : Nat) : Prop := ∃ (c : Nat) (ns : List Int), c ≤ n ∧
  H d = some (.lst [.ref l, .int (c : Int)]) ∧ H l = some (.lst (ns.map V.int)) ∧ (∀ z ∈ ns, 0 ≤ z) ∧ ns.length ≤ 63
theorem Deck.ne {H : Hp} {d l : Addr} {n : Nat} (h : Deck H d l n) : d ≠ l := by
  obtain ⟨c, ns, _, h1, h2, _⟩ := h
  intro e
  rw [e, h2] at h1
  cases ns with
  | nil => cases h1
  | cons z r => cases h1
theorem Deck.same {H H' : Hp} {d l : Addr} {n : Nat} (h : Deck H d l n) (e : Same H H') : Deck H' d l n := by
  obtain ⟨c, ns, hc, h1, h2, h3⟩ := h
  exact ⟨c, ns, hc, e _ _ h1, e _ _ h2, h3⟩
theorem Deck.le {H : Hp} {d l : Addr} {n m : Nat} (h : Deck H d l n) (e : n ≤ m) : Deck H d l m := by
  obtain ⟨c, ns, hc, h3⟩ := h
  exact ⟨c, ns, Nat.le_trans hc e, h3⟩
theorem Fm.kt {K : PySem.W.Frag} {H H' : Hp} {d l : Addr} {n : Nat} (e : Fm d l H H') (h : Deck H d l n) : KT K H H' := by
  obtain ⟨c, ns, hc, h1, h2, h3⟩ := h
  intro a xs q
  rcases q with (q | ⟨o, q⟩) | q
  · refine .inl (.inl (e _ _ (fun z => ?_) (fun z => ?_) q))
    · rw [z, h1] at q; cases q
    · rw [z, h2] at q; cases q
  · refine .inl (.inr ⟨o, e _ _ (fun z => ?_) (fun z => ?_) q⟩)
    · rw [z, h1] at q; cases q
    · rw [z, h2] at q; cases q
  · exact .inr q
/-- a tracked thing that is neither -/
theorem Deck.off {H : Hp} {d l a : Addr} {n : Nat} (h : Deck H d l n) (ha : H a = none) : a ≠ d ∧ a ≠ l := by
  obtain ⟨c, ns, hc, h1, h2, h3⟩ := h
  exact ⟨fun z => (by rw [z, h1] at ha; cases ha), fun z => (by rw [z, h2] at ha; cases ha)⟩

theorem Deck.put {H : Hp} {d l a : Addr} {n : Nat} {o : HO} (h : Deck H d l n) (h1 : a ≠ d) (h2 : a ≠ l) : Deck (upd H a o) d l n := by
  obtain ⟨c, ns, hc, e1, e2, h3⟩ := h
  exact ⟨c, ns, hc, by rw [upd_ne h1.symm]; exact e1, by rw [upd_ne h2.symm]; exact e2, h3⟩
theorem kt_lst {K : PySem.W.Frag} {H : Hp} {a : Addr} {xs ys : List V} (h : H a = some (.lst xs)) : KT K H (upd H a (.lst ys)) := by
  intro b zs q
  rcases q with (q | ⟨o, q⟩) | q
  · refine .inl (.inl ?_)
    rw [upd_ne fun z => by rw [z, h] at q; cases q]
    exact q
  · refine .inl (.inr ⟨o, ?_⟩)
    rw [upd_ne fun z => by rw [z, h] at q; cases q]
    exact q
  · exact .inr q

/-! ### data -/
mutual
def only : PyData → Bool
  | .none => true
  | .bool _ => true
  | .int _ => true
  | .str _ => true
  | .tuple xs => onlyAll xs
  | .list _ => false
  | .dict _ => false
def onlyAll : List PyData → Bool
  | [] => true
  | x :: xs => only x && onlyAll xs
end
section
variable {K : PySem.W.Frag} {H H' : Hp}
mutual
theorem Dp.kt (e : KT K H H') : ∀ {v : V} {d : PyData}, Dp K H v d → only d = true → Dp K H' v d
  | _, _, .non, _ => .non
  | _, _, .bl b, _ => .bl b
  | _, _, .int i, _ => .int i
  | _, _, .str x, _ => .str x
  | _, _, .lst h a, o => by
    unfold only at o
    cases o
  | _, _, .tup h a, o => .tup (e _ _ h) (DpAll.kt e a (by unfold only at o; exact o))
theorem DpAll.kt (e : KT K H H') : ∀ {v : List V} {d : List PyData}, DpAll K H v d → onlyAll d = true → DpAll K H' v d
  | _, _, .nil, _ => .nil
  | _, _, .cons h a, o => by
    unfold onlyAll at o
    rw [Bool.and_eq_true] at o
    exact .cons (Dp.kt e h o.1) (DpAll.kt e a o.2)
end
mutual
theorem Dp.same (e : Same H H') : ∀ {v : V} {d : PyData}, Dp K H v d → Dp K H' v d
  | _, _, .non => .non
  | _, _, .bl b => .bl b
  | _, _, .int i => .int i
  | _, _, .str x => .str x
  | _, _, .lst h a => .lst (e.seq h) (DpAll.same e a)
  | _, _, .tup h a => .tup (Same.tup e h) (DpAll.same e a)
theorem DpAll.same (e : Same H H') : ∀ {v : List V} {d : List PyData}, DpAll K H v d → DpAll K H' v d
  | _, _, .nil => .nil
  | _, _, .cons h a => .cons (Dp.same e h) (DpAll.same e a)
end
theorem DpAll.length : ∀ {v : List V} {d : List PyData}, DpAll K H v d → v.length = d.length
  | _, _, .nil => rfl
  | _, _, .cons _ a => congrArg (· + 1) (DpAll.length a)
theorem DpAll.append : ∀ {v u : List V} {d e : List PyData}, DpAll K H v d → DpAll K H u e → DpAll K H (v ++ u) (d ++ e)
  | _, _, _, _, .nil, b => b
  | _, _, _, _, .cons h a, b => .cons h (DpAll.append a b)
theorem DpAll.reverse : ∀ {v : List V} {d : List PyData}, DpAll K H v d → DpAll K H v.reverse d.reverse
  | _, _, .nil => .nil
  | _, _, .cons h a => by
    rw [List.reverse_cons, List.reverse_cons]
    exact DpAll.append (DpAll.reverse a) (.cons h .nil)
theorem DpAll.get : ∀ {v : List V} {d : List PyData} {i : Nat} {x : V}, DpAll K H v d → v[i]? = some x → ∃ z, d[i]? = some z ∧ Dp K H x z
  | _, _, _, _, .nil, q => by simp at q
  | _, _, 0, _, .cons h a, q => by
    rw [List.getElem?_cons_zero] at q
    cases q
    exact ⟨_, List.getElem?_cons_zero, h⟩
  | _, _, i + 1, _, .cons h a, q => by
    rw [List.getElem?_cons_succ] at q
    obtain ⟨z, e, r⟩ := DpAll.get a q
    exact ⟨z, by rw [List.getElem?_cons_succ]; exact e, r⟩
theorem Dp.tupI {v : V} {ds : List PyData} (h : Dp K H v (.tuple ds)) : ∃ a xs, v = .ref a ∧ SqT K H a xs ∧ DpAll K H xs ds := by
  cases h with
  | tup h a => exact ⟨_, _, rfl, h, a⟩
theorem Dp.lstI {v : V} {ds : List PyData} (h : Dp K H v (.list ds)) : ∃ a xs, v = .ref a ∧ SqL K H a xs ∧ DpAll K H xs ds := by
  cases h with
  | lst h a => exact ⟨_, _, rfl, h, a⟩
theorem Dp.intI {v : V} {i : Int} (h : Dp K H v (.int i)) : v = .int i := by
  cases h
  rfl
theorem DpAll.ints : ∀ {xs : List V} {ns : List Int}, DpAll K H xs (ns.map .int) → xs = ns.map V.int
  | [], [], _ => rfl
  | _ :: _, n :: ns, .cons h a => by
    rw [Dp.intI h, DpAll.ints a]
    rfl
theorem DpAll.of_ints : ∀ (ns : List Int), DpAll K H (ns.map V.int) (ns.map .int)
  | [] => .nil
  | n :: ns => .cons (.int n) (DpAll.of_ints ns)
end

/-! ### pairs of ints -/
def prD (p : Int × Int) : PyData := .tuple [.int p.1, .int p.2]
def prsD (ps : List (Int × Int)) : PyData := .tuple (ps.map prD)
theorem only_pr (p : Int × Int) : only (prD p) = true := by simp [prD, only, onlyAll]
theorem only_prs : ∀ ps : List (Int × Int), onlyAll (ps.map prD) = true
  | [] => by simp [onlyAll]
  | p :: ps => by simp [onlyAll, only_pr p, only_prs ps]
theorem only_prsD (ps : List (Int × Int)) : only (prsD ps) = true := by
  unfold prsD only
  exact only_prs ps
section
variable {K : PySem.W.Frag} {H : Hp}
theorem Dp.prI {v : V} {p : Int × Int} (h : Dp K H v (prD p)) : ∃ a, v = .ref a ∧ SqT K H a [.int p.1, .int p.2] := by
  obtain ⟨a, xs, e, h1, h2⟩ := Dp.tupI h
  have q : xs = [p.1, p.2].map V.int := DpAll.ints (ns := [p.1, p.2]) h2
  subst q
  exact ⟨a, e, h1⟩
theorem Dp.pr {a : Addr} {i j : Int} (h : SqT K H a [.int i, .int j]) : Dp K H (.ref a) (prD (i, j)) :=
  .tup h (.cons (.int i) (.cons (.int j) .nil))
end

/-! ### showing small data -/
def sm (i : Int) : Prop := -1000 ≤ i ∧ i ≤ 1000
theorem sm_log {i : Int} (h : sm i) : i.natAbs.log2 < 10 := by
  have h2 : i.natAbs < 2 ^ 10 := by
    unfold sm at h
    omega
  exact PySem.Flt.log2_lt_of (by decide) h2
structure Sm (d : PyData) (n k : Nat) : Prop where
  can : d.showable = true
  nod : d.hasDict = false
  deep : d.depth ≤ k
  short : d.leavesShort 13 = true
  light : d.weight ≤ n
theorem Sm.shows {d : PyData} {n k : Nat} (h : Sm d n k) (hn : n ≤ 1000000) (hk : k ≤ 60) : Shows d :=
  ⟨h.can, h.nod, Nat.le_trans h.deep hk, PyData.shown_fits (by decide) (by decide) h.short (Nat.le_trans h.light (by omega))⟩
theorem Sm.le {d : PyData} {n k m j : Nat} (h : Sm d n k) (hn : n ≤ m) (hk : k ≤ j) : Sm d m j :=
  ⟨h.can, h.nod, Nat.le_trans h.deep hk, h.short, Nat.le_trans h.light hn⟩
theorem Sm.none : Sm .none 0 0 := ⟨rfl, rfl, Nat.le_refl _, rfl, Nat.le_refl _⟩
theorem Sm.bool (b : Bool) : Sm (.bool b) 0 0 := ⟨rfl, rfl, Nat.le_refl _, rfl, Nat.le_refl _⟩
theorem Sm.int {i : Int} (h : sm i) : Sm (.int i) 10 0 := by
  have h1 := sm_log h
  refine ⟨?_, by simp [PyData.hasDict], by simp [PyData.depth], ?_, ?_⟩
  · simp only [PyData.showable]
    exact decide_eq_true (by omega)
  · simp only [PyData.leavesShort]
    exact decide_eq_true (PyData.shown_int_le (by unfold sm at h; omega))
  · simp only [PyData.weight]
    split <;> omega
structure SmA (ds : List PyData) (n k : Nat) : Prop where
  can : PyData.showableAll ds = true
  nod : PyData.hasDictAll ds = false
  deep : PyData.depthAll ds ≤ k
  short : PyData.leavesShortAll 13 ds = true
  light : PyData.weightAll ds ≤ ds.length * (n + 1)
theorem SmA.of {n k : Nat} : ∀ {ds : List PyData}, (∀ d ∈ ds, Sm d n k) → SmA ds n k
  | [], _ => ⟨rfl, rfl, by simp [PyData.depthAll], rfl, by simp [PyData.weightAll]⟩
  | d :: ds, h => by
    have h1 := h d List.mem_cons_self
    have h2 := SmA.of (n := n) (k := k) fun e he => h e (List.mem_cons_of_mem _ he)
    refine ⟨?_, ?_, ?_, ?_, ?_⟩
    · simp only [PyData.showableAll, h1.can, h2.can, Bool.and_self]
    · simp only [PyData.hasDictAll, h1.nod, h2.nod, Bool.or_self]
    · simp only [PyData.depthAll]
      exact Nat.max_le.mpr ⟨h1.deep, h2.deep⟩
    · simp only [PyData.leavesShortAll, h1.short, h2.short, Bool.and_self]
    · have a := h1.light
      have b := h2.light
      simp only [PyData.weightAll, List.length_cons, Nat.add_mul, Nat.one_mul]
      omega
theorem Sm.tup {n k m : Nat} {ds : List PyData} (h : ∀ d ∈ ds, Sm d n k) (hm : ds.length ≤ m) : Sm (.tuple ds) (m * (n + 1)) (k + 1) := by
  have q := SmA.of h
  have z : ds.length * (n + 1) ≤ m * (n + 1) := Nat.mul_le_mul_right _ hm
  refine ⟨?_, ?_, ?_, ?_, ?_⟩
  · simp only [PyData.showable]; exact q.can
  · simp only [PyData.hasDict]; exact q.nod
  · simp only [PyData.depth]; have := q.deep; omega
  · simp only [PyData.leavesShort]; exact q.short
  · simp only [PyData.weight]; exact Nat.le_trans q.light z
theorem Sm.lst {n k m : Nat} {ds : List PyData} (h : ∀ d ∈ ds, Sm d n k) (hm : ds.length ≤ m) : Sm (.list ds) (m * (n + 1)) (k + 1) := by
  have q := SmA.of h
  have z : ds.length * (n + 1) ≤ m * (n + 1) := Nat.mul_le_mul_right _ hm
  refine ⟨?_, ?_, ?_, ?_, ?_⟩
  · simp only [PyData.showable]; exact q.can
  · simp only [PyData.hasDict]; exact q.nod
  · simp only [PyData.depth]; have := q.deep; omega
  · simp only [PyData.leavesShort]; exact q.short
  · simp only [PyData.weight]; exact Nat.le_trans q.light z
def smP (p : Int × Int) : Prop := sm p.1 ∧ sm p.2
theorem Sm.pr {p : Int × Int} (h : smP p) : Sm (prD p) 22 1 :=
  Sm.tup (n := 10) (k := 0) (m := 2) (fun d hd => by
    rcases List.mem_cons.mp hd with rfl | hd
    · exact Sm.int h.1
    · rcases List.mem_cons.mp hd with rfl | hd
      · exact Sm.int h.2
      · exact nomatch hd) (Nat.le_refl _)
theorem Sm.prs {ps : List (Int × Int)} {m : Nat} (h : ∀ p ∈ ps, smP p) (hm : ps.length ≤ m) : Sm (prsD ps) (m * 23) 2 :=
  Sm.tup (n := 22) (k := 1) (m := m) (fun d hd => by
    obtain ⟨p, hp, rfl⟩ := List.mem_map.mp hd
    exact Sm.pr (h p hp)) (by rw [List.length_map]; exact hm)
end TL
namespace TL
open PySem PySem.Spec PyProof.Rows L2
theorem yesI {σ : L2.St} {H : Hp} {Q : Bool → Hp → Prop} (h : Q true H) : tYes σ H Q := h
/-- what a comprehension asks of its turns -/
def LcGoal (J : It) (g : TG) (tt : TT) (te : TE) (vs : List Nat) (σ : L2.St) (H1 : Hp) (D : Addr) (Qd : Hp → Prop) : Prop :=
  ∃ W : Nat → Nat → Hp → Prop, (∃ m, W 0 m (upd H1 D (.lst []))) ∧ ∀ i m H, W i m H →
    (J.stop i H ∧ Qd H) ∨
    (J.go i H ∧ ∃ Nx : Hp → Prop, (∀ H', Nx H' → ∃ m', m' < m ∧ W (i + 1) m' H') ∧
      ∀ x H', J.yld i H x H' → g x (wipe σ vs) H' fun σ2 H2 =>
        wipe σ2 vs = wipe σ vs ∧ tt σ2 H2 fun b H3 =>
          if b = true then
            te σ2 H3 fun y H4 => ∃ acc, H4 D = some (.lst acc) ∧ acc.length < sizeLine ∧ Nx (upd H4 D (.lst (acc ++ [y])))
          else Nx H3)
/-- by the number of turns -/
theorem lc_by {J : It} {g : TG} {tt : TT} {te : TE} {vs : List Nat} {σ : L2.St} {H1 : Hp} {D : Addr} {Qd : Hp → Prop} (n : Nat)
    (Pv : Nat → Hp → Prop) (h0 : Pv 0 (upd H1 D (.lst []))) (hgo : ∀ i H, i < n → Pv i H → J.go i H) (hst : ∀ H, Pv n H → J.stop n H)
    (hs : ∀ i x H H', i < n → Pv i H → J.yld i H x H' → g x (wipe σ vs) H' fun σ2 H2 =>
      wipe σ2 vs = wipe σ vs ∧ tt σ2 H2 fun b H3 =>
        if b = true then
          te σ2 H3 fun y H4 => ∃ acc, H4 D = some (.lst acc) ∧ acc.length < sizeLine ∧ Pv (i + 1) (upd H4 D (.lst (acc ++ [y])))
        else Pv (i + 1) H3)
    (hd : ∀ H, Pv n H → Qd H) : LcGoal J g tt te vs σ H1 D Qd := by
  refine ⟨fun i m H => m = n - i ∧ i ≤ n ∧ Pv i H, ⟨n, rfl, Nat.zero_le _, h0⟩, fun i m H hW => ?_⟩
  obtain ⟨e, hi, p⟩ := hW
  by_cases hlt : i < n
  · refine .inr ⟨hgo i H hlt p, Pv (i + 1), fun H' p' => ⟨n - (i + 1), by omega, rfl, hlt, p'⟩, fun x H' y => hs i x H H' hlt p y⟩
  · obtain rfl : i = n := by omega
    exact .inl ⟨hst H p, hd H p⟩
/-- over reversed(a tuple) -/
theorem lc_revT {K : PySem.W.Frag} {a : Addr} {xs : List V} {g : TG} {tt : TT} {te : TE} {vs : List Nat} {σ : L2.St} {H1 : Hp} {D : Addr} {Qd : Hp → Prop}
    (Pv : Nat → Hp → Prop) (h0 : Pv 0 (upd H1 D (.lst []))) (hl : ∀ i H, Pv i H → SqT K H a xs)
    (hs : ∀ i x H, i < xs.length → xs[xs.length - 1 - i]? = some x → Pv i H → g x (wipe σ vs) H fun σ2 H2 =>
      wipe σ2 vs = wipe σ vs ∧ tt σ2 H2 fun b H3 =>
        if b = true then
          te σ2 H3 fun y H4 => ∃ acc, H4 D = some (.lst acc) ∧ acc.length < sizeLine ∧ Pv (i + 1) (upd H4 D (.lst (acc ++ [y])))
        else Pv (i + 1) H3)
    (hd : ∀ H, Pv xs.length H → Qd H) : LcGoal (RT.ItvT K a xs.length) g tt te vs σ H1 D Qd := by
  refine lc_by xs.length Pv h0 (fun i H hi p => ?_) (fun H p => Nat.le_refl _) (fun i x H H' hi p y => ?_) hd
  · have hj : xs.length - 1 - i < xs.length := by omega
    exact ⟨hi, xs, _, hl i H p, List.getElem?_eq_getElem hj⟩
  · obtain ⟨e, hy⟩ := y
    subst e
    exact hs i x _ hi (hy xs (hl i _ p)) p
end TL
namespace TL
open PySem PySem.Spec PyProof.Rows L2
/-! ### sorted, of any alike data -/
theorem each_of {K : PySem.W.Frag} {H : Hp} {β : Type} (enc : β → PyData) : ∀ {xs : List V} {us : List Value} {bs : List β},
    Vals xs us → DpAll K H xs (bs.map enc) → PySem.W.EachIs (fun (u : Value) (b : β) => ∃ x, RelV x u ∧ Dp K H x (enc b)) us bs
  | _, _, [], .nil, _ => .nil
  | _, _, _ :: _, .nil, h => nomatch h
  | _, _, [], .cons _ _, h => nomatch h
  | _, _, b :: bs, .cons r t, .cons h a => .cons ⟨_, r, h⟩ (each_of enc t a)
theorem of_each {K : PySem.W.Frag} {H : Hp} {β : Type} (enc : β → PyData) : ∀ {us : List Value} {bs : List β},
    PySem.W.EachIs (fun (u : Value) (b : β) => ∃ x, RelV x u ∧ Dp K H x (enc b)) us bs → ∃ ys, Vals ys us ∧ DpAll K H ys (bs.map enc)
  | _, _, .nil => ⟨[], .nil, .nil⟩
  | _, _, .cons ⟨x, r, h⟩ t => by
    obtain ⟨ys, a, b⟩ := of_each enc t
    exact ⟨x :: ys, .cons r a, .cons h b⟩
@[irreducible] def rSortD (K : PySem.W.Frag) : List V → Hp → VK → Prop := fun vs H Q => ∃ (β : Type) (enc : β → PyData) (bs : List β) (a : Addr) (xs : List V),
  vs = [.ref a] ∧ SqL K H a xs ∧ DpAll K H xs (bs.map enc) ∧ PySem.W.AllAlike (bs.map enc) ∧ PySem.W.Sortable (bs.map enc) ∧ (∀ b ∈ bs, (enc b).depth ≤ 50) ∧
  ∀ p ys, H p = none → DpAll K H ys ((bs.mergeSort (PySem.W.dataLe false enc)).map enc) → Q (.ref p) (upd H p (.lst ys))
section
variable {X : Cx}
theorem sorted_D (hu : X.A.units + 64 < cLine) : CallR X (.builtin "sorted") (rSortD X.K) := by
  intro pins s σ H vs us Q I r h
  unfold rSortD at h
  obtain ⟨β, enc, bs, a, xs, rfl, hs, ha, al, so, dp, q⟩ := h
  cases r with
  | cons r1 r2 =>
    cases r2
    rename_i u
    obtain rfl : u = Value.ref a := r1
    obtain ⟨its, rv, hl, hz⟩ := I.list hs
    have e1 := each_of enc rv ha
    have lb : xs.length = bs.length := by rw [DpAll.length ha, List.length_map]
    have e2 : PySem.W.EachIs (fun v b => ∃ as, Reads s.heap v (enc b) as) its bs :=
      e1.mono fun u b ⟨x, rx, hx⟩ => Dp.reads I _ x u hx rx
    refine PySem.W.sorted_data hl.isList e1 e2 al so (by omega) (fun b hb => by have := dp b hb; omega) fun out hlen eo => ?_
    obtain ⟨ys, ry, dy⟩ := of_each enc eo
    obtain ⟨c, hc⟩ := PyProof.Rows.sortedAll_at s.heap its out.toArray
    have fr : H (s.heap.objs.size + 1) = none := I.hok.fresh (Nat.le_succ _)
    refine ⟨.ref (s.heap.objs.size + 1), upd H (s.heap.objs.size + 1) (.lst ys), I.laid (t' := s.toks) (fun _ _ => PyProof.Rows.sortedAll_old) (Nat.le_succ _) ?_, rfl, q _ ys fr dy⟩
    exact ⟨by have := ry.length; omega, out, c, ry, hc⟩
/-! ### in, of data -/
def rInDt (K : PySem.W.Frag) (neg : Bool) : R2 := fun x y H Q => ∃ d ds, Dp K H x d ∧ (Dp K H y (.list ds) ∨ Dp K H y (.tuple ds)) ∧
  PyData.canLayAll0 ds = true ∧ d.canLay0 = true ∧ d.depth ≤ 50 ∧ Q (.bl (if neg then !(ds.any fun z => PyData.eqv z d) else ds.any fun z => PyData.eqv z d)) H
theorem room_in {d : PyData} {ds : List PyData} {u : Nat} (h : d.depth ≤ 50) (hu : u + 64 < cLine) : u + 1 + min (PyData.depthAll ds) d.depth < cLine := by
  have : min (PyData.depthAll ds) d.depth ≤ 50 := Nat.le_trans (Nat.min_le_right _ _) h
  omega
theorem op_inDt (hu : X.A.units + 64 < cLine) : OpR X (compareOp .In) (rInDt X.K false) := by
  intro pins s σ H x y v u Q I rx ry h
  obtain ⟨d, ds, hd, he, c1, c2, dp, q⟩ := h
  obtain ⟨as, r1⟩ := Dp.reads I d x v hd rx
  rcases he with he | he
  · obtain ⟨bs, r2⟩ := Dp.reads I _ y u he ry
    exact SeqAt.in_list_reads r2 r1 c1 c2 (room_in dp hu) ⟨.bl _, H, I, rfl, q⟩
  · obtain ⟨bs, r2⟩ := Dp.reads I _ y u he ry
    exact SeqAt.in_tuple_reads r2 r1 c1 c2 (room_in dp hu) ⟨.bl _, H, I, rfl, q⟩
theorem op_notInDt (hu : X.A.units + 64 < cLine) : OpR X (compareOp .NotIn) (rInDt X.K true) := by
  intro pins s σ H x y v u Q I rx ry h
  obtain ⟨d, ds, hd, he, c1, c2, dp, q⟩ := h
  obtain ⟨as, r1⟩ := Dp.reads I d x v hd rx
  rcases he with he | he
  · obtain ⟨bs, r2⟩ := Dp.reads I _ y u he ry
    exact SeqAt.notIn_list_reads r2 r1 c1 c2 (room_in dp hu) ⟨.bl _, H, I, rfl, q⟩
  · obtain ⟨bs, r2⟩ := Dp.reads I _ y u he ry
    exact SeqAt.notIn_tuple_reads r2 r1 c1 c2 (room_in dp hu) ⟨.bl _, H, I, rfl, q⟩
/-! ### the written part as a letter -/
theorem sortK (K : PySem.W.Frag) (hu : X.A.units + 64 < cLine) (h : X.K = K := by rfl) : CallR X (.builtin "sorted") (rSortD K) := h ▸ sorted_D hu
theorem inDK (K : PySem.W.Frag) (hu : X.A.units + 64 < cLine) (h : X.K = K := by rfl) : OpR X (compareOp .In) (rInDt K false) := h ▸ op_inDt hu
theorem notInDK (K : PySem.W.Frag) (hu : X.A.units + 64 < cLine) (h : X.K = K := by rfl) : OpR X (compareOp .NotIn) (rInDt K true) := h ▸ op_notInDt hu
theorem inK (K : PySem.W.Frag) (h : X.K = K := by rfl) : OpR X (compareOp .In) (rIn K false) := h ▸ op_in_seq
theorem notInK (K : PySem.W.Frag) (h : X.K = K := by rfl) : OpR X (compareOp .NotIn) (rIn K true) := h ▸ op_notIn_seq
theorem eqDK (K : PySem.W.Frag) (hu : X.A.units + 64 < cLine) (h : X.K = K := by rfl) : OpR X (compareOp .Eq) (rEqD K) := h ▸ op_eqD hu
theorem neDK (K : PySem.W.Frag) (hu : X.A.units + 64 < cLine) (h : X.K = K := by rfl) : OpR X (compareOp .NotEq) (rNeD K) := h ▸ op_neD hu
theorem anyK (K : PySem.W.Frag) (hc : X.calm = true) (h : X.K = K := by rfl) : CallR X (.builtin "any") (rAny K) := h ▸ cr_any hc
def rListK (K : PySem.W.Frag) : List V → Hp → VK → Prop := fun xs H Q => ∃ p ys, xs = [.ref p] ∧ (SqL K H p ys ∨ SqT K H p ys) ∧ ∀ l, H l = none → Q (.ref l) (upd H l (.lst ys))
theorem listK (K : PySem.W.Frag) (h : X.K = K := by rfl) : CallR X (.type "list") (rListK K) := h ▸ call_list_of
theorem slTK (K : PySem.W.Frag) (h : X.K = K := by rfl) : SlR X (rSlA K) := h ▸ sl_tupA
theorem slLK (K : PySem.W.Frag) (h : X.K = K := by rfl) : SlR X (rSlL K) := h ▸ sl_list
end
end TL
namespace TL
open PySem PySem.Spec PyProof.Rows L2
/-- a def of the text by its name, with its promise -/
structure Own (P : Program) (w : World) (K : PySem.W.Frag) (mg : Str → Option Value) (base : Heap)
    (x : Str) (k : Nat) (ps : List Str) (sp : Sp) : Prop where
  ex : ∃ (f : Addr) (fd : FuncData), FnOk P w K mg base CX0 k f fd ps sp ∧ mg x = some (.ref f) ∧
    PySem.W.keepIn K (.ref f) = true ∧ Binds K fd ps []
/-- .. that shows data -/
structure OwnG (P : Program) (w : World) (K : PySem.W.Frag) (mg : Str → Option Value) (base : Heap)
    (x : Str) (k : Nat) (ps : List Str) (sp : Sp) : Prop where
  ex : ∃ (f : Addr) (fd : FuncData), FnG P w K mg base k f fd ps sp ∧ mg x = some (.ref f) ∧
    PySem.W.keepIn K (.ref f) = true ∧ Binds K fd ps []
section
variable {X : Cx} {k : Nat} {ps : List Str} {sp : Sp} {x : Str} {p pos : Pos} {e : Expr} {es : List Expr} {t : TA}
theorem pe_own (O : Own X.prog X.w X.K X.mg X.base x k ps sp) (hr : Room k X.A) (hg : Gl X x) (ha : PA X (e :: es) t)
    (hdb : (x == ("__debug__" : Str)) = false := by decide)
    (he : starEach (e :: es) X.env = (false, eval e X.env) :: starEach es X.env := by rfl)
    (hpl : (backTo pos (starEach es X.env)).any (·.1) = false := by rfl) :
    PE X (.Call (.Name x p) (e :: es) [] pos) (tCall sp [] E0 t) := by
  obtain ⟨f, fd, F, hm, hk, hb⟩ := O.ex
  exact pe_call F hr hg hm hk hb .nil pass0 ha hdb he hpl
theorem pe_ownG (O : OwnG X.prog X.w X.K X.mg X.base x k ps sp) (hr : Room k X.A) (gd : X.A.guards = some []) (hg : Gl X x) (ha : PA X (e :: es) t)
    (hdb : (x == ("__debug__" : Str)) = false := by decide)
    (he : starEach (e :: es) X.env = (false, eval e X.env) :: starEach es X.env := by rfl)
    (hpl : (backTo pos (starEach es X.env)).any (·.1) = false := by rfl) :
    PE X (.Call (.Name x p) (e :: es) [] pos) (tCall sp [] E0 t) := by
  obtain ⟨f, fd, F, hm, hk, hb⟩ := O.ex
  exact pe_callG F hr gd hg hm hk hb ha hdb he hpl
theorem piTK (K : PySem.W.Frag) {tg a : Expr} {ta : TE} (ha : PE X a ta) (h : X.K = K := by rfl) : PI X tg a (iTup K ta) := h ▸ pi_tup ha
theorem piLK (K : PySem.W.Frag) {tg a : Expr} {ta : TE} (ha : PE X a ta) (h : X.K = K := by rfl) : PI X tg a (iList K ta) := h ▸ pi_list ha
theorem pgTK (K : PySem.W.Frag) {es : List Expr} {k : Nat} {t : TGs} {n : Nat} (h : PGs X es t) (hc : X.calm = true := by rfl) (hK : X.K = K := by rfl)
    (hn : (assignEach es X.env).length = n := by rfl) (hst : (assignEach es X.env).findIdx? (·.1) = none := by rfl) :
    PG X (.Tuple es k pos) (gTup K n t) := hK ▸ pg_tup hc h hn hst
theorem bmK (K : PySem.W.Frag) {o : Expr} {to : TE} {name : Str} {apos cpos : Pos} {T id : String}
    {r : V → List V → Hp → VK → Prop} (pa : PlainAttrs T) (slot : Slot T name id)
    (hty : typeOf (.builtin id) = pure (.type "method_descriptor")) (hm : MtR X id r) (ho : PE X o to)
    (ha : PA X (e :: es) t) (h : X.K = K := by rfl)
    (hbase : attributeBase o name X.env (eval o X.env) = eval o X.env := by rfl)
    (hfew : ((backTo cpos (starEach (e :: es) X.env)).all (fun x => !x.1)
        && (backToKw cpos (keywordEach [] X.env)).all (fun x => x.1.isSome)
        && decide ((e :: es).length + ([] : List Keyword).length
          + (if ([] : List Keyword).isEmpty then 0 else 1) < 30)) = true := by rfl)
    (hline : (apos.endLine == cpos.line) = true := by rfl)
    (hs : starEach (e :: es) X.env = (false, eval e X.env) :: starEach es X.env := by rfl)
    (hplain : (backTo cpos (starEach es X.env)).any (·.1) = false := by rfl) :
    PE X (.Call (.Attribute o name apos) (e :: es) [] cpos) (tBM K T r to t) :=
  h ▸ pe_bm pa slot hty hm ho ha hbase hfew hline hs hplain
theorem bm0K (K : PySem.W.Frag) {o : Expr} {to : TE} {name : Str} {apos cpos : Pos} {T id : String}
    {r : V → List V → Hp → VK → Prop} (pa : PlainAttrs T) (slot : Slot T name id)
    (hty : typeOf (.builtin id) = pure (.type "method_descriptor")) (hm : MtR X id r) (ho : PE X o to) (h : X.K = K := by rfl)
    (hbase : attributeBase o name X.env (eval o X.env) = eval o X.env := by rfl)
    (hline : (apos.endLine == cpos.line) = true := by rfl) :
    PE X (.Call (.Attribute o name apos) [] [] cpos) (tBM0 K T r to) := h ▸ pe_bm0 pa slot hty hm ho hbase hline
end
end TL
namespace TL
/-! ### ascending lists -/
abbrev Asc (l : List Int) : Prop := l.Pairwise (· < ·)
theorem asc_ext : ∀ {a b : List Int}, Asc a → Asc b → (∀ x, x ∈ a ↔ x ∈ b) → a = b
  | [], [], _, _, _ => rfl
  | [], y :: b, _, _, h => absurd ((h y).mpr List.mem_cons_self) (by simp)
  | x :: a, [], _, _, h => absurd ((h x).mp List.mem_cons_self) (by simp)
  | x :: a, y :: b, ha, hb, h => by
    have ha' := List.pairwise_cons.mp ha
    have hb' := List.pairwise_cons.mp hb
    have e : x = y := by
      rcases List.mem_cons.mp ((h x).mp List.mem_cons_self) with e | q
      · exact e
      · rcases List.mem_cons.mp ((h y).mpr List.mem_cons_self) with e | r
        · exact e.symm
        · have h1 := hb'.1 x q
          have h2 := ha'.1 y r
          omega
    subst e
    congr 1
    refine asc_ext ha'.2 hb'.2 fun z => ⟨fun hz => ?_, fun hz => ?_⟩
    · rcases List.mem_cons.mp ((h z).mp (List.mem_cons_of_mem _ hz)) with e | q
      · have := ha'.1 z hz
        omega
      · exact q
    · rcases List.mem_cons.mp ((h z).mpr (List.mem_cons_of_mem _ hz)) with e | q
      · have := hb'.1 z hz
        omega
      · exact q
theorem Asc.nodup {l : List Int} (h : Asc l) : l.Nodup := h.imp fun h => by omega
def leI (a b : Int) : Bool := decide (a ≤ b)
def srtI (l : List Int) : List Int := l.mergeSort leI
theorem srtI_perm (l : List Int) : (srtI l).Perm l := List.mergeSort_perm l _
theorem srtI_le (l : List Int) : (srtI l).Pairwise (· ≤ ·) :=
  (List.pairwise_mergeSort (le := leI) (fun a b c h1 h2 => by
    have h1 := of_decide_eq_true h1
    have h2 := of_decide_eq_true h2
    exact decide_eq_true (by omega)) (fun a b => by
    unfold leI
    by_cases h : a ≤ b
    · simp [h]
    · have : b ≤ a := by omega
      simp [this]) l).imp fun h => of_decide_eq_true h
theorem mem_srtI {l : List Int} {x : Int} : x ∈ srtI l ↔ x ∈ l := (srtI_perm l).mem_iff
theorem srtI_asc {l : List Int} (h : l.Nodup) : Asc (srtI l) := by
  have n : (srtI l).Nodup := (srtI_perm l).nodup_iff.mpr h
  exact ((srtI_le l).and n).imp fun h => by omega
theorem srtI_of_asc {l : List Int} (h : Asc l) : srtI l = l :=
  List.mergeSort_of_pairwise (h.imp fun h => decide_eq_true (by omega))
theorem srtI_congr {a b : List Int} (h : a.Perm b) : srtI a = srtI b := by
  have p : (srtI a).Perm (srtI b) := (srtI_perm a).trans (h.trans (srtI_perm b).symm)
  exact p.eq_of_pairwise (fun x y _ _ h1 h2 => by omega) (srtI_le a) (srtI_le b)
theorem srtI_length (l : List Int) : (srtI l).length = l.length := (srtI_perm l).length_eq
/-! ### pairs -/
abbrev LtP (p q : Int × Int) : Prop := p.1 < q.1 ∨ (p.1 = q.1 ∧ p.2 < q.2)
abbrev AscP (l : List (Int × Int)) : Prop := l.Pairwise LtP
def leP (p q : Int × Int) : Bool := decide (p.1 < q.1 ∨ (p.1 = q.1 ∧ p.2 ≤ q.2))
def srtP (l : List (Int × Int)) : List (Int × Int) := l.mergeSort leP
theorem srtP_perm (l : List (Int × Int)) : (srtP l).Perm l := List.mergeSort_perm l _
theorem srtP_le (l : List (Int × Int)) : (srtP l).Pairwise fun p q => p.1 < q.1 ∨ (p.1 = q.1 ∧ p.2 ≤ q.2) :=
  (List.pairwise_mergeSort (le := leP) (fun a b c h1 h2 => by
    have h1 := of_decide_eq_true h1
    have h2 := of_decide_eq_true h2
    exact decide_eq_true (by omega)) (fun a b => by
    unfold leP
    by_cases h : a.1 < b.1 ∨ (a.1 = b.1 ∧ a.2 ≤ b.2)
    · simp [h]
    · have : b.1 < a.1 ∨ (b.1 = a.1 ∧ b.2 ≤ a.2) := by omega
      simp [this]) l).imp fun h => of_decide_eq_true h
theorem mem_srtP {l : List (Int × Int)} {x : Int × Int} : x ∈ srtP l ↔ x ∈ l := (srtP_perm l).mem_iff
theorem srtP_asc {l : List (Int × Int)} (h : l.Nodup) : AscP (srtP l) := by
  have n : (srtP l).Nodup := (srtP_perm l).nodup_iff.mpr h
  refine ((srtP_le l).and n).imp fun {a b} h => ?_
  obtain ⟨h1, h2⟩ := h
  rcases h1 with h1 | ⟨h1, h3⟩
  · exact .inl h1
  · refine .inr ⟨h1, ?_⟩
    have : a.2 ≠ b.2 := fun e => h2 (Prod.ext h1 e)
    omega
theorem srtP_of_asc {l : List (Int × Int)} (h : AscP l) : srtP l = l :=
  List.mergeSort_of_pairwise (h.imp fun h => decide_eq_true (by rcases h with h | h <;> omega))
theorem srtP_length (l : List (Int × Int)) : (srtP l).length = l.length := (srtP_perm l).length_eq
/-! ### an edge between two vertices -/
def ordP (a b : Int) : Int × Int := if a ≤ b then (a, b) else (b, a)
theorem srt2 (a b : Int) : srtI [a, b] = [(ordP a b).1, (ordP a b).2] := by
  unfold ordP
  by_cases h : a ≤ b
  · rw [if_pos h]
    exact List.mergeSort_of_pairwise (le := leI) (List.pairwise_cons.mpr ⟨fun x hx => by
      obtain rfl := List.mem_singleton.mp hx
      exact decide_eq_true h, List.pairwise_singleton _ _⟩)
  · rw [if_neg h]
    have p : [a, b].Perm [b, a] := List.Perm.swap _ _ _
    rw [srtI_congr p]
    exact List.mergeSort_of_pairwise (le := leI) (List.pairwise_cons.mpr ⟨fun x hx => by
      obtain rfl := List.mem_singleton.mp hx
      exact decide_eq_true (by omega), List.pairwise_singleton _ _⟩)
theorem ordP_comm (a b : Int) : ordP a b = ordP b a := by
  unfold ordP
  by_cases h : a ≤ b
  · by_cases h2 : b ≤ a
    · obtain rfl : a = b := by omega
      rfl
    · rw [if_pos h, if_neg h2]
  · rw [if_neg h, if_pos (by omega)]
/-! ### forests as they are drawn -/
def rng (m : Nat) : List Int := (List.range m).map Int.ofNat
theorem mem_rng {m : Nat} {x : Int} : x ∈ rng m ↔ 0 ≤ x ∧ x < m := by
  unfold rng
  rw [List.mem_map]
  constructor
  · rintro ⟨i, hi, rfl⟩
    have := List.mem_range.mp hi
    simp only [Int.ofNat_eq_natCast]
    omega
  · intro h
    exact ⟨x.toNat, List.mem_range.mpr (by omega), by simp only [Int.ofNat_eq_natCast]; omega⟩
theorem rng_asc (m : Nat) : Asc (rng m) := by
  unfold rng Asc
  rw [List.pairwise_map]
  exact List.pairwise_lt_range.imp fun h => by simp only [Int.ofNat_eq_natCast]; omega
theorem rng_length (m : Nat) : (rng m).length = m := by
  unfold rng
  rw [List.length_map, List.length_range]
/-- edge k joins the k-th name with an earlier one -/
def edgeOf (nm : List Int) (q : Nat × Nat) : Int × Int := ordP (nm.getD q.1 0) (nm.getD q.2 0)
structure Grow (m : Nat) (nm : List Int) (ks : List (Nat × Nat)) : Prop where
  names : nm.Perm (rng m)
  up : ks.Pairwise fun a b => a.1 < b.1
  down : ∀ q ∈ ks, q.2 < q.1 ∧ q.1 < m
structure IsFor (m : Nat) (es : List (Int × Int)) : Prop where
  asc : AscP es
  rng : ∀ p ∈ es, 0 ≤ p.1 ∧ p.1 < p.2 ∧ p.2 < m
  grow : ∃ nm ks, Grow m nm ks ∧ es.Perm (ks.map (edgeOf nm))
theorem Grow.len {m : Nat} {nm : List Int} {ks : List (Nat × Nat)} (g : Grow m nm ks) : nm.length = m := by
  rw [g.names.length_eq, rng_length]
theorem Grow.nd {m : Nat} {nm : List Int} {ks : List (Nat × Nat)} (g : Grow m nm ks) : nm.Nodup := g.names.nodup_iff.mpr (rng_asc m).nodup
theorem Grow.name {m : Nat} {nm : List Int} {ks : List (Nat × Nat)} (g : Grow m nm ks) {i : Nat} (h : i < m) : 0 ≤ nm.getD i 0 ∧ nm.getD i 0 < m := by
  have hl : i < nm.length := by rw [g.len]; exact h
  have e : nm.getD i 0 = nm[i] := by rw [List.getD_eq_getElem?_getD, List.getElem?_eq_getElem hl]; rfl
  rw [e]
  exact mem_rng.mp (g.names.mem_iff.mp (List.getElem_mem hl))
theorem Grow.inj {m : Nat} {nm : List Int} {ks : List (Nat × Nat)} (g : Grow m nm ks) {i j : Nat} (hi : i < m) (hj : j < m) (e : nm.getD i 0 = nm.getD j 0) : i = j := by
  have hi' : i < nm.length := by rw [g.len]; exact hi
  have hj' : j < nm.length := by rw [g.len]; exact hj
  rw [List.getD_eq_getElem?_getD, List.getElem?_eq_getElem hi', List.getD_eq_getElem?_getD, List.getElem?_eq_getElem hj'] at e
  exact (List.getElem_inj g.nd).mp e
theorem Grow.edge {m : Nat} {nm : List Int} {ks : List (Nat × Nat)} (g : Grow m nm ks) {q : Nat × Nat} (h : q ∈ ks) :
    0 ≤ (edgeOf nm q).1 ∧ (edgeOf nm q).1 < (edgeOf nm q).2 ∧ (edgeOf nm q).2 < m := by
  obtain ⟨h1, h2⟩ := g.down q h
  have a := g.name h2
  have b := g.name (Nat.lt_trans h1 h2)
  have n : nm.getD q.1 0 ≠ nm.getD q.2 0 := fun e => by
    have := g.inj h2 (Nat.lt_trans h1 h2) e
    omega
  unfold edgeOf ordP
  split
  · exact ⟨a.1, by omega, b.2⟩
  · exact ⟨b.1, by omega, a.2⟩
theorem ordP_inj {a b c d : Int} (h : ordP a b = ordP c d) : (a = c ∧ b = d) ∨ (a = d ∧ b = c) := by
  unfold ordP at h
  split at h <;> split at h <;> (injection h with h1 h2; omega)
theorem Grow.nodup {m : Nat} {nm : List Int} {ks : List (Nat × Nat)} (g : Grow m nm ks) : (ks.map (edgeOf nm)).Nodup := by
  rw [List.Nodup, List.pairwise_map]
  have u := g.up
  have d := g.down
  refine (List.Pairwise.and_mem.mp u).imp ?_
  rintro a b ⟨ha, hb, hab⟩ e
  obtain ⟨a1, a2⟩ := d a ha
  obtain ⟨b1, b2⟩ := d b hb
  rcases ordP_inj e with ⟨e1, e2⟩ | ⟨e1, e2⟩
  · have := g.inj a2 b2 e1
    omega
  · have h1 := g.inj a2 (Nat.lt_trans b1 b2) e1
    have h2 := g.inj (Nat.lt_trans a1 a2) b2 e2
    omega
theorem Grow.isFor {m : Nat} {nm : List Int} {ks : List (Nat × Nat)} (g : Grow m nm ks) : IsFor m (srtP (ks.map (edgeOf nm))) where
  asc := srtP_asc g.nodup
  rng := fun p hp => by
    obtain ⟨q, hq, rfl⟩ := List.mem_map.mp (mem_srtP.mp hp)
    exact g.edge hq
  grow := ⟨nm, ks, g, srtP_perm _⟩
theorem rise_len {m : Nat} : ∀ {ks : List (Nat × Nat)} {lo : Nat}, ks.Pairwise (fun a b => a.1 < b.1) → (∀ q ∈ ks, lo ≤ q.1 ∧ q.1 < m) → ks.length ≤ m - lo
  | [], _, _, _ => Nat.zero_le _
  | q :: ks, lo, h, b => by
    have h' := List.pairwise_cons.mp h
    have hq := b q List.mem_cons_self
    have := rise_len (lo := q.1 + 1) h'.2 fun r hr => ⟨h'.1 r hr, (b r (List.mem_cons_of_mem _ hr)).2⟩
    rw [List.length_cons]
    omega
theorem Grow.count {m : Nat} {nm : List Int} {ks : List (Nat × Nat)} (g : Grow m nm ks) : ks.length ≤ m := by
  have := rise_len (lo := 0) g.up fun q hq => ⟨Nat.zero_le _, (g.down q hq).2⟩
  omega
theorem IsFor.count {m : Nat} {es : List (Int × Int)} (f : IsFor m es) : es.length ≤ m := by
  obtain ⟨nm, ks, g, p⟩ := f.grow
  rw [p.length_eq, List.length_map]
  exact g.count
/-! ### neighbours -/
def nearL (m : Nat) (es : List (Int × Int)) (v : Int) : List Int := (rng m).filter fun o => decide (ordP o v ∈ es)
def nbL (es : List (Int × Int)) (v : Int) : List Int := (es.filter fun p => decide (p.2 = v)).map (·.1) ++ (es.filter fun p => decide (p.1 = v)).map (·.2)
theorem nearL_asc (m : Nat) (es : List (Int × Int)) (v : Int) : Asc (nearL m es v) := (rng_asc m).filter _
theorem mem_nearL {m : Nat} {es : List (Int × Int)} {v o : Int} : o ∈ nearL m es v ↔ (0 ≤ o ∧ o < m) ∧ ordP o v ∈ es := by
  unfold nearL
  rw [List.mem_filter, mem_rng, decide_eq_true_eq]
theorem mem_nbL {es : List (Int × Int)} {v o : Int} : o ∈ nbL es v ↔ (o, v) ∈ es ∨ (v, o) ∈ es := by
  unfold nbL
  rw [List.mem_append, List.mem_map, List.mem_map]
  constructor
  · rintro (⟨⟨a, b⟩, h, rfl⟩ | ⟨⟨a, b⟩, h, rfl⟩)
    · obtain ⟨h1, h2⟩ := List.mem_filter.mp h
      have : b = v := of_decide_eq_true h2
      subst this
      exact .inl h1
    · obtain ⟨h1, h2⟩ := List.mem_filter.mp h
      have : a = v := of_decide_eq_true h2
      subst this
      exact .inr h1
  · rintro (h | h)
    · exact .inl ⟨(o, v), List.mem_filter.mpr ⟨h, decide_eq_true rfl⟩, rfl⟩
    · exact .inr ⟨(v, o), List.mem_filter.mpr ⟨h, decide_eq_true rfl⟩, rfl⟩
theorem IsFor.mem_ord {m : Nat} {es : List (Int × Int)} (f : IsFor m es) {o v : Int} : ordP o v ∈ es ↔ (o, v) ∈ es ∨ (v, o) ∈ es := by
  unfold ordP
  by_cases h : o ≤ v
  · rw [if_pos h]
    refine ⟨.inl, fun q => q.elim id fun q => ?_⟩
    have := f.rng _ q
    simp only at this
    omega
  · rw [if_neg h]
    refine ⟨.inr, fun q => q.elim (fun q => ?_) id⟩
    have := f.rng _ q
    simp only at this
    omega
theorem IsFor.nb {m : Nat} {es : List (Int × Int)} (f : IsFor m es) (v : Int) : nbL es v = nearL m es v := by
  refine asc_ext ?_ (nearL_asc m es v) fun o => ?_
  · unfold nbL
    refine List.pairwise_append.mpr ⟨?_, ?_, ?_⟩
    · rw [List.pairwise_map]
      refine (List.Pairwise.and_mem.mp (f.asc.filter fun p => decide (p.2 = v))).imp ?_
      rintro a b ⟨ha, hb, hab⟩
      have h1 : a.2 = v := of_decide_eq_true (List.mem_filter.mp ha).2
      have h2 : b.2 = v := of_decide_eq_true (List.mem_filter.mp hb).2
      rcases hab with h | h <;> omega
    · rw [List.pairwise_map]
      refine (List.Pairwise.and_mem.mp (f.asc.filter fun p => decide (p.1 = v))).imp ?_
      rintro a b ⟨ha, hb, hab⟩
      have h1 : a.1 = v := of_decide_eq_true (List.mem_filter.mp ha).2
      have h2 : b.1 = v := of_decide_eq_true (List.mem_filter.mp hb).2
      rcases hab with h | h <;> omega
    · intro x hx y hy
      obtain ⟨a, ha, rfl⟩ := List.mem_map.mp hx
      obtain ⟨b, hb, rfl⟩ := List.mem_map.mp hy
      have a1 := f.rng _ (List.mem_filter.mp ha).1
      have b1 := f.rng _ (List.mem_filter.mp hb).1
      have h1 : a.2 = v := of_decide_eq_true (List.mem_filter.mp ha).2
      have h2 : b.1 = v := of_decide_eq_true (List.mem_filter.mp hb).2
      omega
  · rw [mem_nbL, mem_nearL, f.mem_ord]
    refine ⟨fun h => ⟨?_, h⟩, fun h => h.2⟩
    rcases h with h | h
    · have := f.rng _ h
      simp only at this
      omega
    · have := f.rng _ h
      simp only at this
      omega
/-! ### settings -/
structure IsSet (m : Nat) (es : List (Int × Int)) (S : List Int) : Prop where
  asc : Asc S
  rng : ∀ v ∈ S, 0 ≤ v ∧ v < m
  free : ∀ u ∈ S, ∀ v ∈ S, ordP u v ∉ es
end TL
namespace TL
open PySem PySem.Spec PyProof.Rows L2
/-! ### sorting ints, pairs -/
theorem le_int_fun : PySem.W.dataLe false PyData.int = leI := by
  funext a b
  exact congrFun (congrFun (PySem.W.dataLe_int (β := Int) id) a) b
theorem le_pr_fun : PySem.W.dataLe false prD = leP := by
  funext p q
  exact congrFun (congrFun (PySem.W.dataLe_ii (β := Int × Int) Prod.fst Prod.snd) p) q
section
variable {K : PySem.W.Frag} {H : Hp} {Q : VK}
theorem sortInts {a : Addr} {ns : List Int} (hS : SqL K H a (ns.map V.int)) (q : ∀ p, H p = none → Q (.ref p) (upd H p (.lst ((srtI ns).map V.int)))) : rSortD K [.ref a] H Q := by
  unfold rSortD
  refine ⟨Int, PyData.int, ns, a, ns.map V.int, rfl, hS, DpAll.of_ints ns, ?_, .inr fun d hd => ?_, fun b _ => by simp [PyData.depth], fun p ys np dy => ?_⟩
  · intro d hd e he
    obtain ⟨x, _, rfl⟩ := List.mem_map.mp hd
    obtain ⟨y, _, rfl⟩ := List.mem_map.mp he
    simp [PySem.W.alike]
  · obtain ⟨x, _, rfl⟩ := List.mem_map.mp hd
    exact ⟨fun z => (nomatch z), fun _ z => (nomatch z)⟩
  · rw [le_int_fun] at dy
    have e := DpAll.ints dy
    subst e
    exact q p np
theorem sortPairs {a : Addr} {xs : List V} {ps : List (Int × Int)} (hS : SqL K H a xs) (hA : DpAll K H xs (ps.map prD))
    (q : ∀ p ys, H p = none → DpAll K H ys ((srtP ps).map prD) → Q (.ref p) (upd H p (.lst ys))) : rSortD K [.ref a] H Q := by
  unfold rSortD
  refine ⟨Int × Int, prD, ps, a, xs, rfl, hS, hA, ?_, .inl fun d hd => ?_, fun b _ => by simp [prD, PyData.depth, PyData.depthAll], fun p ys np dy => ?_⟩
  · intro d hd e he
    obtain ⟨x, _, rfl⟩ := List.mem_map.mp hd
    obtain ⟨y, _, rfl⟩ := List.mem_map.mp he
    simp [prD, PySem.W.alike, PySem.W.alikeAll]
  · obtain ⟨x, _, rfl⟩ := List.mem_map.mp hd
    exact ⟨_, _, rfl⟩
  · rw [le_pr_fun] at dy
    exact q p ys np dy
end
/-! ### forests as data -/
def forD (m : Nat) (es : List (Int × Int)) : PyData := .tuple [.int (m : Int), prsD es]
def intsD (ns : List Int) : PyData := .tuple (ns.map .int)
theorem only_ints : ∀ ns : List Int, onlyAll (ns.map .int) = true
  | [] => by simp [onlyAll]
  | n :: ns => by simp [onlyAll, only, only_ints ns]
theorem only_intsD (ns : List Int) : only (intsD ns) = true := by
  unfold intsD only
  exact only_ints ns
theorem only_forD (m : Nat) (es : List (Int × Int)) : only (forD m es) = true := by
  unfold forD
  simp [only, onlyAll, only_prsD]
section
variable {K : PySem.W.Frag} {H : Hp}
theorem Dp.forI {x : V} {m : Nat} {es : List (Int × Int)} (h : Dp K H x (forD m es)) :
    ∃ a b xs, x = .ref a ∧ SqT K H a [.int (m : Int), .ref b] ∧ SqT K H b xs ∧ DpAll K H xs (es.map prD) := by
  obtain ⟨a, xs, e, h1, h2⟩ := Dp.tupI h
  cases h2 with
  | cons ha hb =>
    cases hb with
    | cons hc hd =>
      cases hd
      obtain ⟨b, ys, e2, h3, h4⟩ := Dp.tupI hc
      subst e2
      rw [Dp.intI ha] at h1
      exact ⟨a, b, ys, e, h1, h3, h4⟩
theorem Dp.intsI {x : V} {ns : List Int} (h : Dp K H x (intsD ns)) : ∃ a, x = .ref a ∧ SqT K H a (ns.map V.int) := by
  obtain ⟨a, xs, e, h1, h2⟩ := Dp.tupI h
  have := DpAll.ints h2
  subst this
  exact ⟨a, e, h1⟩
theorem Dp.ints {a : Addr} {ns : List Int} (h : SqT K H a (ns.map V.int)) : Dp K H (.ref a) (intsD ns) := .tup h (DpAll.of_ints ns)
end
/-! ### equal data -/
theorem eqv_pr (a b : Int × Int) : PyData.eqv (prD a) (prD b) = decide (a = b) := by
  have e : PyData.eqv (prD a) (prD b) = ((a.1 == b.1) && ((a.2 == b.2) && true)) := by simp only [prD, PyData.eqv, PyData.eqvAll]
  rw [e]
  obtain ⟨x, y⟩ := a
  obtain ⟨u, v⟩ := b
  by_cases h1 : x = u
  · by_cases h2 : y = v
    · subst h1 h2; simp
    · have : ¬ ((x, y) : Int × Int) = (u, v) := fun z => h2 (Prod.mk.inj z).2
      rw [decide_eq_false this]; simp [h2]
  · have : ¬ ((x, y) : Int × Int) = (u, v) := fun z => h1 (Prod.mk.inj z).1
    rw [decide_eq_false this]; simp [h1]
theorem any_pr (p : Int × Int) : ∀ es : List (Int × Int), (es.map prD).any (fun z => PyData.eqv z (prD p)) = decide (p ∈ es)
  | [] => by simp
  | e :: es => by
    rw [List.map_cons, List.any_cons, any_pr p es, eqv_pr]
    by_cases h : e = p
    · subst h; simp
    · have h' : ¬ p = e := fun z => h z.symm
      simp [h, h']
theorem lay_pr (p : Int × Int) : (prD p).canLay0 = true := by simp [prD, PyData.canLay0, PyData.canLayAll0]
theorem lay_prs : ∀ es : List (Int × Int), PyData.canLayAll0 (es.map prD) = true
  | [] => by simp [PyData.canLayAll0]
  | e :: es => by simp [PyData.canLayAll0, lay_pr e, lay_prs es]
theorem dep_pr (p : Int × Int) : (prD p).depth ≤ 50 := by simp [prD, PyData.depth, PyData.depthAll]
theorem lay_ints : ∀ ns : List Int, PyData.canLayAll0 (ns.map PyData.int) = true
  | [] => by simp [PyData.canLayAll0]
  | n :: ns => by simp [PyData.canLayAll0, PyData.canLay0, lay_ints ns]
theorem dep_ints : ∀ ns : List Int, PyData.depthAll (ns.map PyData.int) = 0
  | [] => by simp [PyData.depthAll]
  | n :: ns => by simp [PyData.depthAll, PyData.depth, dep_ints ns]
theorem shaped_ints (ns : List Int) : SeqAt.shaped (.list (ns.map PyData.int)) = true := by
  unfold SeqAt.shaped
  simp only [PyData.canLay0, PyData.depth, lay_ints, dep_ints]
  decide
theorem eqv_nil (ns : List Int) : PyData.eqv (.list (ns.map PyData.int)) (.list []) = decide (ns = []) := by
  cases ns with
  | nil => simp [PyData.eqv, PyData.eqvAll]
  | cons n r => simp [PyData.eqv, PyData.eqvAll]
/-! ### ints in lists of ints -/
theorem flat_ints (ns : List Int) : (ns.map V.int).all flatV = true := by
  rw [List.all_map]
  exact List.all_eq_true.mpr fun _ _ => rfl
theorem inV_ints (x : Int) : ∀ ns : List Int, inV (.int x) (ns.map V.int) = decide (x ∈ ns)
  | [] => by simp [inV]
  | n :: ns => by
    have ih := inV_ints x ns
    unfold inV at ih ⊢
    rw [List.map_cons, List.any_cons, ih]
    show (decide (n = x) || decide (x ∈ ns)) = _
    by_cases h : n = x
    · subst h; simp
    · have h' : ¬ x = n := fun z => h z.symm
      simp [h, h']
/-! ### an if whose test is read for any end -/
theorem ifJ {c : TT} {t u : TS} {D : Ends} {σ : L2.St} {H : Hp} (R : Bool → Hp → Prop)
    (h1 : ∀ Q : Bool → Hp → Prop, (∀ b H1, R b H1 → Q b H1) → c σ H Q) (h2 : ∀ H1, R true H1 → t D σ H1) (h3 : ∀ H1, R false H1 → u D σ H1) : tIfS c t u D σ H := by
  refine h1 _ fun b H1 r => ?_
  cases b with
  | true => exact iteT (h2 H1 r)
  | false => exact iteF (h3 H1 r)
end TL
namespace TL
open PySem PySem.Spec PyProof.Rows L2
/-! ### comprehensions that leave all that was tracked as it was -/
theorem lc_gen {K : PySem.W.Frag} {J : It} {g : TG} {tt : TT} {te : TE} {vs : List Nat} {σ : L2.St} {H1 : Hp} {D : Addr} {Qd : Hp → Prop} {β : Type}
    (bs : List β) (σb : β → L2.St) (p : β → Bool) (d : β → PyData) (nD : H1 D = none)
    (hgo : ∀ j H', j < bs.length → Same H1 H' → J.go j H') (hst : ∀ H', Same H1 H' → J.stop bs.length H')
    (hg : ∀ j b x H' H'', bs[j]? = some b → Same H1 H' → J.yld j H' x H'' → H'' = H' ∧ ∀ Q : L2.St → Hp → Prop, Q (σb b) H' → g x (wipe σ vs) H' Q)
    (hw : ∀ b, wipe (σb b) vs = wipe σ vs)
    (ht : ∀ b ∈ bs, ∀ H' (Q : Bool → Hp → Prop), Same H1 H' → (∀ H2, Same H' H2 → Q (p b) H2) → tt (σb b) H' Q)
    (he : ∀ b ∈ bs, p b = true → ∀ H' (Q : VK), Same H1 H' → (∀ H2 y, Same H' H2 → Dp K H2 y (d b) → Q y H2) → te (σb b) H' Q)
    (ho : ∀ b, only (d b) = true) (hl : bs.length ≤ 1000)
    (hd : ∀ H' ys, Same H1 H' → H' D = some (.lst ys) → DpAll K H' ys ((bs.filter p).map d) → Qd H') : LcGoal J g tt te vs σ H1 D Qd := by
  have oa : ∀ l : List β, onlyAll (l.map d) = true := by
    intro l
    induction l with
    | nil => simp [onlyAll]
    | cons b l ih => simp [onlyAll, ho b, ih]
  refine lc_by bs.length (fun i H' => ∃ ys, Same H1 H' ∧ H' D = some (.lst ys) ∧ DpAll K H' ys (((bs.take i).filter p).map d) ∧ ys.length ≤ i) ?_ ?_ ?_ ?_ ?_
  · exact ⟨[], same_upd nD, upd_same, .nil, Nat.le_refl _⟩
  · rintro i H' hi ⟨ys, s, _⟩
    exact hgo i H' hi s
  · rintro H' ⟨ys, s, _⟩
    exact hst H' s
  · rintro i x H' H'' hi ⟨ys, s, eD, a, ln⟩ y
    obtain ⟨rfl, k⟩ := hg i bs[i] x H' H'' (List.getElem?_eq_getElem hi) s y
    have mb : bs[i] ∈ bs := List.getElem_mem hi
    have tk : bs.take (i + 1) = bs.take i ++ [bs[i]] := by rw [List.take_add_one, List.getElem?_eq_getElem hi]; rfl
    refine k _ ⟨hw _, ht _ mb _ _ s fun H2 s2 => ?_⟩
    by_cases hp : p bs[i] = true
    · rw [if_pos hp]
      refine he _ mb hp _ _ (s.trans s2) fun H3 z s3 dz => ?_
      have e3 := s3 _ _ (s2 _ _ eD)
      have kt : KT K H3 (upd H3 D (.lst (ys ++ [z]))) := kt_lst e3
      refine ⟨ys, e3, small1000 (by omega), ys ++ [z], ?_, upd_same, ?_, ?_⟩
      · intro b o e
        rw [upd_ne (ne_of_none e nD)]
        exact s3 _ _ (s2 _ _ (s _ _ e))
      · rw [tk, List.filter_append, List.map_append, List.filter_cons_of_pos hp]
        exact DpAll.append (DpAll.kt kt (DpAll.same (s2.trans s3) a) (oa _)) (.cons (Dp.kt kt dz (ho _)) .nil)
      · rw [List.length_append, List.length_singleton]
        omega
    · rw [if_neg hp]
      refine ⟨ys, s.trans s2, s2 _ _ eD, ?_, by omega⟩
      rw [tk, List.filter_append, List.filter_cons_of_neg hp, List.filter_nil, List.append_nil]
      exact DpAll.same s2 a
  · rintro H' ⟨ys, s, eD, a, _⟩
    rw [List.take_length] at a
    exact hd H' ys s eD a
section
variable {K : PySem.W.Frag} {tt : TT} {te : TE} {vs : List Nat} {σ : L2.St} {H1 : Hp} {D : Addr} {Qd : Hp → Prop}
/-- over a list of ints, the element any data -/
theorem lc_listI {a : Addr} {ns : List Int} {i : Nat} (p : Int → Bool) (d : Int → PyData) (nD : H1 D = none) (hS : SqL K H1 a (ns.map V.int))
    (hw : ∀ v, wipe ((wipe σ vs).set i (some v)) vs = wipe σ vs)
    (ht : ∀ o ∈ ns, ∀ H' (Q : Bool → Hp → Prop), Same H1 H' → (∀ H2, Same H' H2 → Q (p o) H2) → tt ((wipe σ vs).set i (some (.int o))) H' Q)
    (he : ∀ o ∈ ns, p o = true → ∀ H' (Q : VK), Same H1 H' → (∀ H2 y, Same H' H2 → Dp K H2 y (d o) → Q y H2) → te ((wipe σ vs).set i (some (.int o))) H' Q)
    (ho : ∀ o, only (d o) = true) (hl : ns.length ≤ 1000)
    (hd : ∀ H' ys, Same H1 H' → H' D = some (.lst ys) → DpAll K H' ys ((ns.filter p).map d) → Qd H') : LcGoal (Itl K a) (gName i) tt te vs σ H1 D Qd := by
  refine lc_gen ns (fun o => (wipe σ vs).set i (some (.int o))) p d nD (fun j H' hj s => ⟨_, _, s.seq hS, List.getElem?_eq_getElem (by rw [List.length_map]; exact hj)⟩)
    (fun H' s => ⟨_, s.seq hS, by rw [List.length_map]; exact Nat.le_refl _⟩) (fun j b x H' H'' hb s y => ?_) (fun b => hw _) ht he ho hl hd
  obtain ⟨e, hy⟩ := y
  have := hy _ (s.seq hS)
  rw [List.getElem?_map, hb] at this
  cases this
  exact ⟨e, fun Q q => q⟩
/-- over a tuple of ints -/
theorem lc_tupI {a : Addr} {ns : List Int} {i : Nat} (p : Int → Bool) (d : Int → PyData) (nD : H1 D = none) (hS : SqT K H1 a (ns.map V.int))
    (hw : ∀ v, wipe ((wipe σ vs).set i (some v)) vs = wipe σ vs)
    (ht : ∀ o ∈ ns, ∀ H' (Q : Bool → Hp → Prop), Same H1 H' → (∀ H2, Same H' H2 → Q (p o) H2) → tt ((wipe σ vs).set i (some (.int o))) H' Q)
    (he : ∀ o ∈ ns, p o = true → ∀ H' (Q : VK), Same H1 H' → (∀ H2 y, Same H' H2 → Dp K H2 y (d o) → Q y H2) → te ((wipe σ vs).set i (some (.int o))) H' Q)
    (ho : ∀ o, only (d o) = true) (hl : ns.length ≤ 1000)
    (hd : ∀ H' ys, Same H1 H' → H' D = some (.lst ys) → DpAll K H' ys ((ns.filter p).map d) → Qd H') : LcGoal (Itt K a) (gName i) tt te vs σ H1 D Qd := by
  refine lc_gen ns (fun o => (wipe σ vs).set i (some (.int o))) p d nD (fun j H' hj s => ⟨_, _, Same.tup s hS, List.getElem?_eq_getElem (by rw [List.length_map]; exact hj)⟩)
    (fun H' s => ⟨_, Same.tup s hS, by rw [List.length_map]; exact Nat.le_refl _⟩) (fun j b x H' H'' hb s y => ?_) (fun b => hw _) ht he ho hl hd
  obtain ⟨e, hy⟩ := y
  have := hy _ (Same.tup s hS)
  rw [List.getElem?_map, hb] at this
  cases this
  exact ⟨e, fun Q q => q⟩
/-- over range(m) -/
theorem lc_rng {m i : Nat} (p : Int → Bool) (d : Int → PyData) (nD : H1 D = none)
    (hw : ∀ v, wipe ((wipe σ vs).set i (some v)) vs = wipe σ vs)
    (ht : ∀ o ∈ rng m, ∀ H' (Q : Bool → Hp → Prop), Same H1 H' → (∀ H2, Same H' H2 → Q (p o) H2) → tt ((wipe σ vs).set i (some (.int o))) H' Q)
    (he : ∀ o ∈ rng m, p o = true → ∀ H' (Q : VK), Same H1 H' → (∀ H2 y, Same H' H2 → Dp K H2 y (d o) → Q y H2) → te ((wipe σ vs).set i (some (.int o))) H' Q)
    (ho : ∀ o, only (d o) = true) (hl : m ≤ 1000)
    (hd : ∀ H' ys, Same H1 H' → H' D = some (.lst ys) → DpAll K H' ys (((rng m).filter p).map d) → Qd H') : LcGoal (Itr 0 m) (gName i) tt te vs σ H1 D Qd := by
  refine lc_gen (rng m) (fun o => (wipe σ vs).set i (some (.int o))) p d nD (fun j H' hj s => by rw [rng_length] at hj; exact hj)
    (fun H' s => by rw [rng_length]; exact Nat.le_refl _) (fun j b x H' H'' hb s y => ?_) (fun b => hw _) ht he ho (by rw [rng_length]; exact hl) hd
  obtain ⟨e, hy⟩ := y
  unfold rng at hb
  rw [List.getElem?_map] at hb
  obtain ⟨z, hz, rfl⟩ := Option.map_eq_some_iff.mp hb
  obtain ⟨h1, rfl⟩ := List.getElem?_eq_some_iff.mp hz
  rw [List.getElem_range] at *
  subst hy
  refine ⟨e, fun Q q => ?_⟩
  show Q ((wipe σ vs).set i (some (.int (0 + (j : Int))))) H'
  rw [Int.zero_add]
  exact q
/-- over a tuple of pairs, the target two names -/
theorem lc_tupP {a : Addr} {xs : List V} {es : List (Int × Int)} {i j : Nat} (p : Int × Int → Bool) (d : Int × Int → PyData) (nD : H1 D = none) (hS : SqT K H1 a xs) (hA : DpAll K H1 xs (es.map prD))
    (hw : ∀ v u, wipe (((wipe σ vs).set i (some v)).set j (some u)) vs = wipe σ vs)
    (ht : ∀ o ∈ es, ∀ H' (Q : Bool → Hp → Prop), Same H1 H' → (∀ H2, Same H' H2 → Q (p o) H2) → tt (((wipe σ vs).set i (some (.int o.1))).set j (some (.int o.2))) H' Q)
    (he : ∀ o ∈ es, p o = true → ∀ H' (Q : VK), Same H1 H' → (∀ H2 y, Same H' H2 → Dp K H2 y (d o) → Q y H2) → te (((wipe σ vs).set i (some (.int o.1))).set j (some (.int o.2))) H' Q)
    (ho : ∀ o, only (d o) = true) (hl : es.length ≤ 1000)
    (hd : ∀ H' ys, Same H1 H' → H' D = some (.lst ys) → DpAll K H' ys ((es.filter p).map d) → Qd H') :
    LcGoal (Itt K a) (gTup K 2 (gCons (gName i) (gCons (gName j) gNil))) tt te vs σ H1 D Qd := by
  have xl : xs.length = es.length := by rw [DpAll.length hA, List.length_map]
  refine lc_gen es (fun o => ((wipe σ vs).set i (some (.int o.1))).set j (some (.int o.2))) p d nD (fun j H' hj s => ⟨_, _, Same.tup s hS, List.getElem?_eq_getElem (by rw [xl]; exact hj)⟩)
    (fun H' s => ⟨_, Same.tup s hS, by rw [xl]; exact Nat.le_refl _⟩) (fun k b x H' H'' hb s y => ?_) (fun b => hw _ _) ht he ho hl hd
  obtain ⟨e, hy⟩ := y
  obtain ⟨z, hz, dz⟩ := DpAll.get hA (hy _ (Same.tup s hS))
  rw [List.getElem?_map, hb] at hz
  cases hz
  obtain ⟨t, rfl, hT⟩ := Dp.prI (Dp.same s dz)
  exact ⟨e, fun Q q => ⟨t, _, rfl, hT, rfl, _, _, rfl, _, _, rfl, rfl, q⟩⟩
/-- over a list of pairs -/
theorem lc_listP {a : Addr} {xs : List V} {es : List (Int × Int)} {i j : Nat} (p : Int × Int → Bool) (d : Int × Int → PyData) (nD : H1 D = none) (hS : SqL K H1 a xs) (hA : DpAll K H1 xs (es.map prD))
    (hw : ∀ v u, wipe (((wipe σ vs).set i (some v)).set j (some u)) vs = wipe σ vs)
    (ht : ∀ o ∈ es, ∀ H' (Q : Bool → Hp → Prop), Same H1 H' → (∀ H2, Same H' H2 → Q (p o) H2) → tt (((wipe σ vs).set i (some (.int o.1))).set j (some (.int o.2))) H' Q)
    (he : ∀ o ∈ es, p o = true → ∀ H' (Q : VK), Same H1 H' → (∀ H2 y, Same H' H2 → Dp K H2 y (d o) → Q y H2) → te (((wipe σ vs).set i (some (.int o.1))).set j (some (.int o.2))) H' Q)
    (ho : ∀ o, only (d o) = true) (hl : es.length ≤ 1000)
    (hd : ∀ H' ys, Same H1 H' → H' D = some (.lst ys) → DpAll K H' ys ((es.filter p).map d) → Qd H') :
    LcGoal (Itl K a) (gTup K 2 (gCons (gName i) (gCons (gName j) gNil))) tt te vs σ H1 D Qd := by
  have xl : xs.length = es.length := by rw [DpAll.length hA, List.length_map]
  refine lc_gen es (fun o => ((wipe σ vs).set i (some (.int o.1))).set j (some (.int o.2))) p d nD (fun j H' hj s => ⟨_, _, s.seq hS, List.getElem?_eq_getElem (by rw [xl]; exact hj)⟩)
    (fun H' s => ⟨_, s.seq hS, by rw [xl]; exact Nat.le_refl _⟩) (fun k b x H' H'' hb s y => ?_) (fun b => hw _ _) ht he ho hl hd
  obtain ⟨e, hy⟩ := y
  obtain ⟨z, hz, dz⟩ := DpAll.get hA (hy _ (s.seq hS))
  rw [List.getElem?_map, hb] at hz
  cases hz
  obtain ⟨t, rfl, hT⟩ := Dp.prI (Dp.same s dz)
  exact ⟨e, fun Q q => ⟨t, _, rfl, hT, rfl, _, _, rfl, _, _, rfl, rfl, q⟩⟩
end
theorem only_int (i : Int) : only (.int i) = true := by simp [only]
theorem lst_ints {K : PySem.W.Frag} {H : Hp} {ys : List V} {ns : List Int} (h : DpAll K H ys (ns.map .int)) : ys = ns.map V.int := DpAll.ints h
end TL
namespace TL
open PySem PySem.Spec PyProof.Rows L2
theorem onlyAll_app : ∀ a b : List PyData, onlyAll (a ++ b) = (onlyAll a && onlyAll b)
  | [], b => by simp [onlyAll]
  | x :: a, b => by
    rw [List.cons_append]
    simp only [onlyAll, onlyAll_app a b, Bool.and_assoc]
theorem onlyAll_map {β : Type} {d : β → PyData} (h : ∀ b, only (d b) = true) : ∀ l : List β, onlyAll (l.map d) = true
  | [] => by simp [onlyAll]
  | x :: l => by simp [onlyAll, h x, onlyAll_map h l]
/-- [e for u in a tuple of ints for v in what f gives] -/
theorem lc2_tup {K : PySem.W.Frag} {a : Addr} {S : List Int} {i j : Nat} {wi1 : TI} {te : TE} {vs vs1 : List Nat} {σ : L2.St} {H1 : Hp} {D : Addr} {Qd : Hp → Prop}
    (f : Int → List Int) (d : Int → Int → PyData) (nD : H1 D = none) (hS : SqT K H1 a (S.map V.int))
    (hw : ∀ v, wipe ((wipe σ vs).set i (some v)) vs = wipe σ vs)
    (hw1 : ∀ u v, wipe ((wipe ((wipe σ vs).set i (some u)) vs1).set j (some v)) vs1 = wipe ((wipe σ vs).set i (some u)) vs1)
    (hin : ∀ u ∈ S, ∀ H' (R : It → Hp → Prop), Same H1 H' → (∀ H2 b, Same H' H2 → SqT K H2 b ((f u).map V.int) → R (Itt K b) H2) → wi1 ((wipe σ vs).set i (some (.int u))) H' R)
    (he : ∀ u ∈ S, ∀ v ∈ f u, ∀ H' (Q : VK), Same H1 H' → (∀ H2 y, Same H' H2 → Dp K H2 y (d u v) → Q y H2) → te ((wipe ((wipe σ vs).set i (some (.int u))) vs1).set j (some (.int v))) H' Q)
    (ho : ∀ u v, only (d u v) = true) (hl : S.length ≤ 100) (hf : ∀ u ∈ S, (f u).length ≤ 100)
    (hd : ∀ H' ys, Same H1 H' → H' D = some (.lst ys) → DpAll K H' ys (S.flatMap fun u => (f u).map (d u)) → Qd H') :
    ∃ W : Nat → Nat → Hp → Prop, (∃ m, W 0 m (upd H1 D (.lst []))) ∧ ∀ k m H, W k m H →
      ((Itt K a).stop k H ∧ Qd H) ∨
      ((Itt K a).go k H ∧ ∃ Nx : Hp → Prop, (∀ H', Nx H' → ∃ m', m' < m ∧ W (k + 1) m' H') ∧
        ∀ x H', (Itt K a).yld k H x H' → (gName i) x (wipe σ vs) H' fun σ2 H2 =>
          wipe σ2 vs = wipe σ vs ∧ tYes σ2 H2 fun b H3 =>
            if b = true then
              wi1 σ2 H3 fun J1 H4 => ∃ W1 : Nat → Nat → Hp → Prop, (∃ m, W1 0 m H4) ∧ ∀ j' k H, W1 j' k H →
                (J1.stop j' H ∧ Nx H) ∨
                (J1.go j' H ∧ ∃ Nx1 : Hp → Prop, (∀ H', Nx1 H' → ∃ k', k' < k ∧ W1 (j' + 1) k' H') ∧
                  ∀ x H', J1.yld j' H x H' → (gName j) x (wipe σ2 vs1) H' fun σ3 H5 =>
                    wipe σ3 vs1 = wipe σ2 vs1 ∧ tYes σ3 H5 fun b H6 =>
                      if b = true then
                        te σ3 H6 fun y H7 => ∃ acc, H7 D = some (.lst acc) ∧ acc.length < sizeLine ∧ Nx1 (upd H7 D (.lst (acc ++ [y])))
                      else Nx1 H6)
            else Nx H3) := by
  have ofl : ∀ l : List Int, onlyAll (l.flatMap fun u => (f u).map (d u)) = true := by
    intro l
    induction l with
    | nil => simp [onlyAll]
    | cons u l ih => rw [List.flatMap_cons, onlyAll_app, ih, onlyAll_map (ho u)]; rfl
  let Pv : Nat → Hp → Prop := fun k H' => ∃ ys, Same H1 H' ∧ H' D = some (.lst ys) ∧ DpAll K H' ys ((S.take k).flatMap fun u => (f u).map (d u)) ∧ ys.length ≤ 100 * k
  refine ⟨fun k m H => m = S.length - k ∧ k ≤ S.length ∧ Pv k H, ⟨S.length, rfl, Nat.zero_le _, [], same_upd nD, upd_same, .nil, Nat.le_refl _⟩, fun k m H hW => ?_⟩
  obtain ⟨em, hk, ys, s, eD, dy, ln⟩ := hW
  by_cases hlt : k < S.length
  · refine .inr ⟨⟨_, _, Same.tup s hS, List.getElem?_eq_getElem (by rw [List.length_map]; exact hlt)⟩, Pv (k + 1), fun H' p => ⟨S.length - (k + 1), by omega, rfl, hlt, p⟩, fun x H' y => ?_⟩
    obtain ⟨e, hy⟩ := y
    subst e
    have hx := hy _ (Same.tup s hS)
    rw [List.getElem?_map, List.getElem?_eq_getElem hlt] at hx
    cases hx
    have mu : S[k] ∈ S := List.getElem_mem hlt
    have tk : S.take (k + 1) = S.take k ++ [S[k]] := by rw [List.take_add_one, List.getElem?_eq_getElem hlt]; rfl
    refine ⟨hw _, yesI (iteT (hin _ mu _ _ s fun H4 b s4 hb => ?_))⟩
    refine ⟨fun j' m H => m = (f S[k]).length - j' ∧ j' ≤ (f S[k]).length ∧ ∃ zs, Same H1 H ∧ SqT K H b ((f S[k]).map V.int) ∧ H D = some (.lst zs) ∧
      DpAll K H zs (((S.take k).flatMap fun u => (f u).map (d u)) ++ ((f S[k]).take j').map (d S[k])) ∧ zs.length ≤ 100 * k + j', ⟨(f S[k]).length, rfl, Nat.zero_le _, ys, s.trans s4, hb, s4 _ _ eD, ?_, by omega⟩, fun j' m H hW => ?_⟩
    · rw [List.take_zero, List.map_nil, List.append_nil]
      exact DpAll.same s4 dy
    · obtain ⟨em', hj, zs, sj, hbj, eDj, dz, lz⟩ := hW
      have lf := hf _ mu
      by_cases hjl : j' < (f S[k]).length
      · refine .inr ⟨⟨_, _, hbj, List.getElem?_eq_getElem (by rw [List.length_map]; exact hjl)⟩, fun H => ∃ zs, Same H1 H ∧ SqT K H b ((f S[k]).map V.int) ∧ H D = some (.lst zs) ∧
          DpAll K H zs (((S.take k).flatMap fun u => (f u).map (d u)) ++ ((f S[k]).take (j' + 1)).map (d S[k])) ∧ zs.length ≤ 100 * k + (j' + 1),
          fun H' p => ⟨(f S[k]).length - (j' + 1), by omega, rfl, hjl, p⟩, fun x H' y => ?_⟩
        obtain ⟨e, hy⟩ := y
        subst e
        have hx := hy _ hbj
        rw [List.getElem?_map, List.getElem?_eq_getElem hjl] at hx
        cases hx
        have mv : (f S[k])[j'] ∈ f S[k] := List.getElem_mem hjl
        refine ⟨hw1 _ _, yesI (iteT (he _ mu _ mv _ _ sj fun H5 y5 s5 d5 => ?_))⟩
        have e5 := s5 _ _ eDj
        have kt : KT K H5 (upd H5 D (.lst (zs ++ [y5]))) := kt_lst e5
        refine ⟨zs, e5, Nat.lt_of_le_of_lt (show zs.length ≤ 20000 by omega) (by decide), zs ++ [y5], ?_, kt _ _ (Same.tup s5 hbj), upd_same, ?_, ?_⟩
        · intro c o e
          rw [upd_ne (ne_of_none e nD)]
          exact s5 _ _ (sj _ _ e)
        · rw [List.take_add_one, List.getElem?_eq_getElem hjl, List.map_append, ← List.append_assoc]
          refine DpAll.append (DpAll.kt kt (DpAll.same s5 dz) ?_) (.cons (Dp.kt kt d5 (ho _ _)) .nil)
          rw [onlyAll_app, ofl, onlyAll_map (ho _)]
          rfl
        · rw [List.length_append, List.length_singleton]
          omega
      · obtain rfl : j' = (f S[k]).length := by omega
        refine .inl ⟨⟨_, hbj, by rw [List.length_map]; exact Nat.le_refl _⟩, zs, sj, eDj, ?_, by omega⟩
        rw [List.take_length] at dz
        rw [tk, List.flatMap_append, List.flatMap_cons, List.flatMap_nil, List.append_nil]
        exact dz
  · obtain rfl : k = S.length := by omega
    rw [List.take_length] at dy
    exact .inl ⟨⟨_, Same.tup s hS, by rw [List.length_map]; exact Nat.le_refl _⟩, hd H ys s eD dy⟩
section
variable {X : Cx}
def tTruth (K : PySem.W.Frag) (ta : TE) : TT := fun σ H Q => ta σ H fun x H' => ∃ k, TruV K x H' k ∧ Q k H'
theorem truthK (K : PySem.W.Frag) {a : Expr} {ta : TE} (ha : PE X a ta)
    (he : ∀ whole, isTrue a X.env whole = (do let v ← whole; standAt a.pos; holding [v] (truthy v))) (h : X.K = K := by rfl) :
    PT X a (tTruth K ta) := h ▸ pt_truth ha he
theorem isiK (K : PySem.W.Frag) (h : X.K = K := by rfl) : CallR X (.builtin "isinstance") (rIsi K) := h ▸ call_isi
end
theorem ty_tup {K : PySem.W.Frag} {H : Hp} {a : Addr} {xs : List V} (h : SqT K H a xs) : TyX K H (.ref a) (.type "tuple") := by
  rcases h with (h | ⟨o, h⟩) | ⟨o, its, n, h, c, _⟩
  · exact .base (.tup h)
  · exact .fTuple h
  · exact .kTuple h c
end TL
namespace TL
/-! ### slides -/
def oth (m : Nat) (es : List (Int × Int)) (S : List Int) (u v : Int) : List Int := (nearL m es v).filter fun o => decide (o ∈ S) && !decide (o = u)
theorem mem_oth {m : Nat} {es : List (Int × Int)} {S : List Int} {u v o : Int} : o ∈ oth m es S u v ↔ o ∈ nearL m es v ∧ o ∈ S ∧ o ≠ u := by
  unfold oth
  rw [List.mem_filter, Bool.and_eq_true, decide_eq_true_eq, Bool.not_eq_true', decide_eq_false_iff_not]
def stepsL (m : Nat) (es : List (Int × Int)) (T : List Int) : List (Int × Int) := T.flatMap fun u => (nearL m es u).map fun v => (u, v)
def slidesP (m : Nat) (es : List (Int × Int)) (S : List Int) : List (Int × Int) := (stepsL m es S).filter fun p => decide (oth m es S p.1 p.2 = [])
def slidesT (m : Nat) (es : List (Int × Int)) (S T : List Int) : List (Int × Int) := T.flatMap fun u => ((nearL m es u).filter fun v => decide (oth m es S u v = [])).map fun v => (u, v)
theorem slides_eqT (m : Nat) (es : List (Int × Int)) (S : List Int) : ∀ T : List Int, (stepsL m es T).filter (fun p => decide (oth m es S p.1 p.2 = [])) = slidesT m es S T
  | [] => rfl
  | u :: T => by
    have ih := slides_eqT m es S T
    unfold stepsL slidesT at ih ⊢
    rw [List.flatMap_cons, List.flatMap_cons, List.filter_append, ih, List.filter_map]
    rfl
theorem slides_eq (m : Nat) (es : List (Int × Int)) (S : List Int) : slidesP m es S = slidesT m es S S := slides_eqT m es S S
theorem mem_slidesP {m : Nat} {es : List (Int × Int)} {S : List Int} {u v : Int} : (u, v) ∈ slidesP m es S ↔ u ∈ S ∧ v ∈ nearL m es u ∧ oth m es S u v = [] := by
  unfold slidesP stepsL
  rw [List.mem_filter, List.mem_flatMap, decide_eq_true_eq]
  constructor
  · rintro ⟨⟨a, ha, hb⟩, h⟩
    obtain ⟨b, hb, e⟩ := List.mem_map.mp hb
    cases e
    exact ⟨ha, hb, h⟩
  · rintro ⟨h1, h2, h3⟩
    exact ⟨⟨u, h1, List.mem_map.mpr ⟨v, h2, rfl⟩⟩, h3⟩
theorem ascP_steps (m : Nat) (es : List (Int × Int)) : ∀ {T : List Int}, Asc T → AscP (stepsL m es T)
  | [], _ => .nil
  | u :: T, h => by
    have h' := List.pairwise_cons.mp h
    unfold stepsL
    rw [List.flatMap_cons]
    refine List.pairwise_append.mpr ⟨?_, ascP_steps m es h'.2, ?_⟩
    · rw [List.pairwise_map]
      exact (nearL_asc m es u).imp fun h => .inr ⟨rfl, h⟩
    · intro a ha b hb
      obtain ⟨v, _, rfl⟩ := List.mem_map.mp ha
      obtain ⟨z, hz, hb⟩ := List.mem_flatMap.mp hb
      obtain ⟨y, _, rfl⟩ := List.mem_map.mp hb
      exact .inl (h'.1 z hz)
theorem ascP_slides {m : Nat} {es : List (Int × Int)} {S : List Int} (h : Asc S) : AscP (slidesP m es S) := (ascP_steps m es h).filter _
theorem nearL_len (m : Nat) (es : List (Int × Int)) (v : Int) : (nearL m es v).length ≤ m := by
  have := List.length_filter_le (fun o => decide (ordP o v ∈ es)) (rng m)
  rw [rng_length] at this
  exact this
theorem asc_len {m : Nat} : ∀ {S : List Int} {lo : Nat}, Asc S → (∀ v ∈ S, (lo : Int) ≤ v ∧ v < m) → S.length ≤ m - lo
  | [], _, _, _ => Nat.zero_le _
  | v :: S, lo, h, b => by
    have h' := List.pairwise_cons.mp h
    have hv := b v List.mem_cons_self
    have := asc_len (m := m) (lo := v.toNat + 1) h'.2 fun z hz => ⟨by have := h'.1 z hz; omega, (b z (List.mem_cons_of_mem _ hz)).2⟩
    rw [List.length_cons]
    omega
theorem IsSet.len {m : Nat} {es : List (Int × Int)} {S : List Int} (h : IsSet m es S) : S.length ≤ m := by
  have := asc_len (lo := 0) h.asc fun v hv => by have := h.rng v hv; omega
  omega
theorem steps_len (m : Nat) (es : List (Int × Int)) : ∀ T : List Int, (stepsL m es T).length ≤ T.length * m
  | [] => by simp [stepsL]
  | u :: T => by
    have ih := steps_len m es T
    unfold stepsL at ih ⊢
    rw [List.flatMap_cons, List.length_append, List.length_map, List.length_cons, Nat.add_mul, Nat.one_mul]
    have := nearL_len m es u
    omega
/-! ### the setting behind a slide -/
theorem move_perm {u v : Int} : ∀ {S : List Int}, S.Nodup → u ∈ S → (S.map fun l => if l = u then v else l).Perm (S.filter (fun l => !decide (l = u)) ++ [v])
  | [], _, h => nomatch h
  | a :: S, nd, h => by
    have nd' := List.nodup_cons.mp nd
    by_cases e : a = u
    · subst e
      rw [List.map_cons, if_pos rfl, List.filter_cons_of_neg (by simp)]
      have e1 : S.map (fun l => if l = a then v else l) = S := by
        have q : S.map (fun l => if l = a then v else l) = S.map id :=
          List.map_congr_left fun l hl => if_neg fun z => nd'.1 (by rw [← z]; exact hl)
        rw [q, List.map_id]
      have e2 : S.filter (fun l => !decide (l = a)) = S := List.filter_eq_self.mpr fun l hl => by
        have : l ≠ a := fun z => nd'.1 (z ▸ hl)
        simp [this]
      rw [e1, e2]
      exact (List.perm_append_singleton v S).symm
    · rw [List.map_cons, if_neg e, List.filter_cons_of_pos (by simp [e]), List.cons_append]
      exact List.Perm.cons a (move_perm nd'.2 ((List.mem_cons.mp h).resolve_left fun z => e z.symm))
def after (S : List Int) (u v : Int) : List Int := srtI (S.filter (fun l => !decide (l = u)) ++ [v])
theorem after_eq {S : List Int} {u v : Int} (nd : S.Nodup) (h : u ∈ S) : srtI (S.map fun l => if l = u then v else l) = after S u v := srtI_congr (move_perm nd h)
theorem IsFor.loop {m : Nat} {es : List (Int × Int)} (f : IsFor m es) (v : Int) : ordP v v ∉ es := fun h => by
  have := f.rng _ h
  unfold ordP at this
  rw [if_pos (Int.le_refl _)] at this
  simp only at this
  omega
theorem mem_after {S : List Int} {u v z : Int} : z ∈ after S u v ↔ (z ∈ S ∧ z ≠ u) ∨ z = v := by
  unfold after
  rw [mem_srtI, List.mem_append, List.mem_filter, List.mem_singleton, Bool.not_eq_true', decide_eq_false_iff_not]
theorem IsSet.after {m : Nat} {es : List (Int × Int)} {S : List Int} {u v : Int} (f : IsFor m es) (h : IsSet m es S) (hu : u ∈ S) (hv : v ∈ nearL m es u) (ho : oth m es S u v = []) :
    IsSet m es (after S u v) := by
  obtain ⟨rv, av⟩ := mem_nearL.mp hv
  have nv : v ∉ S := fun z => h.free v z u hu av
  have key : ∀ a ∈ S, a ≠ u → ordP a v ∉ es := fun a ha hne hin => by
    have : a ∈ oth m es S u v := mem_oth.mpr ⟨mem_nearL.mpr ⟨h.rng a ha, hin⟩, ha, hne⟩
    rw [ho] at this
    cases this
  refine ⟨srtI_asc ?_, fun z hz => ?_, fun a ha b hb => ?_⟩
  · refine List.nodup_append.mpr ⟨h.asc.nodup.filter _, List.pairwise_singleton _ _, fun a ha b hb e => ?_⟩
    rw [List.mem_singleton.mp hb] at e
    subst e
    exact nv (List.mem_filter.mp ha).1
  · rcases mem_after.mp hz with ⟨h1, _⟩ | rfl
    · exact h.rng z h1
    · exact rv
  · rcases mem_after.mp ha with ⟨h1, h2⟩ | rfl
    · rcases mem_after.mp hb with ⟨h3, h4⟩ | rfl
      · exact h.free a h1 b h3
      · exact key a h1 h2
    · rcases mem_after.mp hb with ⟨h3, h4⟩ | rfl
      · rw [ordP_comm]
        exact key b h3 h4
      · exact f.loop b
end TL
namespace TL
open PySem PySem.Spec PyProof.Rows L2
theorem Sm.ints {ns : List Int} {m : Nat} (h : ∀ v ∈ ns, sm v) (hm : ns.length ≤ m) : Sm (intsD ns) (m * 11) 1 :=
  Sm.tup (n := 10) (k := 0) (m := m) (fun d hd => by
    obtain ⟨p, hp, rfl⟩ := List.mem_map.mp hd
    exact Sm.int (h p hp)) (by rw [List.length_map]; exact hm)
theorem IsSet.shows {m : Nat} {es : List (Int × Int)} {S : List Int} (h : IsSet m es S) (hm : m ≤ 12) : Sm (intsD S) 132 1 :=
  Sm.ints (m := 12) (fun v hv => by have := h.rng v hv; unfold sm; omega) (by have := h.len; omega)
theorem IsFor.shows {m : Nat} {es : List (Int × Int)} (h : IsFor m es) (hm : m ≤ 12) : Sm (forD m es) 600 3 := by
  have h1 : Sm (prsD es) (12 * 23) 2 := Sm.prs (fun p hp => by have := h.rng p hp; unfold smP sm; omega) (by have := h.count; omega)
  have h2 : Sm (.int (m : Int)) (12 * 23) 2 := (Sm.int (by unfold sm; omega)).le (by decide) (by decide)
  refine (Sm.tup (n := 12 * 23) (k := 2) (m := 2) (fun d hd => ?_) (Nat.le_refl _)).le (by decide) (by decide)
  rcases List.mem_cons.mp hd with rfl | hd
  · exact h2
  · obtain rfl := List.mem_singleton.mp hd
    exact h1
theorem slides_small {m : Nat} {es : List (Int × Int)} {S : List Int} (h : IsSet m es S) (hm : m ≤ 12) : ∀ p ∈ slidesP m es S, smP p := by
  rintro ⟨u, v⟩ hp
  obtain ⟨h1, h2, _⟩ := mem_slidesP.mp hp
  have a := h.rng u h1
  have b := (mem_nearL.mp h2).1
  unfold smP sm
  exact ⟨⟨by show (-1000 : Int) ≤ u; omega, by show u ≤ 1000; omega⟩, by show (-1000 : Int) ≤ v; omega, by show v ≤ 1000; omega⟩
theorem slides_len {m : Nat} {es : List (Int × Int)} {S : List Int} (h : IsSet m es S) (hm : m ≤ 12) : (slidesP m es S).length ≤ 144 := by
  have h1 := List.length_filter_le (fun p => decide (oth m es S p.1 p.2 = [])) (stepsL m es S)
  have h2 := steps_len m es S
  have h3 : S.length * m ≤ 12 * 12 := Nat.mul_le_mul (by have := h.len; omega) hm
  unfold slidesP
  omega
theorem Sm.two {d e : PyData} {n k : Nat} (h1 : Sm d n k) (h2 : Sm e n k) : Sm (.list [d, e]) (2 * (n + 1)) (k + 1) :=
  Sm.lst (m := 2) (fun z hz => by
    rcases List.mem_cons.mp hz with rfl | hz
    · exact h1
    · obtain rfl := List.mem_singleton.mp hz
      exact h2) (Nat.le_refl _)
theorem show2 {m : Nat} {es : List (Int × Int)} {S : List Int} (f : IsFor m es) (h : IsSet m es S) (hm : m ≤ 12) : Shows (.list [forD m es, intsD S]) :=
  (Sm.two (f.shows hm) ((h.shows hm).le (by decide) (by decide))).shows (by decide) (by decide)
end TL
namespace TL
open PySem PySem.Spec PyProof.Rows L2
/-! ### enumerate(a tuple) -/
abbrev tupIt (l : Addr) : Obj := { cls := .type "tuple_iterator", data := .fields #[.ref l, .int 0 0] }
abbrev enumOb (it : Addr) : Obj :=
  { cls := .type "enumerate", data := .fields #[.none, .bool false, .ref it, rawInt 0, .none, .none] }
theorem meets_enumT (l : Addr) (items : Array Value) (n : Nat) (dct : Option Addr) (sl : Array (Option Value)) :
    Meets (Builtin.«enumerate.__new__» ⟨[.type "enumerate", .ref l], []⟩) (fun _ R s =>
      s.heap.get? l = some { cls := .type "tuple", dict := dct, data := .seq items n, slots := sl } ∧
      R (.ok (.ret (.ref (s.heap.push (tupIt l)).objs.size)))
        { s with heap := (s.heap.push (tupIt l)).push (enumOb s.heap.objs.size) }) :=
  .of_wp fun prog w A R s h => by
    obtain ⟨hp, g, d, tk, os⟩ := s
    obtain ⟨hl, h⟩ := h
    have hsub := sub_enumerate
    have hL : Heap.IsTuple (Shared.heap ⟨hp, g, d, tk, os⟩) l items := ⟨_, hl, rfl, n, rfl⟩
    wp_walk using AutoSeq1.wpAny_loadPart' hl
    refine wpAny_stack_any fun st => wpAny_pure ?_
    split
    · rename_i c _ _ _ _ _
      cases (c == Value.type "enumerate")
      · wp_walk using AutoSeq1.wpAny_loadPart' hl, wpAny_pyIter_tuple hL
        exact ⟨_, rfl, h⟩
      · wp_walk using AutoSeq1.wpAny_loadPart' hl, wpAny_pyIter_tuple hL
        exact ⟨_, rfl, h⟩
    · wp_walk using AutoSeq1.wpAny_loadPart' hl, wpAny_pyIter_tuple hL
      exact ⟨_, rfl, h⟩
section
variable {prog : Program} {w : World} {A : Around} {E : Value → Shared → Prop} {s : Shared}
theorem call_enumT {l : Addr} {items : Array Value} {Q : Value → Shared → Prop} (hL : s.heap.IsTuple l items)
    (h : ∀ h', IsEnum h' (s.heap.objs.size + 1) s.heap.objs.size 0 .none → h'.IsTupleIter s.heap.objs.size l 0 →
      (∀ b o, s.heap.get? b = some o → h'.get? b = some o) → Q (.ref (s.heap.objs.size + 1)) { s with heap := h' }) :
    wpAny (model prog w) A (call (.type "enumerate") [.ref l]) Q E s := by
  obtain ⟨⟨c, dct, dt, sl⟩, hl, hc, n, hd⟩ := hL
  obtain rfl : c = .type "tuple" := hc
  obtain rfl : dt = .seq items n := hd
  refine callType_new F.called_enumerate (by decide) (F.typeCall_enumerate_1 _) (F.newCall_enumerate_1 _)
    (fun obj => F.args_object_init_2 obj _) F.entry_enumerate_new (meets_enumT l items n dct sl) ⟨hl, ?_⟩
  have hz : (s.heap.push (tupIt l)).objs.size = s.heap.objs.size + 1 := Heap.size_push ..
  show _ ∧ _
  rw [hz]
  have he : IsEnum ((s.heap.push (tupIt l)).push (enumOb s.heap.objs.size)) (s.heap.objs.size + 1) s.heap.objs.size 0 .none := by
    have q := Heap.get?_push_size (s.heap.push (tupIt l)) (o := enumOb s.heap.objs.size) rfl
    rw [hz] at q
    exact q
  exact ⟨⟨_, he, rfl⟩, h _ he ⟨_, Heap.get?_push_of_some _ (Heap.get?_push_size _ rfl), rfl, rfl⟩
    fun b o x => Heap.get?_push_of_some _ (Heap.get?_push_of_some _ x)⟩
end
/-- the tuple at a, each item in a new pair -/
def IteT (K : PySem.W.Frag) (a : Addr) : It :=
  ⟨fun i H => ∃ (xs : List V) (x : V), SqT K H a xs ∧ xs[i]? = some x,
   fun i H v H' => ∃ T x, v = .ref T ∧ H T = none ∧ H' = upd H T (.tup [.int (i : Nat), x]) ∧ ∀ xs, SqT K H a xs → xs[i]? = some x,
   fun i H => ∃ xs : List V, SqT K H a xs ∧ xs.length ≤ i⟩
theorem turn_enumT {P : Program} {w : World} {K : PySem.W.Frag} {elts : List Expr} {kk : Nat} {tpos : Pos} (a e it : Addr) (ha : a ≠ it) :
    Turn P w K (.Tuple elts kk tpos) (IteT K a) [e, it] e
      (fun i h => (∃ old, IsEnum h e it ((i : Nat) : Int) old) ∧ h.IsTupleIter it a i ∧ e ≠ it) where
  mem := by simp
  obj := fun i h st b hb => by
    obtain ⟨⟨old, he⟩, ⟨o, ho, hc, hd⟩, _⟩ := st
    have e' : b = e ∨ b = it := by simpa using hb
    rcases e' with rfl | rfl
    · exact ⟨_, he, fun v q => nomatch q⟩
    · exact ⟨o, ho, fun v q => by rw [hd] at q; cases q⟩
  keep := fun i h h' st k => by
    obtain ⟨⟨old, he⟩, hi, hne⟩ := st
    exact ⟨⟨old, k e (by simp) _ he⟩, hi.at fun o q => k it (by simp) o q, hne⟩
  item := by
    intro X hP hw hK hc i pins s σ H E I hf st hg
    subst hP hw hK
    obtain ⟨⟨old, he⟩, hit, hne⟩ := st
    obtain ⟨xs, x, hq, hx⟩ := hg
    obtain ⟨its, rv, p, hz⟩ := I.tuple hq
    obtain ⟨u, hu, ru⟩ := rv.get hx
    have hel : e < s.heap.objs.size := Heap.lt_size he
    have hil : it < s.heap.objs.size := by
      obtain ⟨_, q, _⟩ := hit
      exact Heap.lt_size q
    have hi : i < its.toArray.size := by
      rw [List.size_toArray]
      exact (List.getElem?_eq_some_iff.mp hu).1
    obtain ⟨o0, ho0, hc0, n0, hd0⟩ := p
    have pT : s.heap.IsTuple a its.toArray := ⟨o0, ho0, hc0, n0, hd0⟩
    refine wpAny_pyNext_enum_itemD (Draws.tuple (A := X.A.in1) (I.ok.hd hc) it a ha its.toArray) he ⟨hit, pT⟩ hi hne (fun z => ?_) fun x' h' tk hP ho hit' hT hsz hk => ?_
    · rcases List.mem_cons.mp z with z | z
      · exact hne z
      · have z := List.mem_singleton.mp z
        rw [z] at he
        have q := Option.some.inj (ho0.symm.trans he)
        rw [q] at hc0
        exact absurd (show Value.type "enumerate" = Value.type "tuple" from hc0) (by decide)
    have ex : x' = u := by
      have h1 : its.toArray[i]? = some x' := hP
      have h2 : its.toArray[i]? = some u := by simpa using hu
      exact Option.some.inj (h1.symm.trans h2)
    subst ex
    refine ⟨_, rfl, wpAny_letOwnedTupleGo_enum (s := { s with heap := h', toks := tk + 1 }) ho fun h'' he' sb => ?_⟩
    have hT2 : h''.get? s.heap.objs.size = some { cls := .type "tuple", data := .seq #[.int i tk, x'] } := (sb.2 _ (Nat.ne_of_gt hel)).trans hT
    have new : ObjOk X.prog X.w (upd H s.heap.objs.size (.tup [.int (i : Nat), x])) h'' s.heap.objs.size (.tup [.int (i : Nat), x]) :=
      ⟨by show 2 ≤ sizeLine; decide, [.int i tk, x'], .cons ⟨_, rfl⟩ (.cons ru .nil), ⟨_, hT2, rfl, _, rfl⟩⟩
    have kept : ∀ b ob, b ∉ [e, it] → s.heap.get? b = some ob → h''.get? b = some ob := fun b ob hb q =>
      (sb.2 b (fun z => hb (by simp [z]))).trans (hk b ob (fun z => hb (by simp [z])) (fun z => hb (by simp [z])) q)
    have I1 := I.turnedNew (t' := tk + 1) (ch := [e, it]) kept hf (Nat.le_refl _) new
    refine ⟨.ref s.heap.objs.size, _, I1, rfl, ⟨_, x, rfl, I.hok.fresh (Nat.le_refl _), rfl, fun ys hy => by rw [I.tuple_inj hy hq]; exact hx⟩,
      ⟨⟨x', ?_⟩, hit'.1.at fun o q => (sb.2 it (Ne.symm hne)).trans q, hne⟩, fun b hb => ?_⟩
    · have e1 : ((i + 1 : Nat) : Int) = (i : Int) + 1 := by omega
      rw [e1]
      exact he'
    · have hb' : b < s.heap.objs.size := by
        have e' : b = e ∨ b = it := by simpa using hb
        rcases e' with rfl | rfl
        · exact hel
        · exact hil
      rw [upd_ne (Nat.ne_of_lt hb')]
      exact (hf b hb).1
  done := by
    intro X hP hw hK hc i pins s σ H E I hf st hg
    subst hP hw hK
    obtain ⟨⟨old, he⟩, hit, hne⟩ := st
    obtain ⟨xs, hq, hx⟩ := hg
    obtain ⟨its, rv, p, hz⟩ := I.tuple hq
    obtain ⟨f0, f1, f2, f3, f4, f5⟩ := hf it (by simp)
    have hl := rv.length
    obtain ⟨o0, ho0, hc0, n0, hd0⟩ := p
    have pT : s.heap.IsTuple a its.toArray := ⟨o0, ho0, hc0, n0, hd0⟩
    have hT : s.TypeIs (.ref e) "enumerate" := ⟨_, he, rfl⟩
    unfold pyNext
    refine wpAny_bind (wpAny_attempt (wpAny_callSpecial?_slot (name := Str.ofString "__next__") hT F.slot_enumerate_next
      (wpAny_call_entry F.slot_enumerate_next hT F.entry_enumerate_next ?_ (F.args_enumerate_next_1 _))))
    show wpAny _ _ (field (.ref e) 2 >>= _) _ _ _
    refine wpAny_bind (wpAny_field he rfl (x := .ref it) rfl ?_)
    refine wpAny_bind (wpAny_nextOf_tuple_end (I.ok.hd hc) hit pT (by simp; omega) fun h' x he' hx' => ?_)
    obtain ⟨o, ho, hc⟩ := hx'
    refine wpAny_bind (wpAny_isInstance (T := "StopIteration") (b := true) ⟨o, ho, hc⟩ isSubtype_stop ?_)
    exact wpAny_pure ⟨rfl, I.turned (t' := s.toks) (fun b o hb q => he' b o hb q) f0 f1 f3 f4 f5⟩
  self := fun A i s Q E st h => by
    obtain ⟨⟨_, he⟩, _⟩ := st
    exact wpAny_pyIter_enum he h
def iEnumT (K : PySem.W.Frag) (ta : TA) : TI := fun σ H R => ta σ H fun vs H1 => ∃ a xs, vs = [.ref a] ∧ SqT K H1 a xs ∧ R (IteT K a) H1
theorem pi_enumT (K : PySem.W.Frag) {X : Cx} {e : Expr} {ta : TA} {p pos tpos : Pos} {elts : List Expr} {kk : Nat} (hg : Gl X "enumerate") (hm : X.mg "enumerate" = none)
    (ha : PA X [e] ta) (hK : X.K = K := by rfl) (hs : starEach [e] X.env = [(false, eval e X.env)] := by rfl) :
    PI X (.Tuple elts kk tpos) (.Call (.Name "enumerate" p) [e] [] pos) (iEnumT K ta) := by
  subst hK
  refine ⟨fun pins s σ H R I h => ?_⟩
  refine Call_ (ld_blt I hg hm boot_enumerate (PyProof.Rows.callWith_type1
    (thn (ha.run pos pins s σ H _ I h) fun us s1 ⟨vs, H1, I1, r1, q1⟩ => ?_) hs rfl))
  obtain ⟨a, xs, ex, hq, q⟩ := q1
  subst ex
  cases r1 with
  | cons r rr =>
    cases rr
    cases r
    obtain ⟨its, rv, ⟨o0, ho0, hc0, n0, hd0⟩, hz⟩ := I1.tuple hq
    have pT : s1.heap.IsTuple a its.toArray := ⟨o0, ho0, hc0, n0, hd0⟩
    refine call_enumT pT fun h' he hit hk => wpAny_pyIter_enum he ?_
    have I2 : Inv X pins σ H1 { s1 with heap := h' } := I1.kept (t' := s1.toks) hk
    refine ⟨s1.heap.objs.size + 1, [s1.heap.objs.size + 1, s1.heap.objs.size], _, _, H1, rfl, I2,
      turn_enumT a (s1.heap.objs.size + 1) s1.heap.objs.size (Nat.ne_of_lt (Heap.lt_size ho0)), ⟨⟨.none, he⟩, hit, Nat.succ_ne_self _⟩, fun b hb => ?_, q⟩
    have hle : s1.heap.objs.size ≤ b := by
      have e' : b = s1.heap.objs.size + 1 ∨ b = s1.heap.objs.size := by simpa using hb
      rcases e' with z | z
      · rw [z]; exact Nat.le_add_right _ _
      · rw [z]; exact Nat.le_refl _
    exact I1.fpOk hle (I1.hok.fresh hle)
/-- a loop over enumerate(a tuple): the new pair at T -/
theorem for_enumT {K : PySem.W.Frag} {a : Addr} {xs : List V} {g : TG} {tb : TS} {D : Ends} {σ : L2.St} {H : Hp} (Pv : Nat → L2.St → Hp → Prop) (h0 : Pv 0 σ H) (hl : ∀ i σ H, Pv i σ H → SqT K H a xs)
    (hs : ∀ i x T σ H, xs[i]? = some x → H T = none → Pv i σ H →
      g (.ref T) σ (upd H T (.tup [.int (i : Nat), x])) fun σ2 H2 => tb { D with nx := Pv (i + 1), ct := Pv (i + 1), bk := D.nx } σ2 H2)
    (hd : ∀ σ H, Pv xs.length σ H → D.nx σ H) :
    ∃ W : Nat → Nat → L2.St → Hp → Prop, (∃ m, W 0 m σ H) ∧ ∀ i m σ H, W i m σ H →
      ((IteT K a).stop i H ∧ D.nx σ H) ∨ ((IteT K a).go i H ∧ ∃ N : L2.St → Hp → Prop, (∀ σ' H', N σ' H' → ∃ m', m' < m ∧ W (i + 1) m' σ' H') ∧
        ∀ v H', (IteT K a).yld i H v H' → g v σ H' fun σ2 H2 => tb { D with nx := N, ct := N, bk := D.nx } σ2 H2) := by
  refine ⟨fun i m σ H => m = xs.length - i ∧ i ≤ xs.length ∧ Pv i σ H, ⟨xs.length, rfl, Nat.zero_le _, h0⟩, fun i m σ H hW => ?_⟩
  obtain ⟨em, hi, p⟩ := hW
  by_cases hlt : i < xs.length
  · refine .inr ⟨⟨xs, _, hl i σ H p, List.getElem?_eq_getElem hlt⟩, Pv (i + 1), fun σ' H' p' => ⟨xs.length - (i + 1), by omega, rfl, hlt, p'⟩, fun v H' y => ?_⟩
    obtain ⟨T, x, rfl, nT, rfl, hx⟩ := y
    exact hs i x T σ H (hx _ (hl i σ H p)) nT p
  · obtain rfl : i = xs.length := by omega
    exact .inl ⟨⟨xs, hl _ σ H p, Nat.le_refl _⟩, hd σ H p⟩
end TL
namespace TL
open PySem PySem.Spec PyProof.Rows L2
section
variable {X : Cx}
/-- name = {..} on one line, the name a local -/
theorem ps_setDc {i : Nat} {y : Str} {py : Pos} {kx vx tg iter : Expr} {ifs : List Expr} {scope : Scope} {own : List (Str × Nat)} {pos spos : Pos}
    {wi : TI} {g : TG} {tt : TT} {tk tv : TE} (hc : X.calm = true) (hN : X.N.Nodup) (hy : X.N[i]? = some y) (hyl : X.env.scope.names.lookup y = some .local)
    (hsw : swapsWith (.DictComp kx vx [⟨tg, iter, ifs, 0⟩] scope pos) (some (.Name y py)) spos.line X.env = pure true)
    (hi : PI X tg iter wi) (ok : BlkOk X.N X.env.scope scope own)
    (hg : ∀ (s : Shared) (H : Hp) (C : Addr) (cl : List (Str × Addr)) (fp : List Addr),
      PG (X.blk s H scope (compEnvC scope cl C X.env) fp) tg g)
    (ht : ∀ (s : Shared) (H : Hp) (C : Addr) (cl : List (Str × Addr)) (fp : List Addr),
      PTs (X.blk s H scope (compEnvC scope cl C X.env) fp) ifs tt)
    (hk : ∀ (s : Shared) (H : Hp) (C : Addr) (cl : List (Str × Addr)) (fp : List Addr),
      PE (X.blk s H scope (compEnvC scope cl C X.env) fp) kx tk)
    (he : ∀ (s : Shared) (H : Hp) (C : Addr) (cl : List (Str × Addr)) (fp : List Addr),
      PE (X.blk s H scope (compEnvC scope cl C X.env) fp) vx tv)
    (hs : ∀ x, foldedSetIterable iter X.env x = pure x := by intro _; rfl) :
    PS X (.Assign [.Name y py] (.DictComp kx vx [⟨tg, iter, ifs, 0⟩] scope pos) spos) (tAsg (tDc wi g tt tk tv (own.map (·.2))) (gName i)) := by
  refine ⟨fun pins s σ H D I h => ?_⟩
  rw [exec_Assign_Name_used _ _ _ _ hsw]
  refine wpAny_bind (wpAny_standAt (wpAny_bind ?_))
  show wpAny _ X.A (do
    let _ ← comprehension (.DictComp kx vx [⟨tg, iter, ifs, 0⟩] scope pos) scope X.env
      (firstIterPos [⟨tg, iter, ifs, 0⟩] pos) newDict false (eval iter X.env) (some (assign (.Name y py) X.env))) _ _ s
  have h2 : tDc wi g tt tk tv (own.map (·.2)) σ H (fun x H1 => gName i x σ H1 D.nx) := h
  refine wpAny_bind (thn (dc_core (Qf := fun _ s' => SP X pins D .next s') hc hN I hi ok hg ht hk he hs h2
    fun L C s' m H' I' q hn f => ?_) fun _ s' hq => wpAny_pure (wpAny_pure hq))
  show wpAny _ _ (assign (.Name y py) X.env (.ref L)) _ _ _
  refine wpAny_assign_Name (store_ok2 (v := V.ref L) I' hN hy (.inl hyl) rfl (fun s2 I2 ⟨a, sb, ha⟩ => ?_) (.inr hyl))
  obtain ⟨f0, f1, f2, f3, f4, f5⟩ := f
  have haC : C ≠ a := by
    rcases ha with z | z
    · rw [z]; exact f1
    · exact fun e => f4 y a z e.symm
  exact ⟨m, hn.sameBut sb haC, fun h3 sb3 => ⟨_, H', I2.turned (t' := s2.toks) (fun b o hb e => (sb3.2 b hb).trans e) f0 f1 f3 f4 f5, q⟩⟩
theorem sw_trueD {kx vx : Expr} {gs : List Comprehension} {scope : Scope} {pos py : Pos} {y : Str} {l : Nat} {env : Env} (hk : env.scope.kind = .function)
    (hy : env.scope.names.lookup y = some .local) (hl : (py.line == pos.line) = true)
    (ha : (scope.names.any fun (n, k) => n == y && (k == .local || k == .cell)) = false) :
    swapsWith (.DictComp kx vx gs scope pos) (some (.Name y py)) l env = pure true := by
  have ky : env.kindOf y = some .local := hy
  have hb : env.blockKind = .function := by
    unfold Env.blockKind
    rw [hk]
    rfl
  unfold swapsWith
  simp only [hb, ky, ha, Expr.pos, hl]
  rfl
end
/-! ### tables from ints to ints -/
def tab (f : Int → Int) (vs : List Int) : List (Key × V) := vs.map fun v => ((Sum.inl v : Key), V.int (f v))
theorem tab_val (f : Int → Int) (v : Int) : ∀ vs : List Int, valV (tab f vs) (Sum.inl v) = if v ∈ vs then some (V.int (f v)) else none
  | [] => rfl
  | u :: vs => by
    have ih := tab_val f v vs
    unfold tab at ih ⊢
    rw [List.map_cons]
    by_cases e : u = v
    · subst e
      rw [valV_pos rfl, if_pos List.mem_cons_self]
    · have e' : ¬ (Sum.inl u : Key) = Sum.inl v := fun z => e (Sum.inl.inj z)
      rw [valV_neg e', ih]
      by_cases h : v ∈ vs
      · rw [if_pos h, if_pos (List.mem_cons_of_mem _ h)]
      · rw [if_neg h, if_neg fun z => (List.mem_cons.mp z).elim (fun z => e z.symm) h]
theorem tab_len (f : Int → Int) (vs : List Int) : (tab f vs).length = vs.length := List.length_map _
theorem tab_snoc (f : Int → Int) (vs : List Int) (v : Int) (h : v ∉ vs) : putK (tab f vs) (Sum.inl v) (V.int (f v)) = tab f (vs ++ [v]) := by
  rw [putK_new _ (by rw [tab_val, if_neg h])]
  unfold tab
  rw [List.map_append]
  rfl
/-- {v: f(v) for v in ..}: the turns leave what was tracked as it was -/
theorem dc_tab {J : It} {g : TG} {tk tv : TE} {vs : List Nat} {σ : L2.St} {H1 : Hp} {D : Addr} {Qd : Hp → Prop} (f : Int → Int) (bs : List Int) (σb : Int → L2.St)
    (nd : bs.Nodup) (nD : H1 D = none) (hl : bs.length ≤ 1000)
    (hgo : ∀ j H', j < bs.length → Same H1 H' → J.go j H') (hst : ∀ H', Same H1 H' → J.stop bs.length H')
    (hg : ∀ j b x H' H'', bs[j]? = some b → Same H1 H' → J.yld j H' x H'' → H'' = H' ∧ ∀ Q : L2.St → Hp → Prop, Q (σb b) H' → g x (wipe σ vs) H' Q)
    (hw : ∀ b, wipe (σb b) vs = wipe σ vs)
    (hk : ∀ b ∈ bs, ∀ H' (Q : VK), Same H1 H' → Q (.int b) H' → tk (σb b) H' Q)
    (hv : ∀ b ∈ bs, ∀ H' (Q : VK), Same H1 H' → (∀ H2, Same H' H2 → Q (.int (f b)) H2) → tv (σb b) H' Q)
    (hd : ∀ H', Same H1 H' → H' D = some (.dK (tab f bs)) → Qd H') :
    ∃ W : Nat → Nat → Hp → Prop, (∃ m, W 0 m (upd H1 D (.dK []))) ∧ ∀ i m H, W i m H →
      (J.stop i H ∧ Qd H) ∨
      (J.go i H ∧ ∃ Nx : Hp → Prop, (∀ H', Nx H' → ∃ m', m' < m ∧ W (i + 1) m' H') ∧
        ∀ x H', J.yld i H x H' → g x (wipe σ vs) H' fun σ2 H2 => wipe σ2 vs = wipe σ vs ∧ tYes σ2 H2 fun b H3 =>
          if b = true then
            tk σ2 H3 fun y H4 => tv σ2 H4 fun z H5 => ∃ kvs k, y = kV k ∧ H5 D = some (.dK kvs) ∧ kvs.length < sizeLine ∧ Nx (upd H5 D (.dK (putK kvs k z)))
          else Nx H3) := by
  let Pv : Nat → Hp → Prop := fun i H' => Same H1 H' ∧ H' D = some (.dK (tab f (bs.take i)))
  refine ⟨fun i m H => m = bs.length - i ∧ i ≤ bs.length ∧ Pv i H, ⟨bs.length, rfl, Nat.zero_le _, same_upd nD, upd_same⟩, fun i m H hW => ?_⟩
  obtain ⟨em, hi, s, eD⟩ := hW
  by_cases hlt : i < bs.length
  · refine .inr ⟨hgo i H hlt s, Pv (i + 1), fun H' p => ⟨bs.length - (i + 1), by omega, rfl, hlt, p⟩, fun x H' y => ?_⟩
    obtain ⟨rfl, k⟩ := hg i bs[i] x H H' (List.getElem?_eq_getElem hlt) s y
    have mb : bs[i] ∈ bs := List.getElem_mem hlt
    refine k _ ⟨hw _, yesI (iteT (hk _ mb _ _ s (hv _ mb _ _ s fun H5 s5 => ?_)))⟩
    have tk' : bs.take (i + 1) = bs.take i ++ [bs[i]] := by rw [List.take_add_one, List.getElem?_eq_getElem hlt]; rfl
    have ni : bs[i] ∉ bs.take i := fun z => by
      obtain ⟨j, hj, e⟩ := List.mem_iff_getElem.mp z
      rw [List.length_take] at hj
      rw [List.getElem_take] at e
      have := (List.getElem_inj nd).mp e
      omega
    refine ⟨tab f (bs.take i), Sum.inl bs[i], rfl, s5 _ _ eD, ?_, ?_, ?_⟩
    · rw [tab_len, List.length_take]
      exact small1000 (by omega)
    · intro b o e
      rw [upd_ne (ne_of_none e nD)]
      exact s5 _ _ (s _ _ e)
    · rw [upd_same, tab_snoc f _ _ ni, tk']
  · obtain rfl : i = bs.length := by omega
    rw [List.take_length] at eD
    exact .inl ⟨hst H s, hd H s eD⟩
end TL
namespace TL
/-! ### slides one after another -/
def walk (m : Nat) (es : List (Int × Int)) : List Int → List (Int × Int) → Option (List Int)
  | S, [] => some S
  | S, p :: ps => if p ∈ slidesP m es S then walk m es (after S p.1 p.2) ps else none
theorem walk_cons {m : Nat} {es : List (Int × Int)} {S T : List Int} {p : Int × Int} {ps : List (Int × Int)} (h : walk m es S (p :: ps) = some T) :
    p ∈ slidesP m es S ∧ walk m es (after S p.1 p.2) ps = some T := by
  unfold walk at h
  split at h
  · rename_i h1
    exact ⟨h1, h⟩
  · cases h
theorem IsSet.slide {m : Nat} {es : List (Int × Int)} {S : List Int} {p : Int × Int} (f : IsFor m es) (h : IsSet m es S) (hp : p ∈ slidesP m es S) : IsSet m es (TL.after S p.1 p.2) := by
  obtain ⟨u, v⟩ := p
  obtain ⟨h1, h2, h3⟩ := mem_slidesP.mp hp
  exact IsSet.after f h h1 h2 h3
theorem mem_nearL_comm {m : Nat} {es : List (Int × Int)} (f : IsFor m es) {u v : Int} : v ∈ nearL m es u ↔ u ∈ nearL m es v := by
  rw [mem_nearL, mem_nearL, ordP_comm v u]
  constructor
  · rintro ⟨_, h⟩
    refine ⟨?_, h⟩
    rcases f.mem_ord.mp h with q | q
    · have := f.rng _ q; simp only at this; omega
    · have := f.rng _ q; simp only at this; omega
  · rintro ⟨_, h⟩
    refine ⟨?_, h⟩
    rcases f.mem_ord.mp h with q | q
    · have := f.rng _ q; simp only at this; omega
    · have := f.rng _ q; simp only at this; omega
theorem adj_free {m : Nat} {es : List (Int × Int)} {S : List Int} (h : IsSet m es S) {u v : Int} (hu : u ∈ S) (hv : v ∈ nearL m es u) : v ∉ S :=
  fun z => h.free v z u hu (mem_nearL.mp hv).2
/-- another lamp's slide after a slide -/
theorem slide_other {m : Nat} {es : List (Int × Int)} {S : List Int} (f : IsFor m es) (h : IsSet m es S) {u v u' v' : Int} (p : (u, v) ∈ slidesP m es S) (q : (u', v') ∈ slidesP m es S) (ne : u ≠ u') :
    (u', v') ∈ slidesP m es (after S u v) ↔ v' ∉ nearL m es v := by
  obtain ⟨hu, hv, ho⟩ := mem_slidesP.mp p
  obtain ⟨hu', hv', ho'⟩ := mem_slidesP.mp q
  have nv := adj_free h hu hv
  rw [mem_slidesP]
  constructor
  · rintro ⟨_, _, o⟩ z
    have : v ∈ oth m es (after S u v) u' v' := mem_oth.mpr ⟨(mem_nearL_comm f).mp z, mem_after.mpr (.inr rfl), fun e => nv (e ▸ hu')⟩
    rw [o] at this
    cases this
  · intro z
    refine ⟨mem_after.mpr (.inl ⟨hu', fun e => ne e.symm⟩), hv', ?_⟩
    refine List.eq_nil_iff_forall_not_mem.mpr fun a ha => ?_
    obtain ⟨h1, h2, h3⟩ := mem_oth.mp ha
    rcases mem_after.mp h2 with ⟨h4, h5⟩ | rfl
    · have : a ∈ oth m es S u' v' := mem_oth.mpr ⟨h1, h4, h3⟩
      rw [ho'] at this
      cases this
    · exact z ((mem_nearL_comm f).mp h1)
theorem slide_same {m : Nat} {es : List (Int × Int)} {S : List Int} (f : IsFor m es) (h : IsSet m es S) {u v v' : Int} (p : (u, v) ∈ slidesP m es S) : (u, v') ∉ slidesP m es (after S u v) := by
  obtain ⟨hu, hv, ho⟩ := mem_slidesP.mp p
  have nv := adj_free h hu hv
  intro z
  rcases mem_after.mp (mem_slidesP.mp z).1 with ⟨_, h2⟩ | h2
  · exact h2 rfl
  · exact nv (h2 ▸ hu)
theorem slide_back {m : Nat} {es : List (Int × Int)} {S : List Int} (f : IsFor m es) (h : IsSet m es S) {u v : Int} (p : (u, v) ∈ slidesP m es S) : (v, u) ∈ slidesP m es (after S u v) := by
  obtain ⟨hu, hv, ho⟩ := mem_slidesP.mp p
  refine mem_slidesP.mpr ⟨mem_after.mpr (.inr rfl), (mem_nearL_comm f).mp hv, ?_⟩
  refine List.eq_nil_iff_forall_not_mem.mpr fun a ha => ?_
  obtain ⟨h1, h2, h3⟩ := mem_oth.mp ha
  rcases mem_after.mp h2 with ⟨h4, h5⟩ | h4
  · exact h.free a h4 u hu (mem_nearL.mp h1).2
  · exact h3 h4
theorem after_comm {m : Nat} {es : List (Int × Int)} {S : List Int} (f : IsFor m es) (h : IsSet m es S) {u v u' v' : Int} (p : (u, v) ∈ slidesP m es S) (q : (u', v') ∈ slidesP m es S) (ne : u ≠ u')
    (ap : v' ∉ nearL m es v) : after (after S u v) u' v' = after (after S u' v') u v := by
  obtain ⟨hu, hv, ho⟩ := mem_slidesP.mp p
  obtain ⟨hu', hv', ho'⟩ := mem_slidesP.mp q
  have nv := adj_free h hu hv
  have nv' := adj_free h hu' hv'
  have s1 := IsSet.slide f (IsSet.slide f h p) ((slide_other f h p q ne).mpr ap)
  have ap' : v ∉ nearL m es v' := fun z => ap ((mem_nearL_comm f).mp z)
  have s2 := IsSet.slide f (IsSet.slide f h q) ((slide_other f h q p (Ne.symm ne)).mpr ap')
  refine asc_ext s1.asc s2.asc fun z => ?_
  have e1 : v ≠ u' := fun e => nv (e ▸ hu')
  have e2 : v' ≠ u := fun e => nv' (e ▸ hu)
  rw [mem_after, mem_after, mem_after, mem_after]
  constructor
  · rintro (⟨⟨a, b⟩ | a, c⟩ | a)
    · exact .inl ⟨.inl ⟨a, c⟩, b⟩
    · exact .inr a
    · exact .inl ⟨.inr a, by rw [a]; exact e2⟩
  · rintro (⟨⟨a, b⟩ | a, c⟩ | a)
    · exact .inl ⟨.inl ⟨a, c⟩, b⟩
    · exact .inr a
    · exact .inl ⟨.inr a, by rw [a]; exact e1⟩
theorem walk_two {m : Nat} {es : List (Int × Int)} {S : List Int} (f : IsFor m es) (h : IsSet m es S) {p q : Int × Int} (hp : p ∈ slidesP m es S) (hq : q ∈ slidesP m es S) (ne : p.1 ≠ q.1)
    (ap : q.2 ∉ nearL m es p.2) : walk m es S [p, q] = some (after (after S p.1 p.2) q.1 q.2) := by
  have h2 : q ∈ slidesP m es (after S p.1 p.2) := (slide_other f h (u := p.1) (v := p.2) (u' := q.1) (v' := q.2) hp hq ne).mpr ap
  unfold walk
  rw [if_pos hp]
  unfold walk
  rw [if_pos h2]
  rfl
end TL
namespace TL
/-! ### labels: vertices that edges join have one label -/
inductive Conn (es : List (Int × Int)) : Int → Int → Prop
  | refl (a : Int) : Conn es a a
  | step {a b c : Int} : Conn es a b → ((b, c) ∈ es ∨ (c, b) ∈ es) → Conn es a c
theorem Conn.trans {es : List (Int × Int)} {a b c : Int} (h : Conn es a b) (k : Conn es b c) : Conn es a c := by
  induction k with
  | refl => exact h
  | step _ e ih => exact .step ih e
theorem Conn.symm {es : List (Int × Int)} {a b : Int} (h : Conn es a b) : Conn es b a := by
  induction h with
  | refl => exact .refl _
  | step _ e ih => exact Conn.trans (.step (.refl _) e.symm) ih
theorem Conn.mono {es fs : List (Int × Int)} (s : ∀ p ∈ es, p ∈ fs) {a b : Int} (h : Conn es a b) : Conn fs a b := by
  induction h with
  | refl => exact .refl _
  | step _ e ih => exact .step ih (e.imp (s _) (s _))
def mrg (f : Int → Int) (a b : Int) : Int → Int := fun v => if f v = f a then f b else f v
structure Lab (es : List (Int × Int)) (vs : List Int) (f : Int → Int) : Prop where
  join : ∀ p ∈ es, p.1 ∈ vs → p.2 ∈ vs → f p.1 = f p.2
  conn : ∀ a ∈ vs, ∀ b ∈ vs, f a = f b → Conn (es.filter fun p => decide (p.1 ∈ vs) && decide (p.2 ∈ vs)) a b
theorem Lab.start (vs : List Int) : Lab [] vs id := ⟨(fun _ h => nomatch h), fun a _ b _ e => by
  have e : a = b := e
  rw [e]
  exact .refl _⟩
theorem filt_sub {es : List (Int × Int)} {p : Int × Int} {q : Int × Int → Bool} : ∀ r ∈ es.filter q, r ∈ (es ++ [p]).filter q := fun r hr => by
  rw [List.filter_append]
  exact List.mem_append_left _ hr
theorem Lab.skip {es : List (Int × Int)} {vs : List Int} {f : Int → Int} {p : Int × Int} (h : Lab es vs f) (n : ¬ (p.1 ∈ vs ∧ p.2 ∈ vs)) : Lab (es ++ [p]) vs f where
  join := fun r hr h1 h2 => by
    rcases List.mem_append.mp hr with hr | hr
    · exact h.join r hr h1 h2
    · rw [List.mem_singleton.mp hr] at h1 h2
      exact absurd ⟨h1, h2⟩ n
  conn := fun a ha b hb e => (h.conn a ha b hb e).mono filt_sub
theorem Lab.merge {es : List (Int × Int)} {vs : List Int} {f : Int → Int} {p : Int × Int} (h : Lab es vs f) (h1 : p.1 ∈ vs) (h2 : p.2 ∈ vs) : Lab (es ++ [p]) vs (mrg f p.1 p.2) where
  join := fun r hr k1 k2 => by
    unfold mrg
    rcases List.mem_append.mp hr with hr | hr
    · rw [h.join r hr k1 k2]
    · rw [List.mem_singleton.mp hr, if_pos rfl]
      split <;> rfl
  conn := fun a ha b hb e => by
    have up : ∀ x ∈ vs, ∀ y ∈ vs, f x = f y → Conn ((es ++ [p]).filter fun p => decide (p.1 ∈ vs) && decide (p.2 ∈ vs)) x y := fun x hx y hy q => (h.conn x hx y hy q).mono filt_sub
    have ed : Conn ((es ++ [p]).filter fun p => decide (p.1 ∈ vs) && decide (p.2 ∈ vs)) p.1 p.2 := by
      refine .step (.refl _) (.inl ?_)
      refine List.mem_filter.mpr ⟨List.mem_append_right _ (List.mem_singleton.mpr rfl), ?_⟩
      rw [Bool.and_eq_true, decide_eq_true_eq, decide_eq_true_eq]
      exact ⟨h1, h2⟩
    unfold mrg at e
    by_cases ea : f a = f p.1
    · by_cases eb : f b = f p.1
      · exact up a ha b hb (ea.trans eb.symm)
      · rw [if_pos ea, if_neg eb] at e
        exact ((up a ha _ h1 ea).trans ed).trans (up _ h2 b hb e)
    · by_cases eb : f b = f p.1
      · rw [if_neg ea, if_pos eb] at e
        exact (((up b hb _ h1 eb).trans ed).trans (up _ h2 a ha e.symm)).symm
      · rw [if_neg ea, if_neg eb] at e
        exact up a ha b hb e
/-! ### groups of one label -/
structure Grp (f : Int → Int) (T : List Int) (gs : List (Int × List Int)) : Prop where
  nd : (gs.map (·.1)).Nodup
  is : ∀ g ∈ gs, g.2 = T.filter (fun v => decide (f v = g.1)) ∧ g.2 ≠ []
  all : ∀ v ∈ T, f v ∈ gs.map (·.1)
theorem Grp.start (f : Int → Int) : Grp f [] [] := ⟨.nil, (fun _ h => nomatch h), (fun _ h => nomatch h)⟩
def addG (gs : List (Int × List Int)) (l v : Int) : List (Int × List Int) :=
  if l ∈ gs.map (·.1) then gs.map (fun g => if g.1 = l then (g.1, g.2 ++ [v]) else g) else gs ++ [(l, [v])]
theorem addG_keys_old {gs : List (Int × List Int)} {l v : Int} : (gs.map (fun g => if g.1 = l then (g.1, g.2 ++ [v]) else g)).map (·.1) = gs.map (·.1) := by
  rw [List.map_map]
  refine List.map_congr_left fun g _ => ?_
  show (if g.1 = l then (g.1, g.2 ++ [v]) else g).1 = g.1
  split <;> rfl
theorem Grp.add {f : Int → Int} {T : List Int} {gs : List (Int × List Int)} (h : Grp f T gs) (v : Int) : Grp f (T ++ [v]) (addG gs (f v) v) := by
  unfold addG
  by_cases hin : f v ∈ gs.map (·.1)
  · rw [if_pos hin]
    refine ⟨by rw [addG_keys_old]; exact h.nd, fun g hg => ?_, fun u hu => ?_⟩
    · obtain ⟨g0, hg0, rfl⟩ := List.mem_map.mp hg
      obtain ⟨i1, i2⟩ := h.is g0 hg0
      by_cases e : g0.1 = f v
      · rw [if_pos e]
        refine ⟨?_, by simp⟩
        show g0.2 ++ [v] = _
        rw [List.filter_append, ← i1, List.filter_cons_of_pos (by simp [e])]
        rfl
      · rw [if_neg e]
        refine ⟨?_, i2⟩
        rw [List.filter_append, ← i1, List.filter_cons_of_neg (by simp; exact fun z => e z.symm), List.filter_nil, List.append_nil]
    · rw [addG_keys_old]
      rcases List.mem_append.mp hu with hu | hu
      · exact h.all u hu
      · rw [List.mem_singleton.mp hu]
        exact hin
  · rw [if_neg hin]
    have none : T.filter (fun u => decide (f u = f v)) = [] := List.filter_eq_nil_iff.mpr fun u hu z => hin (by
      rw [← of_decide_eq_true z]
      exact h.all u hu)
    refine ⟨?_, fun g hg => ?_, fun u hu => ?_⟩
    · rw [List.map_append]
      refine List.nodup_append.mpr ⟨h.nd, List.pairwise_singleton _ _, fun a ha b hb e => ?_⟩
      rw [List.mem_singleton.mp hb] at e
      have e : a = f v := e
      rw [e] at ha
      exact hin ha
    · rcases List.mem_append.mp hg with hg | hg
      · obtain ⟨i1, i2⟩ := h.is g hg
        refine ⟨?_, i2⟩
        have : ¬ f v = g.1 := fun z => hin (by rw [z]; exact List.mem_map.mpr ⟨g, hg, rfl⟩)
        rw [List.filter_append, ← i1, List.filter_cons_of_neg (by simp [this]), List.filter_nil, List.append_nil]
      · rw [List.mem_singleton.mp hg]
        refine ⟨?_, by simp⟩
        rw [List.filter_append, none, List.nil_append, List.filter_cons_of_pos (by simp)]
        rfl
    · rw [List.map_append]
      rcases List.mem_append.mp hu with hu | hu
      · exact List.mem_append_left _ (h.all u hu)
      · rw [List.mem_singleton.mp hu]
        exact List.mem_append_right _ (List.mem_singleton.mpr rfl)
theorem Grp.len {f : Int → Int} {T : List Int} {gs : List (Int × List Int)} (h : Grp f T gs) : gs.length ≤ T.length := by
  have key : ∀ (l : List Int), l.Nodup → (∀ x ∈ l, x ∈ T.map f) → l.length ≤ T.length := by
    intro l nd sub
    have := nd.length_le_of_subset sub
    rw [List.length_map] at this
    exact this
  have := key (gs.map (·.1)) h.nd fun x hx => by
    obtain ⟨g, hg, rfl⟩ := List.mem_map.mp hx
    obtain ⟨i1, i2⟩ := h.is g hg
    obtain ⟨u, hu⟩ := List.exists_mem_of_ne_nil _ i2
    rw [i1] at hu
    obtain ⟨a, b⟩ := List.mem_filter.mp hu
    exact List.mem_map.mpr ⟨u, a, of_decide_eq_true b⟩
  rw [List.length_map] at this
  exact this
end TL
namespace TL
open PySem PySem.Spec L2
/-! ### walks and the way back -/
def run (S : List Int) (ps : List (Int × Int)) : List Int := ps.foldl (fun S p => after S p.1 p.2) S
theorem run_snoc (S : List Int) (ps : List (Int × Int)) (p : Int × Int) : run S (ps ++ [p]) = after (run S ps) p.1 p.2 := by
  unfold run
  rw [List.foldl_append]
  rfl
theorem walk_run {m : Nat} {es : List (Int × Int)} : ∀ {ps : List (Int × Int)} {S T : List Int}, walk m es S ps = some T → T = run S ps
  | [], S, T, h => by cases h; rfl
  | p :: ps, S, T, h => by
    obtain ⟨_, h2⟩ := walk_cons h
    exact (walk_run h2 : T = run (after S p.1 p.2) ps)
theorem walk_push {m : Nat} {es : List (Int × Int)} {S : List Int} {p : Int × Int} {ps : List (Int × Int)} (h : p ∈ slidesP m es S) : walk m es S (p :: ps) = walk m es (after S p.1 p.2) ps := by
  show (if p ∈ slidesP m es S then _ else _) = _
  rw [if_pos h]
theorem walk_app {m : Nat} {es : List (Int × Int)} {qs : List (Int × Int)} : ∀ {ps : List (Int × Int)} {S T : List Int}, walk m es S ps = some T → walk m es S (ps ++ qs) = walk m es T qs
  | [], S, T, h => by cases h; rfl
  | p :: ps, S, T, h => by
    obtain ⟨h1, h2⟩ := walk_cons h
    rw [List.cons_append, walk_push h1]
    exact walk_app h2
theorem walk_some {m : Nat} {es : List (Int × Int)} {qs : List (Int × Int)} : ∀ {ps : List (Int × Int)} {S T : List Int}, walk m es S (ps ++ qs) = some T → walk m es S ps = some (run S ps) ∧ walk m es (run S ps) qs = some T
  | [], S, T, h => ⟨rfl, h⟩
  | p :: ps, S, T, h => by
    rw [List.cons_append] at h
    obtain ⟨h1, h2⟩ := walk_cons h
    rw [walk_push h1]
    exact walk_some h2
theorem walk_cut {m : Nat} {es : List (Int × Int)} {ps : List (Int × Int)} {S T : List Int} (n : Nat) (h : walk m es S ps = some T) : walk m es S (ps.take n) = some (run S (ps.take n)) ∧ walk m es (run S (ps.take n)) (ps.drop n) = some T := by
  rw [← List.take_append_drop n ps] at h
  exact walk_some h
theorem walk_set {m : Nat} {es : List (Int × Int)} (f : IsFor m es) : ∀ {ps : List (Int × Int)} {S T : List Int}, IsSet m es S → walk m es S ps = some T → IsSet m es T
  | [], S, T, i, h => by cases h; exact i
  | p :: ps, S, T, i, h => by
    obtain ⟨h1, h2⟩ := walk_cons h
    exact walk_set f (IsSet.slide f i h1) h2
theorem after_back {m : Nat} {es : List (Int × Int)} {S : List Int} (f : IsFor m es) (h : IsSet m es S) {u v : Int} (p : (u, v) ∈ slidesP m es S) : after (after S u v) v u = S := by
  obtain ⟨hu, hv, ho⟩ := mem_slidesP.mp p
  have nv := adj_free h hu hv
  have s1 := IsSet.slide f (IsSet.slide f h p) (slide_back f h p)
  refine asc_ext s1.asc h.asc fun z => ?_
  show z ∈ after (after S u v) v u ↔ _
  rw [mem_after, mem_after]
  constructor
  · rintro (⟨⟨a, b⟩ | a, c⟩ | a)
    · exact a
    · exact absurd a c
    · rw [a]; exact hu
  · intro hz
    by_cases e : z = u
    · exact .inr e
    · exact .inl ⟨.inl ⟨hz, e⟩, fun y => nv (y ▸ hz)⟩
def bk (ps : List (Int × Int)) : List (Int × Int) := (ps.map fun p => (p.2, p.1)).reverse
theorem bk_length (ps : List (Int × Int)) : (bk ps).length = ps.length := by
  unfold bk
  rw [List.length_reverse, List.length_map]
theorem walk_bk {m : Nat} {es : List (Int × Int)} (f : IsFor m es) : ∀ {ps : List (Int × Int)} {S T : List Int}, IsSet m es S → walk m es S ps = some T → walk m es T (bk ps) = some S
  | [], S, T, i, h => by cases h; rfl
  | p :: ps, S, T, i, h => by
    obtain ⟨h1, h2⟩ := walk_cons h
    have h3 := walk_bk f (IsSet.slide f i h1) h2
    have e : bk (p :: ps) = bk ps ++ [(p.2, p.1)] := by
      unfold bk
      rw [List.map_cons, List.reverse_cons]
    rw [e, walk_app h3, walk_push (slide_back f i (u := p.1) (v := p.2) h1)]
    show some (after (after S p.1 p.2) p.2 p.1) = _
    rw [after_back f i (u := p.1) (v := p.2) h1]
/-! ### the settings on the way -/
def sts (S : List Int) (ps : List (Int × Int)) : List (List Int) := (List.range (ps.length + 1)).map fun i => run S (ps.take i)
theorem sts_nil (S : List Int) : sts S [] = [S] := rfl
theorem sts_len (S : List Int) (ps : List (Int × Int)) : (sts S ps).length = ps.length + 1 := by
  unfold sts
  rw [List.length_map, List.length_range]
theorem sts_snoc (S : List Int) (ps : List (Int × Int)) (p : Int × Int) : sts S (ps ++ [p]) = sts S ps ++ [run S (ps ++ [p])] := by
  unfold sts
  rw [List.length_append, List.length_singleton, List.range_succ, List.map_append, List.map_singleton, List.take_of_length_le (l := ps ++ [p]) (by rw [List.length_append]; exact Nat.le_refl _)]
  congr 1
  refine List.map_congr_left fun i hi => ?_
  have := List.mem_range.mp hi
  rw [List.take_append_of_le_length (by omega)]
theorem sts_get {S : List Int} {ps : List (Int × Int)} {i : Nat} (h : i ≤ ps.length) : (sts S ps)[i]? = some (run S (ps.take i)) := by
  unfold sts
  rw [List.getElem?_map, List.getElem?_range (by omega)]
  rfl
theorem mem_sts {S R : List Int} {ps : List (Int × Int)} (h : R ∈ sts S ps) : ∃ i, i ≤ ps.length ∧ R = run S (ps.take i) := by
  unfold sts at h
  obtain ⟨i, hi, rfl⟩ := List.mem_map.mp h
  have := List.mem_range.mp hi
  exact ⟨i, by omega, rfl⟩
/-! ### lamps counted -/
def cnt (bs : List (List Int)) (S : List Int) : List Int := bs.map fun b => (((S.filter fun l => decide (l ∈ b)).length : Nat) : Int)
theorem cnt_slide {m : Nat} {es : List (Int × Int)} {f : Int → Int} {gs : List (Int × List Int)} {S : List Int} {u v : Int} {bs : List (List Int)} (isf : IsFor m es) (iss : IsSet m es S) (lab : Lab es (rng m) f) (gr : Grp f (rng m) gs)
    (hb : ∀ b ∈ bs, b ∈ gs.map (·.2)) (p : (u, v) ∈ slidesP m es S) : cnt bs (after S u v) = cnt bs S := by
  obtain ⟨hu, hv, ho⟩ := mem_slidesP.mp p
  obtain ⟨rv, av⟩ := mem_nearL.mp hv
  have ru := iss.rng u hu
  have mu : u ∈ rng m := mem_rng.mpr ru
  have mv : v ∈ rng m := mem_rng.mpr rv
  have e : f u = f v := by
    unfold ordP at av
    split at av
    · exact (lab.join _ av mv mu).symm
    · exact lab.join _ av mu mv
  unfold cnt
  refine List.map_congr_left fun b hb0 => ?_
  obtain ⟨g, hg, rfl⟩ := List.mem_map.mp (hb b hb0)
  have key : ∀ x, x ∈ g.2 ↔ x ∈ rng m ∧ f x = g.1 := fun x => by
    rw [(gr.is g hg).1, List.mem_filter, decide_eq_true_eq]
  have uv : u ∈ g.2 ↔ v ∈ g.2 := by
    rw [key, key, e]
    exact ⟨fun z => ⟨mv, z.2⟩, fun z => ⟨mu, z.2⟩⟩
  have h1 : (after S u v).Perm (S.map fun l => if l = u then v else l) := (srtI_perm _).trans (move_perm iss.asc.nodup hu).symm
  rw [(h1.filter _).length_eq, List.filter_map, List.length_map]
  congr 2
  refine List.filter_congr fun l _ => ?_
  show decide ((if l = u then v else l) ∈ g.2) = _
  split
  · rename_i h
    rw [h]
    exact decide_eq_decide.mpr uv.symm
  · rfl
theorem cnt_walk {m : Nat} {es : List (Int × Int)} {f : Int → Int} {gs : List (Int × List Int)} {bs : List (List Int)} (isf : IsFor m es) (lab : Lab es (rng m) f) (gr : Grp f (rng m) gs)
    (hb : ∀ b ∈ bs, b ∈ gs.map (·.2)) : ∀ {ps : List (Int × Int)} {S T : List Int}, IsSet m es S → walk m es S ps = some T → cnt bs T = cnt bs S
  | [], S, T, i, h => by cases h; rfl
  | p :: ps, S, T, i, h => by
    obtain ⟨h1, h2⟩ := walk_cons h
    rw [cnt_walk isf lab gr hb (IsSet.slide isf i h1) h2]
    exact cnt_slide isf i lab gr hb (u := p.1) (v := p.2) h1
/-! ### a comprehension within another -/
def env0 (sc : Scope) : Env := { scope := sc, locals := 0, globals := 0, cells := [], qual := "", func := none, code := .none, frame := default, builtins := default }
theorem blkOk_in {N : List Str} {scope0 scope : Scope} {own : List (Str × Nat)} {env : Env} {cl : List (Str × Addr)} {C : Addr} (sc : Scope) (e : env.scope = sc) (h : blkC N (relabel scope0 (env0 sc)) scope own = true) :
    BlkOk N (compEnvC scope0 cl C env).scope scope own := by
  subst e
  exact blkOk_by h
/-! ### comprehensions over lists and tuples of data -/
theorem zip_filter {α β γ : Type} {xs : List α} {bs : List β} (h : xs.length = bs.length) (p : β → Bool) (d : β → γ) : ((xs.zip bs).filter (fun q => p q.2)).map (fun q => d q.2) = (bs.filter p).map d := by
  have e : (xs.zip bs).map Prod.snd = bs := List.map_snd_zip (by omega)
  conv => rhs; rw [← e, List.filter_map, List.map_map]
  rfl
section
variable {K : PySem.W.Frag} {tt : TT} {te : TE} {vs : List Nat} {σ : L2.St} {H1 : Hp} {D : Addr} {Qd : Hp → Prop}
theorem lc_listD {a : Addr} {xs : List V} {β : Type} {bs : List β} {e : β → PyData} {i : Nat} (p : β → Bool) (d : β → PyData) (nD : H1 D = none) (hS : SqL K H1 a xs) (hA : DpAll K H1 xs (bs.map e))
    (hw : ∀ v, wipe ((wipe σ vs).set i (some v)) vs = wipe σ vs)
    (ht : ∀ x b, b ∈ bs → Dp K H1 x (e b) → ∀ H' (Q : Bool → Hp → Prop), Same H1 H' → (∀ H2, Same H' H2 → Q (p b) H2) → tt ((wipe σ vs).set i (some x)) H' Q)
    (he : ∀ x b, b ∈ bs → p b = true → Dp K H1 x (e b) → ∀ H' (Q : VK), Same H1 H' → (∀ H2 y, Same H' H2 → Dp K H2 y (d b) → Q y H2) → te ((wipe σ vs).set i (some x)) H' Q)
    (ho : ∀ o, only (d o) = true) (hl : bs.length ≤ 1000)
    (hd : ∀ H' ys, Same H1 H' → H' D = some (.lst ys) → DpAll K H' ys ((bs.filter p).map d) → Qd H') : LcGoal (Itl K a) (gName i) tt te vs σ H1 D Qd := by
  have xl : xs.length = bs.length := by rw [DpAll.length hA, List.length_map]
  have mem : ∀ q ∈ xs.zip bs, q.2 ∈ bs ∧ Dp K H1 q.1 (e q.2) := fun q hq => by
    obtain ⟨k, hk⟩ := List.getElem?_of_mem hq
    obtain ⟨h1, h2⟩ := List.getElem?_zip_eq_some.mp hk
    obtain ⟨z, hz, dz⟩ := DpAll.get hA h1
    rw [List.getElem?_map, h2] at hz
    cases hz
    exact ⟨List.mem_of_getElem? h2, dz⟩
  have zl : (xs.zip bs).length = xs.length := by rw [List.length_zip]; omega
  refine lc_gen (K := K) (xs.zip bs) (fun q => (wipe σ vs).set i (some q.1)) (fun q => p q.2) (fun q => d q.2) nD (fun j H' hj s => ⟨_, _, s.seq hS, List.getElem?_eq_getElem (by omega)⟩)
    (fun H' s => ⟨_, s.seq hS, by omega⟩) (fun j b x H' H'' hb s y => ?_) (fun b => hw _) (fun b hb H' Q s hQ => ht _ _ (mem b hb).1 (mem b hb).2 H' Q s hQ) (fun b hb hp H' Q s hQ => he _ _ (mem b hb).1 hp (mem b hb).2 H' Q s hQ) (fun o => ho _) (by omega)
    (fun H' ys s eD dy => hd H' ys s eD ?_)
  · obtain ⟨e1, hy⟩ := y
    have h1 := hy _ (s.seq hS)
    obtain ⟨h2, h3⟩ := List.getElem?_zip_eq_some.mp hb
    rw [h2] at h1
    cases h1
    exact ⟨e1, fun Q q => q⟩
  · rw [zip_filter xl] at dy
    exact dy
theorem lc_tupD {a : Addr} {xs : List V} {β : Type} {bs : List β} {e : β → PyData} {i : Nat} (p : β → Bool) (d : β → PyData) (nD : H1 D = none) (hS : SqT K H1 a xs) (hA : DpAll K H1 xs (bs.map e))
    (hw : ∀ v, wipe ((wipe σ vs).set i (some v)) vs = wipe σ vs)
    (ht : ∀ x b, b ∈ bs → Dp K H1 x (e b) → ∀ H' (Q : Bool → Hp → Prop), Same H1 H' → (∀ H2, Same H' H2 → Q (p b) H2) → tt ((wipe σ vs).set i (some x)) H' Q)
    (he : ∀ x b, b ∈ bs → p b = true → Dp K H1 x (e b) → ∀ H' (Q : VK), Same H1 H' → (∀ H2 y, Same H' H2 → Dp K H2 y (d b) → Q y H2) → te ((wipe σ vs).set i (some x)) H' Q)
    (ho : ∀ o, only (d o) = true) (hl : bs.length ≤ 1000)
    (hd : ∀ H' ys, Same H1 H' → H' D = some (.lst ys) → DpAll K H' ys ((bs.filter p).map d) → Qd H') : LcGoal (Itt K a) (gName i) tt te vs σ H1 D Qd := by
  have xl : xs.length = bs.length := by rw [DpAll.length hA, List.length_map]
  have mem : ∀ q ∈ xs.zip bs, q.2 ∈ bs ∧ Dp K H1 q.1 (e q.2) := fun q hq => by
    obtain ⟨k, hk⟩ := List.getElem?_of_mem hq
    obtain ⟨h1, h2⟩ := List.getElem?_zip_eq_some.mp hk
    obtain ⟨z, hz, dz⟩ := DpAll.get hA h1
    rw [List.getElem?_map, h2] at hz
    cases hz
    exact ⟨List.mem_of_getElem? h2, dz⟩
  have zl : (xs.zip bs).length = xs.length := by rw [List.length_zip]; omega
  refine lc_gen (K := K) (xs.zip bs) (fun q => (wipe σ vs).set i (some q.1)) (fun q => p q.2) (fun q => d q.2) nD (fun j H' hj s => ⟨_, _, Same.tup s hS, List.getElem?_eq_getElem (by omega)⟩)
    (fun H' s => ⟨_, Same.tup s hS, by omega⟩) (fun j b x H' H'' hb s y => ?_) (fun b => hw _) (fun b hb H' Q s hQ => ht _ _ (mem b hb).1 (mem b hb).2 H' Q s hQ) (fun b hb hp H' Q s hQ => he _ _ (mem b hb).1 hp (mem b hb).2 H' Q s hQ) (fun o => ho _) (by omega)
    (fun H' ys s eD dy => hd H' ys s eD ?_)
  · obtain ⟨e1, hy⟩ := y
    have h1 := hy _ (Same.tup s hS)
    obtain ⟨h2, h3⟩ := List.getElem?_zip_eq_some.mp hb
    rw [h2] at h1
    cases h1
    exact ⟨e1, fun Q q => q⟩
  · rw [zip_filter xl] at dy
    exact dy
end
end TL
namespace TL
open PySem PySem.Spec L2
/-! ### vertices joined by edges, found pass by pass -/
def stp (f : List Int) (p : Int × Int) : List Int := if decide (p.1 ∈ f) = decide (p.2 ∈ f) then f else f ++ [if p.1 ∈ f then p.2 else p.1]
def pas (E : List (Int × Int)) (f : List Int) : List Int := E.foldl stp f
def passes (E : List (Int × Int)) (v : Int) : Nat → List Int
  | 0 => [v]
  | n + 1 => pas E (passes E v n)
theorem filt_le {α : Type} {P Q : α → Bool} (h : ∀ x, P x = true → Q x = true) : ∀ l : List α, (l.filter P).length ≤ (l.filter Q).length
  | [] => Nat.le_refl _
  | a :: l => by
    have ih := filt_le h l
    rw [List.filter_cons, List.filter_cons]
    by_cases hp : P a = true
    · rw [if_pos hp, if_pos (h a hp), List.length_cons, List.length_cons]
      omega
    · rw [if_neg hp]
      split
      · rw [List.length_cons]
        omega
      · exact ih
theorem filt_lt {α : Type} {P Q : α → Bool} (h : ∀ x, P x = true → Q x = true) : ∀ {l : List α} {a : α}, a ∈ l → P a = false → Q a = true → (l.filter P).length < (l.filter Q).length
  | b :: l, a, ha, hp, hq => by
    rw [List.filter_cons, List.filter_cons]
    rcases List.mem_cons.mp ha with e | ha
    · rw [← e, if_neg (by rw [hp]; decide), if_pos hq, List.length_cons]
      have := filt_le h l
      omega
    · have ih := filt_lt h ha hp hq
      by_cases hb : P b = true
      · rw [if_pos hb, if_pos (h b hb), List.length_cons, List.length_cons]
        omega
      · rw [if_neg hb]
        split
        · rw [List.length_cons]
          omega
        · exact ih
def inn (f : List Int) (p : Int × Int) : Bool := decide (p.1 ∈ f) && decide (p.2 ∈ f)
structure Jn (E : List (Int × Int)) (v : Int) (f : List Int) : Prop where
  nd : f.Nodup
  has : v ∈ f
  conn : ∀ x ∈ f, Conn E v x
  cnt : f.length ≤ 1 + (E.filter (inn f)).length
theorem Jn.start (E : List (Int × Int)) (v : Int) : Jn E v [v] where
  nd := List.pairwise_singleton _ _
  has := List.mem_singleton.mpr rfl
  conn := fun x hx => by rw [List.mem_singleton.mp hx]; exact .refl _
  cnt := by rw [List.length_singleton]; omega
theorem Jn.put {E : List (Int × Int)} {v : Int} {f : List Int} {p : Int × Int} {y : Int} (h : Jn E v f) (hp : p ∈ E) (ny : y ∉ f) (cy : Conn E v y) (n : inn f p = false) (m : inn (f ++ [y]) p = true) : Jn E v (f ++ [y]) where
  nd := List.nodup_append.mpr ⟨h.nd, List.pairwise_singleton _ _, fun a ha b hb e => by rw [List.mem_singleton.mp hb] at e; exact ny (e ▸ ha)⟩
  has := List.mem_append_left _ h.has
  conn := fun x hx => (List.mem_append.mp hx).elim (h.conn x) fun z => by rw [List.mem_singleton.mp z]; exact cy
  cnt := by
    have := filt_lt (P := inn f) (Q := inn (f ++ [y])) (fun x hx => by
      unfold inn at hx ⊢
      rw [Bool.and_eq_true, decide_eq_true_eq, decide_eq_true_eq] at hx ⊢
      exact ⟨List.mem_append_left _ hx.1, List.mem_append_left _ hx.2⟩) hp n m
    have := h.cnt
    rw [List.length_append, List.length_singleton]
    omega
theorem Jn.stp {E : List (Int × Int)} {v : Int} {f : List Int} {p : Int × Int} (h : Jn E v f) (hp : p ∈ E) : Jn E v (TL.stp f p) := by
  unfold TL.stp
  split
  · exact h
  · rename_i ne
    by_cases h1 : p.1 ∈ f
    · have h2 : p.2 ∉ f := fun z => ne (by rw [decide_eq_true h1, decide_eq_true z])
      rw [if_pos h1]
      refine h.put hp h2 (.step (h.conn _ h1) (.inl hp)) ?_ ?_
      · unfold inn; rw [decide_eq_false h2, Bool.and_false]
      · unfold inn; rw [decide_eq_true (List.mem_append_left _ h1), decide_eq_true (List.mem_append_right _ (List.mem_singleton.mpr rfl))]; rfl
    · have h2 : p.2 ∈ f := Decidable.byContradiction fun z => ne (by rw [decide_eq_false h1, decide_eq_false z])
      rw [if_neg h1]
      refine h.put hp h1 (.step (h.conn _ h2) (.inr hp)) ?_ ?_
      · unfold inn; rw [decide_eq_false h1, Bool.false_and]
      · unfold inn; rw [decide_eq_true (List.mem_append_left _ h2), decide_eq_true (List.mem_append_right _ (List.mem_singleton.mpr rfl))]; rfl
theorem Jn.fold {E : List (Int × Int)} {v : Int} : ∀ {D : List (Int × Int)} {f : List Int}, (∀ p ∈ D, p ∈ E) → Jn E v f → Jn E v (D.foldl TL.stp f)
  | [], _, _, h => h
  | p :: D, f, s, h => Jn.fold (D := D) (fun q hq => s q (List.mem_cons_of_mem _ hq)) (h.stp (s p List.mem_cons_self))
theorem Jn.passes (E : List (Int × Int)) (v : Int) : ∀ n, Jn E v (TL.passes E v n)
  | 0 => Jn.start E v
  | n + 1 => Jn.fold (fun _ h => h) (Jn.passes E v n)
def Closed (E : List (Int × Int)) (f : List Int) : Prop := ∀ p ∈ E, decide (p.1 ∈ f) = decide (p.2 ∈ f)
theorem fold_grow : ∀ {D : List (Int × Int)} {f : List Int}, (D.foldl TL.stp f = f ∧ Closed D f) ∨ f.length + 1 ≤ (D.foldl TL.stp f).length
  | [], f => .inl ⟨rfl, fun _ h => nomatch h⟩
  | p :: D, f => by
    rw [List.foldl_cons]
    by_cases e : decide (p.1 ∈ f) = decide (p.2 ∈ f)
    · have es : TL.stp f p = f := by unfold TL.stp; rw [if_pos e]
      rw [es]
      rcases fold_grow (D := D) (f := f) with ⟨h1, h2⟩ | h
      · exact .inl ⟨h1, fun q hq => (List.mem_cons.mp hq).elim (fun z => z ▸ e) (h2 q)⟩
      · exact .inr h
    · have es : (TL.stp f p).length = f.length + 1 := by unfold TL.stp; rw [if_neg e, List.length_append, List.length_singleton]
      rcases fold_grow (D := D) (f := TL.stp f p) with ⟨h1, h2⟩ | h
      · rw [h1]
        exact .inr (by omega)
      · exact .inr (by omega)
theorem fold_closed : ∀ {D : List (Int × Int)} {f : List Int}, Closed D f → D.foldl TL.stp f = f
  | [], _, _ => rfl
  | p :: D, f, h => by
    have es : TL.stp f p = f := by unfold TL.stp; rw [if_pos (h p List.mem_cons_self)]
    rw [List.foldl_cons, es]
    exact fold_closed fun q hq => h q (List.mem_cons_of_mem _ hq)
theorem passes_grow (E : List (Int × Int)) (v : Int) : ∀ n, Closed E (passes E v n) ∨ n + 1 ≤ (passes E v n).length
  | 0 => .inr (Nat.le_refl _)
  | n + 1 => by
    rcases passes_grow E v n with h | h
    · left
      show Closed E (pas E (passes E v n))
      unfold pas
      rw [fold_closed h]
      exact h
    · rcases fold_grow (D := E) (f := passes E v n) with ⟨h1, h2⟩ | h3
      · left
        show Closed E (pas E (passes E v n))
        unfold pas
        rw [h1]
        exact h2
      · right
        show _ ≤ (pas E (passes E v n)).length
        unfold pas
        omega
theorem passes_closed (E : List (Int × Int)) (v : Int) : Closed E (passes E v E.length) := by
  rcases passes_grow E v E.length with h | h
  · exact h
  · have c := (Jn.passes E v E.length).cnt
    have l := List.length_filter_le (inn (passes E v E.length)) E
    have e : E.filter (inn (passes E v E.length)) = E := List.filter_sublist.eq_of_length (by omega)
    intro p hp
    rw [← e] at hp
    have h2 := (List.mem_filter.mp hp).2
    unfold inn at h2
    rw [Bool.and_eq_true] at h2
    rw [h2.1, h2.2]
theorem mem_passes (E : List (Int × Int)) (v x : Int) : x ∈ passes E v E.length ↔ Conn E v x := by
  refine ⟨(Jn.passes E v _).conn x, fun h => ?_⟩
  induction h with
  | refl => exact (Jn.passes E v _).has
  | step _ hp ih =>
    rcases hp with hp | hp
    · have := passes_closed E v _ hp
      exact of_decide_eq_true (by rw [← this]; exact decide_eq_true ih)
    · have := passes_closed E v _ hp
      exact of_decide_eq_true (by rw [this]; exact decide_eq_true ih)
/-! ### groups of one label -/
def within (es : List (Int × Int)) (ws : List Int) : List (Int × Int) := es.filter fun p => decide (p.1 ∈ ws) && decide (p.2 ∈ ws)
theorem mem_within {es : List (Int × Int)} {ws : List Int} {p : Int × Int} : p ∈ within es ws ↔ p ∈ es ∧ p.1 ∈ ws ∧ p.2 ∈ ws := by
  unfold within
  rw [List.mem_filter, Bool.and_eq_true, decide_eq_true_eq, decide_eq_true_eq]
theorem conn_lab {es : List (Int × Int)} {ws : List Int} {f : Int → Int} (h : Lab es ws f) {a b : Int} (ha : a ∈ ws) (c : Conn (within es ws) a b) : b ∈ ws ∧ f a = f b := by
  induction c with
  | refl => exact ⟨ha, rfl⟩
  | step _ hp ih =>
    rcases hp with hp | hp
    · obtain ⟨h1, h2, h3⟩ := mem_within.mp hp
      exact ⟨h3, ih.2.trans (h.join _ h1 h2 h3)⟩
    · obtain ⟨h1, h2, h3⟩ := mem_within.mp hp
      exact ⟨h2, ih.2.trans (h.join _ h1 h2 h3).symm⟩
theorem group_eq {es : List (Int × Int)} {ws : List Int} {f : Int → Int} (h : Lab es ws f) (asc : Asc ws) {v : Int} (hv : v ∈ ws) :
    srtI (passes (within es ws) v (within es ws).length) = ws.filter fun u => decide (f u = f v) := by
  refine asc_ext (srtI_asc (Jn.passes _ _ _).nd) (asc.filter _) fun z => ?_
  rw [(srtI_perm _).mem_iff, mem_passes, List.mem_filter, decide_eq_true_eq]
  constructor
  · intro c
    obtain ⟨h1, h2⟩ := conn_lab h hv c
    exact ⟨h1, h2.symm⟩
  · intro hz
    exact h.conn v hv z hz.1 hz.2.symm
end TL
namespace TL
/-! ### paths in forests: between two vertices there is at most one -/
def Adj (es : List (Int × Int)) (a b : Int) : Prop := (a, b) ∈ es ∨ (b, a) ∈ es
theorem Adj.symm {es : List (Int × Int)} {a b : Int} (h : Adj es a b) : Adj es b a := h.elim .inr .inl
inductive Pth (es : List (Int × Int)) : Int → Int → List Int → Prop
  | one (a : Int) : Pth es a a [a]
  | cons {a b c : Int} {p : List Int} : Adj es a b → Pth es b c p → a ∉ p → Pth es a c (a :: p)
theorem Pth.mono {es fs : List (Int × Int)} (s : ∀ p ∈ es, p ∈ fs) {a b : Int} {p : List Int} (h : Pth es a b p) : Pth fs a b p := by
  induction h with
  | one a => exact .one a
  | cons ad _ n ih => exact .cons (ad.elim (fun z => .inl (s _ z)) fun z => .inr (s _ z)) ih n
theorem Pth.first {es : List (Int × Int)} {a b : Int} {p : List Int} (h : Pth es a b p) : a ∈ p := by
  cases h with
  | one => exact List.mem_singleton.mpr rfl
  | cons => exact List.mem_cons_self
theorem Pth.last {es : List (Int × Int)} {a b : Int} {p : List Int} (h : Pth es a b p) : b ∈ p := by
  induction h with
  | one a => exact List.mem_singleton.mpr rfl
  | cons _ _ _ ih => exact List.mem_cons_of_mem _ ih
theorem Pth.self {es : List (Int × Int)} {a : Int} {p : List Int} (h : Pth es a a p) : p = [a] := by
  cases h with
  | one => rfl
  | cons _ h n => exact absurd h.last n
theorem Pth.nodup {es : List (Int × Int)} {a b : Int} {p : List Int} (h : Pth es a b p) : p.Nodup := by
  induction h with
  | one a => exact List.pairwise_singleton _ _
  | cons _ _ n ih => exact List.nodup_cons.mpr ⟨n, ih⟩
theorem Pth.snoc {es : List (Int × Int)} {a b c : Int} {p : List Int} (h : Pth es a b p) (ad : Adj es b c) (n : c ∉ p) : Pth es a c (p ++ [c]) := by
  induction h with
  | one a =>
    refine .cons ad (.one c) fun z => n ?_
    rw [List.mem_singleton.mp z]
    exact List.mem_singleton.mpr rfl
  | cons ad0 _ n0 ih =>
    refine .cons ad0 (ih ad fun z => n (List.mem_cons_of_mem _ z)) fun z => ?_
    rcases List.mem_append.mp z with z | z
    · exact n0 z
    · rw [List.mem_singleton.mp z] at n
      exact n List.mem_cons_self
theorem Pth.rev {es : List (Int × Int)} {a b : Int} {p : List Int} (h : Pth es a b p) : Pth es b a p.reverse := by
  induction h with
  | one a => exact .one a
  | cons ad _ n ih =>
    rw [List.reverse_cons]
    exact ih.snoc ad.symm fun z => n (List.mem_reverse.mp z)
def Uniq (es : List (Int × Int)) : Prop := ∀ a b p q, Pth es a b p → Pth es a b q → p = q
section
variable {es : List (Int × Int)} {u v : Int} {e : Int × Int} (he : e = (v, u) ∨ e = (u, v)) (nv : ∀ p ∈ es, p.1 ≠ v ∧ p.2 ≠ v) (uv : u ≠ v)
include he nv
theorem adj_snoc {a b : Int} (h : Adj (es ++ [e]) a b) : Adj es a b ∨ (a = v ∧ b = u) ∨ (a = u ∧ b = v) := by
  rcases h with h | h
  · rcases List.mem_append.mp h with h | h
    · exact .inl (.inl h)
    · have h := List.mem_singleton.mp h
      rcases he with he | he
      · rw [he] at h; cases h; exact .inr (.inl ⟨rfl, rfl⟩)
      · rw [he] at h; cases h; exact .inr (.inr ⟨rfl, rfl⟩)
  · rcases List.mem_append.mp h with h | h
    · exact .inl (.inr h)
    · have h := List.mem_singleton.mp h
      rcases he with he | he
      · rw [he] at h; cases h; exact .inr (.inr ⟨rfl, rfl⟩)
      · rw [he] at h; cases h; exact .inr (.inl ⟨rfl, rfl⟩)
include uv
theorem adj_leaf {b : Int} (h : Adj (es ++ [e]) v b) : b = u := by
  rcases adj_snoc he nv h with h | h | h
  · rcases h with h | h
    · exact absurd rfl (nv _ h).1
    · exact absurd rfl (nv _ h).2
  · exact h.2
  · exact absurd h.1.symm uv
theorem pth_leaf1 {a b : Int} {p : List Int} (h : Pth (es ++ [e]) a b p) (ha : a ≠ v) (hb : b ≠ v) : v ∉ p ∧ Pth es a b p := by
  induction h with
  | one a => exact ⟨fun z => ha (List.mem_singleton.mp z).symm, .one a⟩
  | @cons a x c p ad hp na ih =>
    by_cases hx : x = v
    · subst hx
      have au : a = u := adj_leaf he nv uv ad.symm
      cases hp with
      | one => exact absurd rfl hb
      | cons ad2 hp2 n2 =>
        have yu := adj_leaf he nv uv ad2
        rw [yu, ← au] at hp2
        exact absurd (List.mem_cons_of_mem _ hp2.first) na
    · obtain ⟨h1, h2⟩ := ih hx hb
      refine ⟨fun z => (List.mem_cons.mp z).elim (fun z => ha z.symm) h1, .cons ?_ h2 na⟩
      rcases adj_snoc he nv ad with h | h | h
      · exact h
      · exact absurd h.1 ha
      · exact absurd h.2 hx
theorem pth_leaf2 {b : Int} {p : List Int} (h : Pth (es ++ [e]) v b p) (hb : b ≠ v) : ∃ p', p = v :: p' ∧ Pth es u b p' := by
  cases h with
  | one => exact absurd rfl hb
  | cons ad hp _ =>
    have yu := adj_leaf he nv uv ad
    rw [yu] at hp
    exact ⟨_, rfl, (pth_leaf1 he nv uv hp uv hb).2⟩
theorem uniq_snoc (U : Uniq es) : Uniq (es ++ [e]) := by
  intro a b p q hp hq
  by_cases ha : a = v
  · by_cases hb : b = v
    · rw [ha, hb] at hp hq
      rw [hp.self, hq.self]
    · rw [ha] at hp hq
      obtain ⟨p', rfl, h1⟩ := pth_leaf2 he nv uv hp hb
      obtain ⟨q', rfl, h2⟩ := pth_leaf2 he nv uv hq hb
      rw [U _ _ _ _ h1 h2]
  · by_cases hb : b = v
    · rw [hb] at hp hq
      obtain ⟨p', e1, h1⟩ := pth_leaf2 he nv uv hp.rev ha
      obtain ⟨q', e2, h2⟩ := pth_leaf2 he nv uv hq.rev ha
      rw [← U _ _ _ _ h1 h2, ← e1] at e2
      exact (List.reverse_inj.mp e2).symm
    · exact U _ _ _ _ (pth_leaf1 he nv uv hp ha hb).2 (pth_leaf1 he nv uv hq ha hb).2
end
theorem uniq_nil : Uniq [] := by
  intro a b p q hp hq
  cases hp with
  | one => rw [hq.self]
  | cons ad => exact ad.elim (fun z => nomatch z) fun z => nomatch z
theorem uniq_grow {m : Nat} {nm : List Int} : ∀ {n : Nat} {ks : List (Nat × Nat)}, ks.length = n → Grow m nm ks → Uniq (ks.map (edgeOf nm))
  | 0, ks, hn, g => by
    rw [List.length_eq_zero_iff.mp hn]
    exact uniq_nil
  | n + 1, ks, hn, g => by
    have hne : ks ≠ [] := fun z => by rw [z] at hn; cases hn
    obtain ⟨js, q, rfl⟩ : ∃ js q, ks = js ++ [q] := ⟨_, _, (List.dropLast_concat_getLast hne).symm⟩
    rw [List.length_append, List.length_singleton] at hn
    have gj : Grow m nm js := ⟨g.names, (List.pairwise_append.mp g.up).1, fun r hr => g.down r (List.mem_append_left _ hr)⟩
    have up := (List.pairwise_append.mp g.up).2.2
    obtain ⟨hq1, hq2⟩ := g.down q (List.mem_append_right _ (List.mem_singleton.mpr rfl))
    rw [List.map_append, List.map_singleton]
    have ne : nm.getD q.2 0 ≠ nm.getD q.1 0 := fun z => by have := g.inj (Nat.lt_trans hq1 hq2) hq2 z; omega
    refine uniq_snoc (v := nm.getD q.1 0) (u := nm.getD q.2 0) ?_ (fun p hp => ?_) ne (uniq_grow (n := n) (by omega) gj)
    · unfold edgeOf ordP
      split
      · exact .inl rfl
      · exact .inr rfl
    · obtain ⟨r, hr, rfl⟩ := List.mem_map.mp hp
      obtain ⟨hr1, hr2⟩ := gj.down r hr
      have hlt := up r hr q (List.mem_singleton.mpr rfl)
      have n1 : nm.getD r.1 0 ≠ nm.getD q.1 0 := fun z => by have := g.inj hr2 hq2 z; omega
      have n2 : nm.getD r.2 0 ≠ nm.getD q.1 0 := fun z => by have := g.inj (Nat.lt_trans hr1 hr2) hq2 z; omega
      unfold edgeOf ordP
      split
      · exact ⟨n1, n2⟩
      · exact ⟨n2, n1⟩
theorem IsFor.uniq {m : Nat} {es : List (Int × Int)} (f : IsFor m es) : Uniq es := by
  obtain ⟨nm, ks, g, p⟩ := f.grow
  intro a b x y hx hy
  exact uniq_grow rfl g a b x y (hx.mono fun q hq => p.mem_iff.mp hq) (hy.mono fun q hq => p.mem_iff.mp hq)
end TL
namespace TL
/-! ### an edge of a forest joins what no other edges join -/
theorem Pth.cut {es : List (Int × Int)} {a b : Int} {p : List Int} (h : Pth es a b p) : ∀ c ∈ p, ∃ q, Pth es a c q ∧ ∀ x ∈ q, x ∈ p := by
  induction h with
  | one a =>
    intro c hc
    rw [List.mem_singleton.mp hc]
    exact ⟨[a], .one a, fun x hx => hx⟩
  | @cons a y b p ad hp n ih =>
    intro c hc
    rcases List.mem_cons.mp hc with rfl | hc
    · exact ⟨[c], .one c, fun x hx => by rw [List.mem_singleton.mp hx]; exact List.mem_cons_self⟩
    · obtain ⟨q, hq, sub⟩ := ih c hc
      refine ⟨a :: q, .cons ad hq fun z => n (sub a z), fun x hx => ?_⟩
      rcases List.mem_cons.mp hx with rfl | hx
      · exact List.mem_cons_self
      · exact List.mem_cons_of_mem _ (sub x hx)
theorem Conn.pth {es : List (Int × Int)} {a b : Int} (h : Conn es a b) : ∃ p, Pth es a b p := by
  induction h with
  | refl => exact ⟨_, .one _⟩
  | @step b c _ e ih =>
    obtain ⟨p, hp⟩ := ih
    by_cases hc : c ∈ p
    · obtain ⟨q, hq, _⟩ := hp.cut c hc
      exact ⟨q, hq⟩
    · exact ⟨_, hp.snoc e hc⟩
theorem Pth.pair {es : List (Int × Int)} {a b x y : Int} {l : List Int} (h : Pth es a b l) (e : l = [x, y]) : Adj es x y := by
  cases h with
  | one => cases e
  | cons ad hp n =>
    cases hp with
    | one => cases e; exact ad
    | cons _ hp _ => cases hp <;> cases e
theorem IsFor.open {m : Nat} {A B : List (Int × Int)} {p : Int × Int} (f : IsFor m (A ++ p :: B)) : ¬ Conn A p.1 p.2 := by
  intro h
  obtain ⟨q, hq⟩ := h.pth
  have mem : p ∈ A ++ p :: B := List.mem_append_right _ List.mem_cons_self
  have r := f.rng p mem
  have h1 : Pth (A ++ p :: B) p.1 p.2 q := hq.mono fun x hx => List.mem_append_left _ hx
  have h2 : Pth (A ++ p :: B) p.1 p.2 [p.1, p.2] := .cons (.inl mem) (.one _) fun z => by
    have := List.mem_singleton.mp z
    omega
  have e := f.uniq _ _ _ _ h1 h2
  subst e
  have ad : Adj A p.1 p.2 := hq.pair rfl
  rcases ad with z | z
  · have := (List.pairwise_append.mp f.asc).2.2 _ z p List.mem_cons_self
    rcases this with y | y
    · simp only at y; omega
    · simp only at y; omega
  · have := f.rng _ (List.mem_append_left _ z)
    simp only at this
    omega
/-! ### sorted pairs -/
theorem srtP_congr {a b : List (Int × Int)} (h : a.Perm b) : srtP a = srtP b := by
  have p : (srtP a).Perm (srtP b) := (srtP_perm a).trans (h.trans (srtP_perm b).symm)
  refine p.eq_of_pairwise (fun x y _ _ h1 h2 => ?_) (srtP_le a) (srtP_le b)
  refine Prod.ext ?_ ?_ <;> omega
theorem Grow.sorted {m : Nat} {nm : List Int} {ks : List (Nat × Nat)} {es : List (Int × Int)} (g : Grow m nm ks) (p : es.Perm (ks.map (edgeOf nm))) : IsFor m (srtP es) := by
  rw [srtP_congr p]
  exact g.isFor
theorem ordP_eq {a b : Int} (h : a ≤ b) : ordP a b = (a, b) := by
  unfold ordP
  rw [if_pos h]
/-! ### names for vertices -/
def nam (ns : List Int) (v : Int) : Int := ns.getD v.toNat 0
def ren (ns : List Int) (p : Int × Int) : Int × Int := ordP (nam ns p.1) (nam ns p.2)
theorem ren_ord (ns : List Int) (a b : Int) : ren ns (ordP a b) = ordP (nam ns a) (nam ns b) := by
  unfold ren ordP
  by_cases h : a ≤ b
  · rw [if_pos h]
  · rw [if_neg h]
    exact ordP_comm (nam ns b) (nam ns a)
theorem nam_rng {ns : List Int} : (rng ns.length).map (nam ns) = ns := by
  unfold rng
  rw [List.map_map]
  refine List.ext_getElem? fun i => ?_
  rw [List.getElem?_map]
  by_cases h : i < ns.length
  · rw [List.getElem?_range h, List.getElem?_eq_getElem h]
    show some (ns.getD (Int.toNat (Int.ofNat i)) 0) = _
    show some (ns.getD i 0) = _
    rw [List.getD_eq_getElem?_getD, List.getElem?_eq_getElem h]
    rfl
  · rw [List.getElem?_eq_none (by rw [List.length_range]; omega), List.getElem?_eq_none (by omega)]
    rfl
theorem perm_len {m : Nat} {ns : List Int} (h : ns.Perm (rng m)) : ns.length = m := by rw [h.length_eq, rng_length]
theorem nam_in {m : Nat} {ns : List Int} (h : ns.Perm (rng m)) {v : Int} (hv : 0 ≤ v ∧ v < m) : 0 ≤ nam ns v ∧ nam ns v < m := by
  have hl : v.toNat < ns.length := by rw [perm_len h]; omega
  refine mem_rng.mp (h.mem_iff.mp ?_)
  unfold nam
  rw [List.getD_eq_getElem?_getD, List.getElem?_eq_getElem hl]
  exact List.getElem_mem hl
theorem nam_inj {m : Nat} {ns : List Int} (h : ns.Perm (rng m)) {u v : Int} (hu : 0 ≤ u ∧ u < m) (hv : 0 ≤ v ∧ v < m) (e : nam ns u = nam ns v) : u = v := by
  have hl : u.toNat < ns.length := by rw [perm_len h]; omega
  have hk : v.toNat < ns.length := by rw [perm_len h]; omega
  unfold nam at e
  rw [List.getD_eq_getElem?_getD, List.getElem?_eq_getElem hl, List.getD_eq_getElem?_getD, List.getElem?_eq_getElem hk] at e
  have nd : ns.Nodup := h.nodup_iff.mpr (rng_asc m).nodup
  have := (List.getElem_inj nd).mp e
  omega
theorem IsFor.renamed {m : Nat} {es : List (Int × Int)} {ns : List Int} (f : IsFor m es) (h : ns.Perm (TL.rng m)) : IsFor m (srtP (es.map (ren ns))) := by
  obtain ⟨nm, ks, g, p⟩ := f.grow
  have gn : ∀ i, i < m → (nm.map (nam ns)).getD i 0 = nam ns (nm.getD i 0) := fun i hi => by
    have hl : i < nm.length := by rw [g.len]; exact hi
    rw [List.getD_eq_getElem?_getD, List.getElem?_map, List.getD_eq_getElem?_getD, List.getElem?_eq_getElem hl]
    rfl
  have g' : Grow m (nm.map (nam ns)) ks := ⟨by
    refine (g.names.map (nam ns)).trans ?_
    have e : (TL.rng m).map (nam ns) = ns := by rw [← perm_len h]; exact nam_rng
    rw [e]
    exact h, g.up, g.down⟩
  refine g'.sorted ((p.map (ren ns)).trans ?_)
  rw [List.map_map]
  refine List.Perm.of_eq (List.map_congr_left fun q hq => ?_)
  obtain ⟨h1, h2⟩ := g.down q hq
  show ren ns (edgeOf nm q) = edgeOf (nm.map (nam ns)) q
  unfold edgeOf
  rw [ren_ord, gn _ h2, gn _ (Nat.lt_trans h1 h2)]
theorem ren_back {m : Nat} {es : List (Int × Int)} {ns ms : List Int} (f : IsFor m es) (back : ∀ v : Int, 0 ≤ v → v < m → nam ms (nam ns v) = v) : srtP ((srtP (es.map (ren ns))).map (ren ms)) = es := by
  rw [srtP_congr ((srtP_perm _).map (ren ms)), List.map_map]
  have e : es.map (ren ms ∘ ren ns) = es := by
    conv => rhs; rw [← List.map_id es]
    refine List.map_congr_left fun p hp => ?_
    have r := f.rng p hp
    show ren ms (ren ns p) = p
    unfold ren
    have := ren_ord ms (nam ns p.1) (nam ns p.2)
    unfold ren at this
    rw [this, back _ r.1 (by omega), back _ (by omega) r.2.2, ordP_eq (by omega)]
  rw [e]
  exact srtP_of_asc f.asc
/-! ### side by side -/
def shf (m : Nat) (p : Int × Int) : Int × Int := (p.1 + m, p.2 + m)
theorem rng_add (m n : Nat) : rng (m + n) = rng m ++ (rng n).map (· + (m : Int)) := by
  unfold rng
  rw [List.range_add, List.map_append, List.map_map, List.map_map]
  congr 1
  refine List.map_congr_left fun i _ => ?_
  show Int.ofNat (m + i) = Int.ofNat i + (m : Int)
  simp only [Int.ofNat_eq_natCast]
  omega
theorem ordP_add (a b c : Int) : ordP (a + c) (b + c) = ((ordP a b).1 + c, (ordP a b).2 + c) := by
  unfold ordP
  by_cases h : a ≤ b
  · rw [if_pos h, if_pos (by omega)]
  · rw [if_neg h, if_neg (by omega)]
theorem IsFor.beside {m n : Nat} {es fs : List (Int × Int)} (f : IsFor m es) (g : IsFor n fs) : IsFor (m + n) (es ++ fs.map (shf m)) := by
  obtain ⟨nm, ks, G, p⟩ := f.grow
  obtain ⟨nn, js, G2, p2⟩ := g.grow
  have l1 := G.len
  have l2 := G2.len
  have left : ∀ i, i < m → (nm ++ nn.map (· + (m : Int))).getD i 0 = nm.getD i 0 := fun i hi => by
    rw [List.getD_eq_getElem?_getD, List.getElem?_append_left (by omega), List.getD_eq_getElem?_getD]
  have right : ∀ i, i < n → (nm ++ nn.map (· + (m : Int))).getD (i + m) 0 = nn.getD i 0 + m := fun i hi => by
    rw [List.getD_eq_getElem?_getD, List.getElem?_append_right (by omega), l1, Nat.add_sub_cancel, List.getElem?_map, List.getD_eq_getElem?_getD, List.getElem?_eq_getElem (by omega)]
    rfl
  refine ⟨?_, fun q hq => ?_, nm ++ nn.map (· + (m : Int)), ks ++ js.map (fun q => (q.1 + m, q.2 + m)), ⟨?_, ?_, fun q hq => ?_⟩, ?_⟩
  · refine List.pairwise_append.mpr ⟨f.asc, ?_, fun a ha b hb => ?_⟩
    · refine List.pairwise_map.mpr ?_
      refine g.asc.imp fun {a b} h => ?_
      unfold shf LtP
      simp only
      rcases h with h | h
      · left; omega
      · right; omega
    · obtain ⟨c, hc, rfl⟩ := List.mem_map.mp hb
      have := f.rng a ha
      have := g.rng c hc
      left
      unfold shf
      simp only
      omega
  · rcases List.mem_append.mp hq with hq | hq
    · have := f.rng q hq
      omega
    · obtain ⟨c, hc, rfl⟩ := List.mem_map.mp hq
      have := g.rng c hc
      unfold shf
      simp only
      omega
  · rw [rng_add]
    exact G.names.append (G2.names.map _)
  · refine List.pairwise_append.mpr ⟨G.up, ?_, fun a ha b hb => ?_⟩
    · rw [List.pairwise_map]
      exact G2.up.imp fun {a b} h => by simp only; omega
    · obtain ⟨c, hc, rfl⟩ := List.mem_map.mp hb
      have := G.down a ha
      simp only
      omega
  · rcases List.mem_append.mp hq with hq | hq
    · have := G.down q hq
      omega
    · obtain ⟨c, hc, rfl⟩ := List.mem_map.mp hq
      have := G2.down c hc
      simp only
      omega
  · rw [List.map_append]
    refine List.Perm.append (p.trans (List.Perm.of_eq (List.map_congr_left fun q hq => ?_))) ((p2.map (shf m)).trans (List.Perm.of_eq ?_))
    · have := G.down q hq
      unfold edgeOf
      rw [left _ (by omega), left _ (by omega)]
    · rw [List.map_map, List.map_map]
      refine List.map_congr_left fun q hq => ?_
      have := G2.down q hq
      show shf m (edgeOf nn q) = ordP ((nm ++ nn.map (· + (m : Int))).getD (q.1 + m) 0) ((nm ++ nn.map (· + (m : Int))).getD (q.2 + m) 0)
      rw [right _ (by omega), right _ (by omega), ordP_add]
      rfl
/-! ### one vertex more -/
theorem Grow.more {m : Nat} {nm : List Int} {ks : List (Nat × Nat)} (g : Grow m nm ks) : Grow (m + 1) (nm ++ [(m : Int)]) ks where
  names := by
    have e : rng (m + 1) = rng m ++ [(m : Int)] := by
      rw [rng_add]
      congr 1
      show [Int.ofNat 0 + (m : Int)] = _
      simp
    rw [e]
    exact g.names.append (List.Perm.refl _)
  up := g.up
  down := fun q hq => by have := g.down q hq; omega
theorem more_get {m : Nat} {nm : List Int} {i : Nat} (l : nm.length = m) (hi : i < m) : (nm ++ [(m : Int)]).getD i 0 = nm.getD i 0 := by
  rw [List.getD_eq_getElem?_getD, List.getElem?_append_left (by omega), List.getD_eq_getElem?_getD]
theorem more_edges {m : Nat} {nm : List Int} {ks : List (Nat × Nat)} (g : Grow m nm ks) : ks.map (edgeOf (nm ++ [(m : Int)])) = ks.map (edgeOf nm) :=
  List.map_congr_left fun q hq => by
    have := g.down q hq
    unfold edgeOf
    rw [more_get g.len (by omega), more_get g.len (by omega)]
theorem IsFor.more {m : Nat} {es : List (Int × Int)} (f : IsFor m es) : IsFor (m + 1) es := by
  obtain ⟨nm, ks, g, p⟩ := f.grow
  refine ⟨f.asc, fun q hq => by have := f.rng q hq; omega, nm ++ [(m : Int)], ks, g.more, ?_⟩
  rw [more_edges g]
  exact p
theorem IsFor.attach {m : Nat} {es : List (Int × Int)} {v : Int} (f : IsFor m es) (hv : 0 ≤ v ∧ v < m) : IsFor (m + 1) (srtP (es ++ [(v, (m : Int))])) := by
  obtain ⟨nm, ks, g, p⟩ := f.grow
  have l := g.len
  obtain ⟨i, hi, ei⟩ := List.mem_iff_getElem.mp (g.names.mem_iff.mpr (mem_rng.mpr hv))
  have gi : nm.getD i 0 = v := by rw [List.getD_eq_getElem?_getD, List.getElem?_eq_getElem hi]; exact ei
  have gm : (nm ++ [(m : Int)]).getD m 0 = (m : Int) := by
    rw [List.getD_eq_getElem?_getD, List.getElem?_append_right (by omega), l, Nat.sub_self]
    rfl
  have g' : Grow (m + 1) (nm ++ [(m : Int)]) (ks ++ [(m, i)]) := ⟨g.more.names, List.pairwise_append.mpr ⟨g.up, List.pairwise_singleton _ _, fun a ha b hb => by
    rw [List.mem_singleton.mp hb]
    exact (g.down a ha).2⟩, fun q hq => by
    rcases List.mem_append.mp hq with hq | hq
    · have := g.down q hq
      omega
    · rw [List.mem_singleton.mp hq]
      simp only
      omega⟩
  refine g'.sorted ?_
  rw [List.map_append, more_edges g]
  refine List.Perm.append p (List.Perm.of_eq ?_)
  rw [List.map_singleton]
  unfold edgeOf
  simp only
  rw [gm, more_get l (by omega), gi, ordP_comm, ordP_eq (by omega)]
theorem IsFor.empty : IsFor 0 [] := ⟨.nil, (fun _ h => nomatch h), [], [], ⟨.nil, .nil, (fun _ h => nomatch h)⟩, .nil⟩
end TL
namespace TL
open PySem PySem.Spec PyProof.Rows L2
section
variable {X : Cx} {pos : Pos}
theorem pgLK (K : PySem.W.Frag) {es : List Expr} {k : Nat} {t : TGs} {n : Nat} (h : PGs X es t) (hc : X.calm = true := by rfl) (hK : X.K = K := by rfl)
    (hn : (assignEach es X.env).length = n := by rfl) (hst : (assignEach es X.env).findIdx? (·.1) = none := by rfl) :
    PG X (.Tuple es k pos) (gLst K n t) := hK ▸ pg_lst hc h hn hst
theorem leTK (K : PySem.W.Frag) (hu : X.A.units + 64 < cLine) (h : X.K = K := by rfl) : OpR X (compareOp .LtE) (rLeT K) := h ▸ op_leT (by omega)
end
section
variable {X : Cx}
/-- t.index(n), t a tuple of ints that holds n -/
def rTix (K : PySem.W.Frag) : V → List V → Hp → VK → Prop := fun x xs H Q => ∃ (p : Addr) (ns : List Int) (k : Int), x = .ref p ∧ xs = [.int k] ∧ SqT K H p (ns.map V.int) ∧ k ∈ ns ∧ Q (.int (ns.idxOf k : Nat)) H
theorem mt_tix : MtR X "tuple.index" (rTix X.K) := by
  intro pins s σ H x xs v us Q I rx rs h
  obtain ⟨p, ns, k, rfl, rfl, hq, hk, q⟩ := h
  cases rx
  obtain ⟨u, rfl, t, rfl⟩ := vals1 rs
  obtain ⟨its, r, ⟨o0, ho0, hc0, n0, hd0⟩, hz⟩ := I.tuple hq
  have i1 : IntsAre its ns := Vals.ints r
  refine SeqAt.call_tuple_index (ks := ns) (k := k) ⟨o0, ho0, hc0, n0, hd0⟩ ⟨i1.length, fun j h1 h2 => ?_⟩ hk ⟨.int _, H, I.tok _, ⟨_, rfl⟩, q⟩
  obtain ⟨t', et⟩ := PyProof.Rows.IntsAre.int_at i1 j its[j] (List.getElem?_eq_getElem h1)
  rw [et]
  have e : ns.getD j 0 = ns[j] := by rw [List.getD_eq_getElem?_getD, List.getElem?_eq_getElem h2]; rfl
  rw [e]
  have z : (ns[j] == k) = decide (ns[j] = k) := by
    by_cases q : ns[j] = k
    · rw [decide_eq_true q]; exact beq_iff_eq.mpr q
    · rw [decide_eq_false q]; exact beq_eq_false_iff_ne.mpr q
  rw [← z]
  exact SeqAt.EqAt.int_int _ _ _ _
theorem tixK (K : PySem.W.Frag) (h : X.K = K := by rfl) : MtR X "tuple.index" (rTix K) := h ▸ mt_tix
end
theorem filt_true {α : Type} (l : List α) : l.filter (fun _ => true) = l := List.filter_eq_self.mpr fun _ _ => rfl
/-- a loop by a measure that is carried along -/
theorem while_ms {c : TT} {tb : TS} {D : Ends} {σ : L2.St} {H : Hp} (W : Nat → L2.St → Hp → Prop) (n : Nat) (h0 : W n σ H)
    (hs : ∀ n σ H, W n σ H → c σ H fun b H1 => if b = true then tb { D with nx := fun σ' H' => ∃ n', n' < n ∧ W n' σ' H', ct := fun σ' H' => ∃ n', n' < n ∧ W n' σ' H', bk := D.nx } σ H1 else D.nx σ H1)
    (mono : ∀ σ H Q Q', (∀ b H1, Q b H1 → Q' b H1) → c σ H Q → c σ H Q') : tWhile c tb D σ H := by
  refine ⟨W, ⟨n, h0⟩, fun m σ H p => mono σ H _ _ (fun b H1 q => ?_) (hs m σ H p)⟩
  cases b with
  | true => exact ⟨_, fun σ' H' h => h, q⟩
  | false => exact q
/-! ### the state of the draws: cells, a count, what is left of great cells -/
structure Dw (H : Hp) (d r c : Addr) (n : Nat) : Prop where
  ex : ∃ (k : Nat) (cs rs : List Int), k ≤ n ∧ H d = some (.lst [.ref c, .int (k : Int), .ref r]) ∧ H c = some (.lst (cs.map V.int)) ∧ H r = some (.lst (rs.map V.int)) ∧
    c ≠ r ∧ 0 < cs.length ∧ rs.length = cs.length ∧ cs.length ≤ 63 ∧ (∀ z ∈ cs, 0 ≤ z) ∧ (∀ z ∈ rs, 0 ≤ z)
theorem ne_ints {H : Hp} {d c x : Addr} {vs : List V} {ns : List Int} (h1 : H d = some (.lst (.ref x :: vs))) (h2 : H c = some (.lst (ns.map V.int))) : d ≠ c := by
  intro e
  rw [e, h2] at h1
  cases ns with
  | nil => cases h1
  | cons z r => cases h1
theorem Dw.same {H H' : Hp} {d r c : Addr} {n : Nat} (h : Dw H d r c n) (e : Same H H') : Dw H' d r c n := by
  obtain ⟨k, cs, rs, hk, h1, h2, h3, h4⟩ := h.ex
  exact ⟨k, cs, rs, hk, e _ _ h1, e _ _ h2, e _ _ h3, h4⟩
theorem Dw.le {H : Hp} {d r c : Addr} {n m : Nat} (h : Dw H d r c n) (e : n ≤ m) : Dw H d r c m := by
  obtain ⟨k, cs, rs, hk, h4⟩ := h.ex
  exact ⟨k, cs, rs, Nat.le_trans hk e, h4⟩
theorem Dw.off {H : Hp} {d r c a : Addr} {n : Nat} (h : Dw H d r c n) (ha : H a = none) : a ≠ d ∧ a ≠ r ∧ a ≠ c := by
  obtain ⟨k, cs, rs, hk, h1, h2, h3, h4⟩ := h.ex
  exact ⟨fun z => (by rw [z, h1] at ha; cases ha), fun z => (by rw [z, h3] at ha; cases ha), fun z => (by rw [z, h2] at ha; cases ha)⟩
theorem Dw.put {H : Hp} {d r c a : Addr} {n : Nat} {o : HO} (h : Dw H d r c n) (e : a ≠ d ∧ a ≠ r ∧ a ≠ c) : Dw (upd H a o) d r c n := by
  obtain ⟨k, cs, rs, hk, h1, h2, h3, h4⟩ := h.ex
  exact ⟨k, cs, rs, hk, by rw [upd_ne e.1.symm]; exact h1, by rw [upd_ne e.2.2.symm]; exact h2, by rw [upd_ne e.2.1.symm]; exact h3, h4⟩
theorem Fm.ktw {K : PySem.W.Frag} {H H' : Hp} {d r c : Addr} {n : Nat} (e : Fm d r H H') (h : Dw H d r c n) : KT K H H' := by
  obtain ⟨k, cs, rs, hk, h1, h2, h3, h4⟩ := h.ex
  intro a xs q
  rcases q with (q | ⟨o, q⟩) | q
  · refine .inl (.inl (e _ _ (fun z => ?_) (fun z => ?_) q))
    · rw [z, h1] at q; cases q
    · rw [z, h3] at q; cases q
  · refine .inl (.inr ⟨o, e _ _ (fun z => ?_) (fun z => ?_) q⟩)
    · rw [z, h1] at q; cases q
    · rw [z, h3] at q; cases q
  · exact .inr q
theorem Fm.put1 {d l a : Addr} {H H' : Hp} {o : HO} (h : Fm d l H H') (ha : H a = none) : Fm d l H (upd H' a o) := fun b u n1 n2 e => by
  rw [upd_ne (ne_of_none e ha)]
  exact h b u n1 n2 e
theorem erase_prm {rs : List Int} {k : Nat} (h : k < rs.length) : (rs[k] :: rs.eraseIdx k).Perm rs := by
  induction rs generalizing k with
  | nil => exact absurd h (Nat.not_lt_zero _)
  | cons a r ih =>
    cases k with
    | zero => exact List.Perm.refl _
    | succ k =>
      have h' : k < r.length := by rw [List.length_cons] at h; omega
      exact (List.Perm.swap _ _ _).trans (List.Perm.cons a (ih h'))
theorem erase_mp : ∀ (rs : List Int) (k : Nat), (rs.map V.int).eraseIdx k = (rs.eraseIdx k).map V.int
  | [], _ => rfl
  | a :: r, 0 => rfl
  | a :: r, k + 1 => congrArg (V.int a :: ·) (erase_mp r k)
theorem modIn {x m : Int} (h : 0 < m) : 0 ≤ x % m ∧ x % m < m := ⟨Int.emod_nonneg x (by omega), Int.emod_lt_of_pos x h⟩
theorem rgVrng (m : Nat) : rgV 0 (m : Int) = (rng m).map V.int := by
  unfold rgV rng
  rw [List.map_map]
  have e : ((m : Int) - 0).toNat = m := by omega
  rw [e]
  refine List.map_congr_left fun i _ => ?_
  show V.int (0 + (i : Int)) = V.int (Int.ofNat i)
  rw [Int.zero_add]
  rfl
theorem decInt (a b : Int) : decide (V.int a = V.int b) = decide (a = b) := by
  by_cases h : a = b
  · subst h; simp
  · have : ¬ V.int a = V.int b := fun z => h (V.int.inj z)
    rw [decide_eq_false h, decide_eq_false this]
theorem cut63 {ns : List Int} (h : ns.length ≤ 63) : cutV (ns.map V.int) none (some 63) = ns.map V.int := by
  unfold cutV
  rw [HT.sIx_none, show HT.sIx (ns.map V.int).length (ns.map V.int).length (some 63) = min 63 (ns.map V.int).length from HT.sIx_nat _ _ 63]
  rw [List.drop_zero]
  exact List.take_of_length_le (by rw [List.length_map]; omega)
theorem shaped_forD (m : Nat) (es : List (Int × Int)) : SeqAt.shaped (forD m es) = true := by
  have h1 : ∀ l : List (Int × Int), PyData.depthAll (l.map prD) ≤ 1 := by
    intro l
    induction l with
    | nil => simp [PyData.depthAll]
    | cons p l ih =>
      simp only [List.map_cons, PyData.depthAll]
      exact Nat.max_le.mpr ⟨by simp [prD, PyData.depth, PyData.depthAll], ih⟩
  have h2 := h1 es
  have h : (forD m es).depth ≤ 64 := by
    simp only [forD, prsD, PyData.depth, PyData.depthAll]
    omega
  unfold SeqAt.shaped
  rw [decide_eq_true h, Bool.and_true]
  simp only [forD, prsD, PyData.canLay0, PyData.canLayAll0, lay_prs, Bool.and_self, Bool.and_true]
theorem idx_back {m : Nat} {ns : List Int} (h : ns.Perm (rng m)) {v : Int} (v0 : 0 ≤ v) (v1 : v < m) : nam ((rng m).map fun u => ((ns.idxOf u : Nat) : Int)) (nam ns v) = v := by
  have hn := nam_in h ⟨v0, v1⟩
  have nd : ns.Nodup := h.nodup_iff.mpr (rng_asc m).nodup
  have hl : v.toNat < ns.length := by rw [perm_len h]; omega
  have e1 : nam ns v = ns[v.toNat] := by
    unfold nam
    rw [List.getD_eq_getElem?_getD, List.getElem?_eq_getElem hl]
    rfl
  have e2 : (rng m)[(nam ns v).toNat]? = some (nam ns v) := by
    unfold rng
    rw [List.getElem?_map, List.getElem?_range (by omega)]
    show some (Int.ofNat (nam ns v).toNat) = _
    congr 1
    simp only [Int.ofNat_eq_natCast]
    omega
  have e3 : ns.idxOf (nam ns v) = v.toNat := by
    rw [e1]
    exact nd.idxOf_getElem _ hl
  show ((rng m).map fun u => ((ns.idxOf u : Nat) : Int)).getD (nam ns v).toNat 0 = v
  rw [List.getD_eq_getElem?_getD, List.getElem?_map, e2]
  show ((ns.idxOf (nam ns v) : Nat) : Int) = v
  rw [e3]
  omega
theorem nam_at {m : Nat} {ns : List Int} (h : ns.length = m) {v : Int} (v0 : 0 ≤ v) (v1 : v < m) : atI (ns.map V.int) v = some (.int (nam ns v)) := by
  have hl : v.toNat < ns.length := by omega
  refine at_of (j := v.toNat) (by omega) ?_
  unfold nam
  rw [List.getElem?_map, List.getD_eq_getElem?_getD, List.getElem?_eq_getElem hl]
  rfl
end TL
namespace TL
open PySem PySem.Spec PyProof.Rows L2
/-! ### methods of a tuple: the tuple is laid with its very object, so that it is known to have no dict -/
def rTupF (K : PySem.W.Frag) : List V → Hp → VK → Prop := fun xs H Q => ∃ p ys, xs = [.ref p] ∧ SqL K H p ys ∧
  ∀ l ob, H l = none → ob.dict = none → Q (.ref l) (upd H l (.frz ob (.tup ys)))
/-- the value is a tuple laid so -/
def FrzT (x : V) (H : Hp) : Prop := ∃ p ob xs, x = .ref p ∧ H p = some (.frz ob (.tup xs)) ∧ ob.dict = none
def tBMF (r : V → List V → Hp → VK → Prop) (to : TE) (t : TA) : TE := fun σ H Q => to σ H fun x G => FrzT x G ∧ t σ G fun ys G2 => r x ys G2 Q
section
variable {X : Cx}
theorem call_tupF : CallR X (.type "tuple") (rTupF X.K) := by
  intro pins s σ H xs us Q I rr ⟨p, ys, ex, hq, q⟩
  subst ex
  obtain ⟨u, eu, rx⟩ := vals1 rr
  subst eu
  cases rx
  obtain ⟨its, rv, pl, hz⟩ := I.list hq
  have ln := rv.length
  refine call_tuple_list pl.isList (fun G kp => ?_) (by rw [List.size_toArray]; omega)
  have J : Inv X pins σ H { s with heap := G } := I.kept (t' := s.toks) kp
  let ob : Obj := { cls := .type "tuple", data := .seq its.toArray }
  have at0 : (G.push ob).get? G.objs.size = some ob := Heap.get?_push_size _ rfl
  have new : ObjOk X.prog X.w (upd H G.objs.size (.frz ob (.tup ys))) (G.push ob) G.objs.size (.frz ob (.tup ys)) := ⟨at0, hz, its, rv, ob, at0, rfl, _, rfl⟩
  have J2 := J.laid (t' := s.toks) (h' := G.push ob) (fun b o e => Heap.get?_push_of_some _ e) (Nat.le_refl _) new
  exact ⟨.ref G.objs.size, _, J2, rfl, q _ ob (J.hok.fresh (Nat.le_refl _)) rfl⟩
theorem frz_is {pins : List (Addr × Obj)} {σ : L2.St} {H : Hp} {s : Shared} {x : V} {v : Value} (I : Inv X pins σ H s) (rx : RelV x v) (f : FrzT x H) :
    s.TypeIs v "tuple" ∧ ∀ a, v = .ref a → ∃ o, s.heap.get? a = some o ∧ o.dict = none := by
  obtain ⟨p, ob, xs, ex, hp, nd⟩ := f
  subst ex
  cases rx
  obtain ⟨g, _, its, _, o, ho, hc, _⟩ := I.hok p _ hp
  exact ⟨⟨o, ho, hc⟩, fun a e => by cases e; exact ⟨ob, g, nd⟩⟩
theorem pe_bmF {o e : Expr} {es : List Expr} {to : TE} {t : TA} {name : Str} {apos cpos : Pos} {id : String} {r : V → List V → Hp → VK → Prop}
    (slot : Slot "tuple" name id) (hty : typeOf (.builtin id) = pure (.type "method_descriptor")) (hm : MtR X id r) (ho : PE X o to) (ha : PA X (e :: es) t)
    (hbase : attributeBase o name X.env (eval o X.env) = eval o X.env := by rfl)
    (few : ((backTo cpos (starEach (e :: es) X.env)).all (fun z => !z.1) && (backToKw cpos (keywordEach [] X.env)).all (fun z => z.1.isSome)
      && decide ((e :: es).length + ([] : List Keyword).length + (if ([] : List Keyword).isEmpty then 0 else 1) < 30)) = true := by rfl)
    (hline : (apos.endLine == cpos.line) = true := by rfl) (hst : starEach (e :: es) X.env = (false, eval e X.env) :: starEach es X.env := by rfl)
    (hpl : (backTo cpos (starEach es X.env)).any (·.1) = false := by rfl) :
    PE X (.Call (.Attribute o name apos) (e :: es) [] cpos) (tBMF r to t) := by
  constructor
  intro pins s σ H Q I h
  refine wpAny_Call_method_late hbase few hline rfl (thn (ho.run pins s σ H _ I h) fun v s1 got => ?_)
  obtain ⟨x, H1, J, rx, fz, rest⟩ := got
  have ty := frz_is J rx fz
  refine ⟨"tuple", id, PySem.F.plainAttrs_tuple, slot, hty, ty.1, ty.2, ?_⟩
  have args := ha.run cpos pins s1 σ H1 _ J rest
  rw [hst] at args ⊢
  have noStar : ((false, eval e X.env) :: backTo cpos (starEach es X.env)).any (·.1) = false := by
    rw [List.any_cons, hpl]
    rfl
  refine Calls.callWith_builtin (by exact noStar) (Calls.evalArgs_plain (thn args fun us s2 got2 => ?_))
  obtain ⟨vs, H2, J2, r2, q2⟩ := got2
  exact hm pins s2 σ H2 x vs v us Q J2 rx r2 q2
theorem tupFK (K : PySem.W.Frag) (h : X.K = K := by rfl) : CallR X (.type "tuple") (rTupF K) := h ▸ call_tupF
end
theorem lay_forD (m : Nat) (es : List (Int × Int)) : (forD m es).canLay0 = true := by
  simp only [forD, prsD, PyData.canLay0, PyData.canLayAll0, lay_prs, Bool.and_self, Bool.and_true]
theorem frz_T {K : PySem.W.Frag} {H : Hp} {p : Addr} {ob : Obj} {xs : List V} (h : H p = some (.frz ob (.tup xs))) : SqT K H p xs := .inl (.inr ⟨ob, h⟩)
end TL
namespace TL
open PySem PySem.Spec PyProof.Rows L2
/-! ### the state of the draws, cells of any sign -/
structure Dr (H : Hp) (d r c : Addr) (n : Nat) : Prop where
  ex : ∃ (k : Nat) (cs rs : List Int), k ≤ n ∧ H d = some (.lst [.ref c, .int (k : Int), .ref r]) ∧ H c = some (.lst (cs.map V.int)) ∧ H r = some (.lst (rs.map V.int)) ∧
    c ≠ r ∧ 0 < cs.length ∧ rs.length = cs.length ∧ cs.length ≤ 63 ∧ (∀ z ∈ rs, 0 ≤ z)
theorem Dr.same {H H' : Hp} {d r c : Addr} {n : Nat} (h : Dr H d r c n) (e : Same H H') : Dr H' d r c n := by
  obtain ⟨k, cs, rs, hk, h1, h2, h3, h4⟩ := h.ex
  exact ⟨k, cs, rs, hk, e _ _ h1, e _ _ h2, e _ _ h3, h4⟩
theorem Dr.le {H : Hp} {d r c : Addr} {n m : Nat} (h : Dr H d r c n) (e : n ≤ m) : Dr H d r c m := by
  obtain ⟨k, cs, rs, hk, h4⟩ := h.ex
  exact ⟨k, cs, rs, Nat.le_trans hk e, h4⟩
theorem Dr.off {H : Hp} {d r c a : Addr} {n : Nat} (h : Dr H d r c n) (ha : H a = none) : a ≠ d ∧ a ≠ r ∧ a ≠ c := by
  obtain ⟨k, cs, rs, hk, h1, h2, h3, h4⟩ := h.ex
  exact ⟨fun z => (by rw [z, h1] at ha; cases ha), fun z => (by rw [z, h3] at ha; cases ha), fun z => (by rw [z, h2] at ha; cases ha)⟩
theorem Dr.put {H : Hp} {d r c a : Addr} {n : Nat} {o : HO} (h : Dr H d r c n) (e : a ≠ d ∧ a ≠ r ∧ a ≠ c) : Dr (upd H a o) d r c n := by
  obtain ⟨k, cs, rs, hk, h1, h2, h3, h4⟩ := h.ex
  exact ⟨k, cs, rs, hk, by rw [upd_ne e.1.symm]; exact h1, by rw [upd_ne e.2.2.symm]; exact h2, by rw [upd_ne e.2.1.symm]; exact h3, h4⟩
theorem Fm.ktr {K : PySem.W.Frag} {H H' : Hp} {d r c : Addr} {n : Nat} (e : Fm d r H H') (h : Dr H d r c n) : KT K H H' := by
  obtain ⟨k, cs, rs, hk, h1, h2, h3, h4⟩ := h.ex
  intro a xs q
  rcases q with (q | ⟨o, q⟩) | q
  · refine .inl (.inl (e _ _ (fun z => ?_) (fun z => ?_) q))
    · rw [z, h1] at q; cases q
    · rw [z, h3] at q; cases q
  · refine .inl (.inr ⟨o, e _ _ (fun z => ?_) (fun z => ?_) q⟩)
    · rw [z, h1] at q; cases q
    · rw [z, h3] at q; cases q
  · exact .inr q
/-! ### s[i], s a list or a tuple -/
section
variable {X : Cx}
def rIxA (K : PySem.W.Frag) : R2 := fun x y H Q => ∃ p xs i v, x = .ref p ∧ y = .int i ∧ (SqL K H p xs ∨ SqT K H p xs) ∧ atI xs i = some v ∧ Q v H
theorem ix_any : IxR X (rIxA X.K) := by
  intro value slice pins s σ H x y v u Q I rx ry h hs
  obtain ⟨p, xs, i, z, ex, ey, hq, ha, q⟩ := h
  rcases hq with hq | hq
  · exact ix_list value slice pins s σ H x y v u Q I rx ry ⟨p, xs, i, z, ex, ey, hq, ha, q⟩ hs
  · exact ix_tup value slice pins s σ H x y v u Q I rx ry ⟨p, xs, i, z, ex, ey, hq, ha, q⟩ hs
theorem ixAK (K : PySem.W.Frag) (h : X.K = K := by rfl) : IxR X (rIxA K) := h ▸ ix_any
end
end TL
namespace TL
/-! ### locks: no lamp of it has a neighbour without another one of it -/
def Cl (m : Nat) (es : List (Int × Int)) (T : List Int) : Prop := ∀ x ∈ T, ∀ v ∈ nearL m es x, oth m es T x v ≠ []
theorem Cl.other {m : Nat} {es : List (Int × Int)} {T : List Int} (h : Cl m es T) {x v : Int} (hx : x ∈ T) (hv : v ∈ nearL m es x) : ∃ y ∈ T, y ≠ x ∧ y ∈ nearL m es v := by
  obtain ⟨y, hy⟩ := List.exists_mem_of_ne_nil _ (h x hx v hv)
  obtain ⟨h1, h2, h3⟩ := mem_oth.mp hy
  exact ⟨y, h2, h3, h1⟩
theorem Cl.of {m : Nat} {es : List (Int × Int)} {T : List Int} (h : ∀ x ∈ T, ∀ v ∈ nearL m es x, ∃ y ∈ T, y ≠ x ∧ y ∈ nearL m es v) : Cl m es T := fun x hx v hv e => by
  obtain ⟨y, h1, h2, h3⟩ := h x hx v hv
  have : y ∈ oth m es T x v := mem_oth.mpr ⟨h3, h1, h2⟩
  rw [e] at this
  cases this
structure IsGr (m : Nat) (es : List (Int × Int)) (S G : List Int) : Prop where
  asc : Asc G
  sub : ∀ x ∈ G, x ∈ S
  cl : Cl m es G
  max : ∀ T : List Int, (∀ x ∈ T, x ∈ S) → Cl m es T → ∀ x ∈ T, x ∈ G
theorem IsGr.mono {m : Nat} {es : List (Int × Int)} {S S' G G' : List Int} (h : IsGr m es S G) (h' : IsGr m es S' G') (s : ∀ x ∈ S, x ∈ S') : ∀ x ∈ G, x ∈ G' :=
  h'.max G (fun x hx => s x (h.sub x hx)) h.cl
theorem IsGr.uniq {m : Nat} {es : List (Int × Int)} {S G G' : List Int} (h : IsGr m es S G) (h' : IsGr m es S G') : G = G' :=
  asc_ext h.asc h'.asc fun x => ⟨h.mono h' (fun _ z => z) x, h'.mono h (fun _ z => z) x⟩
theorem IsGr.set {m : Nat} {es : List (Int × Int)} {S G : List Int} (h : IsGr m es S G) (iss : IsSet m es S) : IsSet m es G :=
  ⟨h.asc, fun v hv => iss.rng v (h.sub v hv), fun u hu v hv => iss.free u (h.sub u hu) v (h.sub v hv)⟩
theorem IsGr.self {m : Nat} {es : List (Int × Int)} {S G G' : List Int} (h : IsGr m es S G) (h' : IsGr m es G G') : G' = G :=
  asc_ext h'.asc h.asc fun x => ⟨h'.sub x, h'.max G (fun _ z => z) h.cl x⟩
/-! ### slides and locks -/
theorem IsGr.fixed {m : Nat} {es : List (Int × Int)} {S G : List Int} (h : IsGr m es S G) {u v : Int} (p : (u, v) ∈ slidesP m es S) : u ∉ G ∧ ∀ o ∈ nearL m es v, o ∉ G := by
  obtain ⟨hu, hv, ho⟩ := mem_slidesP.mp p
  have nu : u ∉ G := fun z => by
    obtain ⟨y, y1, y2, y3⟩ := h.cl.other z hv
    have : y ∈ oth m es S u v := mem_oth.mpr ⟨y3, h.sub y y1, y2⟩
    rw [ho] at this
    cases this
  refine ⟨nu, fun o h1 z => ?_⟩
  by_cases e : o = u
  · subst e
    exact nu z
  · have : o ∈ oth m es S u v := mem_oth.mpr ⟨h1, h.sub o z, e⟩
    rw [ho] at this
    cases this
theorem IsGr.none {m : Nat} {es : List (Int × Int)} {S G : List Int} (h : IsGr m es S G) (asc : Asc S) : slidesP m es S = [] ↔ G = S := by
  constructor
  · intro e
    refine asc_ext h.asc asc fun x => ⟨h.sub x, h.max S (fun _ z => z) (fun x hx v hv eo => ?_) x⟩
    have : (x, v) ∈ slidesP m es S := mem_slidesP.mpr ⟨hx, hv, eo⟩
    rw [e] at this
    cases this
  · rintro rfl
    refine List.eq_nil_iff_forall_not_mem.mpr fun p hp => ?_
    obtain ⟨u, v⟩ := p
    exact (h.fixed hp).1 (mem_slidesP.mp hp).1
theorem IsGr.len {m : Nat} {es : List (Int × Int)} {S G : List Int} (h : IsGr m es S G) (asc : Asc S) : G.length ≤ S.length ∧ (G.length < S.length ↔ G ≠ S) := by
  have le : G.length ≤ S.length := h.asc.nodup.length_le_of_subset h.sub
  refine ⟨le, fun z e => ?_, fun ne => ?_⟩
  · rw [e] at z
    exact Nat.lt_irrefl _ z
  · refine Nat.lt_of_le_of_ne le fun e => ne ?_
    refine asc_ext h.asc asc fun x => ⟨h.sub x, fun hx => ?_⟩
    by_cases hg : x ∈ G
    · exact hg
    · exfalso
      have nd : (x :: G).Nodup := List.nodup_cons.mpr ⟨hg, h.asc.nodup⟩
      have := nd.length_le_of_subset (l₂ := S) fun y hy => by
        rcases List.mem_cons.mp hy with rfl | hy
        · exact hx
        · exact h.sub y hy
      rw [List.length_cons] at this
      omega
theorem IsGr.slid {m : Nat} {es : List (Int × Int)} {S G G' : List Int} (f : IsFor m es) (iss : IsSet m es S) (h : IsGr m es S G) {u v : Int} (p : (u, v) ∈ slidesP m es S) (h' : IsGr m es (after S u v) G') : G' = G := by
  have q := slide_back f iss p
  have bk := after_back f iss p
  refine asc_ext h'.asc h.asc fun x => ⟨fun hx => ?_, fun hx => ?_⟩
  · refine h.max G' (fun y hy => ?_) h'.cl x hx
    rcases mem_after.mp (h'.sub y hy) with ⟨h1, _⟩ | h1
    · exact h1
    · exact absurd (h1 ▸ hy) (h'.fixed q).1
  · refine h'.max G (fun y hy => ?_) h.cl x hx
    exact mem_after.mpr (.inl ⟨h.sub y hy, fun e => (h.fixed p).1 (e ▸ hy)⟩)
end TL
namespace TL
/-! ### the lamps that are lit in every setting that can be reached are the greatest lock -/
inductive Rch (m : Nat) (es : List (Int × Int)) (S : List Int) : List Int → Prop
  | refl : Rch m es S S
  | step {T : List Int} {u v : Int} : Rch m es S T → (u, v) ∈ slidesP m es T → Rch m es S (after T u v)
theorem Rch.trans {m : Nat} {es : List (Int × Int)} {S T W : List Int} (h : Rch m es S T) (k : Rch m es T W) : Rch m es S W := by
  induction k with
  | refl => exact h
  | step _ p ih => exact .step ih p
theorem Rch.both {m : Nat} {es : List (Int × Int)} {S T : List Int} (f : IsFor m es) (iss : IsSet m es S) (h : Rch m es S T) : IsSet m es T ∧ Rch m es T S := by
  induction h with
  | refl => exact ⟨iss, .refl⟩
  | @step T u v _ p ih =>
    obtain ⟨isT, back⟩ := ih
    obtain ⟨p1, p2, p3⟩ := mem_slidesP.mp p
    refine ⟨IsSet.after f isT p1 p2 p3, ?_⟩
    have q := Rch.step (.refl) (slide_back f isT p)
    rw [after_back f isT p] at q
    exact q.trans back
theorem near_adj {m : Nat} {es : List (Int × Int)} {a b : Int} (h : a ∈ nearL m es b) : Adj es a b := by
  have := (mem_nearL.mp h).2
  unfold ordP at this
  split at this
  · exact .inl this
  · exact .inr this
/-- the edges without those of a vertex -/
def cutE (es : List (Int × Int)) (v : Int) : List (Int × Int) := es.filter fun p => !decide (p.1 = v) && !decide (p.2 = v)
theorem adj_cut {es : List (Int × Int)} {v a b : Int} : Adj (cutE es v) a b ↔ Adj es a b ∧ a ≠ v ∧ b ≠ v := by
  unfold Adj cutE
  simp only [List.mem_filter, Bool.and_eq_true, Bool.not_eq_true', decide_eq_false_iff_not]
  constructor
  · rintro (⟨h1, h2, h3⟩ | ⟨h1, h2, h3⟩)
    · exact ⟨.inl h1, h2, h3⟩
    · exact ⟨.inr h1, h3, h2⟩
  · rintro ⟨h1 | h1, h2, h3⟩
    · exact .inl ⟨h1, h2, h3⟩
    · exact .inr ⟨h1, h3, h2⟩
theorem Pth.avoid {es : List (Int × Int)} {v a b : Int} {p : List Int} (h : Pth (cutE es v) a b p) : a ≠ v → v ∉ p := by
  induction h with
  | one a => exact fun n z => n (List.mem_singleton.mp z).symm
  | cons ad _ _ ih =>
    intro n z
    rcases List.mem_cons.mp z with z | z
    · exact n z.symm
    · exact ih (adj_cut.mp ad).2.2 z
theorem branch_apart {m : Nat} {es : List (Int × Int)} (f : IsFor m es) {v y z : Int} (hy : y ∈ nearL m es v) (hz : z ∈ nearL m es v) (ny : y ≠ v) (nz : z ≠ v) (c : Conn (cutE es v) y z) : y = z := by
  obtain ⟨p, hp⟩ := c.pth
  have nv := hp.avoid ny
  have hp' : Pth es y z p := hp.mono fun q hq => (List.mem_filter.mp hq).1
  have h1 : Pth es v z (v :: p) := .cons (near_adj hy).symm hp' nv
  have h2 : Pth es v z [v, z] := .cons (near_adj hz).symm (.one z) fun h => nz (List.mem_singleton.mp h).symm
  have e := f.uniq _ _ _ _ h1 h2
  have e2 : p = [z] := (List.cons.inj e).2
  have := hp.first
  rw [e2] at this
  exact List.mem_singleton.mp this
/-- slides inside of a branch at a dark vertex can be done by themselves -/
theorem Rch.inside {m : Nat} {es : List (Int × Int)} (f : IsFor m es) {v : Int} {B : Int → Prop} (hB : ∀ p q, B p → q ∈ nearL m es p → q ≠ v → B q) {T W : List Int} (dark : ∀ W, Rch m es T W → v ∉ W) (h : Rch m es T W) :
    ∃ W', Rch m es T W' ∧ (∀ z, B z → (z ∈ W' ↔ z ∈ W)) ∧ ∀ z, ¬ B z → (z ∈ W' ↔ z ∈ T) := by
  induction h with
  | refl => exact ⟨T, .refl, (fun _ _ => Iff.rfl), fun _ _ => Iff.rfl⟩
  | @step W a b hW p ih =>
    obtain ⟨W', r, h1, h2⟩ := ih
    obtain ⟨ha, hb, ho⟩ := mem_slidesP.mp p
    have na : a ≠ v := fun z => dark _ hW (z ▸ ha)
    have nb : b ≠ v := fun z => dark _ (.step hW p) (mem_after.mpr (.inr z.symm))
    by_cases Ba : B a
    · have Bb := hB a b Ba hb nb
      have q : (a, b) ∈ slidesP m es W' := mem_slidesP.mpr ⟨(h1 a Ba).mpr ha, hb, List.eq_nil_iff_forall_not_mem.mpr fun o z => by
        obtain ⟨o1, o2, o3⟩ := mem_oth.mp z
        have no : o ≠ v := fun z => dark _ r (z ▸ o2)
        have : o ∈ oth m es W a b := mem_oth.mpr ⟨o1, (h1 o (hB b o Bb o1 no)).mp o2, o3⟩
        rw [ho] at this
        cases this⟩
      refine ⟨_, .step r q, fun z Bz => ?_, fun z nz => ?_⟩
      · rw [mem_after, mem_after, h1 z Bz]
      · have za : z ≠ a := fun e => nz (e ▸ Ba)
        have zb : z ≠ b := fun e => nz (e ▸ Bb)
        rw [mem_after, h2 z nz]
        exact ⟨fun h => h.elim (·.1) (fun e => absurd e zb), fun h => .inl ⟨h, za⟩⟩
    · have Bb : ¬ B b := fun h => Ba (hB b a h ((mem_nearL_comm f).mp hb) na)
      refine ⟨W', r, fun z Bz => ?_, h2⟩
      have za : z ≠ a := fun e => Ba (e ▸ Bz)
      have zb : z ≠ b := fun e => Bb (e ▸ Bz)
      rw [mem_after, h1 z Bz]
      exact ⟨fun h => .inl ⟨h, za⟩, fun h => h.elim (·.1) (fun e => absurd e zb)⟩
theorem IsGr.lit {m : Nat} {es : List (Int × Int)} {S G : List Int} (f : IsFor m es) (iss : IsSet m es S) (h : IsGr m es S G) {x : Int} : x ∈ G ↔ ∀ W, Rch m es S W → x ∈ W := by
  constructor
  · intro hx W r
    have sub : ∀ y ∈ G, y ∈ W := by
      induction r with
      | refl => exact h.sub
      | @step T u v _ p ih =>
        intro y hy
        refine mem_after.mpr (.inl ⟨ih y hy, fun e => ?_⟩)
        subst e
        obtain ⟨_, hv, ho⟩ := mem_slidesP.mp p
        obtain ⟨z, z1, z2, z3⟩ := h.cl.other hy hv
        have : z ∈ oth m es T y v := mem_oth.mpr ⟨z3, ih z z1, z2⟩
        rw [ho] at this
        cases this
    exact sub x hx
  · intro hx
    have key : ∀ z, z ∈ S.filter (fun x => @decide (∀ W, Rch m es S W → x ∈ W) (Classical.propDecidable _)) ↔ ∀ W, Rch m es S W → z ∈ W := fun z => by
      rw [List.mem_filter]
      constructor
      · exact fun h => @of_decide_eq_true _ (Classical.propDecidable _) h.2
      · exact fun h => ⟨h S .refl, @decide_eq_true _ (Classical.propDecidable _) h⟩
    refine h.max _ (fun z hz => (List.mem_filter.mp hz).1) (Cl.of fun x hx v hv => ?_) x ((key x).mpr hx)
    have litx := (key x).mp hx
    refine Classical.byContradiction fun no => ?_
    have hxv : x ∈ nearL m es v := (mem_nearL_comm f).mp hv
    have nxv : x ≠ v := fun e => by
      have := (mem_nearL.mp hv).2
      rw [e] at this
      exact f.loop v this
    have step : ∀ N : List Int, (∀ y ∈ N, y ∈ nearL m es v) → ∃ T, Rch m es S T ∧ ∀ y ∈ N, y ≠ x → y ∉ T := by
      intro N
      induction N with
      | nil => exact fun _ => ⟨S, .refl, fun _ h => nomatch h⟩
      | cons y N ih =>
        intro hN
        obtain ⟨T, rT, dk⟩ := ih fun z hz => hN z (List.mem_cons_of_mem _ hz)
        by_cases hy : y ≠ x ∧ y ∈ T
        · have yv := hN y List.mem_cons_self
          have nyv : y ≠ v := fun e => by
            have := (mem_nearL.mp yv).2
            rw [e] at this
            exact f.loop v this
          have : ∃ W, Rch m es S W ∧ y ∉ W := Classical.byContradiction fun n2 => no ⟨y, (key y).mpr fun W r => Classical.byContradiction fun n3 => n2 ⟨W, r, n3⟩, hy.1, yv⟩
          obtain ⟨W, rW, nyW⟩ := this
          have isT := rT.both f iss
          have rTW : Rch m es T W := isT.2.trans rW
          have dark : ∀ W, Rch m es T W → v ∉ W := fun W r hvW => by
            have rS := rT.trans r
            have isW := (rS.both f iss).1
            exact isW.free x (litx W rS) v hvW (mem_nearL.mp hxv).2
          obtain ⟨W', r', i1, i2⟩ := Rch.inside f (B := fun z => Conn (cutE es v) y z) (v := v) (fun p q Bp hq nq => by
            by_cases np : p = v
            · exfalso
              obtain ⟨pp, hp⟩ := Bp.pth
              exact hp.avoid nyv (np ▸ hp.last)
            · exact .step Bp (adj_cut.mpr ⟨(near_adj hq).symm, np, nq⟩)) dark rTW
          refine ⟨W', rT.trans r', fun z hz nz => ?_⟩
          rcases List.mem_cons.mp hz with rfl | hz
          · exact fun h => nyW ((i1 z (.refl _)).mp h)
          · have zv := hN z (List.mem_cons_of_mem _ hz)
            have nzv : z ≠ v := fun e => by
              have := (mem_nearL.mp zv).2
              rw [e] at this
              exact f.loop v this
            by_cases Bz : Conn (cutE es v) y z
            · have := branch_apart f yv zv nyv nzv Bz
              subst this
              exact fun h => nyW ((i1 y (.refl _)).mp h)
            · exact fun h => dk z hz nz ((i2 z Bz).mp h)
        · refine ⟨T, rT, fun z hz nz hT => ?_⟩
          rcases List.mem_cons.mp hz with rfl | hz
          · exact hy ⟨nz, hT⟩
          · exact dk z hz nz hT
    obtain ⟨T, rT, dk⟩ := step (nearL m es v) fun _ h => h
    have p : (x, v) ∈ slidesP m es T := mem_slidesP.mpr ⟨litx T rT, hv, List.eq_nil_iff_forall_not_mem.mpr fun o z => by
      obtain ⟨o1, o2, o3⟩ := mem_oth.mp z
      exact dk o o1 o3 o2⟩
    rcases mem_after.mp (litx _ (.step rT p)) with h | h
    · exact h.2 rfl
    · exact nxv h
end TL
namespace TL
/-! ### settings without rigid lamps, with as many lamps in each part: each reaches the other -/
section
variable {m : Nat} {es : List (Int × Int)}
theorem IsFor.part (f : IsFor m es) (c : Int × Int → Bool) : IsFor m (es.filter c) := by
  obtain ⟨nm, ks, g, pm⟩ := f.grow
  refine ⟨f.asc.filter _, fun p hp => f.rng p (List.mem_filter.mp hp).1, nm, ks.filter (fun q => c (edgeOf nm q)), ⟨g.names, g.up.filter _, fun q hq => g.down q (List.mem_filter.mp hq).1⟩, ?_⟩
  have := pm.filter c
  rw [List.filter_map] at this
  exact this
theorem adj_near (f : IsFor m es) {a b : Int} (h : Adj es a b) : a ∈ nearL m es b := by
  refine mem_nearL.mpr ⟨?_, f.mem_ord.mpr h⟩
  rcases h with h | h
  · have := f.rng _ h
    simp only at this
    omega
  · have := f.rng _ h
    simp only at this
    omega
theorem near_ne (f : IsFor m es) {a b : Int} (h : a ∈ nearL m es b) : a ≠ b := fun e => by
  have := (mem_nearL.mp h).2
  rw [e] at this
  exact f.loop b this
/-- beside a vertex that can be lit, every vertex can be lit -/
theorem light_up {S : List Int} (f : IsFor m es) (iss : IsSet m es S) (gr : IsGr m es S []) {x g : Int} (hx : ∃ W, Rch m es S W ∧ x ∈ W) (hg : g ∈ nearL m es x) : ∃ W, Rch m es S W ∧ g ∈ W := by
  refine Classical.byContradiction fun no => ?_
  have dark : ∀ W, Rch m es S W → g ∉ W := fun W r h => no ⟨W, r, h⟩
  have hxg : x ∈ nearL m es g := (mem_nearL_comm f).mp hg
  have nx : x ≠ g := near_ne f hxg
  obtain ⟨W0, r0, x0⟩ := hx
  have step : ∀ N : List Int, (∀ y ∈ N, y ∈ nearL m es g) → ∃ T, Rch m es S T ∧ x ∈ T ∧ ∀ y ∈ N, y ≠ x → y ∉ T := by
    intro N
    induction N with
    | nil => exact fun _ => ⟨W0, r0, x0, fun _ h => nomatch h⟩
    | cons y N ih =>
      intro hN
      obtain ⟨T, rT, xT, dk⟩ := ih fun z hz => hN z (List.mem_cons_of_mem _ hz)
      by_cases hy : y ≠ x ∧ y ∈ T
      · have yg := hN y List.mem_cons_self
        have nyg : y ≠ g := near_ne f yg
        have : ∃ W, Rch m es S W ∧ y ∉ W := Classical.byContradiction fun n2 => by
          have : y ∈ ([] : List Int) := (gr.lit f iss).mpr fun W r => Classical.byContradiction fun n3 => n2 ⟨W, r, n3⟩
          cases this
        obtain ⟨W, rW, nyW⟩ := this
        have isT := rT.both f iss
        have rTW : Rch m es T W := isT.2.trans rW
        obtain ⟨W', r', i1, i2⟩ := Rch.inside f (B := fun z => Conn (cutE es g) y z) (v := g) (fun p q Bp hq nq => by
          by_cases np : p = g
          · exfalso
            obtain ⟨pp, hp⟩ := Bp.pth
            exact hp.avoid nyg (np ▸ hp.last)
          · exact .step Bp (adj_cut.mpr ⟨(near_adj hq).symm, np, nq⟩)) (fun W r => dark W (rT.trans r)) rTW
        have nBx : ¬ Conn (cutE es g) y x := fun c => hy.1 (branch_apart f yg hxg nyg nx c)
        refine ⟨W', rT.trans r', (i2 x nBx).mpr xT, fun z hz nz => ?_⟩
        rcases List.mem_cons.mp hz with rfl | hz
        · exact fun h => nyW ((i1 z (.refl _)).mp h)
        · have zg := hN z (List.mem_cons_of_mem _ hz)
          by_cases Bz : Conn (cutE es g) y z
          · have := branch_apart f yg zg nyg (near_ne f zg) Bz
            subst this
            exact fun h => nyW ((i1 y (.refl _)).mp h)
          · exact fun h => dk z hz nz ((i2 z Bz).mp h)
      · refine ⟨T, rT, xT, fun z hz nz hT => ?_⟩
        rcases List.mem_cons.mp hz with rfl | hz
        · exact hy ⟨nz, hT⟩
        · exact dk z hz nz hT
  obtain ⟨T, rT, xT, dk⟩ := step (nearL m es g) fun _ h => h
  have p : (x, g) ∈ slidesP m es T := mem_slidesP.mpr ⟨xT, hg, List.eq_nil_iff_forall_not_mem.mpr fun o z => by
    obtain ⟨o1, o2, o3⟩ := mem_oth.mp z
    exact dk o o1 o3 o2⟩
  exact dark _ (.step rT p) (mem_after.mpr (.inr rfl))
theorem light_conn {S : List Int} (f : IsFor m es) (iss : IsSet m es S) (gr : IsGr m es S []) {x v : Int} (hx : x ∈ S) (c : Conn es x v) : ∃ W, Rch m es S W ∧ v ∈ W := by
  induction c with
  | refl => exact ⟨S, .refl, hx⟩
  | step _ e ih => exact light_up f iss gr ih (adj_near f (Adj.symm e))
/-! ### numbers of lamps -/
noncomputable def num (B : Int → Prop) (S : List Int) : Nat := (S.filter fun x => @decide (B x) (Classical.propDecidable _)).length
theorem num_perm {B : Int → Prop} {S T : List Int} (h : S.Perm T) : num B S = num B T := (h.filter _).length_eq
theorem num_nil (B : Int → Prop) : num B [] = 0 := rfl
theorem num_cons {B : Int → Prop} {x : Int} {S : List Int} : num B (x :: S) = num B [x] + num B S := by
  unfold num
  rw [List.filter_cons, List.filter_cons]
  split
  · rw [List.length_cons, List.filter_nil, List.length_singleton]
    omega
  · rw [List.filter_nil, List.length_nil]
    omega
theorem num_one {B : Int → Prop} {x : Int} (h : B x) : num B [x] = 1 := by
  unfold num
  rw [List.filter_cons, if_pos (@decide_eq_true _ (Classical.propDecidable _) h)]
  rfl
theorem num_no {B : Int → Prop} {x : Int} (h : ¬ B x) : num B [x] = 0 := by
  unfold num
  rw [List.filter_cons, if_neg (fun z => h (@of_decide_eq_true _ (Classical.propDecidable _) z))]
  rfl
theorem num_congr {B C : Int → Prop} {S : List Int} (h : ∀ x ∈ S, B x ↔ C x) : num B S = num C S := by
  unfold num
  congr 1
  refine List.filter_congr fun x hx => ?_
  by_cases b : B x
  · rw [@decide_eq_true _ (Classical.propDecidable _) b, @decide_eq_true _ (Classical.propDecidable _) ((h x hx).mp b)]
  · rw [@decide_eq_false _ (Classical.propDecidable _) b, @decide_eq_false _ (Classical.propDecidable _) (fun z => b ((h x hx).mpr z))]
theorem num_zero {B : Int → Prop} {S : List Int} (h : ∀ x ∈ S, ¬ B x) : num B S = 0 := by
  unfold num
  rw [List.length_eq_zero_iff, List.filter_eq_nil_iff]
  exact fun x hx z => h x hx (@of_decide_eq_true _ (Classical.propDecidable _) z)
theorem num_pos {B : Int → Prop} {S : List Int} {x : Int} (hx : x ∈ S) (b : B x) : 0 < num B S := by
  unfold num
  exact List.length_pos_of_mem (List.mem_filter.mpr ⟨hx, @decide_eq_true _ (Classical.propDecidable _) b⟩)
theorem num_pos_iff {B : Int → Prop} {S : List Int} : 0 < num B S ↔ ∃ x ∈ S, B x := by
  constructor
  · intro h
    unfold num at h
    obtain ⟨x, hx⟩ := List.exists_mem_of_length_pos h
    obtain ⟨h1, h2⟩ := List.mem_filter.mp hx
    exact ⟨x, h1, @of_decide_eq_true _ (Classical.propDecidable _) h2⟩
  · rintro ⟨x, hx, b⟩
    exact num_pos hx b
theorem perm_of_mem {S T : List Int} (hS : S.Nodup) (hT : T.Nodup) (h : ∀ x, x ∈ S ↔ x ∈ T) : S.Perm T := (List.perm_ext_iff_of_nodup hS hT).mpr h
theorem num_add {B : Int → Prop} {S T : List Int} {v : Int} (hS : S.Nodup) (hT : T.Nodup) (nv : v ∉ T) (h : ∀ x, x ∈ S ↔ x ∈ T ∨ x = v) : num B S = num B [v] + num B T := by
  have : S.Perm (v :: T) := perm_of_mem hS (List.nodup_cons.mpr ⟨nv, hT⟩) fun x => by rw [h x, List.mem_cons, Or.comm]
  rw [num_perm this, num_cons]
theorem num_after {B : Int → Prop} {S : List Int} {u v : Int} (hS : S.Nodup) (hu : u ∈ S) (h : B u ↔ B v) : num B (after S u v) = num B S := by
  have e1 : num B (after S u v) = num B (v :: S.filter (fun l => !decide (l = u))) := num_perm ((srtI_perm _).trans (List.perm_append_comm (l₁ := S.filter (fun l => !decide (l = u))) (l₂ := [v])))
  have e2 : S.Perm (u :: S.filter (fun l => !decide (l = u))) := by
    refine perm_of_mem hS (List.nodup_cons.mpr ⟨fun z => ?_, hS.filter _⟩) fun x => ?_
    · have := (List.mem_filter.mp z).2
      rw [decide_eq_true rfl] at this
      cases this
    · rw [List.mem_cons, List.mem_filter]
      by_cases e : x = u
      · subst e
        exact ⟨fun _ => .inl rfl, fun _ => hu⟩
      · rw [decide_eq_false e]
        exact ⟨fun z => .inr ⟨z, rfl⟩, fun z => z.elim (fun y => absurd y e) (·.1)⟩
  rw [e1, num_perm e2, num_cons, num_cons (x := u)]
  have : num B [v] = num B [u] := by
    by_cases b : B u
    · rw [num_one b, num_one (h.mp b)]
    · rw [num_no b, num_no fun z => b (h.mpr z)]
  omega
theorem Rch.num {S T : List Int} (f : IsFor m es) (iss : IsSet m es S) {B : Int → Prop} (hB : ∀ a b, Adj es a b → B a → B b) (h : Rch m es S T) : num B T = num B S := by
  induction h with
  | refl => rfl
  | @step T u v r p ih =>
    obtain ⟨p1, p2, p3⟩ := mem_slidesP.mp p
    have ad := near_adj p2
    rw [num_after (r.both f iss).1.asc.nodup p1 ⟨hB _ _ ad.symm, hB _ _ ad⟩, ih]
theorem Rch.gr {S T G : List Int} (f : IsFor m es) (iss : IsSet m es S) (g : IsGr m es S G) (h : Rch m es S T) : IsGr m es T G := by
  have key : ∀ x ∈ G, x ∈ T := fun x hx => (g.lit f iss).mp hx T h
  refine ⟨g.asc, key, g.cl, fun L sub cl x hx => ?_⟩
  obtain ⟨isT, back⟩ := h.both f iss
  -- what is closed stays lit
  have stay : ∀ W, Rch m es T W → ∀ y ∈ L, y ∈ W := by
    intro W r
    induction r with
    | refl => exact sub
    | @step W u v _ p ih =>
      intro y hy
      refine mem_after.mpr (.inl ⟨ih y hy, fun e => ?_⟩)
      subst e
      obtain ⟨_, hv, ho⟩ := mem_slidesP.mp p
      obtain ⟨z, z1, z2, z3⟩ := cl.other hy hv
      have : z ∈ oth m es W y v := mem_oth.mpr ⟨z3, ih z z1, z2⟩
      rw [ho] at this
      cases this
  exact g.max L (stay S back) cl x hx
/-! ### a vertex all of whose neighbours but one are leaves -/
theorem max_in {α : Type} (g : α → Nat) : ∀ {l : List α}, l ≠ [] → ∃ a ∈ l, ∀ b ∈ l, g b ≤ g a
  | [], h => absurd rfl h
  | [a], _ => ⟨a, List.mem_cons_self, fun b hb => by rw [List.mem_singleton.mp hb]; exact Nat.le_refl _⟩
  | a :: c :: l, _ => by
    obtain ⟨b, hb, hm⟩ := max_in g (l := c :: l) (fun z => nomatch z)
    by_cases h : g a ≤ g b
    · exact ⟨b, List.mem_cons_of_mem _ hb, fun d hd => (List.mem_cons.mp hd).elim (fun e => e ▸ h) (hm d)⟩
    · exact ⟨a, List.mem_cons_self, fun d hd => (List.mem_cons.mp hd).elim (fun e => e ▸ Nat.le_refl _) (fun z => by have := hm d z; omega)⟩
theorem Grow.adj {nm : List Int} {ks : List (Nat × Nat)} (pm : es.Perm (ks.map (edgeOf nm))) (f : IsFor m es) {a b : Int} : Adj es a b ↔ ∃ q ∈ ks, (a = nm.getD q.1 0 ∧ b = nm.getD q.2 0) ∨ (a = nm.getD q.2 0 ∧ b = nm.getD q.1 0) := by
  constructor
  · intro h
    have h1 : ordP a b ∈ es := f.mem_ord.mpr h
    obtain ⟨q, hq, e⟩ := List.mem_map.mp (pm.mem_iff.mp h1)
    refine ⟨q, hq, ?_⟩
    rcases ordP_inj e with ⟨h1, h2⟩ | ⟨h1, h2⟩
    · exact .inl ⟨h1.symm, h2.symm⟩
    · exact .inr ⟨h2.symm, h1.symm⟩
  · rintro ⟨q, hq, h⟩
    refine f.mem_ord.mp (pm.mem_iff.mpr (List.mem_map.mpr ⟨q, hq, ?_⟩))
    unfold edgeOf
    rcases h with ⟨rfl, rfl⟩ | ⟨rfl, rfl⟩
    · rfl
    · exact ordP_comm _ _
theorem pair_eq {ks : List (Nat × Nat)} (h : ks.Pairwise fun a b => a.1 < b.1) {q r : Nat × Nat} (hq : q ∈ ks) (hr : r ∈ ks) (e : q.1 = r.1) : q = r := by
  induction ks with
  | nil => cases hq
  | cons k ks ih =>
    obtain ⟨h1, h2⟩ := List.pairwise_cons.mp h
    rcases List.mem_cons.mp hq with h3 | h3
    · rcases List.mem_cons.mp hr with h4 | h4
      · rw [h3, h4]
      · have := h1 r h4
        rw [h3] at e
        omega
    · rcases List.mem_cons.mp hr with h4 | h4
      · have := h1 q h3
        rw [h4] at e
        omega
      · exact ih h2 h3 h4
theorem IsFor.safe (f : IsFor m es) {x y : Int} (hy : y ∈ nearL m es x) : ∃ u v p, Conn es x u ∧ v ∈ nearL m es u ∧ (∀ w ∈ nearL m es v, w = u) ∧ ∀ z ∈ nearL m es u, z ≠ p → ∀ w ∈ nearL m es z, w = u := by
  obtain ⟨nm, ks, g, pm⟩ := f.grow
  have adj : ∀ {a b}, Adj es a b ↔ _ := fun {a b} => Grow.adj (a := a) (b := b) pm f
  let C : Nat × Nat → Bool := fun q => @decide (Conn es x (nm.getD q.2 0)) (Classical.propDecidable _)
  have hC : ∀ {q}, q ∈ ks.filter C ↔ q ∈ ks ∧ Conn es x (nm.getD q.2 0) := fun {q} => by
    rw [List.mem_filter]
    exact ⟨fun h => ⟨h.1, @of_decide_eq_true _ (Classical.propDecidable _) h.2⟩, fun h => ⟨h.1, @decide_eq_true _ (Classical.propDecidable _) h.2⟩⟩
  have ne : ks.filter C ≠ [] := by
    obtain ⟨q, hq, h⟩ := adj.mp (near_adj hy)
    refine List.ne_nil_of_mem (a := q) (hC.mpr ⟨hq, ?_⟩)
    rcases h with ⟨_, h⟩ | ⟨h, _⟩
    · rw [← h]
      exact .refl _
    · rw [← h]
      exact .step (.refl _) (near_adj hy).symm
  obtain ⟨q0, hq0, mx⟩ := max_in (fun q : Nat × Nat => q.2) ne
  obtain ⟨k0, c0⟩ := hC.mp hq0
  have mx' : ∀ q ∈ ks, Conn es x (nm.getD q.2 0) → q.2 ≤ q0.2 := fun q hq c => mx q (hC.mpr ⟨hq, c⟩)
  have d0 := g.down q0 k0
  -- a child of u is a leaf
  have leaf : ∀ q ∈ ks, q.2 = q0.2 → ∀ w ∈ nearL m es (nm.getD q.1 0), w = nm.getD q0.2 0 := by
    intro q hq e w hw
    have dq := g.down q hq
    obtain ⟨r, hr, h⟩ := adj.mp (near_adj hw)
    have dr := g.down r hr
    rcases h with ⟨h1, h2⟩ | ⟨h1, h2⟩
    · exfalso
      have e2 := g.inj dq.2 (by omega) h2
      have c : Conn es x (nm.getD r.2 0) := by
        rw [← h2]
        refine .step c0 (adj.mpr ⟨q, hq, .inr ⟨by rw [e], rfl⟩⟩)
      have := mx' r hr c
      omega
    · have e2 := g.inj dq.2 dr.2 h2
      have := pair_eq g.up hq hr e2
      subst this
      rw [h1, e]
  by_cases hp : ∃ q ∈ ks, q.1 = q0.2
  · obtain ⟨qp, hqp, ep⟩ := hp
    refine ⟨nm.getD q0.2 0, nm.getD q0.1 0, nm.getD qp.2 0, c0, adj_near f (adj.mpr ⟨q0, k0, .inl ⟨rfl, rfl⟩⟩), leaf q0 k0 rfl, fun z hz nz => ?_⟩
    obtain ⟨r, hr, h⟩ := adj.mp (near_adj hz)
    have dr := g.down r hr
    rcases h with ⟨h1, h2⟩ | ⟨h1, h2⟩
    · have e2 := g.inj (by omega) (by omega) h2
      rw [h1]
      exact leaf r hr e2.symm
    · exfalso
      have e2 := g.inj (by omega) dr.2 h2
      have := pair_eq g.up hqp hr (by omega)
      subst this
      exact nz h1
  · refine ⟨nm.getD q0.2 0, nm.getD q0.1 0, nm.getD q0.2 0, c0, adj_near f (adj.mpr ⟨q0, k0, .inl ⟨rfl, rfl⟩⟩), leaf q0 k0 rfl, fun z hz _ => ?_⟩
    obtain ⟨r, hr, h⟩ := adj.mp (near_adj hz)
    have dr := g.down r hr
    rcases h with ⟨h1, h2⟩ | ⟨h1, h2⟩
    · have e2 := g.inj (by omega) (by omega) h2
      rw [h1]
      exact leaf r hr e2.symm
    · exfalso
      have e2 := g.inj (by omega) dr.2 h2
      exact hp ⟨r, hr, e2.symm⟩
end
end TL
namespace TL
section
variable {m : Nat} {es : List (Int × Int)}
theorem adj_part {c : Int × Int → Bool} {a b : Int} (h : Adj (es.filter c) a b) : Adj es a b := h.imp (fun z => (List.mem_filter.mp z).1) (fun z => (List.mem_filter.mp z).1)
theorem near_cut (f : IsFor m es) {u a b : Int} : a ∈ nearL m (cutE es u) b ↔ a ∈ nearL m es b ∧ a ≠ u ∧ b ≠ u := by
  have f' : IsFor m (cutE es u) := f.part _
  constructor
  · intro h
    obtain ⟨h1, h2, h3⟩ := adj_cut.mp (near_adj h)
    exact ⟨adj_near f h1, h2, h3⟩
  · rintro ⟨h1, h2, h3⟩
    exact adj_near f' (adj_cut.mpr ⟨near_adj h1, h2, h3⟩)
/-- a branch at u begins at a neighbour of u -/
theorem branch_at {u x : Int} (h : Conn es u x) : x ≠ u → ∃ z, Adj es u z ∧ z ≠ u ∧ Conn (cutE es u) z x := by
  induction h with
  | refl => exact fun n => absurd rfl n
  | @step b c _ e ih =>
    intro n
    by_cases hb : b = u
    · subst hb
      exact ⟨c, e, n, .refl _⟩
    · obtain ⟨z, h1, h2, h3⟩ := ih hb
      exact ⟨z, h1, h2, .step h3 (adj_cut.mpr ⟨e, hb, n⟩)⟩
theorem conn_out {u c x : Int} (n : ¬ Conn es c u) (h : Conn es c x) : Conn (cutE es u) c x := by
  induction h with
  | refl => exact .refl _
  | @step a b h e ih => exact .step ih (adj_cut.mpr ⟨e, fun z => n (z ▸ h), fun z => n (z ▸ Conn.step h e)⟩)
theorem conn_cut_mono {u c x : Int} (h : Conn (cutE es u) c x) : Conn es c x := h.mono fun p hp => (List.mem_filter.mp hp).1
theorem conn_lone {E : List (Int × Int)} {c x : Int} (n : ∀ w, ¬ Adj E c w) (h : Conn E c x) : x = c := by
  induction h with
  | refl => rfl
  | step _ e ih => exact absurd (ih ▸ e) (n _)
/-- with one lamp more at a leaf whose neighbour stays dark -/
theorem Rch.with {A B A1 : List Int} {u v : Int} (f : IsFor m es) (hv : ∀ w ∈ nearL m es v, w = u) (nu : u ∉ A) (nvA : v ∉ A) (nvu : v ≠ u) (a1 : IsSet m es A1) (hA : ∀ x, x ∈ A1 ↔ x ∈ A ∨ x = v) (h : Rch m (cutE es u) A B) :
    u ∉ B ∧ v ∉ B ∧ ∃ B1, Rch m es A1 B1 ∧ ∀ x, x ∈ B1 ↔ x ∈ B ∨ x = v := by
  induction h with
  | refl => exact ⟨nu, nvA, A1, .refl, hA⟩
  | @step B a b _ p ih =>
    obtain ⟨nuB, nvB, B1, r, hB⟩ := ih
    obtain ⟨p1, p2, p3⟩ := mem_slidesP.mp p
    obtain ⟨q1, nb, na⟩ := (near_cut f).mp p2
    have nbv : b ≠ v := fun e => by
      subst e
      exact na (hv a ((mem_nearL_comm f).mp q1))
    have nav : a ≠ v := fun e => nvB (e ▸ p1)
    have q : (a, b) ∈ slidesP m es B1 := mem_slidesP.mpr ⟨(hB a).mpr (.inl p1), q1, List.eq_nil_iff_forall_not_mem.mpr fun o z => by
      obtain ⟨o1, o2, o3⟩ := mem_oth.mp z
      rcases (hB o).mp o2 with o2 | o2
      · have no : o ≠ u := fun e => nuB (e ▸ o2)
        have : o ∈ oth m (cutE es u) B a b := mem_oth.mpr ⟨(near_cut f).mpr ⟨o1, no, nb⟩, o2, o3⟩
        rw [p3] at this
        cases this
      · subst o2
        exact nb (hv b ((mem_nearL_comm f).mp o1))⟩
    refine ⟨fun z => ?_, fun z => ?_, _, .step r q, fun x => ?_⟩
    · rcases mem_after.mp z with z | z
      · exact nuB z.1
      · exact nb z.symm
    · rcases mem_after.mp z with z | z
      · exact nvB z.1
      · exact nbv z.symm
    · rw [mem_after, mem_after, hB x]
      constructor
      · rintro (⟨h1 | h1, h2⟩ | h1)
        · exact .inl (.inl ⟨h1, h2⟩)
        · exact .inr h1
        · exact .inl (.inr h1)
      · rintro ((⟨h1, h2⟩ | h1) | h1)
        · exact .inl ⟨.inl h1, h2⟩
        · exact .inr h1
        · exact .inl ⟨.inr h1, fun e => nav (e ▸ h1)⟩
theorem IsSet.sub {E : List (Int × Int)} {S T : List Int} (h : IsSet m es S) (hE : ∀ p ∈ E, p ∈ es) (asc : Asc T) (s : ∀ x ∈ T, x ∈ S) : IsSet m E T :=
  ⟨asc, fun v hv => h.rng v (s v hv), fun u hu v hv z => h.free u (s u hu) v (s v hv) (hE _ z)⟩
/-- without the lamp at a leaf, and without the edges of its neighbour, no lamp is rigid -/
theorem IsGr.less_leaf {S1 S2 : List Int} {u v : Int} (f : IsFor m es) (iss : IsSet m es S1) (gr : IsGr m es S1 []) (hv : v ∈ nearL m es u) (lf : ∀ w ∈ nearL m es v, w = u) (hv1 : v ∈ S1) (h2 : ∀ x, x ∈ S2 ↔ x ∈ S1 ∧ x ≠ v) : IsGr m (cutE es u) S2 [] := by
  have huv : u ∈ nearL m es v := (mem_nearL_comm f).mp hv
  have nu : u ∉ S1 := fun z => iss.free u z v hv1 (mem_nearL.mp huv).2
  refine ⟨.nil, (fun _ h => nomatch h), (fun _ h => nomatch h), fun L sub cl x hx => ?_⟩
  have sub1 : ∀ y ∈ L, y ∈ S1 ∧ y ≠ v := fun y hy => (h2 y).mp (sub y hy)
  by_cases hb : ∃ y ∈ L, y ∈ nearL m es u
  · -- with v
    refine absurd (gr.max (v :: L) (fun y hy => ?_) (Cl.of fun y hy z hz => ?_) x (List.mem_cons_of_mem _ hx)) (fun h => nomatch h)
    · rcases List.mem_cons.mp hy with rfl | hy
      · exact hv1
      · exact (sub1 y hy).1
    · rcases List.mem_cons.mp hy with e | hy
      · subst e
        obtain ⟨w, w1, w2⟩ := hb
        rw [lf z hz]
        exact ⟨w, List.mem_cons_of_mem _ w1, (sub1 w w1).2, w2⟩
      · by_cases ez : z = u
        · subst ez
          exact ⟨v, List.mem_cons_self, (sub1 y hy).2.symm, hv⟩
        · have ny : y ≠ u := fun e => nu (e ▸ (sub1 y hy).1)
          obtain ⟨w, w1, w2, w3⟩ := cl.other hy ((near_cut f).mpr ⟨hz, ez, ny⟩)
          exact ⟨w, List.mem_cons_of_mem _ w1, w2, ((near_cut f).mp w3).1⟩
  · refine absurd (gr.max L (fun y hy => (sub1 y hy).1) (Cl.of fun y hy z hz => ?_) x hx) (fun h => nomatch h)
    have ez : z ≠ u := fun e => hb ⟨y, hy, (mem_nearL_comm f).mp (e ▸ hz)⟩
    have ny : y ≠ u := fun e => nu (e ▸ (sub1 y hy).1)
    obtain ⟨w, w1, w2, w3⟩ := cl.other hy ((near_cut f).mpr ⟨hz, ez, ny⟩)
    exact ⟨w, w1, w2, ((near_cut f).mp w3).1⟩
/-- a lamp that is not rigid has a neighbour -/
theorem IsGr.beside {S : List Int} (gr : IsGr m es S []) {x : Int} (hx : x ∈ S) : ∃ y, y ∈ nearL m es x := by
  refine Classical.byContradiction fun no => ?_
  have := gr.max [x] (fun y hy => by rw [List.mem_singleton.mp hy]; exact hx) (Cl.of fun y hy z hz => by
    rw [List.mem_singleton.mp hy] at hz
    exact absurd ⟨z, hz⟩ no) x List.mem_cons_self
  cases this
theorem reach_all : ∀ {n : Nat} {es : List (Int × Int)} {S T : List Int}, IsFor m es → IsSet m es S → IsSet m es T → IsGr m es S [] → IsGr m es T [] → (∀ c, num (Conn es c) S = num (Conn es c) T) → S.length = n → Rch m es S T
  | 0, es, S, T, f, sS, sT, gS, gT, hc, ln => by
    have e : S = [] := List.length_eq_zero_iff.mp ln
    subst e
    have : T = [] := by
      refine List.eq_nil_iff_forall_not_mem.mpr fun x hx => ?_
      have h1 := num_pos (B := Conn es x) hx (.refl x)
      rw [← hc x] at h1
      exact Nat.lt_irrefl _ h1
    subst this
    exact .refl
  | n + 1, es, S, T, f, sS, sT, gS, gT, hc, ln => by
    obtain ⟨x, hx⟩ := List.exists_mem_of_length_pos (l := S) (by omega)
    obtain ⟨y, hy⟩ := gS.beside hx
    obtain ⟨u, v, p, cxu, hv, lf, ot⟩ := f.safe hy
    have huv : u ∈ nearL m es v := (mem_nearL_comm f).mp hv
    have nvu : v ≠ u := near_ne f hv
    have cuv : Conn es u v := .step (.refl _) (near_adj huv)
    have f' : IsFor m (cutE es u) := f.part _
    -- a lamp at v, on both sides
    have bring : ∀ {S : List Int}, IsSet m es S → IsGr m es S [] → (∃ x ∈ S, Conn es u x) → ∃ S1 S2, Rch m es S S1 ∧ v ∈ S1 ∧ IsSet m es S1 ∧ IsGr m es S1 [] ∧ IsSet m (cutE es u) S2 ∧ IsGr m (cutE es u) S2 [] ∧ (∀ x, x ∈ S2 ↔ x ∈ S1 ∧ x ≠ v) ∧ u ∉ S1 := by
      rintro S sS gS ⟨x, hx, cx⟩
      obtain ⟨S1, r1, v1⟩ := light_conn f sS gS hx (cx.symm.trans cuv)
      have s1 := (r1.both f sS).1
      have g1 := r1.gr f sS gS
      have h2 : ∀ x, x ∈ S1.filter (fun x => !decide (x = v)) ↔ x ∈ S1 ∧ x ≠ v := fun x => by
        rw [List.mem_filter, Bool.not_eq_true', decide_eq_false_iff_not]
      refine ⟨S1, S1.filter fun x => !decide (x = v), r1, v1, s1, g1, s1.sub (fun p hp => (List.mem_filter.mp hp).1) (s1.asc.filter _) (fun x hx => (List.mem_filter.mp hx).1), g1.less_leaf f s1 hv lf v1 h2, h2, fun z => s1.free u z v v1 (mem_nearL.mp huv).2⟩
    have hS : ∃ x ∈ S, Conn es u x := ⟨x, hx, cxu.symm⟩
    have hT : ∃ x ∈ T, Conn es u x := num_pos_iff.mp (by rw [← hc u]; exact num_pos_iff.mpr hS)
    obtain ⟨S1, S2, rS, vS, sS1, gS1, sS2, gS2, mS, nuS⟩ := bring sS gS hS
    obtain ⟨T1, T2, rT, vT, sT1, gT1, sT2, gT2, mT, nuT⟩ := bring sT gT hT
    have mS' : ∀ x, x ∈ S1 ↔ x ∈ S2 ∨ x = v := fun x => by
      rw [mS x]
      by_cases e : x = v
      · exact ⟨fun _ => .inr e, fun _ => e ▸ vS⟩
      · exact ⟨fun h => .inl ⟨h, e⟩, fun h => h.elim (·.1) (fun z => absurd z e)⟩
    have mT' : ∀ x, x ∈ T1 ↔ x ∈ T2 ∨ x = v := fun x => by
      rw [mT x]
      by_cases e : x = v
      · exact ⟨fun _ => .inr e, fun _ => e ▸ vT⟩
      · exact ⟨fun h => .inl ⟨h, e⟩, fun h => h.elim (·.1) (fun z => absurd z e)⟩
    have nvS : v ∉ S2 := fun z => ((mS v).mp z).2 rfl
    have nvT : v ∉ T2 := fun z => ((mT v).mp z).2 rfl
    have aS : ∀ B, num B S1 = num B [v] + num B S2 := fun B => num_add sS1.asc.nodup sS2.asc.nodup nvS mS'
    have aT : ∀ B, num B T1 = num B [v] + num B T2 := fun B => num_add sT1.asc.nodup sT2.asc.nodup nvT mT'
    have hB : ∀ c a b, Adj es a b → Conn es c a → Conn es c b := fun c a b ad h => .step h ad
    have c1 : ∀ c, num (Conn es c) S2 = num (Conn es c) T2 := fun c => by
      have h1 := aS (Conn es c)
      have h2 := aT (Conn es c)
      rw [rS.num f sS (hB c), hc c, ← rT.num f sT (hB c)] at h1
      omega
    -- lamps beside u are beside p
    have lone : ∀ {A : List Int}, IsGr m (cutE es u) A [] → ∀ x ∈ A, ∀ z ∈ nearL m es u, z ≠ p → ¬ Conn (cutE es u) z x := by
      intro A gA x hx z hz nz c
      have no : ∀ w, ¬ Adj (cutE es u) z w := fun w ad => by
        obtain ⟨h1, h2, h3⟩ := adj_cut.mp ad
        exact h3 (ot z hz nz w (adj_near f h1.symm))
      have := conn_lone no c
      subst this
      obtain ⟨w, hw⟩ := gA.beside hx
      exact no w (near_adj hw).symm
    have c2 : ∀ c, num (Conn (cutE es u) c) S2 = num (Conn (cutE es u) c) T2 := by
      intro c
      by_cases hcu : Conn es c u
      · by_cases e : c = u
        · subst e
          have no : ∀ w, ¬ Adj (cutE es c) c w := fun w ad => (adj_cut.mp ad).2.1 rfl
          rw [num_zero fun x hx z => nuS (by have := conn_lone no z; subst this; exact ((mS x).mp hx).1), num_zero fun x hx z => nuT (by have := conn_lone no z; subst this; exact ((mT x).mp hx).1)]
        · obtain ⟨z, hz, nz, cz⟩ := branch_at hcu.symm e
          have hzu : z ∈ nearL m es u := adj_near f hz.symm
          by_cases ep : z = p
          · subst ep
            have key : ∀ {A : List Int}, IsGr m (cutE es u) A [] → u ∉ A → num (Conn (cutE es u) c) A = num (Conn es c) A := by
              intro A gA nA
              refine num_congr fun x hx => ⟨conn_cut_mono, fun h => ?_⟩
              obtain ⟨w, hw, nw, cw⟩ := branch_at (hcu.symm.trans h) fun e => nA (e ▸ hx)
              by_cases ew : w = z
              · subst ew
                exact cz.symm.trans cw
              · exact absurd cw (lone gA x hx w (adj_near f hw.symm) ew)
            rw [key gS2 fun z => nuS ((mS u).mp z).1, key gT2 fun z => nuT ((mT u).mp z).1, c1 c]
          · rw [num_zero fun x hx k => lone gS2 x hx z hzu ep (cz.trans k), num_zero fun x hx k => lone gT2 x hx z hzu ep (cz.trans k)]
      · have key : ∀ x, Conn (cutE es u) c x ↔ Conn es c x := fun x => ⟨conn_cut_mono, conn_out hcu⟩
        rw [num_congr fun x _ => key x, num_congr fun x _ => key x, c1 c]
    have ln2 : S2.length = n := by
      have p1 : S1.Perm (v :: S2) := perm_of_mem sS1.asc.nodup (List.nodup_cons.mpr ⟨nvS, sS2.asc.nodup⟩) fun x => by rw [mS' x, List.mem_cons, Or.comm]
      have l1 := p1.length_eq
      have l2 : S1.length = S.length := by
        have := rS.num f sS (B := fun _ => True) (fun _ _ _ _ => trivial)
        have all : ∀ A : List Int, TL.num (fun _ => True) A = A.length := fun A => by
          unfold TL.num
          rw [List.filter_eq_self.mpr fun _ _ => @decide_eq_true _ (Classical.propDecidable _) trivial]
        rw [all, all] at this
        exact this
      rw [List.length_cons] at l1
      omega
    have r2 := reach_all f' sS2 sT2 gS2 gT2 c2 ln2
    obtain ⟨_, _, B1, rB, hB1⟩ := r2.with f lf (fun z => nuS ((mS u).mp z).1) nvS nvu sS1 mS'
    have eB : B1 = T1 := asc_ext (rB.both f sS1).1.asc sT1.asc fun x => by rw [hB1 x, mT' x]
    subst eB
    exact (rS.trans rB).trans (rT.both f sT).2
end
end TL
namespace TL
/-! ### the greatest lock and the numbers of lamps in its pieces tell what is reached -/
section
variable {m : Nat} {es : List (Int × Int)}
def inE (es : List (Int × Int)) (ws : List Int) : List (Int × Int) := es.filter fun p => decide (p.1 ∈ ws) && decide (p.2 ∈ ws)
theorem adj_in {ws : List Int} {a b : Int} : Adj (inE es ws) a b ↔ Adj es a b ∧ a ∈ ws ∧ b ∈ ws := by
  unfold Adj inE
  simp only [List.mem_filter, Bool.and_eq_true, decide_eq_true_eq]
  constructor
  · rintro (⟨h1, h2, h3⟩ | ⟨h1, h2, h3⟩)
    · exact ⟨.inl h1, h2, h3⟩
    · exact ⟨.inr h1, h3, h2⟩
  · rintro ⟨h1 | h1, h2, h3⟩
    · exact .inl ⟨h1, h2, h3⟩
    · exact .inr ⟨h1, h3, h2⟩
theorem near_in (f : IsFor m es) {ws : List Int} {a b : Int} : a ∈ nearL m (inE es ws) b ↔ a ∈ nearL m es b ∧ a ∈ ws ∧ b ∈ ws := by
  have f' : IsFor m (inE es ws) := f.part _
  constructor
  · intro h
    obtain ⟨h1, h2, h3⟩ := adj_in.mp (near_adj h)
    exact ⟨adj_near f h1, h2, h3⟩
  · rintro ⟨h1, h2, h3⟩
    exact adj_near f' (adj_in.mpr ⟨near_adj h1, h2, h3⟩)
/-- the vertices that a lock leaves -/
structure Apt (m : Nat) (es : List (Int × Int)) (G ws : List Int) : Prop where
  mem : ∀ x, x ∈ ws ↔ (0 ≤ x ∧ x < m) ∧ x ∉ G ∧ ∀ o ∈ nearL m es x, o ∉ G
theorem Apt.lamp {G ws S : List Int} (h : Apt m es G ws) (f : IsFor m es) (iss : IsSet m es S) (sub : ∀ x ∈ G, x ∈ S) {x : Int} (hx : x ∈ S) (n : x ∉ G) : x ∈ ws :=
  (h.mem x).mpr ⟨iss.rng x hx, n, fun o ho z => iss.free o (sub o z) x hx (mem_nearL.mp ho).2⟩
theorem IsGr.apart {G ws S S' : List Int} (h : Apt m es G ws) (f : IsFor m es) (iss : IsSet m es S) (gr : IsGr m es S G) (hS : ∀ x, x ∈ S' ↔ x ∈ S ∧ x ∉ G) : IsGr m (inE es ws) S' [] := by
  refine ⟨.nil, (fun _ h => nomatch h), (fun _ h => nomatch h), fun L sub cl x hx => ?_⟩
  have s1 : ∀ y ∈ L, y ∈ S ∧ y ∉ G := fun y hy => (hS y).mp (sub y hy)
  refine absurd (gr.max (L ++ G) (fun y hy => ?_) (Cl.of fun y hy z hz => ?_) x (List.mem_append.mpr (.inl hx))) (s1 x hx).2
  · rcases List.mem_append.mp hy with hy | hy
    · exact (s1 y hy).1
    · exact gr.sub y hy
  · rcases List.mem_append.mp hy with hy | hy
    · obtain ⟨y1, y2⟩ := s1 y hy
      have yw := h.lamp f iss gr.sub y1 y2
      by_cases zw : z ∈ ws
      · obtain ⟨w, w1, w2, w3⟩ := cl.other hy ((near_in f).mpr ⟨hz, zw, yw⟩)
        exact ⟨w, List.mem_append.mpr (.inl w1), w2, ((near_in f).mp w3).1⟩
      · have : ∃ o ∈ nearL m es z, o ∈ G := Classical.byContradiction fun no => zw ((h.mem z).mpr ⟨(mem_nearL.mp hz).1, ((h.mem y).mp yw).2.2 z hz, fun o ho hG => no ⟨o, ho, hG⟩⟩)
        obtain ⟨o, o1, o2⟩ := this
        exact ⟨o, List.mem_append.mpr (.inr o2), fun e => y2 (e ▸ o2), o1⟩
    · obtain ⟨w, w1, w2, w3⟩ := gr.cl.other hy hz
      exact ⟨w, List.mem_append.mpr (.inr w1), w2, w3⟩
/-- slides in the pieces are slides of the forest, beside the lock -/
theorem Rch.beside {G ws A B A1 : List Int} (h : Apt m es G ws) (f : IsFor m es) (hA : ∀ x ∈ A, x ∈ ws) (hA1 : ∀ x, x ∈ A1 ↔ x ∈ A ∨ x ∈ G) (r : Rch m (inE es ws) A B) :
    (∀ x ∈ B, x ∈ ws) ∧ ∃ B1, Rch m es A1 B1 ∧ ∀ x, x ∈ B1 ↔ x ∈ B ∨ x ∈ G := by
  induction r with
  | refl => exact ⟨hA, A1, .refl, hA1⟩
  | @step B a b _ p ih =>
    obtain ⟨hB, B1, r, hB1⟩ := ih
    obtain ⟨p1, p2, p3⟩ := mem_slidesP.mp p
    obtain ⟨q1, bw, aw⟩ := (near_in f).mp p2
    have q : (a, b) ∈ slidesP m es B1 := mem_slidesP.mpr ⟨(hB1 a).mpr (.inl p1), q1, List.eq_nil_iff_forall_not_mem.mpr fun o z => by
      obtain ⟨o1, o2, o3⟩ := mem_oth.mp z
      rcases (hB1 o).mp o2 with o2 | o2
      · have : o ∈ oth m (inE es ws) B a b := mem_oth.mpr ⟨(near_in f).mpr ⟨o1, hB o o2, bw⟩, o2, o3⟩
        rw [p3] at this
        cases this
      · exact ((h.mem b).mp bw).2.2 o o1 o2⟩
    have naG : a ∉ G := ((h.mem a).mp aw).2.1
    refine ⟨fun x hx => ?_, _, .step r q, fun x => ?_⟩
    · rcases mem_after.mp hx with hx | hx
      · exact hB x hx.1
      · exact hx ▸ bw
    · rw [mem_after, mem_after, hB1 x]
      constructor
      · rintro (⟨h1 | h1, h2⟩ | h1)
        · exact .inl (.inl ⟨h1, h2⟩)
        · exact .inr h1
        · exact .inl (.inr h1)
      · rintro ((⟨h1, h2⟩ | h1) | h1)
        · exact .inl ⟨.inl h1, h2⟩
        · exact .inr h1
        · exact .inl ⟨.inr h1, fun e => naG (e ▸ h1)⟩
theorem conn_in {ws : List Int} {c x : Int} (hc : c ∈ ws) (h : Conn (inE es ws) c x) : x ∈ ws := by
  induction h with
  | refl => exact hc
  | step _ e _ => exact (adj_in.mp e).2.2
theorem num_sub {B : Int → Prop} {S S' : List Int} (hS : S.Nodup) (hS' : S'.Nodup) (h : ∀ x, B x → (x ∈ S' ↔ x ∈ S)) : num B S' = num B S := by
  unfold num
  refine (perm_of_mem (hS'.filter _) (hS.filter _) fun x => ?_).length_eq
  rw [List.mem_filter, List.mem_filter]
  constructor
  · rintro ⟨h1, h2⟩
    exact ⟨(h x (@of_decide_eq_true _ (Classical.propDecidable _) h2)).mp h1, h2⟩
  · rintro ⟨h1, h2⟩
    exact ⟨(h x (@of_decide_eq_true _ (Classical.propDecidable _) h2)).mpr h1, h2⟩
theorem reach_pieces {G ws S T : List Int} (h : Apt m es G ws) (f : IsFor m es) (sS : IsSet m es S) (sT : IsSet m es T) (gS : IsGr m es S G) (gT : IsGr m es T G) (hc : ∀ c ∈ ws, num (Conn (inE es ws) c) S = num (Conn (inE es ws) c) T) : Rch m es S T := by
  have f' : IsFor m (inE es ws) := f.part _
  have mem : ∀ (A : List Int) (x : Int), x ∈ A.filter (fun x => !decide (x ∈ G)) ↔ x ∈ A ∧ x ∉ G := fun A x => by
    rw [List.mem_filter, Bool.not_eq_true', decide_eq_false_iff_not]
  have sub : ∀ p ∈ inE es ws, p ∈ es := fun p hp => (List.mem_filter.mp hp).1
  have cut : ∀ {A : List Int}, IsSet m es A → (∀ x ∈ G, x ∈ A) → ∀ c, num (Conn (inE es ws) c) (A.filter (fun x => !decide (x ∈ G))) = if c ∈ ws then num (Conn (inE es ws) c) A else 0 := by
    intro A sA gA c
    by_cases cw : c ∈ ws
    · rw [if_pos cw]
      refine num_sub sA.asc.nodup (sA.asc.nodup.filter _) fun x hx => ?_
      rw [mem]
      exact ⟨fun z => z.1, fun z => ⟨z, ((h.mem x).mp (conn_in cw hx)).2.1⟩⟩
    · rw [if_neg cw]
      refine num_zero fun x hx cx => ?_
      have : x = c := conn_lone (fun w ad => cw (adj_in.mp ad).2.1) cx
      subst this
      obtain ⟨h1, h2⟩ := (mem A x).mp hx
      exact cw (h.lamp f sA gA h1 h2)
  have r := reach_all f' (sS.sub sub (sS.asc.filter _) fun x hx => ((mem S x).mp hx).1) (sT.sub sub (sT.asc.filter _) fun x hx => ((mem T x).mp hx).1) (gS.apart h f sS (mem S)) (gT.apart h f sT (mem T)) (fun c => by
    rw [cut sS gS.sub c, cut sT gT.sub c]
    by_cases cw : c ∈ ws
    · rw [if_pos cw, if_pos cw, hc c cw]
    · rw [if_neg cw, if_neg cw]) rfl
  have back : ∀ {A : List Int}, (∀ x ∈ G, x ∈ A) → ∀ x, x ∈ A ↔ x ∈ A.filter (fun x => !decide (x ∈ G)) ∨ x ∈ G := by
    intro A gA x
    rw [mem]
    by_cases e : x ∈ G
    · exact ⟨fun _ => .inr e, fun _ => gA x e⟩
    · exact ⟨fun z => .inl ⟨z, e⟩, fun z => z.elim (·.1) (fun z => absurd z e)⟩
  obtain ⟨_, B1, rB, hB1⟩ := r.beside h f (fun x hx => by
    obtain ⟨h1, h2⟩ := (mem S x).mp hx
    exact h.lamp f sS gS.sub h1 h2) (back gS.sub)
  have e : B1 = T := asc_ext (rB.both f sS).1.asc sT.asc fun x => by rw [hB1 x, back gT.sub x]
  subst e
  exact rB
/-- by groups of one label -/
theorem Grp.conn {ws : List Int} {lb : Int → Int} {gs : List (Int × List Int)} (lab : Lab es ws lb) (gr : Grp lb ws gs) {g : Int × List Int} (hg : g ∈ gs) {c : Int} (hc : c ∈ g.2) (x : Int) : Conn (inE es ws) c x ↔ x ∈ g.2 := by
  have key : ∀ x, x ∈ g.2 ↔ x ∈ ws ∧ lb x = g.1 := fun x => by
    rw [(gr.is g hg).1, List.mem_filter, decide_eq_true_eq]
  obtain ⟨c1, c2⟩ := (key c).mp hc
  constructor
  · intro h
    refine (key x).mpr ⟨conn_in c1 h, ?_⟩
    induction h with
    | refl => exact c2
    | step _ e ih =>
      obtain ⟨h1, h2, h3⟩ := adj_in.mp e
      rcases h1 with h1 | h1
      · rw [← lab.join _ h1 h2 h3]
        exact ih
      · rw [lab.join _ h1 h3 h2]
        exact ih
  · intro h
    obtain ⟨h1, h2⟩ := (key x).mp h
    exact lab.conn c c1 x h1 (c2.trans h2.symm)
theorem num_grp {ws : List Int} {lb : Int → Int} {gs : List (Int × List Int)} (lab : Lab es ws lb) (gr : Grp lb ws gs) {g : Int × List Int} (hg : g ∈ gs) {c : Int} (hc : c ∈ g.2) (S : List Int) : num (Conn (inE es ws) c) S = (S.filter fun l => decide (l ∈ g.2)).length := by
  unfold num
  congr 1
  refine List.filter_congr fun x _ => ?_
  by_cases b : x ∈ g.2
  · rw [@decide_eq_true _ (Classical.propDecidable _) ((gr.conn lab hg hc x).mpr b), decide_eq_true b]
  · rw [@decide_eq_false _ (Classical.propDecidable _) (fun z => b ((gr.conn lab hg hc x).mp z)), decide_eq_false b]
theorem reach_groups {G ws S T : List Int} {lb : Int → Int} {gs : List (Int × List Int)} (h : Apt m es G ws) (f : IsFor m es) (sS : IsSet m es S) (sT : IsSet m es T) (gS : IsGr m es S G) (gT : IsGr m es T G) (lab : Lab es ws lb) (gr : Grp lb ws gs)
    (hc : ∀ g ∈ gs, (S.filter fun l => decide (l ∈ g.2)).length = (T.filter fun l => decide (l ∈ g.2)).length) : Rch m es S T := by
  refine reach_pieces h f sS sT gS gT fun c cw => ?_
  obtain ⟨g, hg, e⟩ := List.mem_map.mp (gr.all c cw)
  have hcg : c ∈ g.2 := by
    rw [(gr.is g hg).1, List.mem_filter, decide_eq_true_eq]
    exact ⟨cw, e.symm⟩
  rw [num_grp lab gr hg hcg, num_grp lab gr hg hcg, hc g hg]
/-- and what is reached has as many lamps in each piece -/
theorem Rch.pieces {G ws S T : List Int} (h : Apt m es G ws) (f : IsFor m es) (sS : IsSet m es S) (gS : IsGr m es S G) (r : Rch m es S T) (c : Int) : TL.num (Conn (inE es ws) c) T = TL.num (Conn (inE es ws) c) S := by
  induction r with
  | refl => rfl
  | @step T u v r p ih =>
    obtain ⟨p1, p2, p3⟩ := mem_slidesP.mp p
    have isT := (r.both f sS).1
    have gT := r.gr f sS gS
    obtain ⟨nu, nn⟩ := gT.fixed p
    have uw : u ∈ ws := h.lamp f isT gT.sub p1 nu
    have vw : v ∈ ws := (h.mem v).mpr ⟨(mem_nearL.mp p2).1, fun z => by
      have := gT.sub v z
      exact adj_free isT p1 p2 this, nn⟩
    have ad : Adj (inE es ws) u v := adj_in.mpr ⟨(near_adj p2).symm, uw, vw⟩
    rw [num_after isT.asc.nodup p1 ⟨fun z => .step z ad, fun z => .step z ad.symm⟩, ih]
theorem Rch.groups {G ws S T : List Int} {lb : Int → Int} {gs : List (Int × List Int)} (h : Apt m es G ws) (f : IsFor m es) (sS : IsSet m es S) (gS : IsGr m es S G) (lab : Lab es ws lb) (gr : Grp lb ws gs) (r : Rch m es S T) :
    ∀ g ∈ gs, (S.filter fun l => decide (l ∈ g.2)).length = (T.filter fun l => decide (l ∈ g.2)).length := by
  intro g hg
  obtain ⟨c, hc⟩ := List.exists_mem_of_ne_nil _ (gr.is g hg).2
  rw [← num_grp lab gr hg hc, ← num_grp lab gr hg hc, r.pieces h f sS gS c]
end
end TL
namespace TL
/-! ### normal lamps of a tree -/
section
variable {m : Nat} {es : List (Int × Int)}
def leafs (m : Nat) (es : List (Int × Int)) : List Int := (rng m).filter fun v => decide ((nearL m es v).length = 1)
def hdI (l : List Int) : Int := l.headD 0
def goodLeaf (m : Nat) (es : List (Int × Int)) (v : Int) : Bool := decide (((nearL m es (hdI (nearL m es v))).filter fun o => !decide (o ∈ leafs m es)).length ≤ 1)
def nextL (m : Nat) (es : List (Int × Int)) : Option Int := (leafs m es).find? (goodLeaf m es)
def normS (m : Nat) : List (Int × Int) → Nat → List (List (Int × Int) × Int)
  | _, 0 => []
  | es, k + 1 => match nextL m es with
    | some v => (es, v) :: normS m (cutE es (hdI (nearL m es v))) k
    | none => []
def normL (m : Nat) (es : List (Int × Int)) (k : Nat) : List Int := (normS m es k).map (·.2)
theorem mem_leafs {v : Int} : v ∈ leafs m es ↔ (0 ≤ v ∧ v < m) ∧ (nearL m es v).length = 1 := by
  unfold leafs
  rw [List.mem_filter, mem_rng, decide_eq_true_eq]
theorem near_rng (f : IsFor m es) {a b : Int} (h : a ∈ nearL m es b) : (0 ≤ a ∧ a < m) ∧ (0 ≤ b ∧ b < m) := ⟨(mem_nearL.mp h).1, (mem_nearL.mp ((mem_nearL_comm f).mp h)).1⟩
theorem one_of {l : List Int} (h : l.length = 1) : l = [hdI l] := by
  match l, h with
  | [a], _ => rfl
theorem leaf_of (f : IsFor m es) {u z : Int} (hz : z ∈ nearL m es u) (h : ∀ w ∈ nearL m es z, w = u) : z ∈ leafs m es := by
  refine mem_leafs.mpr ⟨(near_rng f hz).1, ?_⟩
  have hu : u ∈ nearL m es z := (mem_nearL_comm f).mp hz
  have nd : (nearL m es z).Nodup := (nearL_asc m es z).nodup
  have l1 := nd.length_le_of_subset (l₂ := [u]) fun w hw => by rw [h w hw]; exact List.mem_singleton.mpr rfl
  have l2 := List.length_pos_of_mem hu
  rw [List.length_singleton] at l1
  omega
/-- what is found: a leaf whose neighbour has at most one neighbour that is no leaf -/
theorem nextL_some (f : IsFor m es) {v : Int} (h : nextL m es = some v) : ∃ u, nearL m es v = [u] ∧ hdI (nearL m es v) = u ∧ v ∈ nearL m es u ∧ (∀ w ∈ nearL m es v, w = u) ∧ ∃ p, ∀ z ∈ nearL m es u, z ≠ p → ∀ w ∈ nearL m es z, w = u := by
  have h1 := List.mem_of_find?_eq_some h
  have h2 := List.find?_some h
  obtain ⟨hr, hl⟩ := mem_leafs.mp h1
  have e := one_of hl
  have huv : hdI (nearL m es v) ∈ nearL m es v := by rw [e]; exact List.mem_singleton.mpr rfl
  refine ⟨hdI (nearL m es v), e, rfl, (mem_nearL_comm f).mp huv, fun w hw => ?_, ?_⟩
  · rw [e] at hw
    exact List.mem_singleton.mp hw
  · have h3 : ((nearL m es (hdI (nearL m es v))).filter fun o => !decide (o ∈ leafs m es)).length ≤ 1 := of_decide_eq_true h2
    have key : ∀ z ∈ nearL m es (hdI (nearL m es v)), z ∈ leafs m es → ∀ w ∈ nearL m es z, w = hdI (nearL m es v) := fun z hz hzl w hw => by
      have e2 := one_of (mem_leafs.mp hzl).2
      have h4 : hdI (nearL m es v) ∈ nearL m es z := (mem_nearL_comm f).mp hz
      rw [e2] at hw h4
      rw [List.mem_singleton.mp hw, List.mem_singleton.mp h4]
    generalize hF : (nearL m es (hdI (nearL m es v))).filter (fun o => !decide (o ∈ leafs m es)) = F at h3
    have mF : ∀ z ∈ nearL m es (hdI (nearL m es v)), z ∉ F → z ∈ leafs m es := fun z hz nz => Classical.byContradiction fun no => nz (by
      rw [← hF, List.mem_filter, decide_eq_false no]
      exact ⟨hz, rfl⟩)
    match F, h3 with
    | [], _ => exact ⟨0, fun z hz _ => key z hz (mF z hz (fun h => nomatch h))⟩
    | [p], _ => exact ⟨p, fun z hz nz => key z hz (mF z hz fun h => nz (List.mem_singleton.mp h))⟩
theorem nextL_ex (f : IsFor m es) {x y : Int} (hy : y ∈ nearL m es x) : ∃ v, nextL m es = some v := by
  obtain ⟨u, v, p, _, hv, lf, ot⟩ := f.safe hy
  have hl := leaf_of f hv lf
  have e := one_of (mem_leafs.mp hl).2
  have eu : hdI (nearL m es v) = u := lf _ (by rw [e]; exact List.mem_singleton.mpr rfl)
  have good : goodLeaf m es v = true := by
    unfold goodLeaf
    rw [eu]
    refine decide_eq_true ?_
    have nd : ((nearL m es u).filter fun o => !decide (o ∈ leafs m es)).Nodup := (nearL_asc m es u).nodup.filter _
    exact nd.length_le_of_subset (l₂ := [p]) fun z hz => by
      obtain ⟨z1, z2⟩ := List.mem_filter.mp hz
      by_cases e : z = p
      · rw [e]
        exact List.mem_singleton.mpr rfl
      · rw [decide_eq_true (leaf_of f z1 (ot z z1 e))] at z2
        cases z2
  cases h : nextL m es with
  | some w => exact ⟨w, rfl⟩
  | none =>
    have := List.find?_eq_none.mp h v hl
    exact absurd good this
/-- all edges are in one part -/
def OneP (m : Nat) (es : List (Int × Int)) : Prop := ∀ a b c d, a ∈ nearL m es b → c ∈ nearL m es d → Conn es a c
theorem OneP.cut (f : IsFor m es) (o : OneP m es) {u p : Int} (ot : ∀ z ∈ nearL m es u, z ≠ p → ∀ w ∈ nearL m es z, w = u) : OneP m (cutE es u) := by
  -- every end of an edge that stays is joined with p
  have key : ∀ a b, a ∈ nearL m (cutE es u) b → ∀ x, x ∈ nearL m es u → Conn (cutE es u) p a := by
    intro a b h x hx
    obtain ⟨h1, na, nb⟩ := (near_cut f).mp h
    have hux : u ∈ nearL m es x := (mem_nearL_comm f).mp hx
    have c : Conn es u a := o _ _ _ _ hux h1
    obtain ⟨z, hz, nz, cz⟩ := branch_at c na
    by_cases e : z = p
    · subst e
      exact cz
    · exfalso
      have hzu := adj_near f hz.symm
      have no : ∀ w, ¬ Adj (cutE es u) z w := fun w ad => by
        obtain ⟨q1, _, q3⟩ := adj_cut.mp ad
        exact q3 (ot z hzu e w (adj_near f q1.symm))
      have := conn_lone no cz
      subst this
      exact no b (near_adj h)
  intro a b c d h1 h2
  by_cases hu : ∃ x, x ∈ nearL m es u
  · obtain ⟨x, hx⟩ := hu
    exact (key a b h1 x hx).symm.trans (key c d h2 x hx)
  · -- u has no edges: nothing changes
    have h1' := ((near_cut f).mp h1).1
    have h2' := ((near_cut f).mp h2).1
    have nc : ¬ Conn es a u := fun z => by
      obtain ⟨y, hy, _, _⟩ := branch_at z.symm ((near_cut f).mp h1).2.1
      exact hu ⟨y, adj_near f hy.symm⟩
    exact conn_out nc (o _ _ _ _ h1' h2')
theorem norm_reach : ∀ {k : Nat} {es : List (Int × Int)} {A : List Int}, IsFor m es → OneP m es → IsSet m es A → IsGr m es A [] → A.length = k → (normS m es k).length = k ∧ ∃ T, Rch m es A T ∧ (normL m es k).Nodup ∧ ∀ x, x ∈ T ↔ x ∈ normL m es k
  | 0, es, A, f, o, sA, gA, ln => by
    have e : A = [] := List.length_eq_zero_iff.mp ln
    subst e
    exact ⟨rfl, [], .refl, .nil, fun x => Iff.rfl⟩
  | k + 1, es, A, f, o, sA, gA, ln => by
    obtain ⟨x, hx⟩ := List.exists_mem_of_length_pos (l := A) (by omega)
    obtain ⟨y, hy⟩ := gA.beside hx
    obtain ⟨v, hv⟩ := nextL_ex f hy
    obtain ⟨u, e1, e2, hvu, lf, p, ot⟩ := nextL_some f hv
    have huv : u ∈ nearL m es v := (mem_nearL_comm f).mp hvu
    have nvu : v ≠ u := near_ne f hvu
    have f' : IsFor m (cutE es u) := f.part _
    have cxv : Conn es x v := o _ _ _ _ ((mem_nearL_comm f).mp hy) hvu
    obtain ⟨A1, r1, v1⟩ := light_conn f sA gA hx cxv
    have s1 := (r1.both f sA).1
    have g1 := r1.gr f sA gA
    have h2 : ∀ x, x ∈ A1.filter (fun x => !decide (x = v)) ↔ x ∈ A1 ∧ x ≠ v := fun x => by
      rw [List.mem_filter, Bool.not_eq_true', decide_eq_false_iff_not]
    have s2 : IsSet m (cutE es u) (A1.filter fun x => !decide (x = v)) := s1.sub (fun p hp => (List.mem_filter.mp hp).1) (s1.asc.filter _) (fun x hx => (List.mem_filter.mp hx).1)
    have g2 : IsGr m (cutE es u) (A1.filter fun x => !decide (x = v)) [] := g1.less_leaf f s1 hvu lf v1 h2
    have nvS : v ∉ A1.filter (fun x => !decide (x = v)) := fun z => ((h2 v).mp z).2 rfl
    have mS' : ∀ x, x ∈ A1 ↔ x ∈ A1.filter (fun x => !decide (x = v)) ∨ x = v := fun x => by
      rw [h2 x]
      by_cases e : x = v
      · exact ⟨fun _ => .inr e, fun _ => e ▸ v1⟩
      · exact ⟨fun h => .inl ⟨h, e⟩, fun h => h.elim (·.1) (fun z => absurd z e)⟩
    have all : ∀ A : List Int, TL.num (fun _ => True) A = A.length := fun A => by
      unfold TL.num
      rw [List.filter_eq_self.mpr fun _ _ => @decide_eq_true _ (Classical.propDecidable _) trivial]
    have ln2 : (A1.filter fun x => !decide (x = v)).length = k := by
      have p1 : A1.Perm (v :: A1.filter fun x => !decide (x = v)) := perm_of_mem s1.asc.nodup (List.nodup_cons.mpr ⟨nvS, s2.asc.nodup⟩) fun x => by rw [mS' x, List.mem_cons, Or.comm]
      have l1 := p1.length_eq
      have l2 := r1.num f sA (B := fun _ => True) (fun _ _ _ _ => trivial)
      rw [all, all] at l2
      rw [List.length_cons] at l1
      omega
    obtain ⟨ih1, T, rT, nd, mT⟩ := norm_reach f' (o.cut f ot) s2 g2 ln2
    have en : normS m es (k + 1) = (es, v) :: normS m (cutE es u) k := by
      show (match nextL m es with | some v => (es, v) :: normS m (cutE es (hdI (nearL m es v))) k | none => []) = _
      rw [hv]
      show (es, v) :: normS m (cutE es (hdI (nearL m es v))) k = _
      rw [e2]
    have en2 : normL m es (k + 1) = v :: normL m (cutE es u) k := by
      unfold normL
      rw [en]
      rfl
    have nuS : u ∉ A1.filter (fun x => !decide (x = v)) := fun z => s1.free u ((h2 u).mp z).1 v v1 (mem_nearL.mp huv).2
    obtain ⟨nuT, nvT, B1, rB, hB1⟩ := rT.with f lf nuS nvS nvu s1 mS'
    refine ⟨by rw [en, List.length_cons, ih1], B1, r1.trans rB, ?_, fun x => ?_⟩
    · rw [en2]
      exact List.nodup_cons.mpr ⟨fun z => nvT ((mT v).mpr z), nd⟩
    · rw [hB1 x, mT x, en2, List.mem_cons, Or.comm]
/-! ### slides in one piece are slides of the forest -/
theorem Rch.inPiece {Pc W A B A1 : List Int} (f : IsFor m es) (hW : ∀ b ∈ Pc, b ∉ W ∧ ∀ o ∈ nearL m es b, o ∉ W) (hA : ∀ x ∈ A, x ∈ Pc) (hA1 : ∀ x, x ∈ A1 ↔ x ∈ A ∨ x ∈ W) (r : Rch m (inE es Pc) A B) :
    (∀ x ∈ B, x ∈ Pc) ∧ ∃ B1, Rch m es A1 B1 ∧ ∀ x, x ∈ B1 ↔ x ∈ B ∨ x ∈ W := by
  induction r with
  | refl => exact ⟨hA, A1, .refl, hA1⟩
  | @step B a b _ p ih =>
    obtain ⟨hB, B1, r, hB1⟩ := ih
    obtain ⟨p1, p2, p3⟩ := mem_slidesP.mp p
    obtain ⟨q1, bw, aw⟩ := (near_in f).mp p2
    have q : (a, b) ∈ slidesP m es B1 := mem_slidesP.mpr ⟨(hB1 a).mpr (.inl p1), q1, List.eq_nil_iff_forall_not_mem.mpr fun o z => by
      obtain ⟨o1, o2, o3⟩ := mem_oth.mp z
      rcases (hB1 o).mp o2 with o2 | o2
      · have : o ∈ oth m (inE es Pc) B a b := mem_oth.mpr ⟨(near_in f).mpr ⟨o1, hB o o2, bw⟩, o2, o3⟩
        rw [p3] at this
        cases this
      · exact (hW b bw).2 o o1 o2⟩
    refine ⟨fun x hx => ?_, _, .step r q, fun x => ?_⟩
    · rcases mem_after.mp hx with hx | hx
      · exact hB x hx.1
      · exact hx ▸ bw
    · rw [mem_after, mem_after, hB1 x]
      constructor
      · rintro (⟨h1 | h1, h2⟩ | h1)
        · exact .inl (.inl ⟨h1, h2⟩)
        · exact .inr h1
        · exact .inl (.inr h1)
      · rintro ((⟨h1, h2⟩ | h1) | h1)
        · exact .inl ⟨.inl h1, h2⟩
        · exact .inr h1
        · exact .inl ⟨.inr h1, fun e => (hW a aw).1 (e ▸ h1)⟩
/-- the lamps of a piece, by themselves -/
structure Pce (m : Nat) (es : List (Int × Int)) (S b : List Int) : Prop where
  one : OneP m (inE es b)
  set : IsSet m (inE es b) (S.filter fun l => decide (l ∈ b))
  gr : IsGr m (inE es b) (S.filter fun l => decide (l ∈ b)) []
theorem pce_of {G ws S : List Int} {lb : Int → Int} {gs : List (Int × List Int)} (h : Apt m es G ws) (f : IsFor m es) (sS : IsSet m es S) (gS : IsGr m es S G) (lab : Lab es ws lb) (gr : Grp lb ws gs) {g : Int × List Int} (hg : g ∈ gs) : Pce m es S g.2 := by
  have key : ∀ x, x ∈ g.2 ↔ x ∈ ws ∧ lb x = g.1 := fun x => by rw [(gr.is g hg).1, List.mem_filter, decide_eq_true_eq]
  have stay : ∀ {a b : Int}, a ∈ g.2 → Adj (inE es ws) a b → b ∈ g.2 := fun {a b} ha ad => (gr.conn lab hg ha b).mp (.step (.refl _) ad)
  have inner : ∀ {a b : Int}, a ∈ g.2 → Conn (inE es ws) a b → Conn (inE es g.2) a b := fun {a b} ha c => by
    induction c with
    | refl => exact .refl _
    | @step b c h1 e ih =>
      have hb := (gr.conn lab hg ha b).mp h1
      have hc := stay hb e
      exact .step ih (adj_in.mpr ⟨(adj_in.mp e).1, hb, hc⟩)
  have memA : ∀ x, x ∈ S.filter (fun l => decide (l ∈ g.2)) ↔ x ∈ S ∧ x ∈ g.2 := fun x => by rw [List.mem_filter, decide_eq_true_eq]
  refine ⟨fun a b c d h1 h2 => ?_, ⟨sS.asc.filter _, fun v hv => sS.rng v (List.mem_filter.mp hv).1, fun u hu v hv z => sS.free u (List.mem_filter.mp hu).1 v (List.mem_filter.mp hv).1 (List.mem_filter.mp z).1⟩, ⟨.nil, (fun _ h => nomatch h), (fun _ h => nomatch h), fun L sub cl x hx => ?_⟩⟩
  · have ha := ((near_in f).mp h1).2.1
    have hc := ((near_in f).mp h2).2.1
    exact inner ha ((gr.conn lab hg ha c).mpr hc)
  · have memS : ∀ x, x ∈ S.filter (fun x => !decide (x ∈ G)) ↔ x ∈ S ∧ x ∉ G := fun x => by rw [List.mem_filter, Bool.not_eq_true', decide_eq_false_iff_not]
    refine (gS.apart h f sS memS).max L (fun y hy => ?_) (Cl.of fun y hy z hz => ?_) x hx
    · obtain ⟨y1, y2⟩ := (memA y).mp (sub y hy)
      exact (memS y).mpr ⟨y1, ((h.mem y).mp ((key y).mp y2).1).2.1⟩
    · have y2 := ((memA y).mp (sub y hy)).2
      obtain ⟨z1, zw, yw⟩ := (near_in f).mp hz
      have zg : z ∈ g.2 := stay y2 (adj_in.mpr ⟨(near_adj z1).symm, yw, zw⟩)
      obtain ⟨w, w1, w2, w3⟩ := cl.other hy ((near_in f).mpr ⟨z1, zg, y2⟩)
      obtain ⟨w4, w5, _⟩ := (near_in f).mp w3
      exact ⟨w, w1, w2, (near_in f).mpr ⟨w4, ((key w).mp w5).1, zw⟩⟩
def cntS (S b : List Int) : Nat := (S.filter fun l => decide (l ∈ b)).length
def normOf (m : Nat) (es : List (Int × Int)) (S b : List Int) : List Int := normL m (inE es b) (cntS S b)
theorem Pce.norm {S b : List Int} (f : IsFor m es) (h : Pce m es S b) : (normS m (inE es b) (cntS S b)).length = cntS S b ∧ ∃ T, Rch m (inE es b) (S.filter fun l => decide (l ∈ b)) T ∧ (normOf m es S b).Nodup ∧ ∀ x, x ∈ T ↔ x ∈ normOf m es S b :=
  norm_reach (f.part _) h.one h.set h.gr rfl
theorem norm_all {G ws S : List Int} {lb : Int → Int} {gs : List (Int × List Int)} (h : Apt m es G ws) (f : IsFor m es) (sS : IsSet m es S) (gS : IsGr m es S G) (lab : Lab es ws lb) (gr : Grp lb ws gs) : ∀ ps : List (Int × List Int), (∀ g ∈ ps, g ∈ gs) → (ps.map (·.1)).Nodup →
    (G ++ ps.flatMap fun g => normOf m es S g.2).Nodup ∧ (∀ g ∈ ps, ∀ x ∈ normOf m es S g.2, x ∈ g.2) ∧ ∃ T, Rch m es S T ∧ ∀ x, x ∈ T ↔ x ∈ G ++ (ps.flatMap fun g => normOf m es S g.2) ∨ (x ∈ S ∧ x ∉ G ∧ ∀ g ∈ ps, x ∉ g.2)
  | [], _, _ => by
    refine ⟨by rw [List.flatMap_nil, List.append_nil]; exact gS.asc.nodup, (fun _ h => nomatch h), S, .refl, fun x => ?_⟩
    rw [List.flatMap_nil, List.append_nil]
    constructor
    · intro hx
      by_cases e : x ∈ G
      · exact .inl e
      · exact .inr ⟨hx, e, fun _ h => nomatch h⟩
    · rintro (hx | hx)
      · exact gS.sub x hx
      · exact hx.1
  | g :: ps, hps, nd => by
    have nd' := List.nodup_cons.mp nd
    have hg := hps g List.mem_cons_self
    obtain ⟨ihn, ihs, T, rT, mT⟩ := norm_all h f sS gS lab gr ps (fun q hq => hps q (List.mem_cons_of_mem _ hq)) nd'.2
    have key : ∀ q ∈ gs, ∀ x, x ∈ q.2 ↔ x ∈ ws ∧ lb x = q.1 := fun q hq x => by rw [(gr.is q hq).1, List.mem_filter, decide_eq_true_eq]
    have dis : ∀ q ∈ ps, ∀ x, x ∈ q.2 → x ∉ g.2 := fun q hq x h1 h2 => by
      have a := ((key q (hps q (List.mem_cons_of_mem _ hq)) x).mp h1).2
      have b := ((key g hg x).mp h2).2
      exact nd'.1 (List.mem_map.mpr ⟨q, hq, by rw [← a, b]⟩)
    have gw : ∀ x ∈ g.2, x ∈ ws := fun x hx => ((key g hg x).mp hx).1
    have pc := pce_of h f sS gS lab gr hg
    obtain ⟨_, N, rN, ndN, mN⟩ := pc.norm f
    have sT := (rT.both f sS).1
    -- the lamps of the piece are still there
    have same : ∀ x, x ∈ g.2 → (x ∈ T ↔ x ∈ S) := fun x hx => by
      have nG : x ∉ G := ((h.mem x).mp (gw x hx)).2.1
      rw [mT x, List.mem_append, List.mem_flatMap]
      constructor
      · rintro ((z | ⟨q, hq, z⟩) | z)
        · exact absurd z nG
        · exact absurd hx (dis q hq x (ihs q hq x z))
        · exact z.1
      · intro z
        exact .inr ⟨z, nG, fun q hq z2 => dis q hq x z2 hx⟩
    have memA : ∀ x, x ∈ S.filter (fun l => decide (l ∈ g.2)) ↔ x ∈ S ∧ x ∈ g.2 := fun x => by rw [List.mem_filter, decide_eq_true_eq]
    have memW : ∀ x, x ∈ T.filter (fun l => !decide (l ∈ g.2)) ↔ x ∈ T ∧ x ∉ g.2 := fun x => by rw [List.mem_filter, Bool.not_eq_true', decide_eq_false_iff_not]
    have gT := rT.gr f sS gS
    obtain ⟨hN, B1, rB, hB1⟩ := rN.inPiece f (W := T.filter fun l => !decide (l ∈ g.2)) (A1 := T) (fun b hb => ⟨fun z => ((memW b).mp z).2 hb, fun o ho z => by
      obtain ⟨z1, z2⟩ := (memW o).mp z
      have oG : o ∉ G := ((h.mem b).mp (gw b hb)).2.2 o ho
      have ow := h.lamp f sT gT.sub z1 oG
      exact z2 ((gr.conn lab hg hb o).mp (.step (.refl _) (adj_in.mpr ⟨(near_adj ho).symm, gw b hb, ow⟩)))⟩) (fun x hx => ((memA x).mp hx).2) (fun x => by
      rw [memA, memW]
      by_cases e : x ∈ g.2
      · rw [same x e]
        exact ⟨fun z => .inl ⟨z, e⟩, fun z => z.elim (·.1) (fun z => absurd e z.2)⟩
      · exact ⟨fun z => .inr ⟨z, e⟩, fun z => z.elim (fun z => absurd z.2 e) (·.1)⟩)
    have nmem : ∀ x ∈ normOf m es S g.2, x ∈ g.2 := fun x hx => hN x ((mN x).mpr hx)
    refine ⟨?_, fun q hq x hx => ?_, B1, rT.trans rB, fun x => ?_⟩
    · rw [List.flatMap_cons]
      have e : (G ++ (normOf m es S g.2 ++ ps.flatMap fun g => normOf m es S g.2)).Perm (normOf m es S g.2 ++ (G ++ ps.flatMap fun g => normOf m es S g.2)) := by
        rw [← List.append_assoc, ← List.append_assoc]
        exact List.perm_append_comm.append_right _
      refine e.nodup_iff.mpr (List.nodup_append.mpr ⟨ndN, ihn, fun a ha b hb e => ?_⟩)
      subst e
      have ag := nmem a ha
      rcases List.mem_append.mp hb with z | z
      · exact ((h.mem a).mp (gw a ag)).2.1 z
      · obtain ⟨q, hq, z⟩ := List.mem_flatMap.mp z
        exact dis q hq a (ihs q hq a z) ag
    · rcases List.mem_cons.mp hq with rfl | hq
      · exact nmem x hx
      · exact ihs q hq x hx
    · rw [hB1 x, mN x, memW, mT x, List.flatMap_cons, List.mem_append, List.mem_append, List.mem_append]
      constructor
      · rintro (z | ⟨(z | z) | z, n⟩)
        · exact .inl (.inr (.inl z))
        · exact .inl (.inl z)
        · exact .inl (.inr (.inr z))
        · refine .inr ⟨z.1, z.2.1, fun q hq => ?_⟩
          rcases List.mem_cons.mp hq with rfl | hq
          · exact n
          · exact z.2.2 q hq
      · rintro ((z | (z | z)) | z)
        · exact .inr ⟨.inl (.inl z), fun e => ((h.mem x).mp (gw x e)).2.1 z⟩
        · exact .inl z
        · obtain ⟨q, hq, z2⟩ := List.mem_flatMap.mp z
          exact .inr ⟨.inl (.inr z), fun e => dis q hq x (ihs q hq x z2) e⟩
        · exact .inr ⟨.inr ⟨z.1, z.2.1, fun q hq => z.2.2 q (List.mem_cons_of_mem _ hq)⟩, z.2.2 g List.mem_cons_self⟩
/-- the normal setting is reached -/
theorem norm_set {G ws S : List Int} {lb : Int → Int} {gs : List (Int × List Int)} (h : Apt m es G ws) (f : IsFor m es) (sS : IsSet m es S) (gS : IsGr m es S G) (lab : Lab es ws lb) (gr : Grp lb ws gs) :
    Rch m es S (srtI (G ++ gs.flatMap fun g => normOf m es S g.2)) := by
  obtain ⟨nd, _, T, rT, mT⟩ := norm_all h f sS gS lab gr gs (fun _ h => h) gr.nd
  have e : T = srtI (G ++ gs.flatMap fun g => normOf m es S g.2) := asc_ext (rT.both f sS).1.asc (srtI_asc nd) fun x => by
    rw [mT x, mem_srtI]
    refine ⟨fun z => z.elim id fun z => ?_, .inl⟩
    exfalso
    have xw := h.lamp f sS gS.sub z.1 z.2.1
    obtain ⟨g, hg, e⟩ := List.mem_map.mp (gr.all x xw)
    refine z.2.2 g hg ?_
    rw [(gr.is g hg).1, List.mem_filter, decide_eq_true_eq]
    exact ⟨xw, e.symm⟩
  rw [← e]
  exact rT
end
end TL
namespace TL
/-! ### there is a greatest lock, there are labels and groups -/
theorem gr_ex {m : Nat} {es : List (Int × Int)} {S : List Int} (asc : Asc S) : ∃ G, IsGr m es S G := by
  have mem : ∀ x, x ∈ S.filter (fun x => @decide (∃ T : List Int, (∀ y ∈ T, y ∈ S) ∧ Cl m es T ∧ x ∈ T) (Classical.propDecidable _)) ↔ ∃ T : List Int, (∀ y ∈ T, y ∈ S) ∧ Cl m es T ∧ x ∈ T := fun x => by
    rw [List.mem_filter]
    exact ⟨fun h => @of_decide_eq_true _ (Classical.propDecidable _) h.2, fun h => ⟨h.elim fun T hT => hT.1 x hT.2.2, @decide_eq_true _ (Classical.propDecidable _) h⟩⟩
  refine ⟨_, asc.filter _, fun x hx => (List.mem_filter.mp hx).1, Cl.of fun x hx v hv => ?_, fun T sub cl x hx => (mem x).mpr ⟨T, sub, cl, hx⟩⟩
  obtain ⟨T, sub, cl, hT⟩ := (mem x).mp hx
  obtain ⟨y, y1, y2, y3⟩ := cl.other hT hv
  exact ⟨y, (mem y).mpr ⟨T, sub, cl, y1⟩, y2, y3⟩
theorem lab_exR (vs : List Int) : ∀ es : List (Int × Int), ∃ f, Lab es.reverse vs f
  | [] => ⟨id, Lab.start vs⟩
  | p :: es => by
    obtain ⟨f, h⟩ := lab_exR vs es
    rw [List.reverse_cons]
    by_cases c : p.1 ∈ vs ∧ p.2 ∈ vs
    · exact ⟨_, h.merge c.1 c.2⟩
    · exact ⟨f, h.skip c⟩
theorem lab_ex (es : List (Int × Int)) (vs : List Int) : ∃ f, Lab es vs f := by
  have := lab_exR vs es.reverse
  rw [List.reverse_reverse] at this
  exact this
theorem grp_exR (f : Int → Int) : ∀ T : List Int, ∃ gs, Grp f T.reverse gs
  | [] => ⟨[], Grp.start f⟩
  | v :: T => by
    obtain ⟨gs, h⟩ := grp_exR f T
    rw [List.reverse_cons]
    exact ⟨_, h.add v⟩
theorem grp_ex (f : Int → Int) (T : List Int) : ∃ gs, Grp f T gs := by
  have := grp_exR f T.reverse
  rw [List.reverse_reverse] at this
  exact this
end TL
namespace TL
/-! ### a list of different ascending lists of vertices has at most 2 ^ m items -/
def subs : List Int → List (List Int)
  | [] => [[]]
  | a :: l => subs l ++ (subs l).map (a :: ·)
theorem subs_length : ∀ l : List Int, (subs l).length = 2 ^ l.length
  | [] => rfl
  | a :: l => by
    show (subs l ++ (subs l).map (a :: ·)).length = 2 ^ (l.length + 1)
    rw [List.length_append, List.length_map, subs_length l, Nat.pow_succ]
    omega
theorem mem_subs {r l : List Int} (h : r.Sublist l) : r ∈ subs l := by
  induction h with
  | slnil => exact List.mem_singleton.mpr rfl
  | cons a _ ih => exact List.mem_append_left _ ih
  | cons_cons a _ ih => exact List.mem_append_right _ (List.mem_map.mpr ⟨_, ih, rfl⟩)
theorem asc_sublist : ∀ {l r : List Int}, Asc l → Asc r → (∀ x ∈ r, x ∈ l) → r.Sublist l
  | [], [], _, _, _ => List.Sublist.slnil
  | [], x :: _, _, _, h => nomatch h x List.mem_cons_self
  | a :: l, [], _, _, _ => List.nil_sublist _
  | a :: l, x :: r, hl, hr, h => by
    obtain ⟨l1, l2⟩ := List.pairwise_cons.mp hl
    obtain ⟨r1, r2⟩ := List.pairwise_cons.mp hr
    by_cases e : x = a
    · subst e
      refine (asc_sublist l2 r2 fun y hy => ?_).cons_cons _
      rcases List.mem_cons.mp (h y (List.mem_cons_of_mem _ hy)) with rfl | z
      · exact absurd (r1 _ hy) (Int.lt_irrefl _)
      · exact z
    · refine (asc_sublist l2 hr fun y hy => ?_).cons _
      have hx : x ∈ l := (List.mem_cons.mp (h x List.mem_cons_self)).resolve_left e
      rcases List.mem_cons.mp (h y hy) with rfl | z
      · exfalso
        have ax := l1 x hx
        rcases List.mem_cons.mp hy with rfl | hy
        · exact e rfl
        · have := r1 _ hy
          omega
      · exact z
theorem sets_few {m : Nat} {es : List (Int × Int)} {L : List (List Int)} (nd : L.Nodup) (h : ∀ r ∈ L, IsSet m es r) : L.length ≤ 2 ^ m := by
  have := nd.length_le_of_subset (l₂ := subs (rng m)) fun r hr => mem_subs (asc_sublist (rng_asc m) (h r hr).asc fun x hx => mem_rng.mpr ((h r hr).rng x hx))
  rw [subs_length, rng_length] at this
  exact this
end TL
namespace TL
open PySem PySem.Spec PyProof.Rows L2
/-! ### min(a list of ints) -/
def rMinI (K : PySem.W.Frag) : List V → Hp → VK → Prop := fun vs H Q => ∃ (a : Addr) (n : Int) (ns : List Int), vs = [.ref a] ∧ SqL K H a ((n :: ns).map V.int) ∧ Q (.int (ns.foldl min n)) H
theorem foldl_min {n : Int} : ∀ {ns : List Int}, (∀ k ∈ ns, n ≤ k) → ns.foldl min n = n
  | [], _ => rfl
  | k :: ns, h => by
    rw [List.foldl_cons, show min n k = n from Int.min_eq_left (h k List.mem_cons_self)]
    exact foldl_min fun j hj => h j (List.mem_cons_of_mem _ hj)
section
variable {X : Cx}
theorem depth_ints : ∀ ns : List Int, PyData.depthAll (ns.map .int) = 0
  | [] => by simp [PyData.depthAll]
  | n :: ns => by simp [PyData.depthAll, PyData.depth, depth_ints ns]
theorem call_minI (hc : X.calm = true) (hu : X.A.units + 64 < cLine) : CallR X (.builtin "min") (rMinI X.K) := by
  intro pins s σ H vs us Q I r h
  obtain ⟨a, n, ns, rfl, hs, q⟩ := h
  rw [Vals.ref1 r]
  obtain ⟨its, rv, hl, _⟩ := I.list hs
  obtain ⟨as, hr⟩ := Dp.readsAll I _ _ _ (DpAll.of_ints (n :: ns)) rv
  refine PySem.W.min_list_data (x := .int n) (xs := ns.map .int) (as := as) (I.ok.hd hc) hl.isList hr ⟨fun x hx y hy => ?_, fun x hx => ?_⟩ ?_ (fun i v h' tk bs hv rd hk => ?_)
  · have hx : x ∈ (n :: ns).map PyData.int := hx
    have hy : y ∈ (n :: ns).map PyData.int := hy
    obtain ⟨i, _, rfl⟩ := List.mem_map.mp hx
    obtain ⟨j, _, rfl⟩ := List.mem_map.mp hy
    simp [PySem.W.alike]
  · have hx : x ∈ (n :: ns).map PyData.int := hx
    obtain ⟨i, _, rfl⟩ := List.mem_map.mp hx
    exact fun z => nomatch z
  · have e : PyData.depthAll (PyData.int n :: ns.map .int) = 0 := depth_ints (n :: ns)
    rw [e]
    omega
  · rw [PySem.W.minD_ints] at rd
    cases rd
    exact ⟨.int _, H, I.kept hk, ⟨_, rfl⟩, q⟩
def rMaxI (K : PySem.W.Frag) : List V → Hp → VK → Prop := fun vs H Q => ∃ (a : Addr) (n : Int) (ns : List Int), vs = [.ref a] ∧ SqL K H a ((n :: ns).map V.int) ∧ Q (.int (ns.foldl max n)) H
theorem call_maxI (hc : X.calm = true) (hu : X.A.units + 64 < cLine) : CallR X (.builtin "max") (rMaxI X.K) := by
  intro pins s σ H vs us Q I r h
  obtain ⟨a, n, ns, rfl, hs, q⟩ := h
  rw [Vals.ref1 r]
  obtain ⟨its, rv, hl, _⟩ := I.list hs
  obtain ⟨as, hr⟩ := Dp.readsAll I _ _ _ (DpAll.of_ints (n :: ns)) rv
  refine PySem.W.max_list_data (x := .int n) (xs := ns.map .int) (as := as) (I.ok.hd hc) hl.isList hr ⟨fun x hx y hy => ?_, fun x hx => ?_⟩ ?_ (fun i v h' tk bs hv rd hk => ?_)
  · have hx : x ∈ (n :: ns).map PyData.int := hx
    have hy : y ∈ (n :: ns).map PyData.int := hy
    obtain ⟨i, _, rfl⟩ := List.mem_map.mp hx
    obtain ⟨j, _, rfl⟩ := List.mem_map.mp hy
    simp [PySem.W.alike]
  · have hx : x ∈ (n :: ns).map PyData.int := hx
    obtain ⟨i, _, rfl⟩ := List.mem_map.mp hx
    exact fun z => nomatch z
  · have e : PyData.depthAll (PyData.int n :: ns.map .int) = 0 := depth_ints (n :: ns)
    rw [e]
    omega
  · rw [PySem.W.maxD_ints] at rd
    cases rd
    exact ⟨.int _, H, I.kept hk, ⟨_, rfl⟩, q⟩
theorem maxIK (K : PySem.W.Frag) (hu : X.A.units + 64 < cLine) (hc : X.calm = true := by rfl) (h : X.K = K := by rfl) : CallR X (.builtin "max") (rMaxI K) := h ▸ call_maxI hc hu
theorem minIK (K : PySem.W.Frag) (hu : X.A.units + 64 < cLine) (hc : X.calm = true := by rfl) (h : X.K = K := by rfl) : CallR X (.builtin "min") (rMinI K) := h ▸ call_minI hc hu
end
end TL
namespace TL
open PySem PySem.Spec PyProof.Rows L2
/-! ### sorted, of a set of tuples of ints of any lengths -/
theorem perm_map {α β : Type} {f : α → β} {vs ms : List β} (h : vs.Perm ms) : ∀ {l : List α}, ms = l.map f → ∃ l' : List α, l'.Perm l ∧ vs = l'.map f := by
  induction h with
  | nil =>
    intro l e
    exact ⟨l, .refl _, e⟩
  | cons x _ ih =>
    intro l e
    cases l with
    | nil => cases e
    | cons y l =>
      rw [List.map_cons] at e
      injection e with e1 e2
      obtain ⟨l', p, e3⟩ := ih e2
      exact ⟨y :: l', p.cons y, by rw [List.map_cons, ← e1, e3]⟩
  | swap x y l0 =>
    intro l e
    match l, e with
    | a :: b :: l, e =>
      rw [List.map_cons, List.map_cons] at e
      injection e with e1 e2
      injection e2 with e2 e3
      exact ⟨b :: a :: l, .swap _ _ _, by rw [List.map_cons, List.map_cons, ← e1, ← e2, e3]⟩
  | trans _ _ ih1 ih2 =>
    intro l e
    obtain ⟨l2, p2, e2⟩ := ih2 e
    obtain ⟨l1, p1, e1⟩ := ih1 e2
    exact ⟨l1, p1.trans p2, e1⟩
theorem reads_ints {h : Heap} : ∀ {vs : List Value} {ns : List Int}, IntsAre vs ns → ReadsAll h vs (ns.map .int) []
  | [], [], _ => .nil
  | v :: vs, n :: ns, a => by
    cases a with
    | cons _ t a2 => exact ReadsAll.cons (as := []) (bs := []) (.int n t) (reads_ints a2)
def rSortSet (K : PySem.W.Frag) (P : Program) (w : World) : List V → Hp → VK → Prop := fun vs H Q => ∃ (a : Addr) (L : List (Addr × List Int)), vs = [V.ref a] ∧ H a = some (SetTO P w a L) ∧ (∀ p ∈ L, SqT K H p.1 (p.2.map V.int)) ∧ (∀ p ∈ L, p.2 ≠ []) ∧
  ∀ (L' : List (Addr × List Int)) p ys, H p = none → L'.Perm L → (L'.map (·.2)).Nodup → DpAll K H ys (((L'.map (·.2)).mergeSort (PySem.W.dataLe false intsD)).map intsD) → Q (.ref p) (upd H p (.lst ys))
theorem alike_ints : ∀ x y : List Int, PySem.W.alikeAll (x.map PyData.int) (y.map PyData.int) = true := by
  intro x
  induction x with
  | nil => intro y; cases y <;> simp [PySem.W.alikeAll]
  | cons n x ih =>
    intro y
    cases y with
    | nil => simp [PySem.W.alikeAll]
    | cons k y => simp [PySem.W.alikeAll, PySem.W.alike, ih y]
theorem dataLe_intsD : PySem.W.dataLe false intsD = fun p q : List Int => decide (p ≤ q) := by
  funext p q
  show (!PySem.W.dataLt (.tuple (q.map .int)) (.tuple (p.map .int))) = _
  rw [PySem.W.dataLt_tuple]
  show (!PySem.W.rowLt (q.map .int) (p.map .int)) = _
  rw [PySem.W.dataLt_ints]
  by_cases h : q < p
  · have h' : ¬ p ≤ q := fun r => List.not_lt.mpr r h
    simp [h, h']
  · have h' : p ≤ q := List.not_lt.mp h
    simp [h, h']
theorem rows_le (A : List (List Int)) : (A.mergeSort (PySem.W.dataLe false intsD)).Pairwise (· ≤ ·) := by
  rw [dataLe_intsD]
  refine (List.pairwise_mergeSort (le := fun p q : List Int => decide (p ≤ q)) (fun a b c h1 h2 => decide_eq_true (List.le_trans (of_decide_eq_true h1) (of_decide_eq_true h2))) (fun a b => ?_) A).imp fun h => of_decide_eq_true h
  rcases List.le_total a b with h | h
  · simp [h]
  · simp [h]
theorem rows_sort {A B : List (List Int)} (h : A.Perm B) : A.mergeSort (PySem.W.dataLe false intsD) = B.mergeSort (PySem.W.dataLe false intsD) :=
  ((List.mergeSort_perm A _).trans (h.trans (List.mergeSort_perm B _).symm)).eq_of_pairwise (fun x y _ _ h1 h2 => List.le_antisymm h1 h2) (rows_le A) (rows_le B)
section
variable {X : Cx}
theorem cr_sortSet (hc : X.calm = true) (hu : X.A.units + 64 < cLine) : CallR X (.builtin "sorted") (rSortSet X.K X.prog X.w) := by
  intro pins s σ H vs us Q I r h
  obtain ⟨a, L, rfl, ha, hk, hne, q⟩ := h
  have R0 : SetT0 X.prog X.w s.heap a L := (I.hok a _ ha).1
  obtain ⟨es, ep, t, R⟩ := R0.full fun p hp => I.isT (hk p hp)
  rw [Vals.ref1 r]
  obtain ⟨o, ho, hex, hd⟩ := R.ob
  have hsz := R.size
  have hfew := R.few
  refine Calls.call_function_entry kind_sorted plain_sorted entry_sorted (args_sorted1 _) ?_
  unfold Builtin.«sorted»
  refine wpAny_bind (m := checkCount "sorted" 1 1 _) (wpAny_pure ?_)
  refine wpAny_bind (collect_set (A := X.A.in1) (I.ok.hd hc) ⟨o, ho, hex.1, hd⟩ R.fits (by unfold scanBound; omega) R.tab.ris R.led fun s1 vs k1 hz g1 o1 pm => ?_)
  have hes : es.toList.map (·.2) = L.map fun q => Value.ref q.1 := by
    rw [R.rows]
    unfold rowsOf
    rw [List.map_map] <;> rfl
  rw [hes] at pm
  obtain ⟨L1, p1, rfl⟩ := perm_map pm rfl
  have l1 : L1.length < 64 := by rw [p1.length_eq]; exact hfew
  refine wpAny_bind (wpAny_newList ?_ (by rw [sizeLine_eq, List.length_map]; omega))
  have hoL : (s1.heap.push (seqObj "list" (L1.map fun q => Value.ref q.1).toArray 0)).get? s1.heap.objs.size = some (seqObj "list" (L1.map fun q => Value.ref q.1).toArray 0) := Heap.get?_push_size _ rfl
  have e1 : ∀ l : List (Addr × List Int), (∀ p ∈ l, p ∈ L) → PySem.W.EachIs (fun (u : Value) (b : List Int) => ∃ x, RelV x u ∧ Dp X.K H x (intsD b)) (l.map fun q => Value.ref q.1) (l.map (·.2)) := by
    intro l
    induction l with
    | nil => intro _; exact .nil
    | cons q l ih =>
      intro hs
      exact .cons ⟨.ref q.1, rfl, Dp.ints (hk q (hs q List.mem_cons_self))⟩ (ih fun p hp => hs p (List.mem_cons_of_mem _ hp))
  have e2 : ∀ l : List (Addr × List Int), (∀ p ∈ l, p ∈ L) → PySem.W.EachIs (fun (u : Value) (b : List Int) => ∃ as, Reads (s1.heap.push (seqObj "list" (L1.map fun q => Value.ref q.1).toArray 0)) u (intsD b) as ∧ s1.heap.objs.size ∉ as) (l.map fun q => Value.ref q.1) (l.map (·.2)) := by
    intro l
    induction l with
    | nil => intro _; exact .nil
    | cons q l ih =>
      intro hs
      obtain ⟨oq, its, n, hoq, hcq, hdq, hit⟩ := R.tup q (hs q List.mem_cons_self)
      refine .cons ⟨[], ?_, fun z => nomatch z⟩ (ih fun p hp => hs p (List.mem_cons_of_mem _ hp))
      exact .tuple (Heap.get?_push_of_some _ (k1 _ _ hoq)) hcq hdq (reads_ints (ints_of_items hit))
  have hin : ∀ p ∈ L1, p ∈ L := fun p hp => p1.mem_iff.mp hp
  refine wpAny_bind (wpAny_holding (PySem.W.list_sort_data (s := { s1 with heap := s1.heap.push (seqObj "list" (L1.map fun q => Value.ref q.1).toArray 0) }) hoL (e1 L1 hin) (e2 L1 hin) ?_ ?_ (by rw [List.length_map, sizeLine_eq]; omega) (fun b _ => ?_) fun out ho2 eo => ?_))
  · intro d hd e he
    obtain ⟨x, _, rfl⟩ := List.mem_map.mp hd
    obtain ⟨y, _, rfl⟩ := List.mem_map.mp he
    simp only [intsD, PySem.W.alike]
    exact alike_ints x y
  · refine .inl fun d hd => ?_
    obtain ⟨x, hx, rfl⟩ := List.mem_map.mp hd
    obtain ⟨p, hp, rfl⟩ := List.mem_map.mp hx
    cases h2 : p.2 with
    | nil => exact absurd h2 (hne p (hin p hp))
    | cons n r => exact ⟨_, _, rfl⟩
  · have : (intsD b).depth ≤ 50 := by
      simp only [intsD, PyData.depth, dep_ints]
      decide
    show X.A.in1.units + 1 + _ < _
    have : X.A.in1.units ≤ X.A.units + 1 := Nat.le_refl _
    omega
  obtain ⟨ys, ry, dy⟩ := of_each intsD eo
  obtain ⟨c, hc2⟩ := sortedHeap_at (vs := L1.map fun q => Value.ref q.1) (out := out.toArray) hoL
  have hn : H s1.heap.objs.size = none := I.hok.fresh hz
  have hq : ∀ b o, s.heap.get? b = some o → (sortedHeap (s1.heap.push (seqObj "list" (L1.map fun q => Value.ref q.1).toArray 0)) s1.heap.objs.size (L1.map fun q => Value.ref q.1) out.toArray).get? b = some o := fun b u e => by
    have q := k1 b u e
    have hlt := Heap.lt_size q
    rw [sortedHeap_old (Nat.ne_of_lt hlt) (by rw [size_push']; exact Nat.lt_succ_of_lt hlt)]
    exact Heap.get?_push_of_some _ q
  have hol : out.length = L1.length := by rw [ho2, List.length_map]
  have hlen : ys.length ≤ sizeLine := by rw [ry.length, hol, sizeLine_eq]; omega
  have J : L2.Inv X pins σ (upd H s1.heap.objs.size (.lst ys)) { s1 with heap := sortedHeap (s1.heap.push (seqObj "list" (L1.map fun q => Value.ref q.1).toArray 0)) s1.heap.objs.size (L1.map fun q => Value.ref q.1) out.toArray } :=
    I.call' (ch := []) o1 (Un.laid hq hz hn) (I.hok.laid hq hz ⟨hlen, out, c, ry, hc2⟩) (by show AllBare s1.gens; rw [g1]; exact I.bare) (fun _ z => nomatch z)
  exact wpAny_pure ⟨_, rfl, ⟨.ref s1.heap.objs.size, _, J, rfl, q L1 _ ys hn p1 ((p1.map (·.2)).nodup_iff.mpr R.nd) dy⟩⟩
end
end TL
namespace TL
open PySem PySem.Spec PyProof.Rows L2
/-! ### sorted(a tuple of pairs of ints) -/
@[irreducible] def rSortTP (K : PySem.W.Frag) : List V → Hp → VK → Prop := fun vs H Q => ∃ (ps : List (Int × Int)) (a : Addr) (xs : List V), vs = [.ref a] ∧ SqT K H a xs ∧ DpAll K H xs (ps.map prD) ∧ ps.length ≤ 1000 ∧
  ∀ p ys, H p = none → DpAll K H ys ((srtP ps).map prD) → Q (.ref p) (upd H p (.lst ys))
section
variable {X : Cx}
theorem pair_reads {pins : List (Addr × Obj)} {σ : L2.St} {H : Hp} {s : Shared} (I : Inv X pins σ H s) {h' : Heap} (kp : ∀ b o, s.heap.get? b = some o → h'.get? b = some o) (c : Addr) :
    ∀ {xs : List V} {us : List Value} {ps : List (Int × Int)}, Vals xs us → DpAll X.K H xs (ps.map prD) → PySem.W.EachIs (fun (u : Value) (b : Int × Int) => ∃ as, Reads h' u (prD b) as ∧ c ∉ as) us ps
  | _, _, [], .nil, _ => .nil
  | _, _, _ :: _, .nil, h => nomatch h
  | _, _, [], .cons _ _, h => nomatch h
  | _, _, b :: bs, .cons r t, .cons h a => by
    refine .cons ⟨[], ?_, fun z => nomatch z⟩ (pair_reads I kp c t a)
    obtain ⟨q, rfl, hq⟩ := Dp.prI h
    cases r
    obtain ⟨its, rv, ⟨oq, hoq, hcq, n, hdq⟩, _⟩ := I.tuple (xs := [b.1, b.2].map V.int) hq
    exact .tuple (kp _ _ hoq) hcq hdq (reads_ints (ns := [b.1, b.2]) (Vals.ints rv))
theorem sorted_TP (hu : X.A.units + 64 < cLine) : CallR X (.builtin "sorted") (rSortTP X.K) := by
  intro pins s σ H vs us Q I rr h
  unfold rSortTP at h
  obtain ⟨ps, a, xs, ev, hq, hA, lp, q⟩ := h
  subst ev
  rw [Vals.ref1 rr]
  obtain ⟨its, rv, ⟨oq, hoq, hcq, n, hdq⟩, hz⟩ := I.tuple hq
  have lx : xs.length = ps.length := by rw [DpAll.length hA, List.length_map]
  have li := rv.length
  refine Calls.call_function_entry kind_sorted plain_sorted entry_sorted (args_sorted1 _) ?_
  unfold Builtin.«sorted»
  refine wpAny_bind (m := checkCount "sorted" 1 1 _) (wpAny_pure ?_)
  refine wpAny_bind (wpAny_collect_seq a (.inr rfl) hoq hcq hdq (fun G kp => ?_) (by rw [List.size_toArray]; omega))
  have J : Inv X pins σ H { s with heap := G } := I.kept (t' := s.toks) kp
  refine wpAny_bind (wpAny_newList ?_ (by show its.length ≤ _; omega))
  have hoL : (G.push (seqObj "list" its.toArray 0)).get? G.objs.size = some (seqObj "list" its.toArray 0) := Heap.get?_push_size _ rfl
  have k1 : ∀ b o, s.heap.get? b = some o → (G.push (seqObj "list" its.toArray 0)).get? b = some o := fun b o e => Heap.get?_push_of_some _ (kp b o e)
  refine wpAny_bind (wpAny_holding (PySem.W.list_sort_data (s := { s with heap := G.push (seqObj "list" its.toArray 0) }) hoL (each_of prD rv hA) (pair_reads I k1 _ rv hA) ?_ ?_ (Nat.le_of_lt (small1000 lp)) (fun b _ => ?_) fun out ho2 eo => ?_))
  · intro d hd e he
    obtain ⟨x, _, rfl⟩ := List.mem_map.mp hd
    obtain ⟨y, _, rfl⟩ := List.mem_map.mp he
    simp [prD, PySem.W.alike, PySem.W.alikeAll]
  · refine .inl fun d hd => ?_
    obtain ⟨x, hx, rfl⟩ := List.mem_map.mp hd
    exact ⟨_, _, rfl⟩
  · have := dep_pr b
    show X.A.in1.units + 1 + _ < _
    have : X.A.in1.units ≤ X.A.units + 1 := Nat.le_refl _
    omega
  obtain ⟨ys, ry, dy⟩ := of_each prD eo
  obtain ⟨c, hc2⟩ := sortedHeap_at (vs := its) (out := out.toArray) hoL
  have hk : ∀ b o, G.get? b = some o → (sortedHeap (G.push (seqObj "list" its.toArray 0)) G.objs.size its out.toArray).get? b = some o := fun b u e => by
    have hlt := Heap.lt_size e
    rw [sortedHeap_old (Nat.ne_of_lt hlt) (by rw [size_push']; exact Nat.lt_succ_of_lt hlt)]
    exact Heap.get?_push_of_some _ e
  have hn : H G.objs.size = none := J.hok.fresh (Nat.le_refl _)
  have hlen : ys.length ≤ sizeLine := by rw [ry.length, ho2]; exact Nat.le_of_lt (small1000 lp)
  have J2 := J.laid (t' := s.toks) (o := .lst ys) hk (Nat.le_refl _) ⟨hlen, out, c, ry, hc2⟩
  rw [le_pr_fun] at dy
  exact wpAny_pure ⟨_, rfl, ⟨.ref G.objs.size, _, J2, rfl, q _ ys hn dy⟩⟩
theorem sortTPK (K : PySem.W.Frag) (hu : X.A.units + 64 < cLine) (h : X.K = K := by rfl) : CallR X (.builtin "sorted") (rSortTP K) := h ▸ sorted_TP hu
end
end TL
namespace TL
open PySem PySem.Spec PyProof.Rows L2
/-! ### sorted(a tuple of ints) -/
@[irreducible] def rSortTI (K : PySem.W.Frag) : List V → Hp → VK → Prop := fun vs H Q => ∃ (ns : List Int) (a : Addr), vs = [.ref a] ∧ SqT K H a (ns.map V.int) ∧ ns.length ≤ 1000 ∧
  ∀ p, H p = none → Q (.ref p) (upd H p (.lst ((srtI ns).map V.int)))
section
variable {X : Cx}
theorem ints_reads {h' : Heap} (c : Addr) : ∀ {us : List Value} {ns : List Int}, IntsAre us ns → PySem.W.EachIs (fun (u : Value) (b : Int) => ∃ as, Reads h' u (PyData.int b) as ∧ c ∉ as) us ns
  | [], [], _ => .nil
  | v :: vs, n :: ns, a => by
    cases a with
    | cons _ t a2 => exact .cons ⟨[], .int n t, fun z => nomatch z⟩ (ints_reads c a2)
theorem sorted_TI (hu : X.A.units + 64 < cLine) : CallR X (.builtin "sorted") (rSortTI X.K) := by
  intro pins s σ H vs us Q I rr h
  unfold rSortTI at h
  obtain ⟨ns, a, ev, hq, lp, q⟩ := h
  subst ev
  rw [Vals.ref1 rr]
  obtain ⟨its, rv, ⟨oq, hoq, hcq, n, hdq⟩, hz⟩ := I.tuple hq
  have li := rv.length
  rw [List.length_map] at li
  refine Calls.call_function_entry kind_sorted plain_sorted entry_sorted (args_sorted1 _) ?_
  unfold Builtin.«sorted»
  refine wpAny_bind (m := checkCount "sorted" 1 1 _) (wpAny_pure ?_)
  refine wpAny_bind (wpAny_collect_seq a (.inr rfl) hoq hcq hdq (fun G kp => ?_) (by rw [List.size_toArray]; exact Nat.le_of_lt (small1000 (by omega))))
  have J : Inv X pins σ H { s with heap := G } := I.kept (t' := s.toks) kp
  refine wpAny_bind (wpAny_newList ?_ (by show its.length ≤ _; exact Nat.le_of_lt (small1000 (by omega))))
  have hoL : (G.push (seqObj "list" its.toArray 0)).get? G.objs.size = some (seqObj "list" its.toArray 0) := Heap.get?_push_size _ rfl
  refine wpAny_bind (wpAny_holding (PySem.W.list_sort_data (s := { s with heap := G.push (seqObj "list" its.toArray 0) }) hoL (each_of (K := X.K) (H := H) PyData.int rv (DpAll.of_ints ns)) (ints_reads _ (Vals.ints rv)) ?_ ?_ (Nat.le_of_lt (small1000 lp)) (fun b _ => ?_) fun out ho2 eo => ?_))
  · intro d hd e he
    obtain ⟨x, _, rfl⟩ := List.mem_map.mp hd
    obtain ⟨y, _, rfl⟩ := List.mem_map.mp he
    simp [PySem.W.alike]
  · refine .inr fun d hd => ?_
    obtain ⟨x, hx, rfl⟩ := List.mem_map.mp hd
    exact ⟨fun z => (nomatch z), fun _ z => (nomatch z)⟩
  · show X.A.in1.units + 1 + _ < _
    have : X.A.in1.units ≤ X.A.units + 1 := Nat.le_refl _
    simp only [PyData.depth]
    omega
  obtain ⟨ys, ry, dy⟩ := of_each PyData.int eo
  rw [le_int_fun] at dy
  have ey := DpAll.ints dy
  subst ey
  obtain ⟨c, hc2⟩ := sortedHeap_at (vs := its) (out := out.toArray) hoL
  have hk : ∀ b o, G.get? b = some o → (sortedHeap (G.push (seqObj "list" its.toArray 0)) G.objs.size its out.toArray).get? b = some o := fun b u e => by
    have hlt := Heap.lt_size e
    rw [sortedHeap_old (Nat.ne_of_lt hlt) (by rw [size_push']; exact Nat.lt_succ_of_lt hlt)]
    exact Heap.get?_push_of_some _ e
  have hn : H G.objs.size = none := J.hok.fresh (Nat.le_refl _)
  have hlen : ((srtI ns).map V.int).length ≤ sizeLine := by rw [List.length_map, srtI_length]; exact Nat.le_of_lt (small1000 lp)
  have J2 := J.laid (t' := s.toks) (o := .lst ((srtI ns).map V.int)) hk (Nat.le_refl _) ⟨hlen, out, c, ry, hc2⟩
  exact wpAny_pure ⟨_, rfl, ⟨.ref G.objs.size, _, J2, rfl, q _ hn⟩⟩
theorem sortTIK (K : PySem.W.Frag) (hu : X.A.units + 64 < cLine) (h : X.K = K := by rfl) : CallR X (.builtin "sorted") (rSortTI K) := h ▸ sorted_TI hu
end
theorem sortTupI {K : PySem.W.Frag} {H : Hp} {x : V} {ns : List Int} {Q : VK} (hx : Dp K H x (intsD ns)) (hl : ns.length ≤ 1000) (q : ∀ p, H p = none → Q (.ref p) (upd H p (.lst ((srtI ns).map V.int)))) : rSortTI K [x] H Q := by
  obtain ⟨a, rfl, h1⟩ := Dp.intsI hx
  unfold rSortTI
  exact ⟨ns, a, rfl, h1, hl, q⟩
/-! ### one lamp more or less, one vertex more -/
theorem IsGr.less {m : Nat} {es : List (Int × Int)} {S S' G G' : List Int} {x : Int} (h : IsGr m es S G) (h' : IsGr m es S' G') (e : ∀ z, z ∈ S' ↔ z ∈ S ∧ z ≠ x) : (x ∉ G → G' = G) ∧ ∀ z ∈ G', z ∈ G ∧ z ≠ x := by
  have sub : ∀ z ∈ G', z ∈ G ∧ z ≠ x := fun z hz => ⟨h'.mono h (fun y hy => ((e y).mp hy).1) z hz, ((e z).mp (h'.sub z hz)).2⟩
  refine ⟨fun nx => asc_ext h'.asc h.asc fun z => ⟨fun hz => (sub z hz).1, fun hz => ?_⟩, sub⟩
  exact h'.max G (fun y hy => (e y).mpr ⟨h.sub y hy, fun z => nx (z ▸ hy)⟩) h.cl z hz
theorem IsGr.alone {m : Nat} {es : List (Int × Int)} {S G : List Int} {x : Int} (h : IsGr m es S G) (hx : x ∈ S) (n : nearL m es x = []) : x ∈ G := by
  refine h.max [x] (fun y hy => by rw [List.mem_singleton.mp hy]; exact hx) (fun y hy v hv => ?_) x (List.mem_singleton.mpr rfl)
  rw [List.mem_singleton.mp hy, n] at hv
  cases hv
theorem IsGr.grown {m : Nat} {es : List (Int × Int)} {S G : List Int} {l : Int} (f : IsFor m es) (hl : 0 ≤ l ∧ l < m) (h : IsGr (m + 1) (srtP (es ++ [(l, (m : Int))])) S G) : l ∉ G := by
  intro z
  have f' := f.attach hl
  have ed : ordP l (m : Int) ∈ srtP (es ++ [(l, (m : Int))]) := by
    rw [mem_srtP, ordP_eq (by omega)]
    exact List.mem_append_right _ (List.mem_singleton.mpr rfl)
  have hw : (m : Int) ∈ nearL (m + 1) (srtP (es ++ [(l, (m : Int))])) l := mem_nearL.mpr ⟨by omega, by rw [ordP_comm]; exact ed⟩
  obtain ⟨y, y1, y2, y3⟩ := h.cl.other z hw
  rcases f'.mem_ord.mp (mem_nearL.mp y3).2 with q | q
  · rcases List.mem_append.mp (mem_srtP.mp q) with q | q
    · have := f.rng _ q
      simp only at this
      omega
    · have := List.mem_singleton.mp q
      injection this with e1 e2
      exact y2 e1
  · rcases List.mem_append.mp (mem_srtP.mp q) with q | q
    · have := f.rng _ q
      simp only at this
      omega
    · have := List.mem_singleton.mp q
      injection this with e1 e2
      omega
end TL
namespace TL
/-! ### at most half of a piece is lit; a piece with lamps has a slide -/
section
variable {m : Nat} {es : List (Int × Int)}
theorem IsGr.open_ {A L : List Int} (gA : IsGr m es A []) (sub : ∀ x ∈ L, x ∈ A) (ne : L ≠ []) : ∃ x ∈ L, ∃ v ∈ nearL m es x, ∀ y ∈ L, y ≠ x → y ∉ nearL m es v := by
  obtain ⟨x0, h0⟩ := List.exists_mem_of_ne_nil _ ne
  refine Classical.byContradiction fun no => ?_
  have := gA.max L sub (Cl.of fun x hx v hv => Classical.byContradiction fun no2 => no ⟨x, hx, v, hv, fun y hy n hn => no2 ⟨y, hy, n, hn⟩⟩) x0 h0
  cases this
theorem match_ex (f : IsFor m es) {A : List Int} (gA : IsGr m es A []) : ∀ (n : Nat) (L : List Int), L.length = n → L.Nodup → (∀ x ∈ L, x ∈ A) → ∃ V : List Int, V.length = n ∧ V.Nodup ∧ ∀ v ∈ V, ∃ x ∈ L, v ∈ nearL m es x
  | 0, L, _, _, _ => ⟨[], rfl, .nil, fun _ h => nomatch h⟩
  | n + 1, L, ln, nd, sub => by
    have ne : L ≠ [] := fun e => by rw [e] at ln; cases ln
    obtain ⟨x, hx, v, hv, ot⟩ := gA.open_ sub ne
    obtain ⟨V, h1, h2, h3⟩ := match_ex f gA n (L.erase x) (by rw [List.length_erase_of_mem hx]; omega) (nd.erase x) fun y hy => sub y (List.mem_of_mem_erase hy)
    refine ⟨v :: V, by rw [List.length_cons, h1], List.nodup_cons.mpr ⟨fun z => ?_, h2⟩, fun u hu => ?_⟩
    · obtain ⟨y, hy, hvy⟩ := h3 v z
      obtain ⟨y1, y2⟩ := (List.Nodup.mem_erase_iff nd).mp hy
      exact ot y y2 y1 ((mem_nearL_comm f).mp hvy)
    · rcases List.mem_cons.mp hu with rfl | hu
      · exact ⟨x, hx, hv⟩
      · obtain ⟨y, hy, k⟩ := h3 u hu
        exact ⟨y, List.mem_of_mem_erase hy, k⟩
theorem half_lit (f : IsFor m es) {A b : List Int} (sA : IsSet m es A) (gA : IsGr m es A []) (hA : ∀ x ∈ A, x ∈ b) (hV : ∀ x v, v ∈ nearL m es x → v ∈ b) : 2 * A.length ≤ b.length := by
  obtain ⟨V, h1, h2, h3⟩ := match_ex f gA A.length A rfl sA.asc.nodup fun _ h => h
  have nd : (A ++ V).Nodup := List.nodup_append.mpr ⟨sA.asc.nodup, h2, fun a ha v hv e => by
    obtain ⟨x, hx, k⟩ := h3 v hv
    exact adj_free sA hx k (e ▸ ha)⟩
  have := nd.length_le_of_subset (l₂ := b) fun x hx => by
    rcases List.mem_append.mp hx with h | h
    · exact hA x h
    · obtain ⟨y, _, k⟩ := h3 x h
      exact hV y x k
  rw [List.length_append, h1] at this
  omega
theorem Pce.half {S b : List Int} (f : IsFor m es) (h : Pce m es S b) : 2 * cntS S b ≤ b.length :=
  half_lit (f.part _) h.set h.gr (fun x hx => of_decide_eq_true (List.mem_filter.mp hx).2) fun x v hv => ((near_in f).mp hv).2.1
theorem piece_slide {G ws S : List Int} {lb : Int → Int} {gs : List (Int × List Int)} (h : Apt m es G ws) (f : IsFor m es) (sS : IsSet m es S) (gS : IsGr m es S G) (lab : Lab es ws lb) (gr : Grp lb ws gs) {g : Int × List Int} (hg : g ∈ gs) :
    0 < cntS S g.2 ↔ ∃ p ∈ slidesP m es S, p.1 ∈ g.2 ∧ p.2 ∈ g.2 := by
  have pc := pce_of h f sS gS lab gr hg
  have memA : ∀ x, x ∈ S.filter (fun l => decide (l ∈ g.2)) ↔ x ∈ S ∧ x ∈ g.2 := fun x => by rw [List.mem_filter, decide_eq_true_eq]
  have key : ∀ x, x ∈ g.2 ↔ x ∈ ws ∧ lb x = g.1 := fun x => by rw [(gr.is g hg).1, List.mem_filter, decide_eq_true_eq]
  constructor
  · intro hc
    have ne : S.filter (fun l => decide (l ∈ g.2)) ≠ [] := fun e => by
      unfold cntS at hc
      rw [e] at hc
      cases hc
    obtain ⟨x, hx, v, hv, ot⟩ := pc.gr.open_ (fun _ h => h) ne
    obtain ⟨x1, x2⟩ := (memA x).mp hx
    obtain ⟨v1, v2, _⟩ := (near_in f).mp hv
    refine ⟨(x, v), mem_slidesP.mpr ⟨x1, v1, List.eq_nil_iff_forall_not_mem.mpr fun o z => ?_⟩, x2, v2⟩
    obtain ⟨o1, o2, o3⟩ := mem_oth.mp z
    have vw := ((key v).mp v2).1
    have oG : o ∉ G := ((h.mem v).mp vw).2.2 o o1
    have ow := h.lamp f sS gS.sub o2 oG
    have og : o ∈ g.2 := (gr.conn lab hg v2 o).mp (.step (.refl _) (adj_in.mpr ⟨(near_adj o1).symm, vw, ow⟩))
    exact ot o ((memA o).mpr ⟨o2, og⟩) o3 ((near_in f).mpr ⟨o1, og, v2⟩)
  · rintro ⟨p, hp, h1, h2⟩
    exact List.length_pos_of_mem ((memA p.1).mpr ⟨(mem_slidesP.mp hp).1, h1⟩)
theorem rigid_slides {S : List Int} (f : IsFor m es) (gS : IsGr m es S S) : slidesP m es S = [] := List.eq_nil_iff_forall_not_mem.mpr fun p hp => by
  obtain ⟨h1, h2, h3⟩ := mem_slidesP.mp (show (p.1, p.2) ∈ slidesP m es S from hp)
  exact gS.cl p.1 h1 p.2 h2 h3
theorem Rch.stuck {S T : List Int} (e : slidesP m es S = []) (h : Rch m es S T) : T = S := by
  induction h with
  | refl => rfl
  | step _ p ih =>
    subst ih
    rw [e] at p
    cases p
end
end TL
namespace TL
/-! ### the slides by which a lamp that is not rigid leaves -/
section
variable {m : Nat} {es : List (Int × Int)}
/-- exits: the lamps that forbid a slide have exits themselves, and lower rank -/
structure Xr (m : Nat) (es : List (Int × Int)) (S : List Int) (dom : Int → Prop) (ex : Int → Int) (r : Int → Nat) : Prop where
  lamp : ∀ x, dom x → x ∈ S
  near : ∀ x, dom x → ex x ∈ nearL m es x
  less : ∀ x, dom x → ∀ y ∈ oth m es S x (ex x), dom y ∧ r y < r x
def outL (m : Nat) (es : List (Int × Int)) (S : List Int) (ex : Int → Int) : Nat → Int → List (Int × Int)
  | 0, _ => []
  | n + 1, x => (oth m es S x (ex x)).flatMap (outL m es S ex n) ++ [(x, ex x)]
theorem Xr.inj {S : List Int} {dom : Int → Prop} {ex : Int → Int} {r : Int → Nat} (X : Xr m es S dom ex r) (f : IsFor m es) {x y : Int} (hx : dom x) (hy : dom y) (e : ex x = ex y) : x = y := by
  refine Classical.byContradiction fun ne => ?_
  have h1 : y ∈ oth m es S x (ex x) := mem_oth.mpr ⟨by rw [e]; exact (mem_nearL_comm f).mp (X.near y hy), X.lamp y hy, fun z => ne z.symm⟩
  have h2 : x ∈ oth m es S y (ex y) := mem_oth.mpr ⟨by rw [← e]; exact (mem_nearL_comm f).mp (X.near x hx), X.lamp x hx, ne⟩
  have a := (X.less x hx y h1).2
  have b := (X.less y hy x h2).2
  omega
theorem outs_ok {S : List Int} {out : Int → List (Int × Int)} {R : Int → Int → Prop} {v : Int} (f : IsFor m es) : ∀ ys : List Int, ys.Nodup → (∀ y ∈ ys, ∀ y' ∈ ys, ∀ z, R y z → R y' z → y = y') → (∀ y ∈ ys, R y y) → (∀ y ∈ ys, ¬ R y v) →
    (∀ y ∈ ys, ∀ T, IsSet m es T → v ∉ T → (∀ z, R y z → (z ∈ T ↔ z ∈ S)) → ∃ T', walk m es T (out y) = some T' ∧ (∀ z, ¬ R y z → (z ∈ T' ↔ z ∈ T)) ∧ y ∉ T') →
    (∀ y ∈ ys, (∀ s ∈ out y, R y s.1) ∧ ((out y).map (·.1)).Nodup) →
    ∀ T, IsSet m es T → v ∉ T → (∀ y ∈ ys, ∀ z, R y z → (z ∈ T ↔ z ∈ S)) →
    ∃ T', walk m es T (ys.flatMap out) = some T' ∧ (∀ z, (∀ y ∈ ys, ¬ R y z) → (z ∈ T' ↔ z ∈ T)) ∧ (∀ y ∈ ys, y ∉ T') ∧ ((ys.flatMap out).map (·.1)).Nodup
  | [], _, _, _, _, _, _, T, sT, _, _ => ⟨T, rfl, fun _ _ => Iff.rfl, (fun _ h => nomatch h), .nil⟩
  | y :: ys, nd, dis, self, nv, one, st, T, sT, vT, ag => by
    have nd' := List.nodup_cons.mp nd
    have my : y ∈ y :: ys := List.mem_cons_self
    have up : ∀ {z}, z ∈ ys → z ∈ y :: ys := fun h => List.mem_cons_of_mem _ h
    obtain ⟨T1, w1, k1, n1⟩ := one y my T sT vT (ag y my)
    have s1 := walk_set f sT w1
    have apart : ∀ y' ∈ ys, ∀ z, R y' z → ¬ R y z := fun y' hy' z h1 h2 => nd'.1 (dis y my y' (up hy') z h2 h1 ▸ hy')
    obtain ⟨T2, w2, k2, n2, nd2⟩ := outs_ok f ys nd'.2 (fun a ha b hb => dis a (up ha) b (up hb)) (fun a ha => self a (up ha)) (fun a ha => nv a (up ha)) (fun a ha => one a (up ha)) (fun a ha => st a (up ha)) T1 s1 (fun h => vT ((k1 v (nv y my)).mp h)) (fun y' hy' z h => (k1 z (apart y' hy' z h)).trans (ag y' (up hy') z h))
    refine ⟨T2, ?_, fun z hz => (k2 z fun y' hy' => hz y' (up hy')).trans (k1 z (hz y my)), fun z hz => ?_, ?_⟩
    · rw [List.flatMap_cons, walk_app w1]
      exact w2
    · rcases List.mem_cons.mp hz with rfl | hz
      · exact fun h => n1 ((k2 z fun y' hy' h2 => apart y' hy' z h2 (self z my)).mp h)
      · exact n2 z hz
    · rw [List.flatMap_cons, List.map_append]
      refine List.nodup_append.mpr ⟨(st y my).2, nd2, fun a ha b hb e => ?_⟩
      obtain ⟨s, hs, rfl⟩ := List.mem_map.mp ha
      obtain ⟨t, ht, rfl⟩ := List.mem_map.mp hb
      obtain ⟨y', hy', ht⟩ := List.mem_flatMap.mp ht
      exact apart y' hy' _ ((st y' (up hy')).1 t ht) (e ▸ (st y my).1 s hs)
theorem cut_none {v : Int} (h : ∀ w, ¬ Adj es v w) {a b : Int} : Conn (cutE es v) a b ↔ Conn es a b := by
  constructor
  · exact conn_cut_mono
  · intro c
    induction c with
    | refl => exact .refl _
    | @step b c h1 e ih => exact .step ih (adj_cut.mpr ⟨e, fun z => h c (z ▸ e), fun z => h b (z ▸ e.symm)⟩)
theorem self_cut {v : Int} {z : Int} (h : Conn (cutE es v) v z) : z = v := conn_lone (fun w ad => (adj_cut.mp ad).2.1 rfl) h
theorem cut_not {v y : Int} (hy : y ≠ v) : ¬ Conn (cutE es v) y v := fun c => hy (self_cut c.symm)
theorem out_ok (f : IsFor m es) {S : List Int} {dom : Int → Prop} {ex : Int → Int} {r : Int → Nat} (sS : IsSet m es S) (X : Xr m es S dom ex r) : ∀ (n : Nat) (x p : Int), dom x → r x < n → x ≠ p → ex x ≠ p → p ∉ S → (p ∈ nearL m es x ∨ ∀ w, ¬ Adj es p w) →
    (∀ s ∈ outL m es S ex n x, dom s.1 ∧ s.2 = ex s.1 ∧ Conn (cutE es p) x s.1 ∧ Conn (cutE es p) x s.2) ∧ ((outL m es S ex n x).map (·.1)).Nodup ∧ (∃ A, outL m es S ex n x = A ++ [(x, ex x)] ∧ x ∉ A.map (·.1)) ∧
    ∀ T, IsSet m es T → p ∉ T → (∀ z, Conn (cutE es p) x z → (z ∈ T ↔ z ∈ S)) → ∃ T', walk m es T (outL m es S ex n x) = some T' ∧ (∀ z, ¬ Conn (cutE es p) x z → (z ∈ T' ↔ z ∈ T)) ∧ x ∉ T'
  | 0, _, _, _, h, _, _, _, _ => absurd h (Nat.not_lt_zero _)
  | n + 1, x, p, dx, hr, nxp, nvp, npS, hp => by
    generalize hv : ex x = v at nvp
    have vx : v ∈ nearL m es x := hv ▸ X.near x dx
    have xv : x ∈ nearL m es v := (mem_nearL_comm f).mp vx
    have nvx : v ≠ x := near_ne f vx
    have xS := X.lamp x dx
    have vS : v ∉ S := adj_free sS xS vx
    -- the lamps in the way
    have hys : ∀ y ∈ oth m es S x v, y ∈ nearL m es v ∧ y ∈ S ∧ y ≠ x ∧ y ≠ v ∧ dom y ∧ r y < n ∧ ex y ≠ v ∧ y ≠ p := fun y hy => by
      obtain ⟨h1, h2, h3⟩ := mem_oth.mp hy
      obtain ⟨d1, d2⟩ := X.less x dx y (hv ▸ hy)
      refine ⟨h1, h2, h3, near_ne f h1, d1, by omega, fun e => h3 (X.inj f d1 dx (by rw [e, hv])), fun e => npS (e ▸ h2)⟩
    have nd : (oth m es S x v).Nodup := (nearL_asc m es v).nodup.filter _
    -- what is joined with them without v is joined with x without p
    have inR : ∀ y ∈ oth m es S x v, ∀ z, Conn (cutE es v) y z → z ≠ p ∧ Conn (cutE es p) x z := fun y hy z c => by
      obtain ⟨h1, h2, h3, h4, _, _, _, h8⟩ := hys y hy
      induction c with
      | refl =>
        refine ⟨h8, .step (.step (.refl _) (adj_cut.mpr ⟨near_adj xv, nxp, nvp⟩)) (adj_cut.mpr ⟨(near_adj h1).symm, nvp, h8⟩)⟩
      | @step b z c1 e ih =>
        obtain ⟨e1, e2, e3⟩ := adj_cut.mp e
        obtain ⟨i1, i2⟩ := ih
        have nzp : z ≠ p := fun ez => by
          rcases hp with hp | hp
          · -- p is beside x, so x would be joined with y without v
            have cx : Conn (cutE es v) y x := .step (.step c1 e) (adj_cut.mpr ⟨ez ▸ near_adj hp, e3, nvx.symm⟩)
            exact h3 (branch_apart f h1 xv h4 nvx.symm cx)
          · exact hp b (ez ▸ e1.symm)
        exact ⟨nzp, .step i2 (adj_cut.mpr ⟨e1, i1, nzp⟩)⟩
    have dis : ∀ y ∈ oth m es S x v, ∀ y' ∈ oth m es S x v, ∀ z, Conn (cutE es v) y z → Conn (cutE es v) y' z → y = y' := fun y hy y' hy' z c c' =>
      branch_apart f (hys y hy).1 (hys y' hy').1 (hys y hy).2.2.2.1 (hys y' hy').2.2.2.1 (c.trans c'.symm)
    have ih := fun y hy => out_ok f sS X n y v (hys y hy).2.2.2.2.1 (hys y hy).2.2.2.2.2.1 (hys y hy).2.2.2.1 (hys y hy).2.2.2.2.2.2.1 vS (.inl ((mem_nearL_comm f).mp (hys y hy).1))
    have vR : Conn (cutE es p) x v := .step (.refl _) (adj_cut.mpr ⟨near_adj xv, nxp, nvp⟩)
    have en : outL m es S ex (n + 1) x = (oth m es S x v).flatMap (outL m es S ex n) ++ [(x, v)] := by rw [← hv]; rfl
    have outs := outs_ok (S := S) (out := outL m es S ex n) (R := fun y z => Conn (cutE es v) y z) (v := v) f (oth m es S x v) nd dis (fun y _ => .refl y) (fun y hy => cut_not (hys y hy).2.2.2.1) (fun y hy T sT vT ag => (ih y hy).2.2.2 T sT vT ag) (fun y hy => ⟨fun s hs => ((ih y hy).1 s hs).2.2.1, (ih y hy).2.1⟩)
    have nx : ∀ y ∈ oth m es S x v, ¬ Conn (cutE es v) y x := fun y hy c => (hys y hy).2.2.1 (branch_apart f (hys y hy).1 xv (hys y hy).2.2.2.1 nvx.symm c)
    have nst : x ∉ ((oth m es S x v).flatMap (outL m es S ex n)).map (·.1) := fun h => by
      obtain ⟨s, hs, e⟩ := List.mem_map.mp h
      obtain ⟨y, hy, hs⟩ := List.mem_flatMap.mp hs
      exact nx y hy (e ▸ ((ih y hy).1 s hs).2.2.1)
    refine ⟨fun s hs => ?_, ?_, ⟨_, en, nst⟩, fun T sT npT ag => ?_⟩
    · rw [en] at hs
      rcases List.mem_append.mp hs with hs | hs
      · obtain ⟨y, hy, hs⟩ := List.mem_flatMap.mp hs
        obtain ⟨a1, a2, a3, a4⟩ := (ih y hy).1 s hs
        exact ⟨a1, a2, (inR y hy _ a3).2, (inR y hy _ a4).2⟩
      · rw [List.mem_singleton.mp hs]
        exact ⟨dx, hv.symm, .refl _, vR⟩
    · obtain ⟨_, _, _, _, ndo⟩ := outs S sS vS (fun _ _ _ _ => Iff.rfl)
      rw [en, List.map_append]
      refine List.nodup_append.mpr ⟨ndo, List.pairwise_singleton _ _, fun a ha b hb e => ?_⟩
      rw [List.mem_singleton.mp hb] at e
      have e : a = x := e
      exact nst (e ▸ ha)
    · have vT : v ∉ T := fun h => vS ((ag v vR).mp h)
      obtain ⟨T1, w1, k1, n1, _⟩ := outs T sT vT (fun y hy z c => ag z (inR y hy z c).2)
      have s1 := walk_set f sT w1
      have x1 : x ∈ T1 := (k1 x nx).mpr ((ag x (.refl _)).mpr xS)
      have fr : oth m es T1 x v = [] := List.eq_nil_iff_forall_not_mem.mpr fun u hu => by
        obtain ⟨u1, u2, u3⟩ := mem_oth.mp hu
        have nuv : u ≠ v := near_ne f u1
        by_cases hy : u ∈ oth m es S x v
        · exact n1 u hy u2
        · have uT : u ∈ T := (k1 u fun y hy' c => by
            have e := branch_apart f (hys y hy').1 u1 (hys y hy').2.2.2.1 nuv c
            exact hy (e ▸ hy')).mp u2
          have nup : u ≠ p := fun e => npT (e ▸ uT)
          have uR : Conn (cutE es p) x u := .step vR (adj_cut.mpr ⟨(near_adj u1).symm, nvp, nup⟩)
          exact hy (mem_oth.mpr ⟨u1, (ag u uR).mp uT, u3⟩)
      have ps : (x, v) ∈ slidesP m es T1 := mem_slidesP.mpr ⟨x1, vx, fr⟩
      refine ⟨after T1 x v, ?_, fun z hz => ?_, fun h => ?_⟩
      · rw [en, walk_app w1]
        unfold walk
        rw [if_pos ps]
        rfl
      · have nzx : z ≠ x := fun e => hz (e ▸ .refl _)
        have nzv : z ≠ v := fun e => hz (e ▸ vR)
        rw [mem_after]
        have k := k1 z fun y hy c => hz (inR y hy z c).2
        exact ⟨fun h => h.elim (fun h => k.mp h.1) (fun h => absurd h nzv), fun h => .inl ⟨k.mpr h, nzx⟩⟩
      · rcases mem_after.mp h with h | h
        · exact h.2 rfl
        · exact nvx h.symm
end
end TL
namespace TL
/-! ### the exits, as they are found round by round -/
section
variable {m : Nat} {es : List (Int × Int)} {S : List Int}
def lfX (S : List Int) (ks : List (Int × Int)) : List Int := S.filter fun x => decide (x ∉ ks.map (·.1))
theorem mem_lfX {ks : List (Int × Int)} {x : Int} : x ∈ lfX S ks ↔ x ∈ S ∧ x ∉ ks.map (·.1) := by
  unfold lfX
  rw [List.mem_filter, decide_eq_true_eq]
def freeN (m : Nat) (es : List (Int × Int)) (L : List Int) (x : Int) : Option Int := (nearL m es x).find? fun v => decide (oth m es L x v = [])
def rndX (m : Nat) (es : List (Int × Int)) (L T : List Int) : List (Int × Int) := T.filterMap fun x => (freeN m es L x).map fun v => (x, v)
theorem mem_rndX {L T : List Int} {p : Int × Int} (h : p ∈ rndX m es L T) : p.1 ∈ T ∧ p.2 ∈ nearL m es p.1 ∧ oth m es L p.1 p.2 = [] := by
  obtain ⟨x, hx, e⟩ := List.mem_filterMap.mp h
  obtain ⟨v, hv, rfl⟩ := Option.map_eq_some_iff.mp e
  have h2 := List.find?_some hv
  exact ⟨hx, List.mem_of_find?_eq_some hv, of_decide_eq_true h2⟩
theorem rndX_fst (L : List Int) : ∀ T : List Int, ((rndX m es L T).map (·.1)).Sublist T
  | [] => .slnil
  | x :: T => by
    have ih := rndX_fst L T
    unfold rndX at ih ⊢
    rw [List.filterMap_cons]
    cases h : (freeN m es L x).map fun v => (x, v) with
    | none => exact ih.cons _
    | some p =>
      obtain ⟨v, _, rfl⟩ := Option.map_eq_some_iff.mp h
      exact ih.cons_cons _
theorem rndX_nil {L T : List Int} (h : rndX m es L T = []) {x : Int} (hx : x ∈ T) {v : Int} (hv : v ∈ nearL m es x) : oth m es L x v ≠ [] := fun e => by
  have := List.filterMap_eq_nil_iff.mp h x hx
  rw [Option.map_eq_none_iff] at this
  exact absurd (decide_eq_true e) (List.find?_eq_none.mp this v hv)
inductive Xf (m : Nat) (es : List (Int × Int)) (S : List Int) : List (Int × Int) → List (Int × Int) → Prop
  | done {ks : List (Int × Int)} : rndX m es (lfX S ks) (lfX S ks) = [] → Xf m es S ks ks
  | step {ks kf : List (Int × Int)} : rndX m es (lfX S ks) (lfX S ks) ≠ [] → Xf m es S (ks ++ rndX m es (lfX S ks) (lfX S ks)) kf → Xf m es S ks kf
theorem Xf.uniq {ks a b : List (Int × Int)} (h : Xf m es S ks a) (k : Xf m es S ks b) : a = b := by
  induction h with
  | done e =>
    cases k with
    | done => rfl
    | step n _ => exact absurd e n
  | step n _ ih =>
    cases k with
    | done e => exact absurd e n
    | step _ k => exact ih k
structure XI (m : Nat) (es : List (Int × Int)) (S : List Int) (ks : List (Int × Int)) : Prop where
  nd : (ks.map (·.1)).Nodup
  sub : ∀ p ∈ ks, p.1 ∈ S
  ord : ∀ A p B, ks = A ++ p :: B → p.2 ∈ nearL m es p.1 ∧ ∀ y ∈ oth m es S p.1 p.2, y ∈ A.map (·.1)
  out : ∀ T : List Int, (∀ x ∈ T, x ∈ S) → Cl m es T → ∀ x ∈ T, x ∉ ks.map (·.1)
theorem XI.start : XI m es S [] := ⟨.nil, (fun _ h => nomatch h), (fun A p B e => absurd e.symm (by simp)), fun _ _ _ _ _ h => nomatch h⟩
theorem XI.round {ks : List (Int × Int)} (ndS : S.Nodup) (h : XI m es S ks) : XI m es S (ks ++ rndX m es (lfX S ks) (lfX S ks)) := by
  have key : ∀ p ∈ rndX m es (lfX S ks) (lfX S ks), p.1 ∈ S ∧ p.1 ∉ ks.map (·.1) ∧ p.2 ∈ nearL m es p.1 ∧ ∀ y ∈ oth m es S p.1 p.2, y ∈ ks.map (·.1) := fun p hp => by
    obtain ⟨h1, h2, h3⟩ := mem_rndX hp
    obtain ⟨a1, a2⟩ := mem_lfX.mp h1
    refine ⟨a1, a2, h2, fun y hy => Classical.byContradiction fun no => ?_⟩
    obtain ⟨y1, y2, y3⟩ := mem_oth.mp hy
    have : y ∈ oth m es (lfX S ks) p.1 p.2 := mem_oth.mpr ⟨y1, mem_lfX.mpr ⟨y2, no⟩, y3⟩
    rw [h3] at this
    cases this
  refine ⟨?_, fun p hp => ?_, fun A p B e => ?_, fun T hT cl y hy z => ?_⟩
  · rw [List.map_append]
    refine List.nodup_append.mpr ⟨h.nd, (ndS.filter _).sublist (rndX_fst _ _), fun a ha b hb e => ?_⟩
    obtain ⟨p, hp, rfl⟩ := List.mem_map.mp hb
    exact (key p hp).2.1 (e ▸ ha)
  · rcases List.mem_append.mp hp with hp | hp
    · exact h.sub p hp
    · exact (key p hp).1
  · rcases List.append_eq_append_iff.mp e with ⟨A', e1, e2⟩ | ⟨B', e1, e2⟩
    · have hp : p ∈ rndX m es (lfX S ks) (lfX S ks) := by rw [e2]; exact List.mem_append_right _ List.mem_cons_self
      obtain ⟨_, _, k3, k4⟩ := key p hp
      refine ⟨k3, fun y hy => ?_⟩
      rw [e1, List.map_append]
      exact List.mem_append_left _ (k4 y hy)
    · cases B' with
      | nil =>
        rw [List.append_nil] at e1
        have e2 : p :: B = rndX m es (lfX S ks) (lfX S ks) := e2
        have hp : p ∈ rndX m es (lfX S ks) (lfX S ks) := by rw [← e2]; exact List.mem_cons_self
        obtain ⟨_, _, k3, k4⟩ := key p hp
        exact ⟨k3, fun y hy => by rw [← e1]; exact k4 y hy⟩
      | cons q B' =>
        rw [List.cons_append] at e2
        injection e2 with e2 e3
        subst e2
        exact h.ord A p B' e1
  · rw [List.map_append] at z
    rcases List.mem_append.mp z with z | z
    · exact h.out T hT cl y hy z
    · obtain ⟨p, hp, rfl⟩ := List.mem_map.mp z
      obtain ⟨_, _, k3, k4⟩ := key p hp
      obtain ⟨w, w1, w2, w3⟩ := cl.other hy k3
      exact h.out T hT cl w w1 (k4 w (mem_oth.mpr ⟨w3, hT w w1, w2⟩))
theorem Xf.inv {ks kf : List (Int × Int)} (ndS : S.Nodup) (x : Xf m es S ks kf) : XI m es S ks → XI m es S kf ∧ rndX m es (lfX S kf) (lfX S kf) = [] := by
  induction x with
  | done e => exact fun h => ⟨h, e⟩
  | step _ _ ih => exact fun h => ih (h.round ndS)
theorem Xf.gr {ks : List (Int × Int)} (asc : Asc S) (x : Xf m es S [] ks) : IsGr m es S (lfX S ks) := by
  obtain ⟨h, e⟩ := x.inv asc.nodup .start
  exact ⟨asc.filter _, fun z hz => (mem_lfX.mp hz).1, fun z hz v hv => rndX_nil e hz hv, fun T hT cl z hz => mem_lfX.mpr ⟨hT z hz, h.out T hT cl z hz⟩⟩
theorem XI.len {ks : List (Int × Int)} (h : XI m es S ks) : ks.length ≤ S.length := by
  have := h.nd.length_le_of_subset (l₂ := S) fun x hx => by
    obtain ⟨p, hp, rfl⟩ := List.mem_map.mp hx
    exact h.sub p hp
  rw [List.length_map] at this
  exact this
def exV (ks : List (Int × Int)) (x : Int) : Int := ((ks.find? fun p => decide (p.1 = x)).map (·.2)).getD 0
theorem exV_at {ks : List (Int × Int)} {x : Int} (h : x ∈ ks.map (·.1)) : ∃ A B, ks = A ++ (x, exV ks x) :: B ∧ x ∉ A.map (·.1) := by
  obtain ⟨p, hp⟩ : ∃ p, ks.find? (fun p => decide (p.1 = x)) = some p := by
    obtain ⟨p, hp, e⟩ := List.mem_map.mp h
    cases hf : ks.find? (fun p => decide (p.1 = x)) with
    | some q => exact ⟨q, rfl⟩
    | none => exact absurd (decide_eq_true e) (List.find?_eq_none.mp hf p hp)
  obtain ⟨h1, A, B, e, h3⟩ := List.find?_eq_some_iff_append.mp hp
  have e1 : p.1 = x := of_decide_eq_true h1
  have e2 : exV ks x = p.2 := by
    unfold exV
    rw [hp]
    rfl
  refine ⟨A, B, by rw [e2, ← e1]; exact e, fun z => ?_⟩
  obtain ⟨q, hq, eq⟩ := List.mem_map.mp z
  have := h3 q hq
  rw [decide_eq_true eq] at this
  cases this
theorem exV_mem {ks : List (Int × Int)} {x : Int} (h : x ∈ ks.map (·.1)) : (x, exV ks x) ∈ ks := by
  obtain ⟨A, B, e, _⟩ := exV_at h
  have : (x, exV ks x) ∈ A ++ (x, exV ks x) :: B := List.mem_append_right _ List.mem_cons_self
  rw [← e] at this
  exact this
theorem XI.xr {ks : List (Int × Int)} (h : XI m es S ks) : Xr m es S (fun x => x ∈ ks.map (·.1)) (exV ks) (fun x => (ks.map (·.1)).idxOf x) where
  lamp := fun x hx => h.sub _ (exV_mem hx)
  near := fun x hx => by
    obtain ⟨A, B, e, _⟩ := exV_at hx
    exact (h.ord A _ B e).1
  less := fun x hx y hy => by
    obtain ⟨A, B, e, nA⟩ := exV_at hx
    have hyA := (h.ord A _ B e).2 y hy
    have em : ks.map (·.1) = A.map (·.1) ++ x :: B.map (·.1) := by
      have := congrArg (List.map (·.1)) e
      rw [List.map_append] at this
      exact this
    refine ⟨by rw [em]; exact List.mem_append_left _ hyA, ?_⟩
    show (ks.map (·.1)).idxOf y < (ks.map (·.1)).idxOf x
    rw [em, List.idxOf_append, if_pos hyA, List.idxOf_append, if_neg nA]
    have := List.idxOf_lt_length_of_mem hyA
    omega
theorem Xf.xr {ks : List (Int × Int)} (ndS : S.Nodup) (x : Xf m es S [] ks) : Xr m es S (fun x => x ∈ ks.map (·.1)) (exV ks) (fun x => (ks.map (·.1)).idxOf x) := (x.inv ndS .start).1.xr
theorem Xf.rank {ks : List (Int × Int)} (ndS : S.Nodup) (x : Xf m es S [] ks) (l : S.length ≤ 12) {u : Int} (hu : u ∈ ks.map (·.1)) : (ks.map (·.1)).idxOf u < 13 := by
  have h1 := (x.inv ndS .start).1.len
  have h2 := List.idxOf_lt_length_of_mem hu
  rw [List.length_map] at h2
  omega
theorem far_out {v : Int} (f : IsFor m es) (hv : ¬ (0 ≤ v ∧ v < m)) (w : Int) : ¬ Adj es v w := fun ad => hv (near_rng f (adj_near f ad)).1
/-- few slides -/
theorem outL_len (f : IsFor m es) (sS : IsSet m es S) {dom : Int → Prop} {ex : Int → Int} {r : Int → Nat} (X : Xr m es S dom ex r) {n : Nat} {x : Int} (hx : dom x) (hr : r x < n) : (outL m es S ex n x).length ≤ S.length := by
  have n1 : ¬ (0 ≤ (-1 : Int) ∧ (-1 : Int) < m) := fun h => by omega
  have hx0 := sS.rng x (X.lamp x hx)
  have hv0 := (near_rng f (X.near x hx)).1
  obtain ⟨st, nd, _⟩ := out_ok f sS X n x (-1) hx hr (by omega) (by omega) (fun z => n1 (sS.rng _ z)) (.inr fun w => far_out f n1 w)
  have := nd.length_le_of_subset (l₂ := S) fun y hy => by
    obtain ⟨s, hs, rfl⟩ := List.mem_map.mp hy
    exact X.lamp _ (st s hs).1
  rw [List.length_map] at this
  exact this
end
end TL
namespace TL
open PySem PySem.Spec PyProof.Rows L2
/-- a def of the text that may raise, by its name -/
structure OwnX (P : Program) (w : World) (K : PySem.W.Frag) (mg : Str → Option Value) (base : Heap)
    (x : Str) (k : Nat) (ps : List Str) (sp : Sp) : Prop where
  ex : ∃ (f : Addr) (fd : FuncData), FnOk P w K mg base (L2.CX P w) k f fd ps sp ∧ mg x = some (.ref f) ∧
    PySem.W.keepIn K (.ref f) = true ∧ Binds K fd ps []
section
variable {X : Cx} {k : Nat} {ps : List Str} {sp : Sp} {x : Str} {p pos : Pos} {e : Expr} {es : List Expr} {t : TA} {W : WX}
theorem pe_ownX (O : OwnX X.prog X.w X.K X.mg X.base x k ps sp) (hr : Room k X.A) (tk : Takes X W) (hg : Gl X x) (ha : PA X (e :: es) t)
    (hdb : (x == ("__debug__" : Str)) = false := by decide)
    (he : starEach (e :: es) X.env = (false, eval e X.env) :: starEach es X.env := by rfl)
    (hpl : (backTo pos (starEach es X.env)).any (·.1) = false := by rfl) :
    PE X (.Call (.Name x p) (e :: es) [] pos) (tCallS sp (WE W) t) := by
  obtain ⟨f, fd, F, hm, hk, hb⟩ := O.ex
  exact pe_callS F hr hg hm hk hb (fun σ => passAt tk σ) ha hdb he hpl
end
/-! ### an error class of the text with one field -/
/-- self.f = value -/
def spInit (C : Addr) (f : Str) : Sp := fun vs H Q _ => ∃ (a : Addr) (y : V), vs = [.ref a, y] ∧ H a = some (exo a C none) ∧
  ∀ dx, H dx = none → dx ≠ a → Q .non (upd (upd H dx (exd dx [(f, y)])) a (exo a C (some dx)))
/-- what is said of such a class -/
structure ErrC (P : Program) (w : World) (K : PySem.W.Frag) (mg : Str → Option Value) (base : Heap) (x f : Str) (C : Addr) : Prop where
  oex : OexC K C
  xf : XfC K C
  exc : ExcC K C
  cls : (PySem.W.clsIn K C).isSome = true
  nof : PySem.W.findIn K (.ref C) f = some none
  glo : mg x = some (.ref C)
  ini : ∃ (fI : Addr) (fd : FuncData) (ps : List Str), PySem.W.findIn K (.ref C) "__init__" = some (some (.ref fI)) ∧ PySem.W.typeIn K (.ref fI) = some (.type "function") ∧
    FnOk P w K mg base CX0 1 fI fd ps (spInit C f) ∧ Binds K fd ps []
section
variable {X : Cx} {x f : Str} {C : Addr} {e : Expr} {p pos pos' : Pos} {ta : TA} {W : WX}
/-- raise x(e) -/
theorem ps_err (T : ErrC X.prog X.w X.K X.mg X.base x f C) (hr : Room 2 X.A) (tk : Takes X W) (hg : Gl X x) (ha : PA X [e] ta) (hc : X.calm = true := by rfl)
    (hdb : (x == ("__debug__" : Str)) = false := by decide)
    (he : starEach [e] X.env = (false, eval e X.env) :: starEach [] X.env := by rfl)
    (hpl : (backTo pos (starEach [] X.env)).any (·.1) = false := by rfl) :
    PS X (.Raise (some (.Call (.Name x p) [e] [] pos)) none pos') (fun _ σ H => tMkO C (spInit C f) [] ta σ H fun cls d H' => W cls d σ H') := by
  obtain ⟨fI, fd, ps, iC, tI, F, hb⟩ := T.ini
  exact ps_raise hc tk (pmk_oex (dvs := []) (ds := []) T.oex iC tI F hr hb .nil pass0 hg T.glo ha hdb he hpl)
/-- the reading of it -/
theorem errI {y : V} {H1 : Hp} {Q : XK} (q : ∀ (H' : Hp) (d : Addr), Same H1 H' → H' d = some (.xd [(f, y)]) → Q (.ref C) (some d) H') :
    [y].length ≤ 1000 ∧ ∀ a, H1 a = none → spInit C f (.ref a :: ([y] ++ [])) (upd H1 a (exo a C none))
      (fun v H2 => v = .non ∧ ∃ (d : Addr) (fs : List (Str × V)), H2 a = some (exo a C (some d)) ∧ H2 d = some (exd d fs) ∧ H1 d = none ∧ Q (.ref C) (some d) (upd (del H2 a) d (.xd fs))) (fun _ _ _ => False) := by
  refine ⟨by show 1 ≤ 1000; decide, fun a na => ⟨a, y, rfl, upd_same, fun dx nd ne => ?_⟩⟩
  rw [upd_ne ne] at nd
  refine ⟨rfl, dx, [(f, y)], upd_same, (upd_ne ne).trans upd_same, nd, q _ _ (fun b o e => ?_) upd_same⟩
  have hb : b ≠ a := fun z => by rw [z, na] at e; cases e
  have hd : b ≠ dx := fun z => by rw [z, nd] at e; cases e
  rw [upd_ne hd, del_ne hb, upd_ne hb, upd_ne hd, upd_ne hb]
  exact e
end
/-! ### isinstance of the error that a suite holds -/
def rIsX (K : PySem.W.Frag) (cls : Value) (d : Option Addr) (D a : Addr) : List V → Hp → VK → Prop := fun xs H Q => ∃ (c : V) (b : Bool), xs = [.ref a, c] ∧ cls = .ref D ∧ (∃ (dd : Addr) (fs : List (Str × V)), d = some dd ∧ H dd = some (.xd fs)) ∧
  ((∃ cv, (∀ u, RelV c u → u = cv) ∧ PySem.W.kitOne K (.ref D) cv = some b) ∨ ∃ (tp : Addr) (cs : List Addr), c = .ref tp ∧ H tp = some (.tup (cs.map V.ref)) ∧ PySem.W.kitAny K (.ref D) (cs.map Value.ref) = some b) ∧ Q (.bl b) H
theorem vals_refs : ∀ {cs : List Addr} {its : List Value}, Vals (cs.map V.ref) its → its = cs.map Value.ref
  | [], _, h => by cases h; rfl
  | c :: cs, _, h => by
    cases h with
    | cons r1 r2 =>
      cases r1
      rw [vals_refs r2]
      rfl
theorem isX {X : Cx} {a D : Addr} {oe : Obj} {cls : Value} {d : Option Addr} {pn : List (Addr × Obj)} (C : ExcC X.K D) (hcl : (PySem.W.clsIn X.K D).isSome = true) (hz : Zc cls d oe) (hf : ∃ vs, oe.data = .fields vs) :
    CallR (X.suite a ((a, oe) :: pn)) (.builtin "isinstance") (rIsX X.K cls d D a) := by
  intro pins s σ H xs us Q I r h
  obtain ⟨c, b, rfl, ec, ⟨dd, fs, ed, ex⟩, hk, q⟩ := h
  subst ec ed
  cases r with
  | cons rx rr =>
    cases rr with
    | cons rt rr =>
      cases rr
      cases rx
      obtain ⟨hget, _⟩ := I.pin (a, oe) (List.mem_append.mpr (.inl List.mem_cons_self))
      obtain ⟨vs, hv⟩ := hf
      have hx : ObjOk X.prog X.w H s.heap dd (.xd fs) := I.hok dd _ ex
      obtain ⟨mA, hns, hr⟩ := hx
      obtain ⟨od, ho, hl⟩ := lookIn_ns hns
      have J : PySem.W.InstAt s.heap a oe D (some od) := ⟨hget, hz.1, by unfold PySem.W.notCls; rw [hv] <;> rfl, by rw [hz.2]; exact ho⟩
      have Z := PySem.W.kitx_exc (x := a) (ox := oe) (od := some od) hcl C.hg C.hk C.hs C.ha C.hn C.ht C.hm
      rcases hk with ⟨cv, hcv, e⟩ | ⟨tp, cs, e1, e2, e⟩
      · have ec := hcv _ rt
        subst ec
        exact PySem.W.kia_one Z I.kIn J e (fun z => nomatch z) fun tk => ⟨.bl b, H, I.kept (t' := tk) fun _ _ z => z, rfl, q⟩
      · subst e1
        cases rt
        obtain ⟨_, its, r, o, h1, h2, n, h3⟩ := (show ObjOk X.prog X.w H s.heap tp (.tup (cs.map V.ref)) from I.hok tp _ e2)
        have ei : its = cs.map Value.ref := vals_refs r
        subst ei
        obtain ⟨oc, od2, oda, osl⟩ := o
        dsimp only at h2 h3
        subst h2 h3
        exact PySem.W.kia_tup Z I.kIn J h1 e (fun z => nomatch z) fun tk => ⟨.bl b, H, I.kept (t' := tk) fun _ _ z => z, rfl, q⟩
/-! ### in short, within a suite -/
theorem isXK (K : PySem.W.Frag) {X : Cx} {P : Program} {w : World} {mg : Str → Option Value} {base : Heap} {x f : Str} {a D : Addr} {oe : Obj} {cls : Value} {d : Option Addr} {pn : List (Addr × Obj)} (T : ErrC P w K mg base x f D) (hz : Zc cls d oe) (hf : ∃ vs, oe.data = .fields vs) (h : X.K = K := by rfl) :
    CallR (X.suite a ((a, oe) :: pn)) (.builtin "isinstance") (rIsX K cls d D a) := by
  subst h
  exact isX T.exc T.cls hz hf
theorem xfK (K : PySem.W.Frag) {X : Cx} {P : Program} {w : World} {mg : Str → Option Value} {base : Heap} {x n : Str} {a C : Addr} {oe : Obj} {cls : Value} {d : Option Addr} {pn : List (Addr × Obj)} {e : Expr} {te : TE} {pos : Pos} (T : ErrC P w K mg base x n C)
    (hz : Zc cls d oe) (hf : ∃ vs, oe.data = .fields vs) (he : PE (X.suite a ((a, oe) :: pn)) e te) (h : X.K = K := by rfl) (hb : attributeBase e n X.env (eval e X.env) = eval e X.env := by rfl) :
    PE (X.suite a ((a, oe) :: pn)) (.Attribute e n pos) (tXf a cls d C n te) := by
  subst h
  exact pe_xf T.xf T.nof hz hf he hb
/-! ### what the written part says of classes -/
section
variable {K : PySem.W.Frag} {C D : Addr}
theorem cls_of (h : PySem.W.hasDictIn K C = true) : (PySem.W.clsIn K C).isSome = true := by
  obtain ⟨cd, hc, _⟩ := PySem.W.any_some h
  rw [hc]
  rfl
theorem kit_own {b : Bool} (hd : PySem.W.hasDictIn K D = true) (ht : PySem.W.typeIn K (.ref D) = some (.type "type")) (hs : PySem.W.subIn K (.ref C) (.ref D) = some b) (self : PySem.W.subIn K (.ref C) (.ref C) = some true) : PySem.W.kitOne K (.ref C) (.ref D) = some b := by
  unfold PySem.W.kitOne
  by_cases e : (Value.ref C == Value.ref D) = true
  · rw [if_pos e]
    have e2 := beq_iff_eq.mp e
    rw [← e2, self] at hs
    exact hs
  · rw [if_neg e]
    unfold PySem.W.kitCls
    have e2 : ((PySem.W.clsIn K D).isSome && PySem.W.typeIn K (.ref D) == some (.type "type")) = true := by
      rw [cls_of hd, ht]
      rfl
    show (if ((PySem.W.clsIn K D).isSome && PySem.W.typeIn K (.ref D) == some (.type "type")) = true then _ else _) = _
    rw [if_pos e2]
    exact hs
theorem kit_ve {T : String} (hm : PySem.W.kitMeta T = true) (hs : PySem.W.subIn K (.ref C) (.type T) = some true) : PySem.W.kitOne K (.ref C) (.type T) = some true := by
  unfold PySem.W.kitOne
  rw [if_neg (by intro z; cases beq_iff_eq.mp z)]
  unfold PySem.W.kitCls
  show (if PySem.W.kitMeta T = true then _ else _) = _
  rw [if_pos hm]
  exact hs
theorem exm_own {b : Bool} (h1 : PySem.W.subIn K (.ref D) (.type "BaseException") = some true) (hd : PySem.W.hasDictIn K D = true) (ht : PySem.W.typeIn K (.ref D) = some (.type "type")) (h4 : PySem.W.subIn K (.ref C) (.ref D) = some b) : PySem.W.exmOne K (.ref C) (.ref D) = some b := PySem.W.exm_ref h1 hd ht h4
theorem kitAny_no : ∀ {cs : List Addr}, (∀ c ∈ cs, PySem.W.kitOne K (.ref C) (.ref c) = some false) → PySem.W.kitAny K (.ref C) (cs.map Value.ref) = some false
  | [], _ => rfl
  | c :: cs, h => by
    show (match PySem.W.kitOne K (.ref C) (.ref c) with | some true => some true | some false => PySem.W.kitAny K (.ref C) (cs.map Value.ref) | none => none) = _
    rw [h c List.mem_cons_self]
    exact kitAny_no fun c hc => h c (List.mem_cons_of_mem _ hc)
end
/-- the own __init__ of such a class -/
structure IniC (K : PySem.W.Frag) (C : Addr) (f : Str) : Prop where
  oex : OexC K C
  nof : PySem.W.findIn K (.ref C) f = some none
end TL
namespace TL
open PySem PySem.Spec PyProof.Rows L2
/-! ### data with dicts in it -/
def kD : Key → PyData
  | .inl i => .int i
  | .inr x => .str x
mutual
inductive Dq (K : PySem.W.Frag) (H : Hp) : V → PyData → Prop
  | non : Dq K H .non .none
  | bl (b : Bool) : Dq K H (.bl b) (.bool b)
  | int (i : Int) : Dq K H (.int i) (.int i)
  | str (x : Str) : Dq K H (.str x) (.str x)
  | lst {a : Addr} {xs : List V} {ds : List PyData} : a ≠ sysModules → H a = some (.lst xs) → DqAll K H xs ds → Dq K H (.ref a) (.list ds)
  | tup {a : Addr} {xs : List V} {ds : List PyData} : SqT K H a xs → DqAll K H xs ds → Dq K H (.ref a) (.tuple ds)
  | dct {a : Addr} {kvs : List (Key × V)} {ps : List (PyData × PyData)} : H a = some (.dK kvs) → ps.map (·.1) = kvs.map (fun p => kD p.1) → DqAll K H (kvs.map (·.2)) (ps.map (·.2)) → Dq K H (.ref a) (.dict ps)
inductive DqAll (K : PySem.W.Frag) (H : Hp) : List V → List PyData → Prop
  | nil : DqAll K H [] []
  | cons {v : V} {vs : List V} {d : PyData} {ds : List PyData} : Dq K H v d → DqAll K H vs ds → DqAll K H (v :: vs) (d :: ds)
end
section
variable {X : Cx} {pins : List (Addr × Obj)} {σ : L2.St} {H : Hp} {s : Shared}
theorem keys_reads : ∀ {es : List DictEntry} {vs : List (Key × Value)} {kvs : List (Key × V)}, Pairs (mixKind X.prog X.w) es vs → KV kvs vs → ReadsAll s.heap (es.map (·.key)) (kvs.map fun p => kD p.1) [] ∧ Vals (kvs.map (·.2)) (es.map (·.val))
  | _, _, _, .nil, .nil => ⟨.nil, .nil⟩
  | e :: es, _, p :: kvs, .cons h1 h2 t, .cons r q => by
    obtain ⟨a, b⟩ := keys_reads t q
    refine ⟨?_, .cons ?_ b⟩
    · obtain ⟨k, v⟩ := p
      have h1 : keyIs _ e.key = true := h1
      rw [← r.1] at h1
      show ReadsAll s.heap (e.key :: es.map (·.key)) (kD k :: kvs.map fun p => kD p.1) []
      rcases keyIs_shape h1 with ⟨i, t, hk, hv⟩ | ⟨x, t, hk, hv⟩
      · have hk : k = .inl i := hk
        rw [hk, hv]
        exact .cons (as := []) (bs := []) (.int i t) a
      · have hk : k = .inr x := hk
        rw [hk, hv]
        exact .cons (as := []) (bs := []) (.str x t) a
    · show RelV p.2 e.val
      rw [h2]
      exact r.2
mutual
theorem Dq.reads (I : Inv X pins σ H s) : ∀ {v : V} {d : PyData} {u : Value}, Dq X.K H v d → RelV v u → ∃ as, Reads s.heap u d as ∧ sysModules ∉ as
  | _, _, _, .non, r => by cases r; exact ⟨_, Reads.none, by simp⟩
  | _, _, _, .bl b, r => by cases r; exact ⟨_, Reads.bool b, by simp⟩
  | _, _, _, .int i, r => by obtain ⟨t, rfl⟩ := r; exact ⟨_, Reads.int i t, by simp⟩
  | _, _, _, .str x, r => by obtain ⟨t, rfl⟩ := r; exact ⟨_, Reads.str x t, by simp⟩
  | _, _, _, .lst hs e ha, r => by
    cases r
    obtain ⟨its, rv, ⟨o, n, ho, hc, _, hd⟩, _⟩ := I.list (SqL.of e)
    obtain ⟨as, hr, hn⟩ := Dq.readsAll I ha rv
    refine ⟨_, Reads.list ho hc hd hr, fun z => ?_⟩
    rcases List.mem_cons.mp z with z | z
    · exact hs z.symm
    · exact hn z
  | _, _, _, .tup e ha, r => by
    cases r
    obtain ⟨its, rv, ⟨o, ho, hc, n, hd⟩, _⟩ := I.tuple e
    obtain ⟨as, hr, hn⟩ := Dq.readsAll I ha rv
    exact ⟨_, Reads.tuple ho hc hd hr, hn⟩
  | _, _, _, .dct e ek ha, r => by
    cases r
    obtain ⟨_, hsm, vs, rel, o, es, ep, ho, hx, hd, _, hp, _⟩ := dk_of I.hok e
    obtain ⟨rk, rv⟩ := keys_reads (s := s) hp rel
    obtain ⟨bs, hr, hn⟩ := Dq.readsAll I ha rv
    rw [← ek] at rk
    refine ⟨_, Reads.dict ho hx.1 hd rk hr, fun z => ?_⟩
    rcases List.mem_cons.mp z with z | z
    · rw [← z] at hsm
      cases hsm
    · exact hn z
theorem Dq.readsAll (I : Inv X pins σ H s) : ∀ {vs : List V} {ds : List PyData} {us : List Value}, DqAll X.K H vs ds → Vals vs us → ∃ as, ReadsAll s.heap us ds as ∧ sysModules ∉ as
  | _, _, _, .nil, r => by cases r; exact ⟨_, ReadsAll.nil, by simp⟩
  | _, _, _, .cons h1 h2, r => by
    cases r with
    | cons r1 r2 =>
      obtain ⟨as, q1, n1⟩ := Dq.reads I h1 r1
      obtain ⟨bs, q2, n2⟩ := Dq.readsAll I h2 r2
      exact ⟨_, ReadsAll.cons q1 q2, fun z => (List.mem_append.mp z).elim n1 n2⟩
end
end
structure ShowsQ (d : PyData) : Prop where
  can : d.showable = true
  deep : d.depth ≤ 60
  fits : d.shown.length ≤ sizeLine
def rReprQ (K : PySem.W.Frag) : List V → Hp → VK → Prop := fun xs H Q =>
  ∃ (y : V) (d : PyData), xs = [y] ∧ Dq K H y d ∧ ShowsQ d ∧ Q (.str d.shown) H
section
variable {X : Cx}
theorem call_reprQ (gd : X.A.guards = some []) (hu : X.A.units + 64 < cLine) :
    CallR X (.builtin "repr") (rReprQ X.K) := by
  intro pins s σ H xs us Q I r h
  obtain ⟨y, d, rfl, hd, sh, q⟩ := h
  cases r with
  | cons r1 r2 =>
    rename_i u us'
    cases r2
    obtain ⟨as, rd, hn⟩ := Dq.reads I hd r1
    have big : ∀ a, u = Value.ref a → wpAny (model X.prog X.w) X.A (call (.builtin "repr") [u]) (EP X pins σ Q) X.xe s := by
      intro a e
      subst e
      exact repr_of_reads' rd sh.can (fun z => hn) gd (by have := sh.deep; omega) (fun _ _ e => e) (fun h' u tk hk => ⟨.str d.shown, H, I.kept (t' := tk) hk, ⟨u, rfl⟩, q⟩) sh.fits
    cases hd with
    | non =>
      obtain rfl : u = Value.none := r1
      rw [PyData.shown_none] at q
      exact PySem.P.repr_of_none ⟨.str _, H, I.tok _, ⟨_, rfl⟩, q⟩
    | bl b =>
      obtain rfl : u = Value.bool b := r1
      rw [PyData.shown_bool] at q
      exact PySem.P.repr_of_bool ⟨.str _, H, I.tok _, ⟨_, rfl⟩, q⟩
    | int i =>
      obtain ⟨t, rfl⟩ := r1
      rw [PyData.shown_int] at q
      exact PySem.P.repr_of_int (by have := sh.can; simpa [PyData.showable] using this) ⟨.str _, H, I.tok _, ⟨_, rfl⟩, q⟩
    | str x =>
      obtain ⟨t, rfl⟩ := r1
      have z := sh.fits
      rw [PyData.shown_str] at q z
      exact PySem.P.repr_of_str ⟨.str _, H, I.tok _, ⟨_, rfl⟩, q⟩ z
    | lst hs he ha => exact big _ r1
    | tup hs ha => exact big _ r1
    | dct hs ek ha => exact big _ r1
end
/-! ### repr of either kind of data -/
def rReprO (K : PySem.W.Frag) : List V → Hp → VK → Prop := fun xs H Q =>
  ∃ (y : V) (d : PyData), xs = [y] ∧ ((Dp K H y d ∧ Shows d) ∨ (Dq K H y d ∧ ShowsQ d)) ∧ Q (.str d.shown) H
theorem reprO (K : PySem.W.Frag) {X : Cx} (gd : X.A.guards = some []) (hu : X.A.units + 64 < cLine) (h : X.K = K := by rfl) : CallR X (.builtin "repr") (rReprO K) := by
  subst h
  intro pins s σ H xs us Q I r h
  obtain ⟨y, d, ex, h | h, q⟩ := h
  · exact call_reprD gd hu pins s σ H xs us Q I r ⟨y, d, ex, h.1, h.2, q⟩
  · exact call_reprQ gd hu pins s σ H xs us Q I r ⟨y, d, ex, h.1, h.2, q⟩
/-! ### a held error of any class -/
def rIsA (K : PySem.W.Frag) (cls : Value) (d : Option Addr) (a : Addr) : List V → Hp → VK → Prop := fun xs H Q =>
  ∃ D : Addr, ExcC K D ∧ (PySem.W.clsIn K D).isSome = true ∧ rIsX K cls d D a xs H Q
theorem isAK (K : PySem.W.Frag) {X : Cx} {a : Addr} {oe : Obj} {cls : Value} {d : Option Addr} {pn : List (Addr × Obj)} (hz : Zc cls d oe) (hf : ∃ vs, oe.data = .fields vs) (h : X.K = K := by rfl) :
    CallR (X.suite a ((a, oe) :: pn)) (.builtin "isinstance") (rIsA K cls d a) := by
  subst h
  intro pins s σ H xs us Q I r h
  obtain ⟨D, hc, hcl, h⟩ := h
  exact isX hc hcl hz hf pins s σ H xs us Q I r h
def tXfA (K : PySem.W.Frag) (a : Addr) (cls : Value) (d : Option Addr) (n : Str) (te : TE) : TE := fun σ H Q =>
  ∃ C : Addr, XfC K C ∧ PySem.W.findIn K (.ref C) n = some none ∧ tXf a cls d C n te σ H Q
theorem xfA (K : PySem.W.Frag) {X : Cx} {n : Str} {a : Addr} {oe : Obj} {cls : Value} {d : Option Addr} {pn : List (Addr × Obj)} {e : Expr} {te : TE} {pos : Pos}
    (hz : Zc cls d oe) (hf : ∃ vs, oe.data = .fields vs) (he : PE (X.suite a ((a, oe) :: pn)) e te) (h : X.K = K := by rfl) (hb : attributeBase e n X.env (eval e X.env) = eval e X.env := by rfl) :
    PE (X.suite a ((a, oe) :: pn)) (.Attribute e n pos) (tXfA K a cls d n te) := by
  subst h
  refine ⟨fun pins s σ H Q I h => ?_⟩
  obtain ⟨C, T, hno, h⟩ := h
  exact (pe_xf T hno hz hf he hb).run pins s σ H Q I h
/-! ### count of bools -/
def eqb (k : Bool) (v : Value) : Bool := match v with
  | .bool n => n == k
  | _ => false
theorem bools_of : ∀ {bs : List Bool} {us : List Value}, Vals (bs.map V.bl) us → us = bs.map Value.bool
  | [], _, h => by cases h; rfl
  | b :: bs, _, h => by
    cases h with
    | cons r1 r2 =>
      cases r1
      rw [bools_of r2]
      rfl
theorem eqb_count (k : Bool) : ∀ bs : List Bool, (bs.map Value.bool).countP (eqb k) = bs.count k
  | [] => rfl
  | b :: bs => by
    rw [List.map_cons, List.countP_cons, List.count_cons, eqb_count k bs]
    rfl
def rCntB (K : PySem.W.Frag) : V → List V → Hp → VK → Prop := fun x xs H Q => ∃ (p : Addr) (bs : List Bool) (k : Bool), x = .ref p ∧ xs = [.bl k] ∧ SqL K H p (bs.map V.bl) ∧ Q (.int (bs.count k : Nat)) H
theorem mt_lcountB {X : Cx} (hu : X.A.units + 64 < cLine) : MtR X "list.count" (rCntB X.K) := by
  intro pins s σ H x xs v us Q I rx rxs h
  obtain ⟨p, bs, k, rfl, rfl, hs, q⟩ := h
  cases rx
  obtain ⟨u, rfl, ru⟩ := rxs.one
  cases ru
  obtain ⟨its, rv, ⟨⟨cls, dd, data, sl⟩, n, ho, hc, hdn, hd⟩, hlen⟩ := I.list hs
  simp only at hc hd
  subst hc hd
  have hi := bools_of rv
  subst hi
  refine call_meets PySem.F.slot_list_count ⟨_, ho, rfl⟩ PySem.F.entry_list_count (PySem.F.args_list_count_2 _ _)
    (SeqAt.list_countAt p _ n dd sl (.bool k) (eqb k)) ⟨ho, fun y hy => ?_, ?_⟩
  · obtain ⟨b, hb, rfl⟩ := List.mem_map.mp (List.mem_toArray.mp hy)
    have h := SeqAt.eqAt_reads (.bool b) (.bool k) X.A.in1 s _ _ _ _ (Reads.bool b) (Reads.bool k) rfl rfl (by
      show X.A.units + 1 + min (PyData.depth (.bool b)) (PyData.depth (.bool k)) < cLine
      simp only [PyData.depth]
      omega)
    have e : PyData.eqv (.bool b) (.bool k) = eqb k (.bool b) := by
      cases b <;> cases k <;> simp [PyData.eqv, eqb]
    rw [← e]
    exact h
  have ec : ((bs.map Value.bool).toArray).toList.countP (eqb k) = bs.count k := eqb_count k bs
  refine ⟨.int (bs.count k : Nat), H, I.tok _, ⟨s.toks, ?_⟩, q⟩
  show Value.int ((((bs.map Value.bool).toArray).toList.countP (eqb k) : Nat) : Int) s.toks = Value.int ((bs.count k : Nat) : Int) s.toks
  rw [ec]
end TL
namespace TL
open PySem PySem.Spec PyProof.Rows L2
/-- [..]: the new list does not stand where sys.modules stands -/
def tLstS (t : TA) : TE := fun σ H Q => t σ H fun xs H1 => xs.length ≤ sizeLine ∧ ∀ p, H1 p = none → p ≠ sysModules → Q (.ref p) (upd H1 p (.lst xs))
theorem pe_lstS {X : Cx} {es : List Expr} {t : TA} {pos : Pos} (h : PA X es t) : PE X (.List es pos) (tLstS t) := by
  refine ⟨fun pins s σ H Q I hq => ?_⟩
  refine wpAny_List_spliced (thn (h.run pos pins s σ H _ I hq) fun us s1 ⟨xs, H1, I1, r, z, q⟩ => ⟨by rw [← r.length]; exact z, ?_⟩)
  have hf : H1 s1.heap.objs.size = none := I1.hok.fresh (Nat.le_refl _)
  refine ⟨.ref s1.heap.objs.size, upd H1 s1.heap.objs.size (.lst xs), I1.laid (t' := s1.toks) (fun b u e => Heap.get?_push_of_some _ e) (Nat.le_refl _) ?_, rfl, q _ hf (Nat.ne_of_gt I1.big)⟩
  exact ⟨z, us, 0, r, Heap.get?_push_size _ rfl⟩
end TL
namespace TL
open PySem PySem.Spec PyProof.Rows L2
/-! ### data whose leaves have up to forty signs -/
mutual
theorem lv_mono {B C : Nat} (h : B ≤ C) : ∀ d : PyData, d.leavesShort B = true → d.leavesShort C = true
  | .none, _ => by simp [PyData.leavesShort]
  | .bool _, _ => by simp [PyData.leavesShort]
  | .int i, q => by
    simp only [PyData.leavesShort] at q ⊢
    exact decide_eq_true (Nat.le_trans (of_decide_eq_true q) h)
  | .str x, q => by
    simp only [PyData.leavesShort] at q ⊢
    exact q
  | .list xs, q => by
    simp only [PyData.leavesShort] at q ⊢
    exact lv_monoAll h xs q
  | .tuple xs, q => by
    simp only [PyData.leavesShort] at q ⊢
    exact lv_monoAll h xs q
  | .dict kvs, q => by
    simp only [PyData.leavesShort] at q ⊢
    exact lv_monoKv h kvs q
theorem lv_monoAll {B C : Nat} (h : B ≤ C) : ∀ ds : List PyData, PyData.leavesShortAll B ds = true → PyData.leavesShortAll C ds = true
  | [], _ => rfl
  | d :: ds, q => by
    simp only [PyData.leavesShortAll, Bool.and_eq_true] at q ⊢
    exact ⟨lv_mono h d q.1, lv_monoAll h ds q.2⟩
theorem lv_monoKv {B C : Nat} (h : B ≤ C) : ∀ ds : List (PyData × PyData), PyData.leavesShortKv B ds = true → PyData.leavesShortKv C ds = true
  | [], _ => rfl
  | (k, v) :: ds, q => by
    simp only [PyData.leavesShortKv, Bool.and_eq_true] at q ⊢
    exact ⟨⟨lv_mono h k q.1.1, lv_mono h v q.1.2⟩, lv_monoKv h ds q.2⟩
end
structure Sw (d : PyData) (n k : Nat) : Prop where
  can : d.showable = true
  deep : d.depth ≤ k
  short : d.leavesShort 40 = true
  light : d.weight ≤ n
theorem Sm.sw {d : PyData} {n k : Nat} (h : Sm d n k) : Sw d n k := ⟨h.can, h.deep, lv_mono (by decide) d h.short, h.light⟩
theorem Sw.le {d : PyData} {n k m j : Nat} (h : Sw d n k) (hn : n ≤ m) (hk : k ≤ j) : Sw d m j := ⟨h.can, Nat.le_trans h.deep hk, h.short, Nat.le_trans h.light hn⟩
theorem Sw.fits {d : PyData} {n k : Nat} (h : Sw d n k) (hn : n ≤ 100000) : d.shown.length ≤ sizeLine := by
  have h1 := PyData.shown_le 40 (by decide) d h.short
  have h2 : (40 + 2) * d.weight ≤ 42 * 100000 := Nat.mul_le_mul (by decide) (Nat.le_trans h.light hn)
  exact Nat.le_trans h1 (Nat.le_trans (Nat.add_le_add_right h2 40) (by decide))
theorem Sw.showsQ {d : PyData} {n k : Nat} (h : Sw d n k) (hn : n ≤ 100000) (hk : k ≤ 60) : ShowsQ d := ⟨h.can, Nat.le_trans h.deep hk, h.fits hn⟩
theorem Sw.shows {d : PyData} {n k : Nat} (h : Sw d n k) (nod : d.hasDict = false) (hn : n ≤ 100000) (hk : k ≤ 60) : Shows d := ⟨h.can, nod, Nat.le_trans h.deep hk, h.fits hn⟩
structure SwA (ds : List PyData) (n k : Nat) : Prop where
  can : PyData.showableAll ds = true
  deep : PyData.depthAll ds ≤ k
  short : PyData.leavesShortAll 40 ds = true
  light : PyData.weightAll ds ≤ ds.length * (n + 1)
theorem SwA.of {n k : Nat} : ∀ {ds : List PyData}, (∀ d ∈ ds, Sw d n k) → SwA ds n k
  | [], _ => ⟨rfl, by simp [PyData.depthAll], rfl, by simp [PyData.weightAll]⟩
  | d :: ds, h => by
    have h1 := h d List.mem_cons_self
    have h2 := SwA.of (n := n) (k := k) fun e he => h e (List.mem_cons_of_mem _ he)
    refine ⟨?_, ?_, ?_, ?_⟩
    · simp only [PyData.showableAll, h1.can, h2.can, Bool.and_self]
    · simp only [PyData.depthAll]
      exact Nat.max_le.mpr ⟨h1.deep, h2.deep⟩
    · simp only [PyData.leavesShortAll, h1.short, h2.short, Bool.and_self]
    · have a := h1.light
      have b := h2.light
      simp only [PyData.weightAll, List.length_cons, Nat.add_mul, Nat.one_mul]
      omega
theorem Sw.tup {n k m : Nat} {ds : List PyData} (h : ∀ d ∈ ds, Sw d n k) (hm : ds.length ≤ m) : Sw (.tuple ds) (m * (n + 1)) (k + 1) := by
  have q := SwA.of h
  have z : ds.length * (n + 1) ≤ m * (n + 1) := Nat.mul_le_mul_right _ hm
  refine ⟨?_, ?_, ?_, ?_⟩
  · simp only [PyData.showable]; exact q.can
  · simp only [PyData.depth]; have := q.deep; omega
  · simp only [PyData.leavesShort]; exact q.short
  · simp only [PyData.weight]; exact Nat.le_trans q.light z
theorem Sw.lst {n k m : Nat} {ds : List PyData} (h : ∀ d ∈ ds, Sw d n k) (hm : ds.length ≤ m) : Sw (.list ds) (m * (n + 1)) (k + 1) := by
  have q := SwA.of h
  have z : ds.length * (n + 1) ≤ m * (n + 1) := Nat.mul_le_mul_right _ hm
  refine ⟨?_, ?_, ?_, ?_⟩
  · simp only [PyData.showable]; exact q.can
  · simp only [PyData.depth]; have := q.deep; omega
  · simp only [PyData.leavesShort]; exact q.short
  · simp only [PyData.weight]; exact Nat.le_trans q.light z
theorem sw_big {i : Int} (h : i.natAbs ≤ 10 ^ 29) : Sw (.int i) 200 0 := by
  have h2 : i.natAbs < 10 ^ 30 := Nat.lt_of_le_of_lt h (by decide)
  have e := PySem.int_text_length_le10 (k := 30) (by decide) h2
  have lg : i.natAbs.log2 < 110 := PySem.Flt.log2_lt_of (by decide) (Nat.lt_of_lt_of_le h2 (by decide))
  refine ⟨?_, by simp [PyData.depth], ?_, ?_⟩
  · simp only [PyData.showable]
    exact decide_eq_true (by omega)
  · simp only [PyData.leavesShort]
    refine decide_eq_true ?_
    show (Str.ofString (toString i)).length ≤ 40
    rw [PySem.ofString_length]
    exact Nat.le_trans e (by decide)
  · simp only [PyData.weight]
    split <;> omega
/-! ### data without lists and dicts has no dict -/
mutual
theorem nod_of_only : ∀ d : PyData, only d = true → d.hasDict = false
  | .none, _ => by simp [PyData.hasDict]
  | .bool _, _ => by simp [PyData.hasDict]
  | .int i, q => by simp [PyData.hasDict]
  | .str x, q => by simp [PyData.hasDict]
  | .list xs, q => by simp [only] at q
  | .tuple xs, q => by
    simp only [only] at q
    simp only [PyData.hasDict]
    exact nod_of_onlyAll xs q
  | .dict kvs, q => by simp [only] at q
theorem nod_of_onlyAll : ∀ ds : List PyData, onlyAll ds = true → PyData.hasDictAll ds = false
  | [], _ => rfl
  | d :: ds, q => by
    simp only [onlyAll, Bool.and_eq_true] at q
    simp only [PyData.hasDictAll, nod_of_only d q.1, nod_of_onlyAll ds q.2, Bool.or_self]
end
mutual
theorem Dp.toq {K : PySem.W.Frag} {H : Hp} : ∀ {v : V} {d : PyData}, Dp K H v d → only d = true → Dq K H v d
  | _, _, .non, _ => .non
  | _, _, .bl b, _ => .bl b
  | _, _, .int i, _ => .int i
  | _, _, .str x, _ => .str x
  | _, _, .lst h a, o => by simp [only] at o
  | _, _, .tup h a, o => .tup h (Dp.toqAll a (by simpa [only] using o))
theorem Dp.toqAll {K : PySem.W.Frag} {H : Hp} : ∀ {vs : List V} {ds : List PyData}, DpAll K H vs ds → onlyAll ds = true → DqAll K H vs ds
  | _, _, .nil, _ => .nil
  | _, _, .cons h a, o => by
    simp only [onlyAll, Bool.and_eq_true] at o
    exact .cons (Dp.toq h o.1) (Dp.toqAll a o.2)
end
end TL
namespace TL
open PySem PySem.Spec PyProof.Rows L2
/-! ### list(x): the new list does not stand where sys.modules stands (after the library's rule for list(x), whose address is new but not said to be another) -/
def rListS (K : PySem.W.Frag) : List V → Hp → VK → Prop := fun xs H Q => ∃ p ys, xs = [.ref p] ∧ (SqL K H p ys ∨ SqT K H p ys) ∧ ∀ l, H l = none → l ≠ sysModules → Q (.ref l) (upd H l (.lst ys))
theorem listSK (K : PySem.W.Frag) {X : Cx} (h : X.K = K := by rfl) : CallR X (.type "list") (rListS K) := by
  subst h
  intro pins s σ H args us Q I rel ⟨p, ys, eargs, side, q⟩
  subst eargs
  obtain ⟨u, rfl, ru⟩ := vals1 rel
  cases ru
  have room : ∀ {its : List Value}, Vals ys its → ys.length ≤ sizeLine → its.toArray.size ≤ sizeLine := fun r z => by rw [List.size_toArray, ← r.length]; exact z
  have done : ∀ (its : List Value), Vals ys its → ys.length ≤ sizeLine → ∀ (h2 : Heap) (c2 : Nat), (∀ a o, s.heap.get? a = some o → h2.get? a = some o) →
      h2.get? s.heap.objs.size = some ⟨.type "list", none, .seq its.toArray c2, #[]⟩ → EP X pins σ Q (.ref s.heap.objs.size) { s with heap := h2 } := fun its r z h2 c2 keep at2 => by
    have fresh := I.hok.fresh (Nat.le_refl s.heap.objs.size)
    refine ⟨.ref s.heap.objs.size, upd H s.heap.objs.size (.lst ys), I.laid (t' := s.toks) keep (Nat.le_refl _) ?_, rfl, q _ fresh (Nat.ne_of_gt I.big)⟩
    exact ⟨z, _, c2, r, at2⟩
  cases side with
  | inl sl =>
    obtain ⟨its, r, pl, z⟩ := I.list sl
    obtain ⟨o, at1, cls1, n, data1⟩ := pl.isList
    have small := room r z
    exact call_list_seq p (Or.inl rfl) at1 cls1 data1 (fun _ _ keep at2 => done its r z _ _ keep at2) (by omega)
  | inr st =>
    obtain ⟨its, r, pl, z⟩ := I.tuple st
    obtain ⟨o, at1, cls1, n, data1⟩ := pl
    have small := room r z
    exact call_list_seq p (Or.inr rfl) at1 cls1 data1 (fun _ _ keep at2 => done its r z _ _ keep at2) (by omega)
end TL
/-! ### a dict compared with a text; a value of any kind compared with a text -/
namespace PySem.SeqAt
open AutoSeq1 (wpAny_loadPart')
open MeetsSeq
theorem dk_no_text (a : Addr) (es : Array DictEntry) (n : Nat) (o1 : Option Addr) (sl : Array (Option Value)) (x : Str) (t : Tok) :
    Meets (Builtin.«dict.__eq__» ⟨[.ref a, .str x t], []⟩) (fun _ R s => s.heap.get? a = some ⟨.type "dict", o1, .dict es n, sl⟩ ∧ R (.ok (.ret .notImplemented)) s) :=
  .of_wp fun prog w A R s h => by
    obtain ⟨hp, g, d, tk, os⟩ := s
    obtain ⟨at1, q⟩ := h
    have no := F.sub_str_dict
    wp_walk using wpAny_loadPart' at1, wpAny_load at1
    exact ⟨_, rfl, q⟩
theorem text_no_dk (x : Str) (t : Tok) (a : Addr) (c : Value) (es : Array DictEntry) (n : Nat) (o1 : Option Addr) (sl : Array (Option Value)) :
    Meets (Builtin.«str.__eq__» ⟨[.str x t, .ref a], []⟩) (fun _ R s => s.heap.get? a = some ⟨c, o1, .dict es n, sl⟩ ∧ R (.ok (.ret .notImplemented)) s) :=
  .of_wp fun prog w A R s h => by
    obtain ⟨hp, g, d, tk, os⟩ := s
    obtain ⟨at1, q⟩ := h
    wp_walk using wpAny_loadPart' at1, wpAny_load at1
    exact ⟨_, rfl, q⟩
end PySem.SeqAt
namespace TL
open PySem PySem.Spec PyProof.Rows L2
/-- what == says of a value and a text -/
inductive TxV (K : PySem.W.Frag) (H : Hp) : V → Str → Bool → Prop
  | sc {x : V} {z : Str} (h : scal x (.str z) = true) : TxV K H x z (decide (x = .str z))
  | lst {a : Addr} {xs : List V} {z : Str} (h : H a = some (.lst xs)) : TxV K H (.ref a) z false
  | tup {a : Addr} {xs : List V} {z : Str} (h : SqT K H a xs) : TxV K H (.ref a) z false
  | dct {a : Addr} {kvs : List (Key × V)} {z : Str} (h : H a = some (.dK kvs)) : TxV K H (.ref a) z false
def rEqT (K : PySem.W.Frag) : R2 := fun x y H Q => ∃ (z : Str) (b : Bool), y = .str z ∧ TxV K H x z b ∧ Q (.bl b) H
theorem eqTK (K : PySem.W.Frag) {X : Cx} (hu : X.A.units + 64 < cLine) (h : X.K = K := by rfl) : OpR X (compareOp .Eq) (rEqT K) := by
  subst h
  have room : X.A.units < cLine := by omega
  intro pins s σ H x y v u Q I rx ry ⟨z, b, ey, tv, q⟩
  subst ey
  cases tv with
  | sc h => exact op_eq pins s σ H x _ v u Q I rx ry ⟨h, q⟩
  | lst hl =>
    cases rx
    obtain ⟨t, rfl⟩ := ry
    obtain ⟨its, r, pl, _⟩ := I.list (SqL.of hl)
    exact SeqAt.RcAt.list_str z t pl.isList room _ _ _ _ ⟨.bl _, H, I, rfl, q⟩
  | tup ht =>
    cases rx
    obtain ⟨t, rfl⟩ := ry
    obtain ⟨its, r, pl, _⟩ := I.tuple ht
    exact SeqAt.RcAt.tuple_str z t pl room _ _ _ _ ⟨.bl _, H, I, rfl, q⟩
  | dct hd =>
    cases rx
    obtain ⟨t, rfl⟩ := ry
    obtain ⟨_, _, vs, _, o, es, ep, ho, hx, hdt, _⟩ := dk_of I.hok hd
    obtain ⟨c, o1, dt, sl⟩ := o
    have hc : c = .type "dict" := hx.1
    have hdt : dt = .dict es ep := hdt
    subst hc
    subst hdt
    show wpAny _ X.A (richCompare .Eq _ _) _ _ _
    exact SeqAt.rc_eq_decline_or (k := false) ⟨_, ho, rfl⟩ (typeIs_str s z t) (by decide) F.sub_str_dict F.slot_dict_eq F.slot_str_eq_refl
      (fun _ g => call_meets F.slot_dict_eq ⟨_, ho, rfl⟩ F.entry_dict_eq (F.args_dict_eq_2 _ _) (SeqAt.dk_no_text _ es ep o1 sl z t) ⟨ho, g⟩)
      (fun _ g => call_meets F.slot_str_eq_refl (typeIs_str s z t) F.entry_str_eq (F.args_str_eq_2 _ _) (SeqAt.text_no_dk z t _ (.type "dict") es ep o1 sl) ⟨ho, g⟩)
      (fun _ g => wpAny_of_eq rfl g) (.inr room) ⟨.bl _, H, I, rfl, q⟩
/-- a tuple of any items compared with the empty one -/
def rEqE (K : PySem.W.Frag) : R2 := fun x y H Q => ∃ (a b : Addr) (xs : List V), x = .ref a ∧ y = .ref b ∧ SqT K H a xs ∧ SqT K H b [] ∧ Q (.bl xs.isEmpty) H
theorem eqEK (K : PySem.W.Frag) {X : Cx} (hu : X.A.units + 64 < cLine) (h : X.K = K := by rfl) : OpR X (compareOp .Eq) (rEqE K) := by
  subst h
  have room : X.A.units < cLine := by omega
  intro pins s σ H x y v u Q I rx ry ⟨a, b, xs, ex, ey, ta, tb, q⟩
  subst ex
  subst ey
  cases rx
  cases ry
  obtain ⟨its, r, pl, _⟩ := I.tuple ta
  obtain ⟨its2, r2, pl2, _⟩ := I.tuple tb
  cases r2
  refine SeqAt.eq_tupleAt (e := fun _ => true) pl pl2 room (fun j _ h2 => absurd h2 (by simp)) ⟨.bl _, H, I, ?_, q⟩
  cases r with
  | nil => rfl
  | cons _ _ => simp [L2.RelV]
end TL
namespace TL
open PySem PySem.Spec PyProof.Rows L2
/-- a comprehension over enumerate(tuple) -/
theorem lc_enumT {K : PySem.W.Frag} {a : Addr} {xs : List V} {g : TG} {tt : TT} {te : TE} {vs : List Nat} {σ : L2.St} {H1 : Hp} {D : Addr} {Qd : Hp → Prop} (Pv : Nat → Hp → Prop) (h0 : Pv 0 (upd H1 D (.lst []))) (hl : ∀ i H, i ≤ xs.length → Pv i H → SqT K H a xs)
    (hs : ∀ i x T H, xs[i]? = some x → H T = none → Pv i H → g (.ref T) (wipe σ vs) (upd H T (.tup [.int (i : Nat), x])) fun σ2 H2 => wipe σ2 vs = wipe σ vs ∧ tt σ2 H2 fun b H3 =>
      if b = true then te σ2 H3 fun y H4 => ∃ acc, H4 D = some (.lst acc) ∧ acc.length < sizeLine ∧ Pv (i + 1) (upd H4 D (.lst (acc ++ [y]))) else Pv (i + 1) H3) (hd : ∀ H, Pv xs.length H → Qd H) :
    LcGoal (IteT K a) g tt te vs σ H1 D Qd := by
  refine ⟨fun i m H => m = xs.length - i ∧ i ≤ xs.length ∧ Pv i H, ⟨xs.length, by simp, Nat.zero_le _, h0⟩, ?_⟩
  rintro i m H ⟨rfl, hi, p⟩
  have q := hl i H hi p
  by_cases hlt : i < xs.length
  · refine .inr ⟨⟨xs, xs[i], q, by simp [hlt]⟩, Pv (i + 1), fun H' p' => ⟨xs.length - (i + 1), by omega, rfl, hlt, p'⟩, fun x H' y => ?_⟩
    obtain ⟨T, z, rfl, nT, rfl, hx⟩ := y
    exact hs i z T H (hx _ q) nT p
  · have e : i = xs.length := by omega
    subst e
    exact .inl ⟨⟨xs, q, Nat.le_refl _⟩, hd H p⟩
end TL
namespace TL
open PySem PySem.Spec PyProof.Rows L2
def topS (i : Nat) : Stmt := PySem.Challenge.pw_treelamps_k13_lamp_certificates_judged.main.body.getD i (.Pass ⟨0, 0, 0, 0⟩)
def clsS : Stmt → Nat → Stmt
  | .ClassDef _ _ _ body _ _ _ _ _ _ _, j => body.getD j (.Pass ⟨0, 0, 0, 0⟩)
  | s, _ => s
abbrev sNolampInit : Stmt := clsS (topS 2) 0
abbrev nNolampInit : List Str := ["self", "value"]
theorem scNolampInit : FnScope nNolampInit ["self", "value"] (defScope sNolampInit) :=
  ⟨rfl, rfl, rfl, by decide +kernel, rfl, by decide +kernel, by decide +kernel⟩
abbrev sNotadjacentInit : Stmt := clsS (topS 3) 0
abbrev nNotadjacentInit : List Str := ["self", "value"]
theorem scNotadjacentInit : FnScope nNotadjacentInit ["self", "value"] (defScope sNotadjacentInit) :=
  ⟨rfl, rfl, rfl, by decide +kernel, rfl, by decide +kernel, by decide +kernel⟩
abbrev sBlockedInit : Stmt := clsS (topS 4) 0
abbrev nBlockedInit : List Str := ["self", "vertex"]
theorem scBlockedInit : FnScope nBlockedInit ["self", "vertex"] (defScope sBlockedInit) :=
  ⟨rfl, rfl, rfl, by decide +kernel, rfl, by decide +kernel, by decide +kernel⟩
abbrev sBadslidesInit : Stmt := clsS (topS 5) 0
abbrev nBadslidesInit : List Str := ["self", "index"]
theorem scBadslidesInit : FnScope nBadslidesInit ["self", "index"] (defScope sBadslidesInit) :=
  ⟨rfl, rfl, rfl, by decide +kernel, rfl, by decide +kernel, by decide +kernel⟩
abbrev sIsNumber : Stmt := topS 7
abbrev nIsNumber : List Str := ["value"]
theorem scIsNumber : FnScope nIsNumber ["value"] (defScope sIsNumber) :=
  ⟨rfl, rfl, rfl, by decide +kernel, rfl, by decide +kernel, by decide +kernel⟩
abbrev sIsPair : Stmt := topS 8
abbrev nIsPair : List Str := ["value"]
theorem scIsPair : FnScope nIsPair ["value"] (defScope sIsPair) :=
  ⟨rfl, rfl, rfl, by decide +kernel, rfl, by decide +kernel, by decide +kernel⟩
abbrev sIsVertex : Stmt := topS 9
abbrev nIsVertex : List Str := ["n", "value"]
theorem scIsVertex : FnScope nIsVertex ["n", "value"] (defScope sIsVertex) :=
  ⟨rfl, rfl, rfl, by decide +kernel, rfl, by decide +kernel, by decide +kernel⟩
abbrev sIsAscending : Stmt := topS 10
abbrev nIsAscending : List Str := ["n", "value", "least", "item"]
theorem scIsAscending : FnScope nIsAscending ["n", "value"] (defScope sIsAscending) :=
  ⟨rfl, rfl, rfl, by decide +kernel, rfl, by decide +kernel, by decide +kernel⟩
abbrev sIsSetting : Stmt := topS 11
abbrev nIsSetting : List Str := ["forest", "value", "n", "edges", "a", "b"]
theorem scIsSetting : FnScope nIsSetting ["forest", "value"] (defScope sIsSetting) :=
  ⟨rfl, rfl, rfl, by decide +kernel, rfl, by decide +kernel, by decide +kernel⟩
abbrev sNeighboursOf : Stmt := topS 12
abbrev nNeighboursOf : List Str := ["forest", "vertex", "n", "edges", "lower", "upper", "a", "b"]
theorem scNeighboursOf : FnScope nNeighboursOf ["forest", "vertex"] (defScope sNeighboursOf) :=
  ⟨rfl, rfl, rfl, by decide +kernel, rfl, by decide +kernel, by decide +kernel⟩
abbrev sBlockingLamps : Stmt := topS 14
abbrev nBlockingLamps : List Str := ["forest", "setting", "u", "v", "vertex"]
theorem scBlockingLamps : FnScope nBlockingLamps ["forest", "setting", "u", "v"] (defScope sBlockingLamps) :=
  ⟨rfl, rfl, rfl, by decide +kernel, rfl, by decide +kernel, by decide +kernel⟩
abbrev sCheckLamp : Stmt := topS 15
abbrev nCheckLamp : List Str := ["setting", "value"]
theorem scCheckLamp : FnScope nCheckLamp ["setting", "value"] (defScope sCheckLamp) :=
  ⟨rfl, rfl, rfl, by decide +kernel, rfl, by decide +kernel, by decide +kernel⟩
abbrev sSlideLamp : Stmt := topS 16
abbrev nSlideLamp : List Str := ["forest", "setting", "u", "v", "blocking", "lamp"]
theorem scSlideLamp : FnScope nSlideLamp ["forest", "setting", "u", "v"] (defScope sSlideLamp) :=
  ⟨rfl, rfl, rfl, by decide +kernel, rfl, by decide +kernel, by decide +kernel⟩
abbrev sPossibleSlides : Stmt := topS 17
abbrev nPossibleSlides : List Str := ["forest", "setting", "steps", "u", "v"]
theorem scPossibleSlides : FnScope nPossibleSlides ["forest", "setting"] (defScope sPossibleSlides) :=
  ⟨rfl, rfl, rfl, by decide +kernel, rfl, by decide +kernel, by decide +kernel⟩
abbrev sIsPossible : Stmt := topS 18
abbrev nIsPossible : List Str := ["forest", "setting", "value", "u", "v"]
theorem scIsPossible : FnScope nIsPossible ["forest", "setting", "value"] (defScope sIsPossible) :=
  ⟨rfl, rfl, rfl, by decide +kernel, rfl, by decide +kernel, by decide +kernel⟩
abbrev sFollow : Stmt := topS 19
abbrev nFollow : List Str := ["forest", "setting", "slides", "lamps", "index", "item", "u", "v"]
theorem scFollow : FnScope nFollow ["forest", "setting", "slides"] (defScope sFollow) :=
  ⟨rfl, rfl, rfl, by decide +kernel, rfl, by decide +kernel, by decide +kernel⟩
abbrev sChosenNeighbours : Stmt := topS 21
abbrev nChosenNeighbours : List Str := ["forest", "chosen", "vertex", "other"]
theorem scChosenNeighbours : FnScope nChosenNeighbours ["forest", "chosen", "vertex"] (defScope sChosenNeighbours) :=
  ⟨rfl, rfl, rfl, by decide +kernel, rfl, by decide +kernel, by decide +kernel⟩
abbrev sIsLock : Stmt := topS 22
abbrev nIsLock : List Str := ["forest", "setting", "value", "n", "edges", "vertex"]
theorem scIsLock : FnScope nIsLock ["forest", "setting", "value"] (defScope sIsLock) :=
  ⟨rfl, rfl, rfl, by decide +kernel, rfl, by decide +kernel, by decide +kernel⟩
abbrev sFreeNeighbour : Stmt := topS 23
abbrev nFreeNeighbour : List Str := ["forest", "left", "lamp", "vertex"]
theorem scFreeNeighbour : FnScope nFreeNeighbour ["forest", "left", "lamp"] (defScope sFreeNeighbour) :=
  ⟨rfl, rfl, rfl, by decide +kernel, rfl, by decide +kernel, by decide +kernel⟩
abbrev sExitsOf : Stmt := topS 24
abbrev nExitsOf : List Str := ["forest", "setting", "exits", "left", "found", "lamp", "exit_vertex"]
theorem scExitsOf : FnScope nExitsOf ["forest", "setting"] (defScope sExitsOf) :=
  ⟨rfl, rfl, rfl, by decide +kernel, rfl, by decide +kernel, by decide +kernel⟩
abbrev sGreatestLock : Stmt := topS 25
abbrev nGreatestLock : List Str := ["forest", "setting", "exits", "lamp"]
theorem scGreatestLock : FnScope nGreatestLock ["forest", "setting"] (defScope sGreatestLock) :=
  ⟨rfl, rfl, rfl, by decide +kernel, rfl, by decide +kernel, by decide +kernel⟩
abbrev sSlidesOut : Stmt := topS 26
abbrev nSlidesOut : List Str := ["forest", "setting", "exits", "lamp", "slides", "other"]
theorem scSlidesOut : FnScope nSlidesOut ["forest", "setting", "exits", "lamp"] (defScope sSlidesOut) :=
  ⟨rfl, rfl, rfl, by decide +kernel, rfl, by decide +kernel, by decide +kernel⟩
abbrev sLampCertificate : Stmt := topS 27
abbrev nLampCertificate : List Str := ["forest", "setting", "lamp", "exits"]
theorem scLampCertificate : FnScope nLampCertificate ["forest", "setting", "lamp"] (defScope sLampCertificate) :=
  ⟨rfl, rfl, rfl, by decide +kernel, rfl, by decide +kernel, by decide +kernel⟩
abbrev sMovesLamp : Stmt := topS 28
abbrev nMovesLamp : List Str := ["forest", "setting", "lamp", "value", "starts", "u", "v"]
theorem scMovesLamp : FnScope nMovesLamp ["forest", "setting", "lamp", "value"] (defScope sMovesLamp) :=
  ⟨rfl, rfl, rfl, by decide +kernel, rfl, by decide +kernel, by decide +kernel⟩
abbrev sLampHolds : Stmt := topS 29
abbrev nLampHolds : List Str := ["forest", "setting", "lamp", "value", "kind", "proof"]
theorem scLampHolds : FnScope nLampHolds ["forest", "setting", "lamp", "value"] (defScope sLampHolds) :=
  ⟨rfl, rfl, rfl, by decide +kernel, rfl, by decide +kernel, by decide +kernel⟩
abbrev sLDeck : Stmt := topS 31
abbrev nLDeck : List Str := ["_law_script", "_law_cell"]
theorem scLDeck : FnScope nLDeck ["_law_script"] (defScope sLDeck) :=
  ⟨rfl, rfl, rfl, by decide +kernel, rfl, by decide +kernel, by decide +kernel⟩
abbrev sLDraw : Stmt := topS 32
abbrev nLDraw : List Str := ["_law_deck_here", "_law_bound", "_law_place", "_law_cell", "_law_mixed"]
theorem scLDraw : FnScope nLDraw ["_law_deck_here", "_law_bound"] (defScope sLDraw) :=
  ⟨rfl, rfl, rfl, by decide +kernel, rfl, by decide +kernel, by decide +kernel⟩
abbrev sLForest : Stmt := topS 33
abbrev nLForest : List Str := ["_law_deck_here", "_law_most", "_law_n", "_law_way", "_law_pairs", "_law_vertex", "_law_ends", "_law_left", "_law_names", "_law_k", "_law_a", "_law_b"]
theorem scLForest : FnScope nLForest ["_law_deck_here", "_law_most"] (defScope sLForest) :=
  ⟨rfl, rfl, rfl, by decide +kernel, rfl, by decide +kernel, by decide +kernel⟩
abbrev sLNear : Stmt := topS 34
abbrev nLNear : List Str := ["_law_forest_here", "_law_vertex", "_law_a", "_law_b"]
theorem scLNear : FnScope nLNear ["_law_forest_here", "_law_vertex"] (defScope sLNear) :=
  ⟨rfl, rfl, rfl, by decide +kernel, rfl, by decide +kernel, by decide +kernel⟩
abbrev sLParities : Stmt := topS 35
abbrev nLParities : List Str := ["_law_forest_here", "_law_parities_here", "_law_start", "_law_waiting", "_law_vertex", "_law_other"]
theorem scLParities : FnScope nLParities ["_law_forest_here"] (defScope sLParities) :=
  ⟨rfl, rfl, rfl, by decide +kernel, rfl, by decide +kernel, by decide +kernel⟩
abbrev sLSetting : Stmt := topS 36
abbrev nLSetting : List Str := ["_law_deck_here", "_law_forest_here", "_law_parities_here", "_law_way", "_law_left", "_law_lamps", "_law_vertex", "_law_chance", "_law_lighted", "_law_other"]
theorem scLSetting : FnScope nLSetting ["_law_deck_here", "_law_forest_here"] (defScope sLSetting) :=
  ⟨rfl, rfl, rfl, by decide +kernel, rfl, by decide +kernel, by decide +kernel⟩
abbrev sLIsLock : Stmt := topS 37
abbrev nLIsLock : List Str := ["_law_forest_here", "_law_lamps", "_law_vertex", "_law_other"]
theorem scLIsLock : FnScope nLIsLock ["_law_forest_here", "_law_lamps"] (defScope sLIsLock) :=
  ⟨rfl, rfl, rfl, by decide +kernel, rfl, by decide +kernel, by decide +kernel⟩
abbrev sLRigid : Stmt := topS 38
abbrev nLRigid : List Str := ["_law_forest_here", "_law_setting_here", "_law_left", "_law_size", "_law_lamp", "_law_vertex", "_law_near_here", "_law_other"]
theorem scLRigid : FnScope nLRigid ["_law_forest_here", "_law_setting_here"] (defScope sLRigid) :=
  ⟨rfl, rfl, rfl, by decide +kernel, rfl, by decide +kernel, by decide +kernel⟩
abbrev sLCanSlide : Stmt := topS 39
abbrev nLCanSlide : List Str := ["_law_forest_here", "_law_setting_here", "_law_u", "_law_v", "_law_other"]
theorem scLCanSlide : FnScope nLCanSlide ["_law_forest_here", "_law_setting_here", "_law_u", "_law_v"] (defScope sLCanSlide) :=
  ⟨rfl, rfl, rfl, by decide +kernel, rfl, by decide +kernel, by decide +kernel⟩
abbrev sLAfter : Stmt := topS 40
abbrev nLAfter : List Str := ["_law_setting_here", "_law_u", "_law_v", "_law_lamp"]
theorem scLAfter : FnScope nLAfter ["_law_setting_here", "_law_u", "_law_v"] (defScope sLAfter) :=
  ⟨rfl, rfl, rfl, by decide +kernel, rfl, by decide +kernel, by decide +kernel⟩
abbrev sLFollowed : Stmt := topS 41
abbrev nLFollowed : List Str := ["_law_forest_here", "_law_setting_here", "_law_slides", "_law_slide", "_law_vertex"]
theorem scLFollowed : FnScope nLFollowed ["_law_forest_here", "_law_setting_here", "_law_slides"] (defScope sLFollowed) :=
  ⟨rfl, rfl, rfl, by decide +kernel, rfl, by decide +kernel, by decide +kernel⟩
abbrev sLOdd : Stmt := topS 42
abbrev nLOdd : List Str := ["_law_deck_here", "_law_values"]
theorem scLOdd : FnScope nLOdd ["_law_deck_here"] (defScope sLOdd) :=
  ⟨rfl, rfl, rfl, by decide +kernel, rfl, by decide +kernel, by decide +kernel⟩
abbrev sLReplaced : Stmt := topS 43
abbrev nLReplaced : List Str := ["_law_deck_here", "_law_value", "_law_depth", "_law_index", "_law_part", "_law_way"]
theorem scLReplaced : FnScope nLReplaced ["_law_deck_here", "_law_value", "_law_depth"] (defScope sLReplaced) :=
  ⟨rfl, rfl, rfl, by decide +kernel, rfl, by decide +kernel, by decide +kernel⟩
abbrev sLIsLockOf : Stmt := topS 44
abbrev nLIsLockOf : List Str := ["_law_forest_here", "_law_setting_here", "_law_value", "_law_index", "_law_lamp"]
theorem scLIsLockOf : FnScope nLIsLockOf ["_law_forest_here", "_law_setting_here", "_law_value"] (defScope sLIsLockOf) :=
  ⟨rfl, rfl, rfl, by decide +kernel, rfl, by decide +kernel, by decide +kernel⟩
abbrev sLDue : Stmt := topS 45
abbrev nLDue : List Str := ["_law_forest_here", "_law_setting_here", "_law_lamp", "_law_value", "_law_k", "_law_slide"]
theorem scLDue : FnScope nLDue ["_law_forest_here", "_law_setting_here", "_law_lamp", "_law_value"] (defScope sLDue) :=
  ⟨rfl, rfl, rfl, by decide +kernel, rfl, by decide +kernel, by decide +kernel⟩
abbrev sLWalk : Stmt := topS 46
abbrev nLWalk : List Str := ["_law_deck_here", "_law_forest_here", "_law_setting_here", "_law_lamp", "_law_slides", "_law_turn", "_law_options", "_law_u", "_law_v"]
theorem scLWalk : FnScope nLWalk ["_law_deck_here", "_law_forest_here", "_law_setting_here", "_law_lamp"] (defScope sLWalk) :=
  ⟨rfl, rfl, rfl, by decide +kernel, rfl, by decide +kernel, by decide +kernel⟩
abbrev sLaw : Stmt := topS 47
abbrev nLaw : List Str := ["_law_script", "_law_deck_here", "_law_turn", "_law_forest_here", "_law_setting_here", "_law_rigid_here", "_law_lamp", "_law_values", "_law_value", "_law_bent", "_law_shown", "_law_other", "_law_k"]
theorem scLaw : FnScope nLaw ["_law_script"] (defScope sLaw) :=
  ⟨rfl, rfl, rfl, by decide +kernel, rfl, by decide +kernel, by decide +kernel⟩
section
variable {P : Program} {w : World} {K : PySem.W.Frag} {mg : Str → Option Value} {base : Heap}
/-! ### the deck and its draws -/
theorem cut60 (ns : List Int) : ∃ ms : List Int, cutV (ns.map V.int) none (some 60) = ms.map V.int ∧ ms.length ≤ 60 := by
  unfold cutV
  rw [HT.sIx_none, show HT.sIx (ns.map V.int).length (ns.map V.int).length (some 60) = min 60 (ns.map V.int).length from HT.sIx_nat _ _ 60]
  rw [List.drop_zero]
  refine ⟨ns.take (min 60 (ns.map V.int).length), ?_, ?_⟩
  · rw [List.map_take]
    try rfl
  · rw [List.length_take]
    omega
def spLDeck (K : PySem.W.Frag) : Sp := fun vs H Q _ => ∃ (a : Addr) (ns : List Int), vs = [.ref a] ∧
  SqL K H a (ns.map V.int) ∧ ns.length ≤ 63 ∧ ∀ H' d l, Same H H' → Deck H' d l 0 → Q (.ref d) H'
theorem ok_LDeck {f : Addr} {fd : FuncData} {k : Nat} (F : Fun K "_law_deck" "_law_deck" sLDeck f fd) (m_abs : mg "abs" = none) :
    FnOk P w K mg base CX0 (k + 1) f fd ["_law_script"] (spLDeck K) := by
  refine F.ok scLDeck (fun vs H Q E h => ?_) (fun cdv A outer s H vs Q E hr h => ?_)
  · obtain ⟨a, ns, rfl, _⟩ := h
    rfl
  · obtain ⟨a, ns, rfl, hS, hlen, q⟩ := h
    refine ⟨_, (pss_one (ps_ret (pe_lst (pa_cons (pe_lc (own := [("_law_cell", 1)]) (g := (gName 1)) (tt := tYes) rfl scLDeck.nd (piLK K (pe_slice (slLK K) (pv 0) po_none (po_some pe_int)))
      (blkOk_by (own := [("_law_cell", 1)]) (N := nLDeck) (sc := (defScope sLDeck)) (by decide +kernel))
      (fun _ _ _ _ _ => (pg_name (i := 1) scLDeck.nd rfl (Or.inl rfl))) (fun _ _ _ _ _ => pts_nil)
      (fun _ _ _ _ _ => (pe_callB call_abs (by rfl) m_abs (by decide +kernel) (pa_cons (pv 1) pa_nil)))) (pa_cons pe_int pa_nil))))), ?_⟩
    obtain ⟨ms, ec, lm⟩ := cut60 ns
    refine ⟨.ref a, rfl, 60, rfl, a, ns.map V.int, rfl, hS, fun c nc => ?_⟩
    rw [ec]
    have s1 := same_upd (o := .lst (ms.map V.int)) nc
    have e1 := same_at (o := .lst (ms.map V.int)) nc
    refine ⟨c, rfl, ⟨_, SqL.of e1⟩, fun D nD => ?_⟩
    refine lc_listI (K := K) (fun _ => true) (fun o => .int (if o < 0 then -o else o)) nD (SqL.of e1) (fun _ => rfl) (fun o _ H' R s2 hR => hR H' (Same.refl _)) (fun o _ _ H' R s2 hR => ⟨.int o, rfl, o, rfl, hR H' _ (Same.refl _) (.int _)⟩) (fun _ => only_int _) (by omega) (fun H2 ys s2 eD dy => ?_)
    rw [filt_true] at dy
    have ey : ys = (ms.map fun o => if o < 0 then -o else o).map V.int := DpAll.ints (by rw [List.map_map]; exact dy)
    subst ey
    refine ⟨by show 2 ≤ sizeLine; decide, fun d nd => ?_⟩
    have ndD : D ≠ d := ne_of_none eD nd
    refine q _ d D ((s1.trans s2).trans (same_upd nd)) ⟨0, (ms.map fun z => if z < 0 then -z else z), Nat.le_refl _, upd_same, ?_, ?_, ?_⟩
    · rw [upd_ne ndD]
      exact eD
    · intro z hz
      obtain ⟨y, _, rfl⟩ := List.mem_map.mp hz
      show 0 ≤ if y < 0 then -y else y
      split <;> omega
    · rw [List.length_map]
      omega
def spLDraw : Sp := fun vs H Q _ => ∃ (d l : Addr) (n : Nat) (m : Int), vs = [.ref d, .int m] ∧ 0 < m ∧ m < 1000000 ∧ Deck H d l n ∧ n < 1000000 ∧
  ∀ H' r, 0 ≤ r → r < m → Fm d l H H' → Deck H' d l (n + 1) → Q (.int r) H'
theorem ok_LDraw {f : Addr} {fd : FuncData} {k : Nat} (F : Fun K "_law_draw" "_law_draw" sLDraw f fd) (m_len : mg "len" = none) (m_max : mg "max" = none) :
    FnOk P w K mg base CX0 (k + 1) f fd ["_law_deck_here", "_law_bound"] spLDraw := by
  refine F.ok scLDraw (fun vs H Q E h => ?_) (fun cdv A outer s H vs Q E hr h => ?_)
  · obtain ⟨d, l, n, m, rfl, _⟩ := h
    rfl
  · obtain ⟨d, l, n, m, rfl, m0, m1, hD, hn, q⟩ := h
    refine ⟨_, (pss_cons (ps_asg (pe_op op_add (pe_ix (ixLK K) (pv 0) pe_int (fun _ _ => rfl)) pe_int) (pg_sub (pv 0) pe_int set_list))
    (pss_cons (ps_set (i := 2) scLDraw.nd rfl (.inl rfl) (pe_op op_mod (pe_ix (ixLK K) (pv 0) pe_int (fun _ _ => rfl)) (pe_callB (call_max2 rfl) (by rfl) m_max (by decide +kernel) (pa_cons pe_int (pa_cons (pe_callB (lenK K) (by rfl) m_len (by decide +kernel) (pa_cons (pe_ix (ixLK K) (pv 0) pe_int (fun _ _ => rfl)) pa_nil)) pa_nil)))))
    (pss_cons (ps_set (i := 3) scLDraw.nd rfl (.inl rfl) (pe_ix (ixLK K) (pe_op op_cat (pe_ix (ixLK K) (pv 0) pe_int (fun _ _ => rfl)) (pe_lst (pa_cons pe_int pa_nil))) (pv 2) (fun _ _ => rfl)))
    (pss_cons (ps_if (pt_cmpR op_ge (pv 3) (pe_op op_pow pe_int pe_int) (nomark _)) (pss_cons (ps_asg (pe_op op_fdiv (pv 3) (pv 1)) (pg_sub (pe_ix (ixLK K) (pv 0) pe_int (fun _ _ => rfl)) (pv 2) set_list))
    (pss_one (ps_ret (pe_op op_mod (pv 3) (pv 1))))) pss_nil)
    (pss_cons (ps_set (i := 4) scLDraw.nd rfl (.inl rfl) (pe_op op_mod (pe_op op_pow (pe_op op_add (pe_op op_add (pe_op op_mod (pv 3) pe_int) (pe_op op_mul pe_int (pe_ix (ixLK K) (pv 0) pe_int (fun _ _ => rfl)))) pe_int) pe_int) pe_int))
    (pss_one (ps_ret (pe_op op_mod (pe_op op_add (pe_op op_fdiv (pv 4) pe_int) (pe_op op_mul pe_int (pe_ix (ixLK K) (pv 0) pe_int (fun _ _ => rfl)))) (pv 1))))))))), ?_⟩
    have nel := hD.ne
    obtain ⟨c, ns, hc, h1, h2, h3, h4⟩ := hD
    -- deck[1] = deck[1] + 1
    refine ⟨.ref d, rfl, d, _, 1, .int (c : Int), rfl, rfl, SqL.of h1, atI_nat (j := 1) rfl, (c : Int), 1, rfl, rfl, .ref d, rfl, d, _, 1, 1, rfl, rfl, h1, rfl, ?_⟩
    have e1 : (upd H d (.lst ([V.ref l, V.int (c : Int)].set 1 (.int ((c : Int) + 1))))) d = some (.lst [V.ref l, V.int ((c + 1 : Nat) : Int)]) := upd_same
    have e2 : (upd H d (.lst ([V.ref l, V.int (c : Int)].set 1 (.int ((c : Int) + 1))))) l = some (.lst (ns.map V.int)) := by rw [upd_ne nel.symm]; exact h2
    have f1 : Fm d l H (upd H d (.lst ([V.ref l, V.int (c : Int)].set 1 (.int ((c : Int) + 1))))) := fun b o n1 n2 e => by rw [upd_ne n1]; exact e
    generalize upd H d (.lst ([V.ref l, V.int (c : Int)].set 1 (.int ((c : Int) + 1)))) = H1 at e1 e2 f1 ⊢
    -- place
    refine ⟨.ref d, rfl, d, _, 1, .int ((c + 1 : Nat) : Int), rfl, rfl, SqL.of e1, atI_nat (j := 1) rfl, .ref d, rfl, d, _, 0, .ref l, rfl, rfl, SqL.of e1, atI_nat (j := 0) rfl, l, ns.map V.int, rfl, .inl (SqL.of e2), 1, _, rfl, _, _, rfl, rfl, ?_, ?_⟩
    · split <;> omega
    obtain ⟨j, hj, hjl⟩ : ∃ j : Nat, ((c + 1 : Nat) : Int) % (if (((ns.map V.int).length : Nat) : Int) > 1 then (((ns.map V.int).length : Nat) : Int) else 1) = (j : Int) ∧ j < (ns ++ [0]).length := by
      rw [List.length_map, List.length_append, List.length_singleton]
      have h := modIn (x := ((c + 1 : Nat) : Int)) (m := if ((ns.length : Nat) : Int) > 1 then ((ns.length : Nat) : Int) else 1) (by split <;> omega)
      refine ⟨(((c + 1 : Nat) : Int) % (if ((ns.length : Nat) : Int) > 1 then ((ns.length : Nat) : Int) else 1)).toNat, by omega, ?_⟩
      split at h
      · rename_i h5
        rw [if_pos h5]
        omega
      · rename_i h5
        rw [if_neg h5]
        omega
    dsimp only [gName]
    rw [hj]
    -- cell
    refine ⟨.ref d, rfl, d, _, 0, .ref l, rfl, rfl, SqL.of e1, atI_nat (j := 0) rfl, by show 1 ≤ sizeLine; decide, fun z nz => ?_⟩
    have sz := same_upd (o := .lst [V.int 0]) nz
    refine ⟨l, z, _, _, rfl, rfl, sz _ _ e2, upd_same, Nat.le_of_lt (small1000 (by rw [List.length_map]; show ns.length + 1 ≤ 1000; omega)), fun p np => ?_⟩
    have sp := same_upd (o := .lst (ns.map V.int ++ [V.int 0])) np
    have ep := same_at (o := .lst (ns.map V.int ++ [V.int 0])) np
    have e12 := sp _ _ (sz _ _ e1)
    have e22 := sp _ _ (sz _ _ e2)
    have f12 : Fm d l H _ := f1.trans (Same.fm (sz.trans sp))
    generalize upd _ p (.lst (ns.map V.int ++ [V.int 0])) = H2 at sp ep e12 e22 f12 ⊢
    have gx : (ns.map V.int ++ [V.int 0])[j]? = some (.int (ns ++ [0])[j]) := by
      rw [show ns.map V.int ++ [V.int 0] = (ns ++ [0]).map V.int by simp, List.getElem?_map, List.getElem?_eq_getElem hjl]
      rfl
    have x0 : 0 ≤ (ns ++ [0])[j] := by
      have hm := List.getElem_mem hjl
      rcases List.mem_append.mp hm with hm | hm
      · exact h3 _ hm
      · rw [List.mem_singleton.mp hm]
        exact Int.le_refl _
    have big : (10 : Int) ^ (18 : Int).toNat ≤ (ns ++ [0])[j] → j < ns.length := fun hb => by
      by_cases hjn : j < ns.length
      · exact hjn
      · exfalso
        have : (ns ++ [0])[j] = 0 := by
          rw [List.getElem_append_right (by omega)]
          simp
        rw [this] at hb
        exact absurd hb (by decide)
    generalize (ns ++ [0])[j] = x at gx x0 big
    refine ⟨.int (j : Int), rfl, p, _, _, .int x, rfl, rfl, SqL.of ep, at_of rfl gx, ?_⟩
    refine ⟨.int x, rfl, 10, 18, rfl, rfl, ⟨by decide, by decide, by decide⟩, x, _, rfl, rfl, _, rfl, ite2 (fun hb => ?_) (fun hb => ?_)⟩
    · have hjn := big (of_decide_eq_true hb)
      refine ⟨.int x, rfl, .int m, rfl, x, m, rfl, rfl, ⟨m0, by omega⟩, .ref d, rfl, d, _, 0, .ref l, rfl, rfl, SqL.of e12, atI_nat (j := 0) rfl, .int (j : Int), rfl, l, _, _, j, rfl, rfl, e22, ?_, ?_⟩
      · unfold ixN
        rw [if_pos (by omega), if_pos (by rw [List.length_map]; omega)]
        simp
      refine ⟨.int x, rfl, .int m, rfl, x, m, rfl, rfl, m0, ?_⟩
      obtain ⟨r0, r1⟩ := modIn (x := x) m0
      refine q _ _ r0 r1 (fun b o n1 n2 e => ?_) ⟨c + 1, ns.set j (x / m), by omega, ?_, ?_, ?_, ?_⟩
      · rw [upd_ne n2]
        exact f12 b o n1 n2 e
      · rw [upd_ne nel]
        exact e12
      · rw [upd_same, List.map_set]
      · intro y hy
        rcases List.mem_or_eq_of_mem_set hy with hy | rfl
        · exact h3 y hy
        · exact Int.ediv_nonneg x0 (by omega)
      · rw [List.length_set]
        exact h4
    · have b1 := modIn (x := x) (m := 2147483563) (by decide)
      refine ⟨.int x, rfl, x, 2147483563, rfl, rfl, (by show (0 : Int) < 2147483563; decide), .ref d, rfl, d, _, 1, .int ((c + 1 : Nat) : Int), rfl, rfl, SqL.of e12, atI_nat (j := 1) rfl, 104729, _, rfl, rfl, .inl ⟨by decide, by decide⟩,
        _, _, rfl, rfl, _, _, rfl, rfl, _, _, rfl, rfl, ⟨by decide, by decide, by omega⟩, _, _, rfl, rfl, (by show (0 : Int) < 2147483629; decide), ?_⟩
      dsimp only [gName]
      generalize (x % 2147483563 + 104729 * ((c + 1 : Nat) : Int) + 7) ^ (4 : Int).toNat % 2147483629 = x1
      refine ⟨.int x1, rfl, _, _, rfl, rfl, (by show (0 : Int) < 8 ∧ (8 : Int) < 1073741824; decide), .ref d, rfl, d, _, 1, .int ((c + 1 : Nat) : Int), rfl, rfl, SqL.of e12, atI_nat (j := 1) rfl, 31, _, rfl, rfl, .inl ⟨by decide, by decide⟩, _, _, rfl, rfl, .int m, rfl, _, m, rfl, rfl, m0, ?_⟩
      obtain ⟨r0, r1⟩ := modIn (x := x1 / 8 + 31 * ((c + 1 : Nat) : Int)) m0
      exact q _ _ r0 r1 f12 ⟨c + 1, ns, by omega, e12, e22, h3, h4⟩
end
end TL
namespace TL
open PySem PySem.Spec PyProof.Rows L2
section
variable {P : Program} {w : World} {K : PySem.W.Frag} {mg : Str → Option Value} {base : Heap}
/-! ### forest -/
def spLForest (K : PySem.W.Frag) : Sp := fun vs H Q _ => ∃ (d l : Addr) (n most : Nat), vs = [.ref d, .int (most : Int)] ∧ most ≤ 12 ∧ Deck H d l n ∧ n < 800000 ∧
  ∀ (H' : Hp) (x : V) (m : Nat) (es : List (Int × Int)), Fm d l H H' → Deck H' d l (n + 60) → m ≤ most → IsFor m es → Dp K H' x (forD m es) → Q x H'
def prO (q : Nat × Nat) : Int × Int := ((q.2 : Int), (q.1 : Int))
theorem ok_LForest {f : Addr} {fd : FuncData} (F : Fun K "_law_forest" "_law_forest" sLForest f fd) (m_list : mg "list" = none) (m_range : mg "range" = none) (m_len : mg "len" = none)
    (m_max : mg "max" = none) (m_tuple : mg "tuple" = none) (m_sorted : mg "sorted" = none)
    (oLDraw : Own P w K mg base "_law_draw" 1 ["_law_deck_here", "_law_bound"] spLDraw) :
    FnOk P w K mg base CX0 2 f fd ["_law_deck_here", "_law_most"] (spLForest K) := by
  refine F.ok scLForest (fun vs H Q E h => ?_) (fun cdv A outer s H vs Q E hr h => ?_)
  · obtain ⟨d, l, n, most, rfl, _⟩ := h
    rfl
  · obtain ⟨d, l, n, most, rfl, hm, hD, hn, q⟩ := h
    refine ⟨_, (pss_cons (ps_set (i := 2) scLForest.nd rfl (.inl rfl) (pe_own oLDraw (hr.mono (by decide)) (by rfl) (pa_cons (pv 0) (pa_cons (pe_op op_add (pv 1) pe_int) pa_nil))))
    (pss_cons (ps_set (i := 3) scLForest.nd rfl (.inl rfl) (pe_own oLDraw (hr.mono (by decide)) (by rfl) (pa_cons (pv 0) (pa_cons pe_int pa_nil))))
    (pss_cons (ps_set (i := 4) scLForest.nd rfl (.inl rfl) (pe_lst pa_nil))
    (pss_cons (ps_for PassesOwn.never rfl (pi_range2 (by rfl) m_range (pa_cons pe_int (pa_cons (pv 2) pa_nil))) (pg_name (i := 5) scLForest.nd rfl (Or.inl rfl))
    (pss_cons (ps_set (i := 6) scLForest.nd rfl (.inl rfl) (pe_lst (pa_cons (pe_op op_sub (pv 5) pe_int) (pa_cons pe_int (pa_cons (pe_own oLDraw (hr.mono (by decide)) (by rfl) (pa_cons (pv 0) (pa_cons (pv 5) pa_nil))) (pa_cons (pe_op op_fdiv (pv 5) pe_int) (pa_cons (pe_callB (call_max2 rfl) (by rfl) m_max (by decide +kernel) (pa_cons pe_int (pa_cons (pe_op op_sub (pe_op op_sub (pv 5) pe_int) (pe_op op_mod (pv 5) pe_int)) pa_nil))) pa_nil)))))))
    (pss_one (ps_if (pt_cmpR op_gt (pe_own oLDraw (hr.mono (by decide)) (by rfl) (pa_cons (pv 0) (pa_cons pe_int pa_nil))) pe_int (nomark _)) (pss_one (ps_expr (bmK K PySem.F.plainAttrs_list PySem.F.slot_list_append PySem.F.type_list_append mt_append (pv 4) (pa_cons (pe_tup (pa_cons (pe_ix (ixLK K) (pv 6) (pv 3) (fun _ _ => rfl)) (pa_cons (pv 5) pa_nil))) pa_nil)))) pss_nil))))
    (pss_cons (ps_set (i := 7) scLForest.nd rfl (.inr rfl) (pe_listRg rfl (by rfl) m_list (prg_1 (by rfl) m_range (pv 2))))
    (pss_cons (ps_set (i := 8) scLForest.nd rfl (.inr rfl) (pe_lc (own := [("_law_k", 9)]) (g := (gName 9)) (tt := tYes) rfl scLForest.nd (pi_range1 (by rfl) m_range (pa_cons (pv 2) pa_nil))
      (blkOk_by (own := [("_law_k", 9)]) (N := nLForest) (sc := (defScope sLForest)) (by decide +kernel))
      (fun _ _ _ _ _ => (pg_name (i := 9) scLForest.nd rfl (Or.inl rfl))) (fun _ _ _ _ _ => pts_nil)
      (fun _ _ _ _ _ => (bmK K PySem.F.plainAttrs_list PySem.F.slot_list_pop PySem.F.type_list_pop mt_popAt (pv 7) (pa_cons (pe_own oLDraw (hr.mono (by decide)) (by rfl) (pa_cons (pv 0) (pa_cons (pe_callB (lenK K) (by rfl) m_len (by decide +kernel) (pa_cons (pv 7) pa_nil)) pa_nil))) pa_nil)))))
    (pss_one (ps_ret (pe_tup (pa_cons (pv 2) (pa_cons (pe_callTy (tupleK K) (by rfl) m_tuple (by decide +kernel) (pa_cons (pe_callB (sortK K hr.units) (by rfl) m_sorted (by decide +kernel) (pa_cons (pe_lc (own := [("_law_a", 10), ("_law_b", 11)]) (g := (gTup K 2 (gCons (gName 10) (gCons (gName 11) gNil)))) (tt := tYes) rfl scLForest.nd (piLK K (pv 4))
      (blkOk_by (own := [("_law_a", 10), ("_law_b", 11)]) (N := nLForest) (sc := (defScope sLForest)) (by decide +kernel))
      (fun _ _ _ _ _ => (pgTK K (pgs_cons (pg_name (i := 10) scLForest.nd rfl (Or.inl rfl)) (pgs_cons (pg_name (i := 11) scLForest.nd rfl (Or.inl rfl)) pgs_nil)))) (fun _ _ _ _ _ => pts_nil)
      (fun _ _ _ _ _ => (pe_callTy (tupleK K) (by rfl) m_tuple (by decide +kernel) (pa_cons (pe_callB (sortK K hr.units) (by rfl) m_sorted (by decide +kernel) (pa_cons (pe_lst (pa_cons (pe_ix (ixLK K) (pv 8) (pv 10) (fun _ _ => rfl)) (pa_cons (pe_ix (ixLK K) (pv 8) (pv 11) (fun _ _ => rfl)) pa_nil))) pa_nil)) pa_nil)))) pa_nil)) pa_nil)) pa_nil))))))))))), ?_⟩
    -- n, way
    refine ⟨.ref d, rfl, .int (most : Int), rfl, (most : Int), 1, rfl, rfl, d, l, n, _, rfl, by omega, by omega, hD, by omega, fun H1 r r0 r1 f1 d1 => ?_⟩
    obtain ⟨m, rfl⟩ : ∃ m : Nat, r = (m : Int) := ⟨r.toNat, by omega⟩
    have hmm : m ≤ most := by omega
    refine ⟨.ref d, rfl, d, l, _, 5, rfl, by decide, by decide, d1, by omega, fun H2 w3 w0 w1 f2 d2 => ?_⟩
    have f12 := f1.trans f2
    -- pairs
    refine ⟨Nat.zero_le _, fun E nE => ?_⟩
    have offE := d2.off nE
    have sE := same_upd (o := .lst []) nE
    have nE0 : H E = none := by
      cases e : H E with
      | none => rfl
      | some o =>
        have := f12 E o offE.1 offE.2 e
        rw [nE] at this
        cases this
    refine ⟨.int (m : Int), rfl, 1, (m : Int), rfl, ⟨by omega, by omega, by omega, by omega⟩, for_range (lo := 1) (n := ((m : Int) - 1).toNat) (fun i σ H' => ∃ (y5 y6 : Option V) (ks : List (Nat × Nat)) (xs : List V),
      σ = [some (.ref d), some (.int (most : Int)), some (.int (m : Int)), some (.int w3), some (.ref E), y5, y6, none, none, none, none, none] ∧ Fm d l H2 H' ∧ Deck H' d l (n + 2 + 2 * i) ∧
      H' E = some (.lst xs) ∧ DpAll K H' xs ((ks.map prO).map prD) ∧ ks.Pairwise (fun a b => a.1 < b.1) ∧ (∀ q ∈ ks, q.2 < q.1 ∧ q.1 < i + 1) ∧ ks.length ≤ i) ?_ ?_ ?_⟩
    · exact ⟨none, none, [], [], rfl, Same.fm sE, (d2.same sE).le (by omega), upd_same, .nil, .nil, (fun _ z => nomatch z), Nat.le_refl _⟩
    · rintro i σ H5 hi ⟨y5, y6, ks, xs, rfl, f5, d5, eE5, a5, up, down, cnt⟩
      have hi' : i + 1 < m := by omega
      refine ⟨.int (1 + (i : Int)), rfl, _, _, rfl, rfl, .ref d, rfl, .int (1 + (i : Int)), rfl, d, l, _, _, rfl, by omega, by omega, d5, by omega, fun H6 x x0 x1 f6 d6 => ?_⟩
      refine ⟨.int (1 + (i : Int)), rfl, _, _, rfl, rfl, (by show (0 : Int) < 2 ∧ (2 : Int) < 1073741824; decide), .int (1 + (i : Int)), rfl, _, _, rfl, rfl, .int (1 + (i : Int)), rfl, _, _, rfl, rfl, (by show (0 : Int) < 2; decide), _, _, rfl, rfl, 0, _, rfl, by show 5 ≤ sizeLine; decide, fun p np => ?_⟩
      have sp := same_upd (o := .lst [.int (1 + (i : Int) - 1), .int 0, .int x, .int ((1 + (i : Int)) / 2), .int (if 1 + (i : Int) - 1 - (1 + (i : Int)) % 2 > 0 then 1 + (i : Int) - 1 - (1 + (i : Int)) % 2 else 0)]) np
      have ep := same_at (o := .lst [.int (1 + (i : Int) - 1), .int 0, .int x, .int ((1 + (i : Int)) / 2), .int (if 1 + (i : Int) - 1 - (1 + (i : Int)) % 2 > 0 then 1 + (i : Int) - 1 - (1 + (i : Int)) % 2 else 0)]) np
      have offp := d6.off np
      obtain ⟨o, ho, lo⟩ : ∃ o : Nat, atI [V.int (1 + (i : Int) - 1), V.int 0, V.int x, V.int ((1 + (i : Int)) / 2), V.int (if 1 + (i : Int) - 1 - (1 + (i : Int)) % 2 > 0 then 1 + (i : Int) - 1 - (1 + (i : Int)) % 2 else 0)] w3 = some (V.int (o : Int)) ∧ o < i + 1 := by
        have h4 : w3 = 0 ∨ w3 = 1 ∨ w3 = 2 ∨ w3 = 3 ∨ w3 = 4 := by omega
        rcases h4 with rfl | rfl | rfl | rfl | rfl
        · exact ⟨i, by show some (V.int (1 + (i : Int) - 1)) = _; congr 2; omega, by omega⟩
        · exact ⟨0, rfl, by omega⟩
        · exact ⟨x.toNat, by show some (V.int x) = _; congr 2; omega, by omega⟩
        · exact ⟨((1 + (i : Int)) / 2).toNat, by show some (V.int ((1 + (i : Int)) / 2)) = _; (congr 2); (try omega), by omega⟩
        · refine ⟨(1 + (i : Int) - 1 - (1 + (i : Int)) % 2).toNat, ?_, by omega⟩
          show some (V.int (if 1 + (i : Int) - 1 - (1 + (i : Int)) % 2 > 0 then 1 + (i : Int) - 1 - (1 + (i : Int)) % 2 else 0)) = _
          congr 2
          split <;> omega
      have d6' := d6.same sp
      have eE6 := sp _ _ (f6 _ _ offE.1 offE.2 eE5)
      have f6' := (f5.trans f6).trans (Same.fm sp)
      have a6 := DpAll.kt ((f6.kt d5).trans (Same.kt sp)) a5 (only_prs _)
      generalize upd H6 p (.lst [.int (1 + (i : Int) - 1), .int 0, .int x, .int ((1 + (i : Int)) / 2), .int (if 1 + (i : Int) - 1 - (1 + (i : Int)) % 2 > 0 then 1 + (i : Int) - 1 - (1 + (i : Int)) % 2 else 0)]) = H7 at sp ep d6' eE6 f6' a6 ⊢
      refine ⟨.ref d, rfl, d, l, _, 8, rfl, by decide, by decide, d6', by omega, fun H8 y y0 y1 f8 d8 => ⟨_, _, rfl, rfl, _, rfl, ite2 (fun _ => ?_) (fun _ => ?_)⟩⟩
      · have eE8 := f8 _ _ offE.1 offE.2 eE6
        have ep8 := f8 _ _ offp.1 offp.2 ep
        have a8 := DpAll.kt (f8.kt d6') a6 (only_prs _)
        refine ⟨.ref E, rfl, .inl ⟨rfl, _, SqL.of eE8⟩, .ref p, rfl, .int w3, rfl, p, _, _, _, rfl, rfl, SqL.of ep8, ho, .int (1 + (i : Int)), rfl, by show 2 ≤ sizeLine; decide, fun p3 np3 => ?_⟩
        have s3 := same_upd (o := .tup [V.int (o : Int), V.int (1 + (i : Int))]) np3
        have e3 := same_at (o := .tup [V.int (o : Int), V.int (1 + (i : Int))]) np3
        have eE9 := s3 _ _ eE8
        have a9 := DpAll.same s3 a8
        have d9 := d8.same s3
        have f9 := (f6'.trans f8).trans (Same.fm s3)
        generalize upd _ p3 (.tup [V.int (o : Int), V.int (1 + (i : Int))]) = H9 at s3 e3 eE9 a9 d9 f9 ⊢
        have kt : KT K H9 (upd H9 E (.lst (xs ++ [.ref p3]))) := kt_lst eE9
        have e1i : (1 + (i : Int)) = ((i + 1 : Nat) : Int) := by omega
        rw [e1i] at e3
        refine ⟨E, xs, .ref p3, rfl, rfl, eE9, ?_, _, _, ks ++ [(i + 1, o)], xs ++ [.ref p3], rfl, ?_, (d9.put offE.1 offE.2).le (by omega), upd_same, ?_, ?_, ?_, ?_⟩
        · have := DpAll.length a9
          rw [List.length_map, List.length_map] at this
          exact small1000 (by omega)
        · exact f9.put1 nE
        · rw [List.map_append, List.map_append]
          exact DpAll.append (DpAll.kt kt a9 (only_prs _)) (.cons (Dp.kt kt (Dp.pr (SqT.of e3)) (only_pr _)) .nil)
        · refine List.pairwise_append.mpr ⟨up, List.pairwise_singleton _ _, fun a ha b hb => ?_⟩
          obtain rfl := List.mem_singleton.mp hb
          exact (down a ha).2
        · intro z hz
          rcases List.mem_append.mp hz with hz | hz
          · have := down z hz
            omega
          · obtain rfl := List.mem_singleton.mp hz
            exact ⟨lo, Nat.lt_succ_self _⟩
        · rw [List.length_append, List.length_singleton]
          omega
      · exact ⟨_, _, ks, xs, rfl, f6'.trans f8, d8.le (by omega), f8 _ _ offE.1 offE.2 eE6, DpAll.kt (f8.kt d6') a6 (only_prs _), up, fun z hz => by have := down z hz; omega, by omega⟩
    · rintro σ H5 ⟨y5, y6, ks, xs, rfl, f5, d5, eE5, a5, up, down, cnt⟩
      -- left
      refine ⟨.int (m : Int), rfl, (m : Int), rfl, RgOk.of_le (by omega) (by omega) (by omega) (by omega), fun L nL => ?_⟩
      rw [rgVrng]
      have sL := same_upd (o := .lst ((rng m).map V.int)) nL
      have eL0 := same_at (o := .lst ((rng m).map V.int)) nL
      have offL := d5.off nL
      have nEL : E ≠ L := ne_of_none eE5 nL
      have d6 := d5.same sL
      have a6 := DpAll.same sL a5
      have eE6 := sL _ _ eE5
      have f6 : Fm d l H2 _ := f5.trans (Same.fm sL)
      have ktL := Same.kt (K := K) sL
      generalize upd H5 L (.lst ((rng m).map V.int)) = H6 at sL eL0 d6 a6 eE6 f6 ktL ⊢
      -- names
      refine ⟨.int (m : Int), rfl, (m : Int), rfl, by omega, by omega, fun D nD => ?_⟩
      have offD := d6.off nD
      have nLD : L ≠ D := ne_of_none eL0 nD
      have nED : E ≠ D := ne_of_none eE6 nD
      rw [Int.toNat_natCast]
      have free : ∀ a : Addr, H5 a = none → a ≠ d → a ≠ l → H2 a = none := fun a ha h1 h2 => by
        cases e : H2 a with
        | none => rfl
        | some o =>
          have := f5 a o h1 h2 e
          rw [ha] at this
          cases this
      have nL2 := free L nL offL.1 offL.2
      have nD5 : H5 D = none := sL.free nD
      have nD2 := free D nD5 offD.1 offD.2
      refine lc_range (lo := 0) (n := m) (fun i H' => ∃ (ms rs : List Int), (ms ++ rs).Perm (rng m) ∧ ms.length = i ∧ Fm d l H2 H' ∧ Deck H' d l (n + 2 + 2 * m + i) ∧ H' E = some (.lst xs) ∧ DpAll K H' xs ((ks.map prO).map prD) ∧
        H' L = some (.lst (rs.map V.int)) ∧ H' D = some (.lst (ms.map V.int))) ?_ ?_ ?_
      · have sD := same_upd (o := .lst []) nD
        exact ⟨[], rng m, List.Perm.refl _, rfl, f6.trans (Same.fm sD), (d6.same sD).le (by omega), sD _ _ eE6, DpAll.same sD a6, sD _ _ eL0, upd_same⟩
      · rintro i G2 hi ⟨ms, rs, pm, el, g2, e2, eE, aE, eL, eD⟩
        have er : ms.length + rs.length = m := by
          have := pm.length_eq
          rw [List.length_append, rng_length] at this
          exact this
        refine ⟨rfl, yesI (iteT ?_)⟩
        refine ⟨.ref L, rfl, .inl ⟨rfl, _, SqL.of eL⟩, .ref d, rfl, .ref L, rfl, L, _, rfl, .inl (SqL.of eL), d, l, _, _, rfl, by rw [List.length_map]; omega, by rw [List.length_map]; omega, e2, by omega, fun G3 r r0 r1 g3 e3 => ?_⟩
        rw [List.length_map] at r1
        have eL3 := g3 _ _ offL.1 offL.2 eL
        have eD3 := g3 _ _ offD.1 offD.2 eD
        have eE3 := g3 _ _ offE.1 offE.2 eE
        have aE3 := DpAll.kt (g3.kt e2) aE (only_prs _)
        have hk : r.toNat < rs.length := by omega
        have kt1 : KT K G3 (upd G3 L (.lst ((rs.map V.int).eraseIdx r.toNat))) := kt_lst eL3
        have eD4 : (upd G3 L (.lst ((rs.map V.int).eraseIdx r.toNat))) D = some (.lst (ms.map V.int)) := by rw [upd_ne nLD.symm]; exact eD3
        have kt2 : KT K (upd G3 L (.lst ((rs.map V.int).eraseIdx r.toNat))) (upd (upd G3 L (.lst ((rs.map V.int).eraseIdx r.toNat))) D (.lst (ms.map V.int ++ [V.int rs[r.toNat]]))) := kt_lst eD4
        refine ⟨L, _, r, r.toNat, .int rs[r.toNat], rfl, rfl, eL3, by omega, by omega, ?_, ?_, ms.map V.int, eD4, ?_, ms ++ [rs[r.toNat]], rs.eraseIdx r.toNat, ?_, ?_, ?_, ?_, ?_, ?_, ?_, ?_⟩
        · unfold seqIndex?
          rw [List.length_map]
          simp
          omega
        · rw [List.getElem?_map, List.getElem?_eq_getElem hk]
          rfl
        · rw [List.length_map]
          exact small1000 (by omega)
        · rw [List.append_assoc]
          refine List.Perm.trans ?_ pm
          exact List.Perm.append_left ms (erase_prm hk)
        · rw [List.length_append, el]
          rfl
        · exact ((g2.trans g3).put1 nL2).put1 nD2
        · exact ((e3.le (m := n + 2 + 2 * m + (i + 1)) (by omega)).put offL.1 offL.2).put offD.1 offD.2
        · rw [upd_ne nED, upd_ne nEL]
          exact eE3
        · exact DpAll.kt (kt1.trans kt2) aE3 (only_prs _)
        · rw [upd_ne nLD, upd_same]
          exact congrArg (fun z => some (HO.lst z)) (erase_mp rs r.toNat)
        · rw [upd_same, List.map_append]
          rfl
      · rintro G2 ⟨ms, rs, pm, el, g2, e2, eE, aE, eL, eD⟩
        have er : rs = [] := by
          have := pm.length_eq
          rw [List.length_append, rng_length] at this
          exact List.length_eq_zero_iff.mp (by omega)
        subst er
        rw [List.append_nil] at pm
        have g : Grow m ms ks := ⟨pm, up, fun z hz => by have := down z hz; omega⟩
        have lm : ms.length = m := by rw [pm.length_eq, rng_length]
        refine ⟨.int (m : Int), rfl, .ref E, rfl, E, rfl, ⟨_, SqL.of eE⟩, fun B nB => ?_⟩
        refine lc_listP (K := K) (fun _ => true) (fun p => prD (ordP (nam ms p.1) (nam ms p.2))) nB (SqL.of eE) aE (fun _ _ => rfl) (fun o _ H' R s1 hR => hR H' (Same.refl _)) (fun o ho _ H' R s1 hR => ?_) (fun o => only_pr _) (by rw [List.length_map]; omega) (fun G3 ys s3 eB dy => ?_)
        · obtain ⟨k, hk, rfl⟩ := List.mem_map.mp ho
          have dk := down k hk
          have eD' := SqL.of (K := K) (s1 _ _ eD)
          refine ⟨.ref D, rfl, .int (prO k).1, rfl, D, _, _, _, rfl, rfl, eD', nam_at lm (by unfold prO; simp only; omega) (by unfold prO; simp only; omega), .ref D, rfl, .int (prO k).2, rfl, D, _, _, _, rfl, rfl, eD', nam_at lm (by unfold prO; simp only; omega) (by unfold prO; simp only; omega), by show 2 ≤ sizeLine; decide, fun p1 np1 => ?_⟩
          have t1 := same_upd (o := .lst [V.int (nam ms (prO k).1), V.int (nam ms (prO k).2)]) np1
          refine sortInts (ns := [nam ms (prO k).1, nam ms (prO k).2]) (SqL.of upd_same) fun p2 np2 => ?_
          rw [srt2]
          have t2 := same_upd (o := .lst ([(ordP (nam ms (prO k).1) (nam ms (prO k).2)).1, (ordP (nam ms (prO k).1) (nam ms (prO k).2)).2].map V.int)) np2
          refine ⟨p2, _, rfl, .inl ⟨SqL.of upd_same, fun p3 np3 => ?_⟩⟩
          have t3 := same_upd (o := .tup ([(ordP (nam ms (prO k).1) (nam ms (prO k).2)).1, (ordP (nam ms (prO k).1) (nam ms (prO k).2)).2].map V.int)) np3
          exact hR _ _ ((t1.trans t2).trans t3) (Dp.pr (SqT.of upd_same))
        rw [filt_true] at dy
        have eq : (ks.map prO).map (fun p => prD (ordP (nam ms p.1) (nam ms p.2))) = (ks.map (edgeOf ms)).map prD := by
          rw [List.map_map, List.map_map]
          refine List.map_congr_left fun k _ => ?_
          show prD (ordP (ms.getD ((k.2 : Int)).toNat 0) (ms.getD ((k.1 : Int)).toNat 0)) = prD (edgeOf ms k)
          rw [Int.toNat_natCast, Int.toNat_natCast, ordP_comm]
          rfl
        rw [eq] at dy
        refine sortPairs (SqL.of eB) dy fun p zs np dz => ?_
        have s4 := same_upd (o := .lst zs) np
        refine ⟨p, zs, rfl, .inl ⟨SqL.of upd_same, fun t nt => ?_⟩⟩
        have s5 := same_upd (o := .tup zs) nt
        refine ⟨by show 2 ≤ sizeLine; decide, fun z nz => ?_⟩
        have s6 := same_upd (o := .tup [.int (m : Int), .ref t]) nz
        have s36 := ((s3.trans s4).trans s5).trans s6
        refine q _ _ m _ ((f12.trans g2).trans (Same.fm s36)) ((e2.same s36).le (by omega)) hmm g.isFor ?_
        exact .tup (SqT.of upd_same) (.cons (.int _) (.cons (Dp.same s6 (.tup (SqT.of upd_same) (DpAll.same (s4.trans s5) dz))) .nil))
end
end TL
namespace TL
open PySem PySem.Spec PyProof.Rows L2
section
variable {P : Program} {w : World} {K : PySem.W.Frag} {mg : Str → Option Value} {base : Heap}
/-! ### neighbours by the law -/
def spLNear (K : PySem.W.Frag) : Sp := fun vs H Q _ => ∃ (x : V) (m : Nat) (es : List (Int × Int)) (v : Int), vs = [x, .int v] ∧ m ≤ 13 ∧ IsFor m es ∧ Dp K H x (forD m es) ∧
  ∀ (H' : Hp) (D : Addr), Same H H' → H D = none → H' D = some (.lst ((nearL m es v).map V.int)) → Q (.ref D) H'
theorem near_eq {m : Nat} {es : List (Int × Int)} (f : IsFor m es) (v : Int) : (es.filter fun p => decide (v = p.1) || decide (v = p.2)).map (fun p => p.1 + p.2 - v) = nearL m es v := by
  refine asc_ext ?_ (nearL_asc m es v) fun o => ?_
  · refine List.pairwise_map.mpr ((List.Pairwise.and_mem.mp (f.asc.filter _)).imp ?_)
    rintro p q ⟨hp, hq, h⟩
    obtain ⟨p1, p2⟩ := List.mem_filter.mp hp
    obtain ⟨q1, q2⟩ := List.mem_filter.mp hq
    have rp := f.rng p p1
    have rq := f.rng q q1
    rw [Bool.or_eq_true, decide_eq_true_eq, decide_eq_true_eq] at p2 q2
    rcases h with h | h <;> omega
  · rw [List.mem_map, mem_nearL, f.mem_ord]
    constructor
    · rintro ⟨p, hp, rfl⟩
      obtain ⟨p1, p2⟩ := List.mem_filter.mp hp
      have rp := f.rng p p1
      rw [Bool.or_eq_true, decide_eq_true_eq, decide_eq_true_eq] at p2
      rcases p2 with rfl | rfl
      · refine ⟨by omega, .inr ?_⟩
        rw [show p.1 + p.2 - p.1 = p.2 by omega]
        exact p1
      · refine ⟨by omega, .inl ?_⟩
        rw [show p.1 + p.2 - p.2 = p.1 by omega]
        exact p1
    · rintro ⟨_, h | h⟩
      · exact ⟨(o, v), List.mem_filter.mpr ⟨h, by simp⟩, by show o + v - v = o; omega⟩
      · exact ⟨(v, o), List.mem_filter.mpr ⟨h, by simp⟩, by show v + o - v = o; omega⟩
theorem inV_two (v a b : Int) : inV (.int v) [V.int a, V.int b] = (decide (v = a) || decide (v = b)) := by
  have := inV_ints v [a, b]
  rw [show [V.int a, V.int b] = [a, b].map V.int from rfl, this]
  by_cases h1 : v = a
  · simp [h1]
  · by_cases h2 : v = b <;> simp [h1, h2]
theorem ok_LNear {f : Addr} {fd : FuncData} {k : Nat} (F : Fun K "_law_near" "_law_near" sLNear f fd) :
    FnOk P w K mg base CX0 (k + 1) f fd ["_law_forest_here", "_law_vertex"] (spLNear K) := by
  refine F.ok scLNear (fun vs H Q E h => ?_) (fun cdv A outer s H vs Q E hr h => ?_)
  · obtain ⟨x, m, es, v, rfl, _⟩ := h
    rfl
  · obtain ⟨x, m, es, v, rfl, hm, isf, hx, q⟩ := h
    obtain ⟨a, b, xs, rfl, ha, hb, hA⟩ := Dp.forI hx
    have ec := isf.count
    refine ⟨_, (pss_one (ps_ret (pe_lc (own := [("_law_a", 2), ("_law_b", 3)]) (g := (gTup K 2 (gCons (gName 2) (gCons (gName 3) gNil)))) rfl scLNear.nd (piTK K (pe_ix (ixTK K) (pv 0) pe_int (fun _ _ => rfl)))
      (blkOk_by (own := [("_law_a", 2), ("_law_b", 3)]) (N := nLNear) (sc := (defScope sLNear)) (by decide +kernel))
      (fun _ _ _ _ _ => (pgTK K (pgs_cons (pg_name (i := 2) scLNear.nd rfl (Or.inl rfl)) (pgs_cons (pg_name (i := 3) scLNear.nd rfl (Or.inl rfl)) pgs_nil)))) (fun _ _ _ _ _ => (pts_one (pt_cmpR (inK K) (pv 1) (pe_tup (pa_cons (pv 2) (pa_cons (pv 3) pa_nil))) (by rfl))))
      (fun _ _ _ _ _ => (pe_op op_sub (pe_op op_add (pv 2) (pv 3)) (pv 1)))))), ?_⟩
    refine ⟨.ref a, rfl, a, _, 1, .ref b, rfl, rfl, ha, atI_nat (j := 1) rfl, b, rfl, ⟨_, hb⟩, fun D nD => ?_⟩
    refine lc_tupP (K := K) (fun p => decide (v = p.1) || decide (v = p.2)) (fun p => .int (p.1 + p.2 - v)) nD hb hA (fun _ _ => rfl) (fun o _ H' R s1 hR => ?_) (fun o _ _ H' R s1 hR => ?_) (fun o => only_int _) (by omega) (fun H2 ys s2 eD dy => ?_)
    · refine ⟨.int v, rfl, .int o.1, rfl, .int o.2, rfl, by show 2 ≤ sizeLine; decide, fun t nt => ⟨t, _, rfl, .inr (SqT.of upd_same), rfl, flat_ints [o.1, o.2], _, rfl, ?_⟩⟩
      show R (if false = true then _ else inV (V.int v) [V.int o.1, V.int o.2]) _
      rw [if_neg Bool.false_ne_true, inV_two]
      exact hR _ (same_upd nt)
    · exact ⟨.int o.1, rfl, .int o.2, rfl, _, _, rfl, rfl, .int v, rfl, _, _, rfl, rfl, hR H' _ (Same.refl _) (.int _)⟩
    have e1 : ys = (nearL m es v).map V.int := by
      rw [← near_eq isf v]
      exact DpAll.ints (by rw [List.map_map]; exact dy)
    subst e1
    exact q _ D s2 nD eD
/-! ### parities -/
def pV : Option Int → V
  | none => .non
  | some z => .int z
def nn (ps : List (Option Int)) : Nat := (ps.filter fun o => o.isNone).length
theorem nn_set {z : Int} : ∀ {ps : List (Option Int)} {j : Nat}, ps[j]? = some none → nn (ps.set j (some z)) + 1 = nn ps
  | [], j, h => by simp at h
  | a :: ps, 0, h => by
    rw [List.getElem?_cons_zero] at h
    cases h
    simp [nn]
  | a :: ps, j + 1, h => by
    rw [List.getElem?_cons_succ] at h
    have := nn_set (z := z) h
    unfold nn at this ⊢
    rw [List.set_cons_succ]
    cases a with
    | none => simp at this ⊢; omega
    | some y => simp at this ⊢; omega
theorem nn_le (ps : List (Option Int)) : nn ps ≤ ps.length := List.length_filter_le _ _
/-- a state of the parities -/
structure Pr (m : Nat) (ps : List (Option Int)) : Prop where
  len : ps.length = m
  val : ∀ z, some z ∈ ps → z = 0 ∨ z = 1
/-- set ones stay set -/
def Up (ps qs : List (Option Int)) : Prop := ∀ (j : Nat) z, ps[j]? = some (some z) → ∃ y, qs[j]? = some (some y)
theorem Up.refl (ps : List (Option Int)) : Up ps ps := fun j z h => ⟨z, h⟩
theorem Up.trans {a b c : List (Option Int)} (h : Up a b) (k : Up b c) : Up a c := fun j z e => by
  obtain ⟨y, hy⟩ := h j z e
  exact k j y hy
theorem Pr.set {m : Nat} {ps : List (Option Int)} (h : Pr m ps) (j : Nat) {z : Int} (hz : z = 0 ∨ z = 1) : Pr m (ps.set j (some z)) ∧ Up ps (ps.set j (some z)) := by
  refine ⟨⟨by rw [List.length_set]; exact h.len, fun y hy => ?_⟩, fun i y hi => ?_⟩
  · rcases List.mem_or_eq_of_mem_set hy with hy | hy
    · exact h.val y hy
    · cases hy
      exact hz
  · rw [List.getElem?_set]
    by_cases e : j = i
    · subst e
      rw [if_pos rfl, if_pos (List.getElem?_eq_some_iff.mp hi).1]
      exact ⟨_, rfl⟩
    · rw [if_neg e]
      exact ⟨y, hi⟩
theorem pr_at {ps : List (Option Int)} {v : Int} (v0 : 0 ≤ v) (v1 : v < ps.length) : ∃ o, ps[v.toNat]? = some o ∧ atI (ps.map pV) v = some (pV o) := by
  have hl : v.toNat < ps.length := by omega
  refine ⟨ps[v.toNat], List.getElem?_eq_getElem hl, at_of (j := v.toNat) (by omega) ?_⟩
  rw [List.getElem?_map, List.getElem?_eq_getElem hl]
  rfl
theorem pr_ix {ps : List (Option Int)} {v : Int} (v0 : 0 ≤ v) (v1 : v < ps.length) : ixN (ps.map pV).length v = some v.toNat := by
  unfold ixN
  rw [List.length_map, if_pos v0, if_pos (by omega)]
def spLParities (K : PySem.W.Frag) : Sp := fun vs H Q _ => ∃ (x : V) (m : Nat) (es : List (Int × Int)), vs = [x] ∧ m ≤ 12 ∧ IsFor m es ∧ Dp K H x (forD m es) ∧
  ∀ (H' : Hp) (D : Addr) (ps : List Int), Same H H' → H D = none → H' D = some (.lst (ps.map V.int)) → ps.length = m → (∀ z ∈ ps, z = 0 ∨ z = 1) → Q (.ref D) H'
theorem ok_LParities {f : Addr} {fd : FuncData} (F : Fun K "_law_parities" "_law_parities" sLParities f fd) (m_range : mg "range" = none) (m_int : mg "int" = none)
    (oLNear : Own P w K mg base "_law_near" 1 ["_law_forest_here", "_law_vertex"] (spLNear K)) :
    FnOk P w K mg base CX0 2 f fd ["_law_forest_here"] (spLParities K) := by
  refine F.ok scLParities (fun vs H Q E h => ?_) (fun cdv A outer s H vs Q E hr h => ?_)
  · obtain ⟨x, m, es, rfl, _⟩ := h
    rfl
  · obtain ⟨x, m, es, rfl, hm, isf, hx, q⟩ := h
    obtain ⟨a, b, xs, rfl, ha, hb, hA⟩ := Dp.forI hx
    refine ⟨_, (pss_cons (ps_set (i := 1) scLParities.nd rfl (.inl rfl) (pe_op op_rep (pe_lst (pa_cons pe_non pa_nil)) (pe_ix (ixTK K) (pv 0) pe_int (fun _ _ => rfl))))
    (pss_cons (ps_for PassesOwn.never rfl (pi_range1 (by rfl) m_range (pa_cons (pe_ix (ixTK K) (pv 0) pe_int (fun _ _ => rfl)) pa_nil)) (pg_name (i := 2) scLParities.nd rfl (Or.inl rfl))
    (pss_cons (ps_set (i := 3) scLParities.nd rfl (.inl rfl) (pe_op op_rep (pe_lst (pa_cons (pv 2) pa_nil)) (pe_callTy call_int1 (by rfl) m_int (by decide +kernel) (pa_cons (pe_cmpR op_isN (pe_ix (ixLK K) (pv 1) (pv 2) (fun _ _ => rfl)) pe_non (nomark _)) pa_nil))))
    (pss_cons (ps_for PassesOwn.never rfl (piLK K (pv 3)) (pg_name (i := 4) scLParities.nd rfl (Or.inl rfl))
    (pss_one (ps_asg pe_int (pg_sub (pv 1) (pv 4) set_list))))
    (pss_one (ps_while PassesOwn.never (pt_cmpR (neDK K hr.units) (pv 3) (pe_lst pa_nil) (nomark _)) (pss_cons (ps_set (i := 4) scLParities.nd rfl (.inl rfl) (bm0K K PySem.F.plainAttrs_list PySem.F.slot_list_pop PySem.F.type_list_pop mt_pop (pv 3)))
    (pss_one (ps_for PassesOwn.never rfl (piLK K (pe_own oLNear (hr.mono (by decide)) (by rfl) (pa_cons (pv 0) (pa_cons (pv 4) pa_nil)))) (pg_name (i := 5) scLParities.nd rfl (Or.inl rfl))
    (pss_one (ps_if (pt_cmpR op_isN (pe_ix (ixLK K) (pv 1) (pv 5) (fun _ _ => rfl)) pe_non (nomark _)) (pss_cons (ps_asg (pe_op op_sub pe_int (pe_ix (ixLK K) (pv 1) (pv 4) (fun _ _ => rfl))) (pg_sub (pv 1) (pv 5) set_list))
    (pss_one (ps_expr (bmK K PySem.F.plainAttrs_list PySem.F.slot_list_append PySem.F.type_list_append mt_append (pv 3) (pa_cons (pv 5) pa_nil))))) pss_nil))))))))))
    (pss_one (ps_ret (pv 1))))), ?_⟩
    refine ⟨by show 1 ≤ sizeLine; decide, fun t nt => ?_⟩
    have st := same_upd (o := .lst [V.non]) nt
    have et := same_at (o := .lst [V.non]) nt
    generalize upd _ t (.lst [V.non]) = H1 at st et ⊢
    refine ⟨.ref a, rfl, a, _, 0, .int (m : Int), rfl, rfl, Same.tup st ha, atI_nat (j := 0) rfl, t, _, _, rfl, rfl, et, by omega, by omega, ?_, fun PL nP => ?_⟩
    · show 1 * (m : Int).toNat ≤ sizeLine
      exact Nat.le_of_lt (small1000 (by omega))
    have e0 : (List.replicate (m : Int).toNat [V.non]).flatten = (List.replicate m (none : Option Int)).map pV := by
      rw [Int.toNat_natCast]
      induction m with
      | zero => rfl
      | succ k ih => simp [List.replicate_succ, pV]
    rw [e0]
    have sP := same_upd (o := .lst ((List.replicate m (none : Option Int)).map pV)) nP
    have eP := same_at (o := .lst ((List.replicate m (none : Option Int)).map pV)) nP
    have nP0 : H PL = none := st.free nP
    generalize upd _ PL (.lst ((List.replicate m (none : Option Int)).map pV)) = H2 at sP eP ⊢
    have s02 := st.trans sP
    refine ⟨.ref a, rfl, a, _, 0, .int (m : Int), rfl, rfl, Same.tup s02 ha, atI_nat (j := 0) rfl, (m : Int), rfl, by omega, by omega, for_range (lo := 0) (n := (m : Int).toNat) (fun i σ H' => ∃ (y2 y3 y4 y5 : Option V) (ps : List (Option Int)), σ = [some (.ref a), some (.ref PL), y2, y3, y4, y5] ∧ Same H H' ∧ H' PL = some (.lst (ps.map pV)) ∧ Pr m ps ∧ ∀ j, j < i → ∃ z, ps[j]? = some (some z)) ?_ ?_ ?_⟩
    · refine ⟨_, _, _, _, List.replicate m none, rfl, s02, eP, ⟨List.length_replicate, fun z hz => ?_⟩, fun j hj => absurd hj (Nat.not_lt_zero _)⟩
      have := List.eq_of_mem_replicate hz
      cases this
    · rintro i σ H3 hi ⟨y2, y3, y4, y5, ps, rfl, s3, eP3, pr, fin⟩
      rw [Int.toNat_natCast] at hi
      -- waiting
      refine ⟨.int (0 + (i : Int)), rfl, by show 1 ≤ sizeLine; decide, fun t2 nt2 => ?_⟩
      have st2 := same_upd (o := .lst [V.int (0 + (i : Int))]) nt2
      have et2 := same_at (o := .lst [V.int (0 + (i : Int))]) nt2
      generalize upd _ t2 (.lst [V.int (0 + (i : Int))]) = H4 at st2 et2 ⊢
      have hlp := pr.len
      obtain ⟨o, ho, hat⟩ := pr_at (ps := ps) (v := 0 + (i : Int)) (by omega) (by omega)
      refine ⟨.ref PL, rfl, .int (0 + (i : Int)), rfl, PL, _, _, _, rfl, rfl, SqL.of (st2 _ _ eP3), hat, rfl, .inr ⟨_, rfl, ?_⟩⟩
      obtain ⟨ws, k, ek, ew, hws, hnone⟩ : ∃ (ws : List Int) (k : Nat), (if decide (pV o = V.non) = true then (1 : Int) else 0) = (k : Int) ∧ (List.replicate (k : Int).toNat [V.int (0 + (i : Int))]).flatten = ws.map V.int ∧ (ws = [(i : Int)] ∨ (ws = [] ∧ ∃ z, o = some z)) ∧ k ≤ 1 := by
        cases o with
        | none => exact ⟨[(i : Int)], 1, rfl, by show [V.int (0 + (i : Int))] = [V.int (i : Int)]; rw [Int.zero_add], .inl rfl, Nat.le_refl _⟩
        | some z => exact ⟨[], 0, rfl, rfl, .inr ⟨rfl, z, rfl⟩, Nat.zero_le _⟩
      rw [ek]
      refine ⟨t2, _, _, rfl, rfl, et2, by omega, by omega, ?_, fun W nW => ?_⟩
      · show 1 * (k : Int).toNat ≤ sizeLine
        exact Nat.le_of_lt (small1000 (by omega))
      rw [ew]
      have sW := same_upd (o := .lst (ws.map V.int)) nW
      have eW := same_at (o := .lst (ws.map V.int)) nW
      have nW3 : H3 W = none := st2.free nW
      have nW0 : H W = none := s3.free nW3
      have nPW : PL ≠ W := ne_of_none eP3 nW3
      generalize upd _ W (.lst (ws.map V.int)) = H5 at sW eW ⊢
      have s35 := st2.trans sW
      have s5 := s3.trans s35
      have eP5 := s35 _ _ eP3
      have wr : ∀ v ∈ ws, v = (i : Int) := fun v hv => by
        rcases hws with rfl | ⟨rfl, _⟩
        · exact List.mem_singleton.mp hv
        · exact nomatch hv
      have wl : ws.length ≤ 1 := by
        rcases hws with rfl | ⟨rfl, _⟩
        · exact Nat.le_refl _
        · exact Nat.zero_le _
      refine ⟨.ref W, rfl, W, rfl, ⟨_, SqL.of eW⟩, for_list (K := K) (a := W) (xs := ws.map V.int) (fun j σ H' => ∃ (y4 : Option V) (qs : List (Option Int)), σ = [some (.ref a), some (.ref PL), some (.int (0 + (i : Int))), some (.ref W), y4, y5] ∧ Same H H' ∧ H' PL = some (.lst (qs.map pV)) ∧ H' W = some (.lst (ws.map V.int)) ∧ Pr m qs ∧ Up ps qs ∧ (0 < j → ∃ z, qs[i]? = some (some z))) ?_ ?_ ?_ ?_⟩
      · exact ⟨_, ps, rfl, s5, eP5, eW, pr, Up.refl _, fun h => absurd h (Nat.lt_irrefl _)⟩
      · rintro j σ H' _ ⟨y4, qs, rfl, _, _, e, _⟩
        exact SqL.of e
      · rintro j v σ H6 hv ⟨y4, qs, rfl, s6, eP6, eW6, pq, up, _⟩
        rw [List.getElem?_map] at hv
        obtain ⟨u, hu, rfl⟩ := Option.map_eq_some_iff.mp hv
        have eu := wr u (List.mem_of_getElem? hu)
        subst eu
        have hq := pq.len
        obtain ⟨p1, p2⟩ := pq.set i (z := 0) (.inl rfl)
        have ixi := pr_ix (ps := qs) (v := (i : Int)) (by omega) (by omega)
        rw [Int.toNat_natCast] at ixi
        refine ⟨.ref PL, rfl, .int (i : Int), rfl, PL, _, _, i, rfl, rfl, eP6, ixi, _, qs.set i (some 0), rfl, fun h u eh => ?_, ?_, ?_, p1, up.trans p2, fun _ => ?_⟩
        · rw [upd_ne (ne_of_none eh nP0)]
          exact s6 _ _ eh
        · rw [upd_same, List.map_set]
          rfl
        · rw [upd_ne nPW.symm]
          exact eW6
        · exact ⟨0, by rw [List.getElem?_set, if_pos rfl, if_pos (by omega)]⟩
      · rintro σ H6 ⟨y4, qs, rfl, s6, eP6, eW6, pq, up, hset⟩
        have seti : ∃ z, qs[i]? = some (some z) := by
          rcases hws with rfl | ⟨rfl, z, rfl⟩
          · exact hset (Nat.zero_lt_succ _)
          · refine up i z ?_
            rw [← ho]
            congr 1
            omega
        have seta : ∀ j, j < i + 1 → ∃ z, qs[j]? = some (some z) := fun j hj => by
          by_cases e : j = i
          · subst e; exact seti
          · obtain ⟨z, hz⟩ := fin j (by omega)
            exact up j z hz
        clear up hset ek ew
        have w0 : ∀ v ∈ ws, (0 ≤ v ∧ v < (m : Int)) ∧ ∃ z, qs[v.toNat]? = some (some z) := fun v hv => by
          rw [wr v hv]
          refine ⟨by omega, ?_⟩
          rw [Int.toNat_natCast]
          exact seti
        refine while_ms (fun t σ H' => ∃ (y4 y5 : Option V) (rs : List (Option Int)) (vs : List Int), σ = [some (.ref a), some (.ref PL), some (.int (0 + (i : Int))), some (.ref W), y4, y5] ∧ Same H H' ∧ H' PL = some (.lst (rs.map pV)) ∧ H' W = some (.lst (vs.map V.int)) ∧ Pr m rs ∧ Up qs rs ∧
          (∀ v ∈ vs, (0 ≤ v ∧ v < (m : Int)) ∧ ∃ z, rs[v.toNat]? = some (some z)) ∧ nn rs + vs.length ≤ 20 ∧ t = 2 * nn rs + vs.length) _ ⟨_, _, qs, ws, rfl, s6, eP6, eW6, pq, Up.refl _, w0, by have := nn_le qs; have := pq.len; omega, rfl⟩ ?_ ?_
        · rintro tt σ H7 ⟨y4, y5, rs, vs, rfl, s7, eP7, eW7, prr, upr, hvs, few, rfl⟩
          refine ⟨.ref W, rfl, Nat.zero_le _, fun e ne => ?_⟩
          have se := same_upd (o := .lst []) ne
          refine ⟨.list (vs.map .int), .list [], .lst (SqL.of (se _ _ eW7)) (DpAll.of_ints vs), .lst (SqL.of upd_same) .nil, shaped_ints vs, shaped_ints [], _, rfl, ?_⟩
          rw [eqv_nil]
          have cw : vs = [] ∨ ∃ W0 v, vs = W0 ++ [v] := by
            by_cases e : vs = []
            · exact .inl e
            · exact .inr ⟨_, _, (List.dropLast_concat_getLast e).symm⟩
          rcases cw with rfl | ⟨W0, v, rfl⟩
          · rw [decide_eq_true rfl]
            refine iteF ⟨_, _, _, _, rs, rfl, s7.trans se, se _ _ eP7, prr, fun j hj => ?_⟩
            obtain ⟨z, hz⟩ := seta j hj
            exact upr j z hz
          · rw [decide_eq_false (by simp)]
            have eW8 := se _ _ eW7
            have eP8 := se _ _ eP7
            have s8 := s7.trans se
            refine iteT ⟨.ref W, rfl, .inl ⟨rfl, _, SqL.of eW8⟩, W, _, .int v, rfl, rfl, eW8, ?_, ?_⟩
            · rw [List.map_append, List.length_append, List.getElem?_append_right (by simp)]
              simp
            have dl : ((W0 ++ [v]).map V.int).dropLast = W0.map V.int := by rw [List.map_append]; exact List.dropLast_concat
            rw [dl]
            obtain ⟨rv, zv, hzv⟩ := hvs v (List.mem_append_right _ (List.mem_singleton.mpr rfl))
            have s9 : Same H (upd (upd H7 e (.lst [])) W (.lst (W0.map V.int))) := fun h u eh => by
              rw [upd_ne (ne_of_none eh nW0)]
              exact s8 _ _ eh
            have eP9 : (upd (upd H7 e (.lst [])) W (.lst (W0.map V.int))) PL = some (.lst (rs.map pV)) := by rw [upd_ne nPW]; exact eP8
            have eW9 : (upd (upd H7 e (.lst [])) W (.lst (W0.map V.int))) W = some (.lst (W0.map V.int)) := upd_same
            generalize upd (upd H7 e (.lst [])) W (.lst (W0.map V.int)) = H9 at s9 eP9 eW9 ⊢
            rw [List.length_append, List.length_singleton] at few ⊢
            refine ⟨.ref a, rfl, .int v, rfl, .ref a, m, es, v, rfl, by omega, isf, Dp.same s9 hx, fun H10 D s10 nD eD => ?_⟩
            have nPD : PL ≠ D := ne_of_none eP9 nD
            have nWD : W ≠ D := ne_of_none eW9 nD
            refine ⟨D, rfl, ⟨_, SqL.of eD⟩, for_list (K := K) (a := D) (xs := (nearL m es v).map V.int) (fun j σ H' => ∃ (y5 : Option V) (ts : List (Option Int)) (us : List Int), σ = [some (.ref a), some (.ref PL), some (.int (0 + (i : Int))), some (.ref W), some (.int v), y5] ∧ Same H H' ∧ H' PL = some (.lst (ts.map pV)) ∧ H' W = some (.lst (us.map V.int)) ∧ H' D = some (.lst ((nearL m es v).map V.int)) ∧ Pr m ts ∧ Up rs ts ∧
              (∀ v ∈ us, (0 ≤ v ∧ v < (m : Int)) ∧ ∃ z, ts[v.toNat]? = some (some z)) ∧ nn ts + us.length ≤ nn rs + W0.length ∧ nn ts ≤ nn rs) ?_ ?_ ?_ ?_⟩
            · refine ⟨_, rs, W0, rfl, s9.trans s10, s10 _ _ eP9, s10 _ _ eW9, eD, prr, Up.refl _, fun u hu => hvs u (List.mem_append_left _ hu), Nat.le_refl _, Nat.le_refl _⟩
            · rintro j σ H' _ ⟨y5, ts, us, rfl, _, _, _, e, _⟩
              exact SqL.of e
            · rintro j x σ H11 hxj ⟨y5, ts, us, rfl, s11, eP11, eW11, eD11, prt, upt, hus, few2, few3⟩
              rw [List.getElem?_map] at hxj
              obtain ⟨o2, ho2, rfl⟩ := Option.map_eq_some_iff.mp hxj
              have ro := (mem_nearL.mp (List.mem_of_getElem? ho2)).1
              have ltl := prt.len
              obtain ⟨ov, hov, atv⟩ := pr_at (ps := ts) (v := o2) ro.1 (by omega)
              refine ⟨.ref PL, rfl, .int o2, rfl, PL, _, _, _, rfl, rfl, SqL.of eP11, atv, rfl, _, rfl, ?_⟩
              cases ov with
              | none =>
                rw [decide_eq_true (show pV none = V.non from rfl)]
                obtain ⟨zv2, hzv2⟩ := upt _ _ hzv
                have atz : atI (ts.map pV) v = some (V.int zv2) := by
                  refine at_of (j := v.toNat) (by omega) ?_
                  rw [List.getElem?_map, hzv2]
                  rfl
                have vz := prt.val zv2 (List.mem_of_getElem? hzv2)
                obtain ⟨p1, p2⟩ := prt.set o2.toNat (z := 1 - zv2) (by omega)
                have n1 := nn_set (z := 1 - zv2) hov
                refine iteT ⟨.ref PL, rfl, .int v, rfl, PL, _, _, _, rfl, rfl, SqL.of eP11, atz, _, _, rfl, rfl, .ref PL, rfl, .int o2, rfl, PL, _, _, o2.toNat, rfl, rfl, eP11, pr_ix ro.1 (by omega), ?_⟩
                have eP12 : (upd H11 PL (.lst ((ts.map pV).set o2.toNat (V.int (1 - zv2))))) PL = some (.lst ((ts.set o2.toNat (some (1 - zv2))).map pV)) := by
                  rw [upd_same, List.map_set]
                  rfl
                have eW12 : (upd H11 PL (.lst ((ts.map pV).set o2.toNat (V.int (1 - zv2))))) W = some (.lst (us.map V.int)) := by rw [upd_ne nPW.symm]; exact eW11
                have eD12 : (upd H11 PL (.lst ((ts.map pV).set o2.toNat (V.int (1 - zv2))))) D = some (.lst ((nearL m es v).map V.int)) := by rw [upd_ne nPD.symm]; exact eD11
                have s12 : Same H (upd H11 PL (.lst ((ts.map pV).set o2.toNat (V.int (1 - zv2))))) := fun h u eh => by
                  rw [upd_ne (ne_of_none eh nP0)]
                  exact s11 _ _ eh
                generalize upd H11 PL (.lst ((ts.map pV).set o2.toNat (V.int (1 - zv2)))) = H12 at eP12 eW12 eD12 s12 ⊢
                refine ⟨.ref W, rfl, .inl ⟨rfl, _, SqL.of eW12⟩, .int o2, rfl, W, _, .int o2, rfl, rfl, eW12, small1000 (by rw [List.length_map]; omega), _, ts.set o2.toNat (some (1 - zv2)), us ++ [o2], rfl, fun h u eh => ?_, ?_, ?_, ?_, p1, upt.trans p2, fun u hu => ?_, ?_, by omega⟩
                · rw [upd_ne (ne_of_none eh nW0)]
                  exact s12 _ _ eh
                · rw [upd_ne nPW]
                  exact eP12
                · rw [upd_same, List.map_append]
                  rfl
                · rw [upd_ne nWD.symm]
                  exact eD12
                · rcases List.mem_append.mp hu with hu | hu
                  · obtain ⟨h1, z, hz⟩ := hus u hu
                    exact ⟨h1, p2 _ _ hz⟩
                  · rw [List.mem_singleton.mp hu]
                    exact ⟨ro, 1 - zv2, by rw [List.getElem?_set, if_pos rfl, if_pos (by omega)]⟩
                · rw [List.length_append, List.length_singleton]
                  omega
              | some y =>
                rw [decide_eq_false (show ¬ pV (some y) = V.non from fun z => nomatch z)]
                exact iteF ⟨_, ts, us, rfl, s11, eP11, eW11, eD11, prt, upt, hus, few2, few3⟩
            · rintro σ H11 ⟨y5, ts, us, rfl, s11, eP11, eW11, eD11, prt, upt, hus, few2, few3⟩
              exact ⟨2 * nn ts + us.length, by omega, _, _, ts, us, rfl, s11, eP11, eW11, prt, upr.trans upt, hus, by omega, rfl⟩
        · rintro σ H' Q1 Q2 hQ ⟨v, e, h0, h⟩
          refine ⟨v, e, h0, fun p np => ?_⟩
          obtain ⟨d, e', h1, h2, h3, h4, k, hk, h5⟩ := h p np
          exact ⟨d, e', h1, h2, h3, h4, k, hk, hQ _ _ h5⟩
    · rintro σ H3 ⟨y2, y3, y4, y5, ps, rfl, s3, eP3, pr, fin⟩
      rw [Int.toNat_natCast] at fin
      have hl := pr.len
      have all : ∃ zs : List Int, ps.map pV = zs.map V.int ∧ zs.length = m ∧ ∀ z ∈ zs, z = 0 ∨ z = 1 := by
        refine ⟨ps.map fun o => o.getD 0, ?_, by rw [List.length_map]; exact hl, fun z hz => ?_⟩
        · rw [List.map_map]
          refine List.map_congr_left fun o ho => ?_
          obtain ⟨j, hj⟩ := List.getElem?_of_mem ho
          obtain ⟨z, hz⟩ := fin j (by rw [← hl]; exact (List.getElem?_eq_some_iff.mp hj).1)
          rw [hj] at hz
          cases hz
          rfl
        · obtain ⟨o, ho, rfl⟩ := List.mem_map.mp hz
          cases o with
          | none => exact .inl rfl
          | some z => exact pr.val z ho
      obtain ⟨zs, ez, lz, vz⟩ := all
      rw [ez] at eP3
      exact ⟨.ref PL, rfl, q _ PL zs s3 nP0 eP3 lz vz⟩
end
end TL
namespace TL
open PySem PySem.Spec PyProof.Rows L2
section
variable {P : Program} {w : World} {K : PySem.W.Frag} {mg : Str → Option Value} {base : Heap}
/-! ### settings -/
def spLSetting (K : PySem.W.Frag) : Sp := fun vs H Q _ => ∃ (d l : Addr) (n m : Nat) (es : List (Int × Int)) (x : V), vs = [.ref d, x] ∧ m ≤ 12 ∧ IsFor m es ∧ Dp K H x (forD m es) ∧ Deck H d l n ∧ n < 800000 ∧
  ∀ (H' : Hp) (y : V) (S : List Int), Fm d l H H' → Deck H' d l (n + 40) → IsSet m es S → Dp K H' y (intsD S) → Q y H'
theorem lit_nil {ls ns : List Int} (h : ns.filter (fun o => decide (o ∈ ls)) = []) : ∀ o ∈ ns, o ∉ ls := fun o ho z => by
  have : o ∈ ns.filter (fun o => decide (o ∈ ls)) := List.mem_filter.mpr ⟨ho, decide_eq_true z⟩
  rw [h] at this
  cases this
theorem ok_LSetting {f : Addr} {fd : FuncData} (F : Fun K "_law_setting" "_law_setting" sLSetting f fd) (m_list : mg "list" = none) (m_range : mg "range" = none) (m_len : mg "len" = none) (m_tuple : mg "tuple" = none) (m_sorted : mg "sorted" = none)
    (oLDraw : Own P w K mg base "_law_draw" 1 ["_law_deck_here", "_law_bound"] spLDraw) (oLNear : Own P w K mg base "_law_near" 1 ["_law_forest_here", "_law_vertex"] (spLNear K)) (oLParities : Own P w K mg base "_law_parities" 2 ["_law_forest_here"] (spLParities K)) :
    FnOk P w K mg base CX0 3 f fd ["_law_deck_here", "_law_forest_here"] (spLSetting K) := by
  refine F.ok scLSetting (fun vs H Q E h => ?_) (fun cdv A outer s H vs Q E hr h => ?_)
  · obtain ⟨d, l, n, m, es, x, rfl, _⟩ := h
    rfl
  · obtain ⟨d, l, n, m, es, x, rfl, hm, isf, hx, hD, hn, q⟩ := h
    refine ⟨_, (pss_cons (ps_set (i := 2) scLSetting.nd rfl (.inl rfl) (pe_own oLParities (hr.mono (by decide)) (by rfl) (pa_cons (pv 1) pa_nil)))
    (pss_cons (ps_set (i := 3) scLSetting.nd rfl (.inl rfl) (pe_own oLDraw (hr.mono (by decide)) (by rfl) (pa_cons (pv 0) (pa_cons pe_int pa_nil))))
    (pss_cons (ps_set (i := 4) scLSetting.nd rfl (.inl rfl) (pe_listRg rfl (by rfl) m_list (prg_1 (by rfl) m_range (pe_ix (ixTK K) (pv 1) pe_int (fun _ _ => rfl)))))
    (pss_cons (ps_set (i := 5) scLSetting.nd rfl (.inr rfl) (pe_lst pa_nil))
    (pss_cons (ps_while PassesOwn.never (pt_cmpR (neDK K hr.units) (pv 4) (pe_lst pa_nil) (nomark _)) (pss_cons (ps_set (i := 6) scLSetting.nd rfl (.inl rfl) (bmK K PySem.F.plainAttrs_list PySem.F.slot_list_pop PySem.F.type_list_pop mt_popAt (pv 4) (pa_cons (pe_own oLDraw (hr.mono (by decide)) (by rfl) (pa_cons (pv 0) (pa_cons (pe_callB (lenK K) (by rfl) m_len (by decide +kernel) (pa_cons (pv 4) pa_nil)) pa_nil))) pa_nil)))
    (pss_cons (ps_set (i := 7) scLSetting.nd rfl (.inl rfl) (pe_ix (ixLK K) (pe_lst (pa_cons pe_int (pa_cons pe_int (pa_cons pe_int (pa_cons (pe_op op_mul pe_int (pe_ix (ixLK K) (pv 2) (pv 6) (fun _ _ => rfl))) (pa_cons (pe_op op_sub pe_int (pe_op op_mul pe_int (pe_ix (ixLK K) (pv 2) (pv 6) (fun _ _ => rfl)))) pa_nil)))))) (pv 3) (fun _ _ => rfl)))
    (pss_cons (ps_setLc (i := 8) (own := [("_law_other", 9)]) (g := (gName 9)) (by rfl) scLSetting.nd rfl rfl (sw_true rfl rfl rfl (by decide +kernel)) (piLK K (pe_own oLNear (hr.mono (by decide)) (by rfl) (pa_cons (pv 1) (pa_cons (pv 6) pa_nil))))
      (blkOk_by (own := [("_law_other", 9)]) (N := nLSetting) (sc := (defScope sLSetting)) (by decide +kernel))
      (fun _ _ _ _ _ => (pg_name (i := 9) scLSetting.nd rfl (Or.inl rfl))) (fun _ _ _ _ _ => (pts_one (pt_cmpR (inK K) (pv 9) (pv 5) (by rfl))))
      (fun _ _ _ _ _ => (pv 9)))
    (pss_one (ps_if (PW.pt (pw_and (pt_cmpR (eqDK K hr.units) (pv 8) (pe_lst pa_nil) (nomark _)) (pw_and1 (pt_cmpR op_lt (pe_own oLDraw (hr.mono (by decide)) (by rfl) (pa_cons (pv 0) (pa_cons pe_int pa_nil))) (pv 7) (nomark _))))) (pss_one (ps_expr (bmK K PySem.F.plainAttrs_list PySem.F.slot_list_append PySem.F.type_list_append mt_append (pv 5) (pa_cons (pv 6) pa_nil)))) pss_nil))))))
    (pss_one (ps_ret (pe_callTy (tupleK K) (by rfl) m_tuple (by decide +kernel) (pa_cons (pe_callB (sortK K hr.units) (by rfl) m_sorted (by decide +kernel) (pa_cons (pv 5) pa_nil)) pa_nil))))))))), ?_⟩
    refine ⟨x, rfl, x, m, es, rfl, hm, isf, hx, fun H1 PL ps s1 nP eP lp vp => ?_⟩
    have offP := hD.off nP
    have d1 := hD.same s1
    refine ⟨.ref d, rfl, d, l, _, 5, rfl, by decide, by decide, d1, by omega, fun H2 w3 w0 w1 f2 d2 => ?_⟩
    have eP2 := f2 _ _ offP.1 offP.2 eP
    have hx2 := Dp.kt (f2.kt d1) (Dp.same s1 hx) (only_forD _ _)
    have f02 : Fm d l H H2 := (Same.fm s1).trans f2
    obtain ⟨fa, fb, fxs, rfl, hfa, hfb, hfA⟩ := Dp.forI hx2
    refine ⟨.ref fa, rfl, fa, _, 0, .int (m : Int), rfl, rfl, hfa, atI_nat (j := 0) rfl, (m : Int), rfl, RgOk.of_le (by omega) (by omega) (by omega) (by omega), fun L nL => ?_⟩
    rw [rgVrng]
    have sL := same_upd (o := .lst ((rng m).map V.int)) nL
    have eL := same_at (o := .lst ((rng m).map V.int)) nL
    have offL := d2.off nL
    have nPL : PL ≠ L := ne_of_none eP2 nL
    generalize upd _ L (.lst ((rng m).map V.int)) = H3 at sL eL ⊢
    refine ⟨Nat.zero_le _, fun B nB => ?_⟩
    have sB := same_upd (o := .lst []) nB
    have eB := same_at (o := .lst []) nB
    have nB2 : H2 B = none := sL.free nB
    have offB := d2.off nB2
    have nLB : L ≠ B := ne_of_none eL nB
    have nPB : PL ≠ B := ne_of_none eP2 nB2
    have free : ∀ a : Addr, H2 a = none → a ≠ d → a ≠ l → H a = none := fun a ha h1 h2 => by
      cases e : H a with
      | none => rfl
      | some o =>
        have := f02 a o h1 h2 e
        rw [ha] at this
        cases this
    have nL0 := free L nL offL.1 offL.2
    have nB0 := free B nB2 offB.1 offB.2
    have s23 := sL.trans sB
    refine while_ms (fun t σ H' => ∃ (y6 y7 y8 : Option V) (us rs ls : List Int), σ = [some (.ref d), some (.ref fa), some (.ref PL), some (.int w3), some (.ref L), some (.ref B), y6, y7, y8, none] ∧ t = rs.length ∧ (us ++ rs).Perm (rng m) ∧ Fm d l H H' ∧ Deck H' d l (n + 1 + 2 * us.length) ∧
      Dp K H' (.ref fa) (forD m es) ∧ H' PL = some (.lst (ps.map V.int)) ∧ H' L = some (.lst (rs.map V.int)) ∧ H' B = some (.lst (ls.map V.int)) ∧ ls.Nodup ∧ (∀ v ∈ ls, v ∈ us) ∧ (∀ u ∈ ls, ∀ v ∈ ls, ordP u v ∉ es) ∧ ls.length ≤ us.length) _
      ⟨_, _, _, [], rng m, [], rfl, rfl, List.Perm.refl _, f02.trans (Same.fm s23), (d2.same s23).le (by omega), Dp.same s23 hx2, s23 _ _ eP2, sB _ _ eL, eB, .nil, (fun _ z => nomatch z), (fun _ z => nomatch z), Nat.le_refl _⟩ ?_ ?_
    · rintro tt σ H4 ⟨y6, y7, y8, us, rs, ls, rfl, rfl, pm, f4, d4, hx4, eP4, eL4, eB4, nd, sub, ind, cnt⟩
      have er : us.length + rs.length = m := by
        have := pm.length_eq
        rw [List.length_append, rng_length] at this
        exact this
      refine ⟨.ref L, rfl, Nat.zero_le _, fun e ne => ?_⟩
      have se := same_upd (o := .lst []) ne
      refine ⟨.list (rs.map .int), .list [], .lst (SqL.of (se _ _ eL4)) (DpAll.of_ints rs), .lst (SqL.of upd_same) .nil, shaped_ints rs, shaped_ints [], _, rfl, ?_⟩
      rw [eqv_nil]
      have d5 := d4.same se
      have hx5 := Dp.same se hx4
      have eP5 := se _ _ eP4
      have eL5 := se _ _ eL4
      have eB5 := se _ _ eB4
      have f5 := f4.trans (Same.fm (d := d) (l := l) se)
      generalize upd H4 e (.lst []) = H5 at d5 hx5 eP5 eL5 eB5 f5 ⊢
      by_cases hr0 : rs = []
      · subst hr0
        rw [decide_eq_true rfl]
        refine iteF ?_
        rw [List.append_nil] at pm
        rw [List.length_nil, Nat.add_zero] at er
        refine ⟨.ref B, rfl, sortInts (SqL.of eB5) fun p np => ?_⟩
        have t1 := same_upd (o := .lst ((srtI ls).map V.int)) np
        refine ⟨p, _, rfl, .inl ⟨SqL.of upd_same, fun t nt => ?_⟩⟩
        have t2 := same_upd (o := .tup ((srtI ls).map V.int)) nt
        refine q _ _ (srtI ls) (f5.trans (Same.fm (t1.trans t2))) ((d5.same (t1.trans t2)).le (by omega)) ⟨srtI_asc nd, fun v hv => ?_, fun u hu v hv => ?_⟩ (Dp.ints (SqT.of upd_same))
        · exact mem_rng.mp (pm.mem_iff.mp (sub v (mem_srtI.mp hv)))
        · exact ind u (mem_srtI.mp hu) v (mem_srtI.mp hv)
      · rw [decide_eq_false hr0]
        have hp : 0 < rs.length := List.length_pos_iff.mpr hr0
        refine iteT ?_
        refine ⟨.ref L, rfl, .inl ⟨rfl, _, SqL.of eL5⟩, .ref d, rfl, .ref L, rfl, L, _, rfl, .inl (SqL.of eL5), d, l, _, _, rfl, by rw [List.length_map]; omega, by rw [List.length_map]; omega, d5, by omega, fun H6 r r0 r1 f6 d6 => ?_⟩
        rw [List.length_map] at r1
        have hk : r.toNat < rs.length := by omega
        have eL6 := f6 _ _ offL.1 offL.2 eL5
        have eB6 := f6 _ _ offB.1 offB.2 eB5
        have eP6 := f6 _ _ offP.1 offP.2 eP5
        have hx6 := Dp.kt (f6.kt d5) hx5 (only_forD _ _)
        refine ⟨L, _, r, r.toNat, .int rs[r.toNat], rfl, rfl, eL6, by omega, by omega, ?_, ?_, ?_⟩
        · unfold seqIndex?
          rw [List.length_map]
          simp
          omega
        · rw [List.getElem?_map, List.getElem?_eq_getElem hk]
          rfl
        have pe := erase_prm hk
        have le := List.length_eraseIdx_of_lt hk
        generalize rs[r.toNat] = v at pe ⊢
        have eL7 : (upd H6 L (.lst ((rs.map V.int).eraseIdx r.toNat))) L = some (.lst ((rs.eraseIdx r.toNat).map V.int)) := by rw [upd_same, erase_mp]
        have eB7 : (upd H6 L (.lst ((rs.map V.int).eraseIdx r.toNat))) B = some (.lst (ls.map V.int)) := by rw [upd_ne nLB.symm]; exact eB6
        have eP7 : (upd H6 L (.lst ((rs.map V.int).eraseIdx r.toNat))) PL = some (.lst (ps.map V.int)) := by rw [upd_ne nPL]; exact eP6
        have hx7 := Dp.kt (kt_lst (K := K) (ys := (rs.map V.int).eraseIdx r.toNat) eL6) hx6 (only_forD _ _)
        have d7 := d6.put (o := .lst ((rs.map V.int).eraseIdx r.toNat)) offL.1 offL.2
        have f7 := (f5.trans f6).put1 (o := .lst ((rs.map V.int).eraseIdx r.toNat)) nL0
        generalize upd H6 L (.lst ((rs.map V.int).eraseIdx r.toNat)) = H7 at eL7 eB7 eP7 hx7 d7 f7 ⊢
        generalize rs.eraseIdx r.toNat = rs' at pe le eL7
        have pm' : ((us ++ [v]) ++ rs').Perm (rng m) := by
          rw [List.append_assoc]
          exact (List.Perm.append_left us pe).trans pm
        have vr : 0 ≤ v ∧ v < (m : Int) := mem_rng.mp (pm'.mem_iff.mp (by simp))
        have nvu : v ∉ us := by
          have nd2 : ((us ++ [v]) ++ rs').Nodup := pm'.nodup_iff.mpr (rng_asc m).nodup
          have := (List.nodup_append.mp (List.nodup_append.mp nd2).1).2.2
          intro z
          exact this v z v (List.mem_singleton.mpr rfl) rfl
        -- chance
        obtain ⟨zp, hzp, atp⟩ : ∃ z : Int, (z = 0 ∨ z = 1) ∧ atI (ps.map V.int) v = some (V.int z) := by
          have hl : v.toNat < ps.length := by omega
          refine ⟨ps[v.toNat], vp _ (List.getElem_mem hl), at_of (j := v.toNat) (by omega) ?_⟩
          rw [List.getElem?_map, List.getElem?_eq_getElem hl]
          rfl
        refine ⟨.ref PL, rfl, .int v, rfl, PL, _, _, _, rfl, rfl, SqL.of eP7, atp, _, _, rfl, rfl, .inl ⟨by decide, by decide⟩, .ref PL, rfl, .int v, rfl, PL, _, _, _, rfl, rfl, SqL.of eP7, atp, _, _, rfl, rfl, .inl ⟨by decide, by decide⟩, _, _, rfl, rfl, by show 5 ≤ sizeLine; decide, fun p np => ?_⟩
        have sp := same_upd (o := .lst [.int 8, .int 6, .int 3, .int (8 * zp), .int (8 - 8 * zp)]) np
        obtain ⟨ch, hch⟩ : ∃ c : Int, atI [V.int 8, V.int 6, V.int 3, V.int (8 * zp), V.int (8 - 8 * zp)] w3 = some (V.int c) := by
          have h4 : w3 = 0 ∨ w3 = 1 ∨ w3 = 2 ∨ w3 = 3 ∨ w3 = 4 := by omega
          rcases h4 with rfl | rfl | rfl | rfl | rfl <;> exact ⟨_, rfl⟩
        refine ⟨.int w3, rfl, p, _, _, _, rfl, rfl, SqL.of upd_same, hch, ?_⟩
        have d8 := d7.same sp
        have hx8 := Dp.same sp hx7
        have eL8 := sp _ _ eL7
        have eB8 := sp _ _ eB7
        have eP8 := sp _ _ eP7
        have f8 := f7.trans (Same.fm (d := d) (l := l) sp)
        generalize upd H7 p (.lst [.int 8, .int 6, .int 3, .int (8 * zp), .int (8 - 8 * zp)]) = H8 at d8 hx8 eL8 eB8 eP8 f8 ⊢
        -- lighted
        refine ⟨.ref fa, rfl, .int v, rfl, .ref fa, m, es, v, rfl, by omega, isf, hx8, fun H9 D s9 nD eD => ?_⟩
        refine ⟨D, rfl, ⟨_, SqL.of eD⟩, fun C nC => ?_⟩
        have nl := nearL_len m es v
        refine lc_listI (K := K) (fun o => decide (o ∈ ls)) .int nC (SqL.of eD) (fun _ => rfl) (fun o _ H' R s2 hR => ?_) (fun o _ _ H' R s2 hR => ⟨.int o, rfl, hR H' _ (Same.refl _) (.int o)⟩) only_int (by omega) (fun H10 ys s10 eC dy => ?_)
        · refine ⟨.int o, rfl, .ref B, rfl, B, ls.map V.int, rfl, .inl (SqL.of (s2 _ _ (s9 _ _ eB8))), rfl, flat_ints ls, _, rfl, ?_⟩
          show R (if false = true then _ else inV (V.int o) (ls.map V.int)) _
          rw [if_neg Bool.false_ne_true, inV_ints]
          exact hR _ (Same.refl _)
        rw [lst_ints dy] at eC
        have s810 := s9.trans s10
        have d10 := d8.same s810
        have hx10 := Dp.same s810 hx8
        have eL10 := s810 _ _ eL8
        have eB10 := s810 _ _ eB8
        have eP10 := s810 _ _ eP8
        have f10 := f8.trans (Same.fm (d := d) (l := l) s810)
        dsimp only [gName]
        refine ifJ (R := fun b H12 => Fm d l H10 H12 ∧ Deck H12 d l (n + 1 + 2 * (us ++ [v]).length) ∧ (b = true → ∀ o ∈ nearL m es v, o ∉ ls)) (fun R hR => ?_) (fun H12 hR => ?_) (fun H12 hR => ?_)
        · refine ⟨.ref C, rfl, Nat.zero_le _, fun e3 ne3 => ?_⟩
          have se3 := same_upd (o := .lst []) ne3
          refine ⟨.list (((nearL m es v).filter fun o => decide (o ∈ ls)).map .int), .list [], .lst (SqL.of (se3 _ _ eC)) (DpAll.of_ints _), .lst (SqL.of upd_same) .nil, shaped_ints _, shaped_ints [], _, rfl, ?_⟩
          rw [eqv_nil]
          have lus : (us ++ [v]).length = us.length + 1 := by rw [List.length_append]; rfl
          by_cases hl : (nearL m es v).filter (fun o => decide (o ∈ ls)) = []
          · rw [decide_eq_true hl]
            refine iteT ⟨.ref d, rfl, d, l, _, 8, rfl, by decide, by decide, d10.same se3, by omega, fun H13 y y0 y1 f13 d13 => ⟨.int ch, rfl, _, _, rfl, rfl, _, rfl, hR _ _ ⟨(Same.fm se3).trans f13, d13.le (by omega), fun _ => lit_nil hl⟩⟩⟩
          · rw [decide_eq_false hl]
            exact iteF (hR _ _ ⟨Same.fm se3, (d10.same se3).le (by omega), fun z => nomatch z⟩)
        · obtain ⟨f12, d12, hno⟩ := hR
          have eB12 := f12 _ _ offB.1 offB.2 eB10
          refine ⟨.ref B, rfl, .inl ⟨rfl, _, SqL.of eB12⟩, .int v, rfl, B, _, .int v, rfl, rfl, eB12, small1000 (by rw [List.length_map]; omega), ?_⟩
          have kt : KT K H12 (upd H12 B (.lst (ls.map V.int ++ [V.int v]))) := kt_lst eB12
          refine ⟨rs'.length, by omega, _, _, _, us ++ [v], rs', ls ++ [v], rfl, rfl, pm', (f10.trans f12).put1 nB0, d12.put offB.1 offB.2, Dp.kt ((f12.kt d10).trans kt) hx10 (only_forD _ _), ?_, ?_, ?_, ?_, ?_, ?_, ?_⟩
          · rw [upd_ne nPB]
            exact f12 _ _ offP.1 offP.2 eP10
          · rw [upd_ne nLB]
            exact f12 _ _ offL.1 offL.2 eL10
          · rw [upd_same, List.map_append]
            rfl
          · exact List.nodup_append.mpr ⟨nd, List.pairwise_singleton _ _, fun a ha b hb e => nvu (by rw [List.mem_singleton.mp hb] at e; exact e ▸ sub a ha)⟩
          · intro u hu
            rcases List.mem_append.mp hu with hu | hu
            · exact List.mem_append_left _ (sub u hu)
            · exact List.mem_append_right _ hu
          · have key : ∀ u ∈ ls, ordP u v ∉ es := fun u hu z => hno rfl u (mem_nearL.mpr ⟨mem_rng.mp (pm.mem_iff.mp (List.mem_append_left _ (sub u hu))), z⟩) hu
            intro u hu w hw
            rcases List.mem_append.mp hu with hu | hu
            · rcases List.mem_append.mp hw with hw | hw
              · exact ind u hu w hw
              · rw [List.mem_singleton.mp hw]
                exact key u hu
            · rw [List.mem_singleton.mp hu]
              rcases List.mem_append.mp hw with hw | hw
              · rw [ordP_comm]
                exact key w hw
              · rw [List.mem_singleton.mp hw]
                exact isf.loop v
          · rw [List.length_append, List.length_append]
            show ls.length + 1 ≤ us.length + 1
            omega
        · obtain ⟨f12, d12, hno⟩ := hR
          refine ⟨rs'.length, by omega, _, _, _, us ++ [v], rs', ls, rfl, rfl, pm', f10.trans f12, d12, Dp.kt (f12.kt d10) hx10 (only_forD _ _), f12 _ _ offP.1 offP.2 eP10, f12 _ _ offL.1 offL.2 eL10, f12 _ _ offB.1 offB.2 eB10, nd, fun u hu => List.mem_append_left _ (sub u hu), ind, ?_⟩
          rw [List.length_append]
          omega
    · rintro σ H' Q1 Q2 hQ ⟨v, e, h0, h⟩
      refine ⟨v, e, h0, fun p np => ?_⟩
      obtain ⟨d, e', h1, h2, h3, h4, k, hk, h5⟩ := h p np
      exact ⟨d, e', h1, h2, h3, h4, k, hk, hQ _ _ h5⟩
end
end TL
namespace TL
open PySem PySem.Spec PyProof.Rows L2
section
variable {P : Program} {w : World} {K : PySem.W.Frag} {mg : Str → Option Value} {base : Heap}
/-! ### values of any kind: what isinstance says -/
def isN : V → Bool
  | .int _ => true
  | _ => false
/-- what isinstance says of it -/
def Kd (K : PySem.W.Frag) (H : Hp) (v : V) : Prop := ∃ (t : Value) (a b : Bool), TyX K H v t ∧ PySem.W.kitOne K t (.type "int") = some a ∧ PySem.W.kitOne K t (.type "bool") = some b ∧ (a && !b) = isN v
theorem Kd.int {H : Hp} (i : Int) : Kd K H (.int i) := ⟨_, true, false, .base (.int i), kit_ty (by decide +kernel), kit_ty (by decide +kernel), rfl⟩
theorem tyOf_same {H H' : Hp} (s : Same H H') {v : V} {t : Value} (h : TyOf K H v t) : TyOf K H' v t := by
  cases h with
  | non => exact .non
  | bl x => exact .bl x
  | int i => exact .int i
  | str x => exact .str x
  | flt x => exact .flt x
  | lst e => exact .lst (s _ _ e)
  | frz e => exact .frz (s _ _ e)
  | tup e => exact .tup (s _ _ e)
  | dK e => exact .dK (s _ _ e)
  | dT e => exact .dT (s _ _ e)
  | ins e c1 c2 c3 c4 c5 => exact .ins (s _ _ e) c1 c2 c3 c4 c5
theorem tyX_same {H H' : Hp} (s : Same H H') {v : V} {t : Value} (h : TyX K H v t) : TyX K H' v t := by
  cases h with
  | base b => exact .base (tyOf_same s b)
  | byt b => exact .byt b
  | set e => exact .set (s _ _ e)
  | kList e c => exact .kList e c
  | kTuple e c => exact .kTuple e c
  | kDict e c => exact .kDict e c
  | fTuple e => exact .fTuple (s _ _ e)
  | fDict e => exact .fDict (s _ _ e)
theorem Kd.same {H H' : Hp} {v : V} (s : Same H H') (h : Kd K H v) : Kd K H' v := by
  obtain ⟨t, a, b, ty, r⟩ := h
  exact ⟨t, a, b, tyX_same s ty, r⟩
/-- an error with one field that flies -/
def Fl (E : XK) (H : Hp) (C : Addr) (f : Str) (y : V) : Prop := ∀ (H' : Hp) (dd : Addr), Same H H' → H' dd = some (.xd [(f, y)]) → E (.ref C) (some dd) H'
def spIsNumber (K : PySem.W.Frag) : Sp := fun vs H Q _ => ∃ v : V, vs = [v] ∧ Kd K H v ∧ Q (.bl (isN v)) H
theorem ok_IsNumber {f : Addr} {fd : FuncData} {k : Nat} (F : Fun K "is_number" "is_number" sIsNumber f fd) (m_isinstance : mg "isinstance" = none) (m_int : mg "int" = none) (m_bool : mg "bool" = none) :
    FnOk P w K mg base CX0 (k + 1) f fd ["value"] (spIsNumber K) := by
  refine F.ok scIsNumber (fun vs H Q E h => ?_) (fun cdv A outer s H vs Q E hr h => ?_)
  · obtain ⟨v, rfl, _⟩ := h
    rfl
  · obtain ⟨v, rfl, ⟨t, a, b, ty, k1, k2, e⟩, q⟩ := h
    refine ⟨_, (pss_one (ps_ret (pe_and (pe_callB (isiK K) (by rfl) m_isinstance (by decide +kernel) (pa_cons (pv 0) (pa_cons (pe_bltn (v := .ty "int") (by rfl) m_int (by decide +kernel) rfl) pa_nil))) (pe_one (pe_not (pe_callB (isiK K) (by rfl) m_isinstance (by decide +kernel) (pa_cons (pv 0) (pa_cons (pe_bltn (v := .ty "bool") (by rfl) m_bool (by decide +kernel) rfl) pa_nil)))))))), ?_⟩
    refine ⟨v, rfl, _, _, _, _, a, rfl, .ty "int", ty, k1, a, rfl, ?_⟩
    rw [← e] at q
    cases a with
    | false => exact iteF q
    | true => exact iteT ⟨v, rfl, _, _, _, _, b, rfl, .ty "bool", ty, k2, b, rfl, q⟩
/-! ### values of any kind, bent: data with lists and dicts in it; b counts the bends -/
mutual
def ib : PyData → Bool
  | .int i => decide (i.natAbs ≤ 10 ^ 29)
  | .tuple xs => decide (xs.length ≤ 20) && ibAll xs
  | .none => true
  | .bool _ => true
  | .str _ => true
  | .list _ => false
  | .dict _ => false
def ibAll : List PyData → Bool
  | [] => true
  | d :: ds => ib d && ibAll ds
end
/-- dicts of odd values -/
inductive Od : HO → PyData → Prop
  | d0 : Od (.dK []) (.dict [])
  | d1 : Od (.dK [(.inr "a", .int 0)]) (.dict [(.str "a", .int 0)])
/-- lists of odd values -/
inductive Ob : HO → PyData → Prop
  | l (ns : List Int) (h : ns.length ≤ 4) (b : ∀ n ∈ ns, n.natAbs ≤ 100) : Ob (.lst (ns.map V.int)) (.list (ns.map .int))
mutual
inductive Bv (K : PySem.W.Frag) (d l : Addr) (b : Nat) (H : Hp) : V → PyData → Prop
  | non : Bv K d l b H .non .none
  | bl (x : Bool) : Bv K d l b H (.bl x) (.bool x)
  | int (i : Int) (h : i.natAbs ≤ 10 ^ 29 + 12 * b) : Bv K d l b H (.int i) (.int i)
  | str (x : Str) : Bv K d l b H (.str x) (.str x)
  | tup {a : Addr} {xs : List V} {ds : List PyData} (h : SqT K H a xs) (al : BvAll K d l b H xs ds) (len : xs.length ≤ 20 + b) : Bv K d l b H (.ref a) (.tuple ds)
  | lst {a : Addr} {xs : List V} {ds : List PyData} (np : a ≠ sysModules) (e : H a = some (.lst xs)) (h1 : a ≠ d) (h2 : a ≠ l) (al : BvAll K d l b H xs ds) (len : xs.length ≤ 20 + b) : Bv K d l b H (.ref a) (.list ds)
  | dct {a : Addr} {o : HO} {x : PyData} (e : H a = some o) (h : Od o x) (h1 : a ≠ d) (h2 : a ≠ l) : Bv K d l b H (.ref a) x
inductive BvAll (K : PySem.W.Frag) (d l : Addr) (b : Nat) (H : Hp) : List V → List PyData → Prop
  | nil : BvAll K d l b H [] []
  | cons {v : V} {vs : List V} {x : PyData} {xs : List PyData} : Bv K d l b H v x → BvAll K d l b H vs xs → BvAll K d l b H (v :: vs) (x :: xs)
end
section
variable {d l : Addr} {b c : Nat} {H H' : Hp}
mutual
theorem Bv.le (h : b ≤ c) : ∀ {v : V} {x : PyData}, Bv K d l b H v x → Bv K d l c H v x
  | _, _, .non => .non
  | _, _, .bl x => .bl x
  | _, _, .int i hi => .int i (by omega)
  | _, _, .str x => .str x
  | _, _, .tup e al n => .tup e (BvAll.le h al) (by omega)
  | _, _, .lst np e h1 h2 al n => .lst np e h1 h2 (BvAll.le h al) (by omega)
  | _, _, .dct e o h1 h2 => .dct e o h1 h2
theorem BvAll.le (h : b ≤ c) : ∀ {vs : List V} {xs : List PyData}, BvAll K d l b H vs xs → BvAll K d l c H vs xs
  | _, _, .nil => .nil
  | _, _, .cons p q => .cons (Bv.le h p) (BvAll.le h q)
end
mutual
theorem Bv.same (s : Same H H') : ∀ {v : V} {x : PyData}, Bv K d l b H v x → Bv K d l b H' v x
  | _, _, .non => .non
  | _, _, .bl x => .bl x
  | _, _, .int i hi => .int i hi
  | _, _, .str x => .str x
  | _, _, .tup e al n => .tup (Same.tup s e) (BvAll.same s al) n
  | _, _, .lst np e h1 h2 al n => .lst np (s _ _ e) h1 h2 (BvAll.same s al) n
  | _, _, .dct e o h1 h2 => .dct (s _ _ e) o h1 h2
theorem BvAll.same (s : Same H H') : ∀ {vs : List V} {xs : List PyData}, BvAll K d l b H vs xs → BvAll K d l b H' vs xs
  | _, _, .nil => .nil
  | _, _, .cons p q => .cons (Bv.same s p) (BvAll.same s q)
end
mutual
theorem Bv.kf (k : KT K H H') (f : ∀ a o, a ≠ d → a ≠ l → H a = some o → H' a = some o) : ∀ {v : V} {x : PyData}, Bv K d l b H v x → Bv K d l b H' v x
  | _, _, .non => .non
  | _, _, .bl x => .bl x
  | _, _, .int i hi => .int i hi
  | _, _, .str x => .str x
  | _, _, .tup e al n => .tup (k _ _ e) (BvAll.kf k f al) n
  | _, _, .lst np e h1 h2 al n => .lst np (f _ _ h1 h2 e) h1 h2 (BvAll.kf k f al) n
  | _, _, .dct e o h1 h2 => .dct (f _ _ h1 h2 e) o h1 h2
theorem BvAll.kf (k : KT K H H') (f : ∀ a o, a ≠ d → a ≠ l → H a = some o → H' a = some o) : ∀ {vs : List V} {xs : List PyData}, BvAll K d l b H vs xs → BvAll K d l b H' vs xs
  | _, _, .nil => .nil
  | _, _, .cons p q => .cons (Bv.kf k f p) (BvAll.kf k f q)
end
theorem Bv.fm {n : Nat} (f : Fm d l H H') (D : Deck H d l n) {v : V} {x : PyData} (h : Bv K d l b H v x) : Bv K d l b H' v x := h.kf (f.kt D) fun a o h1 h2 => f a o h1 h2
theorem BvAll.fm {n : Nat} (f : Fm d l H H') (D : Deck H d l n) {vs : List V} {xs : List PyData} (h : BvAll K d l b H vs xs) : BvAll K d l b H' vs xs := h.kf (f.kt D) fun a o h1 h2 => f a o h1 h2
theorem dqInts {H : Hp} : ∀ ns : List Int, DqAll K H (ns.map V.int) (ns.map PyData.int)
  | [] => .nil
  | n :: ns => .cons (.int n) (dqInts ns)
theorem od_dq {a : Addr} {o : HO} {x : PyData} (e : H a = some o) (h : Od o x) : Dq K H (.ref a) x := by
  cases h with
  | d0 => exact .dct (ps := []) e rfl .nil
  | d1 => exact .dct (ps := [(.str "a", .int 0)]) e rfl (.cons (.int 0) .nil)
mutual
theorem Bv.dq : ∀ {v : V} {x : PyData}, Bv K d l b H v x → Dq K H v x
  | _, _, .non => .non
  | _, _, .bl x => .bl x
  | _, _, .int i hi => .int i
  | _, _, .str x => .str x
  | _, _, .tup e al n => .tup e (BvAll.dq al)
  | _, _, .lst np e h1 h2 al n => .lst np e (BvAll.dq al)
  | _, _, .dct e o h1 h2 => od_dq e o
theorem BvAll.dq : ∀ {vs : List V} {xs : List PyData}, BvAll K d l b H vs xs → DqAll K H vs xs
  | _, _, .nil => .nil
  | _, _, .cons p q => .cons (Bv.dq p) (BvAll.dq q)
end
theorem Bv.kd {v : V} {x : PyData} (h : Bv K d l b H v x) : Kd K H v := by
  cases h with
  | non => exact ⟨_, false, false, .base .non, kit_ty (by decide +kernel), kit_ty (by decide +kernel), rfl⟩
  | bl b => exact ⟨_, true, true, .base (.bl b), kit_ty (by decide +kernel), kit_ty (by decide +kernel), rfl⟩
  | int i => exact Kd.int _
  | str x => exact ⟨_, false, false, .base (.str _), kit_ty (by decide +kernel), kit_ty (by decide +kernel), rfl⟩
  | tup h a => exact ⟨_, false, false, ty_tup h, kit_ty (by decide +kernel), kit_ty (by decide +kernel), rfl⟩
  | lst np e => exact ⟨_, false, false, .base (.lst e), kit_ty (by decide +kernel), kit_ty (by decide +kernel), rfl⟩
  | dct e o =>
    cases o with
    | d0 => exact ⟨_, false, false, .base (.dK e), kit_ty (by decide +kernel), kit_ty (by decide +kernel), rfl⟩
    | d1 => exact ⟨_, false, false, .base (.dK e), kit_ty (by decide +kernel), kit_ty (by decide +kernel), rfl⟩
theorem BvAll.kd : ∀ {vs : List V} {xs : List PyData}, BvAll K d l b H vs xs → ∀ v ∈ vs, Kd K H v
  | _, _, .nil, v, hv => nomatch hv
  | _, _, .cons p q, v, hv => by
    rcases List.mem_cons.mp hv with rfl | hv
    · exact p.kd
    · exact BvAll.kd q v hv
/-- a tuple, or what isinstance says no of -/
theorem Bv.tq {v : V} {x : PyData} (h : Bv K d l b H v x) : (∃ a xs ds, v = .ref a ∧ x = .tuple ds ∧ SqT K H a xs ∧ BvAll K d l b H xs ds ∧ xs.length ≤ 20 + b) ∨ ∃ t, TyX K H v t ∧ PySem.W.kitOne K t (.type "tuple") = some false ∧ ∀ ds, x ≠ .tuple ds := by
  cases h with
  | non => exact .inr ⟨_, .base .non, kit_ty (by decide +kernel), fun _ z => nomatch z⟩
  | bl b => exact .inr ⟨_, .base (.bl b), kit_ty (by decide +kernel), fun _ z => nomatch z⟩
  | int i => exact .inr ⟨_, .base (.int _), kit_ty (by decide +kernel), fun _ z => nomatch z⟩
  | str x => exact .inr ⟨_, .base (.str _), kit_ty (by decide +kernel), fun _ z => nomatch z⟩
  | tup h a n => exact .inl ⟨_, _, _, rfl, rfl, h, a, n⟩
  | lst np e => exact .inr ⟨_, .base (.lst e), kit_ty (by decide +kernel), fun _ z => nomatch z⟩
  | dct e o =>
    cases o with
    | d0 => exact .inr ⟨_, .base (.dK e), kit_ty (by decide +kernel), fun _ z => nomatch z⟩
    | d1 => exact .inr ⟨_, .base (.dK e), kit_ty (by decide +kernel), fun _ z => nomatch z⟩
theorem BvAll.length : ∀ {vs : List V} {xs : List PyData}, BvAll K d l b H vs xs → vs.length = xs.length
  | _, _, .nil => rfl
  | _, _, .cons _ q => congrArg (· + 1) q.length
theorem BvAll.get : ∀ {vs : List V} {xs : List PyData} {i : Nat} {v : V}, BvAll K d l b H vs xs → vs[i]? = some v → ∃ x, xs[i]? = some x ∧ Bv K d l b H v x
  | _, _, _, _, .nil, h => by simp at h
  | _, _, 0, _, .cons p _, h => by cases h; exact ⟨_, rfl, p⟩
  | _, _, i + 1, _, .cons _ q, h => by
    obtain ⟨x, hx, k⟩ := BvAll.get (i := i) q (by simpa using h)
    exact ⟨x, by simpa using hx, k⟩
theorem BvAll.append : ∀ {vs us : List V} {xs ys : List PyData}, BvAll K d l b H vs xs → BvAll K d l b H us ys → BvAll K d l b H (vs ++ us) (xs ++ ys)
  | _, _, _, _, .nil, h => h
  | _, _, _, _, .cons p q, h => .cons p (BvAll.append q h)
theorem BvAll.take : ∀ (n : Nat) {vs : List V} {xs : List PyData}, BvAll K d l b H vs xs → BvAll K d l b H (vs.take n) (xs.take n)
  | 0, _, _, _ => .nil
  | _ + 1, _, _, .nil => .nil
  | n + 1, _, _, .cons p q => .cons p (BvAll.take n q)
theorem BvAll.drop : ∀ (n : Nat) {vs : List V} {xs : List PyData}, BvAll K d l b H vs xs → BvAll K d l b H (vs.drop n) (xs.drop n)
  | 0, _, _, h => h
  | _ + 1, _, _, .nil => .nil
  | n + 1, _, _, .cons p q => BvAll.drop n q
theorem BvAll.rev : ∀ {vs : List V} {xs : List PyData}, BvAll K d l b H vs xs → BvAll K d l b H vs.reverse xs.reverse
  | _, _, .nil => .nil
  | _, _, .cons p q => by
    rw [List.reverse_cons, List.reverse_cons]
    exact BvAll.append (BvAll.rev q) (.cons p .nil)
mutual
theorem Bv.ofDp : ∀ {v : V} {x : PyData}, Dp K H v x → ib x = true → Bv K d l 0 H v x
  | _, _, .non, _ => .non
  | _, _, .bl b, _ => .bl b
  | _, _, .int i, h => .int i (by
    simp only [ib] at h
    have := of_decide_eq_true h
    omega)
  | _, _, .str x, _ => .str x
  | _, _, .lst _ _, h => by simp [ib] at h
  | _, _, .tup e al, h => by
    simp only [ib, Bool.and_eq_true] at h
    have n := of_decide_eq_true h.1
    exact .tup e (BvAll.ofDp al h.2) (by rw [DpAll.length al]; omega)
theorem BvAll.ofDp : ∀ {vs : List V} {xs : List PyData}, DpAll K H vs xs → ibAll xs = true → BvAll K d l 0 H vs xs
  | _, _, .nil, _ => .nil
  | _, _, .cons p q, h => by
    simp only [ibAll, Bool.and_eq_true] at h
    exact .cons (Bv.ofDp p h.1) (BvAll.ofDp q h.2)
end
theorem bvInts : ∀ ns : List Int, (∀ n ∈ ns, n.natAbs ≤ 100) → BvAll K d l b H (ns.map V.int) (ns.map PyData.int)
  | [], _ => .nil
  | n :: ns, h => .cons (.int n (by have := h n List.mem_cons_self; omega)) (bvInts ns fun m hm => h m (List.mem_cons_of_mem _ hm))
end
/-- an odd value -/
def Ov (K : PySem.W.Frag) (d l : Addr) (H : Hp) (v : V) (x : PyData) : Prop := Bv K d l 0 H v x ∧ Sw x 300 3
section
variable {d l : Addr} {H H' : Hp} {v : V} {x : PyData}
theorem Ov.dat (h : Dp K H v x) (_ : only x = true) (sh : Sw x 300 3) (i : ib x = true := by decide +kernel) : Ov K d l H v x := ⟨.ofDp h i, sh⟩
theorem Ov.obj {a : Addr} {o : HO} (e : H a = some o) (h : Ob o x) (h1 : a ≠ d) (h2 : a ≠ l) (np : a ≠ sysModules) : Ov K d l H (.ref a) x := by
  cases h with
  | l ns hl hb =>
    refine ⟨.lst np e h1 h2 (bvInts ns hb) (by rw [List.length_map]; omega), ?_⟩
    exact (Sw.lst (n := 10) (k := 0) (m := 4) (fun z hz => by
      obtain ⟨i, hi, rfl⟩ := List.mem_map.mp hz
      have := hb i hi
      exact (Sm.int (by unfold sm; omega)).sw) (by rw [List.length_map]; exact hl)).le (by decide) (by decide)
theorem Ov.obd {a : Addr} {o : HO} (e : H a = some o) (h : Od o x) (h1 : a ≠ d) (h2 : a ≠ l) : Ov K d l H (.ref a) x :=
  ⟨.dct e h h1 h2, by cases h <;> exact ⟨by decide +kernel, by decide +kernel, by decide +kernel, by decide +kernel⟩⟩
theorem Ov.fm {n : Nat} (f : Fm d l H H') (D : Deck H d l n) (h : Ov K d l H v x) : Ov K d l H' v x := ⟨h.1.fm f D, h.2⟩
theorem Ov.same (s : Same H H') (h : Ov K d l H v x) : Ov K d l H' v x := ⟨h.1.same s, h.2⟩
end
/-! ### how large such data are -/
structure SwB (ds : List PyData) (n k : Nat) : Prop where
  all : ∀ d ∈ ds, d.showable = true ∧ d.depth ≤ k ∧ d.leavesShort 40 = true
  light : PyData.weightAll ds ≤ n
theorem wt_app : ∀ ds es : List PyData, PyData.weightAll (ds ++ es) = PyData.weightAll ds + PyData.weightAll es
  | [], es => by simp [PyData.weightAll]
  | d :: ds, es => by
    have := wt_app ds es
    simp only [List.cons_append, PyData.weightAll]
    omega
theorem wt_rev : ∀ ds : List PyData, PyData.weightAll ds.reverse = PyData.weightAll ds
  | [] => rfl
  | d :: ds => by
    have := wt_rev ds
    rw [List.reverse_cons, wt_app]
    simp only [PyData.weightAll]
    omega
theorem wt_cut (n : Nat) (ds : List PyData) : PyData.weightAll (ds.take n) + PyData.weightAll (ds.drop n) = PyData.weightAll ds := by
  rw [← wt_app, List.take_append_drop]
theorem SwB.of_all {n k : Nat} : ∀ {ds : List PyData}, SwB ds n k → PyData.showableAll ds = true ∧ PyData.depthAll ds ≤ k ∧ PyData.leavesShortAll 40 ds = true
  | [], _ => ⟨rfl, by simp [PyData.depthAll], rfl⟩
  | d :: ds, h => by
    obtain ⟨a, b, c⟩ := h.all d List.mem_cons_self
    obtain ⟨a2, b2, c2⟩ := SwB.of_all (n := PyData.weightAll ds) (k := k) (ds := ds) ⟨fun e he => h.all e (List.mem_cons_of_mem _ he), Nat.le_refl _⟩
    refine ⟨?_, ?_, ?_⟩
    · simp only [PyData.showableAll, a, a2, Bool.and_self]
    · simp only [PyData.depthAll]
      exact Nat.max_le.mpr ⟨b, b2⟩
    · simp only [PyData.leavesShortAll, c, c2, Bool.and_self]
theorem SwB.tup {ds : List PyData} {n k : Nat} (h : SwB ds n k) : Sw (.tuple ds) n (k + 1) := by
  obtain ⟨a, b, c⟩ := h.of_all
  refine ⟨?_, ?_, ?_, ?_⟩
  · simp only [PyData.showable]; exact a
  · simp only [PyData.depth]; omega
  · simp only [PyData.leavesShort]; exact c
  · simp only [PyData.weight]; exact h.light
theorem SwB.lst {ds : List PyData} {n k : Nat} (h : SwB ds n k) : Sw (.list ds) n (k + 1) := by
  obtain ⟨a, b, c⟩ := h.of_all
  refine ⟨?_, ?_, ?_, ?_⟩
  · simp only [PyData.showable]; exact a
  · simp only [PyData.depth]; omega
  · simp only [PyData.leavesShort]; exact c
  · simp only [PyData.weight]; exact h.light
theorem allB {k : Nat} : ∀ {ds : List PyData}, PyData.showableAll ds = true → PyData.depthAll ds ≤ k → PyData.leavesShortAll 40 ds = true → ∀ d ∈ ds, d.showable = true ∧ d.depth ≤ k ∧ d.leavesShort 40 = true
  | [], _, _, _, d, hd => nomatch hd
  | e :: ds, a, b, c, d, hd => by
    simp only [PyData.showableAll, Bool.and_eq_true] at a
    simp only [PyData.depthAll] at b
    simp only [PyData.leavesShortAll, Bool.and_eq_true] at c
    have b := Nat.max_le.mp b
    rcases List.mem_cons.mp hd with rfl | hd
    · exact ⟨a.1, b.1, c.1⟩
    · exact allB a.2 b.2 c.2 d hd
theorem Sw.parts {ds : List PyData} {n k : Nat} (h : Sw (.tuple ds) n k) : SwB ds n k := by
  obtain ⟨a, b, c, w⟩ := h
  simp only [PyData.showable] at a
  simp only [PyData.depth] at b
  simp only [PyData.leavesShort] at c
  simp only [PyData.weight] at w
  exact ⟨allB a (by omega) c, w⟩
theorem SwB.le {ds : List PyData} {n k m j : Nat} (h : SwB ds n k) (hn : n ≤ m) (hk : k ≤ j) : SwB ds m j := ⟨fun d hd => by
  obtain ⟨a, b, c⟩ := h.all d hd
  exact ⟨a, by omega, c⟩, Nat.le_trans h.light hn⟩
theorem SwB.app {ds es : List PyData} {n m k : Nat} (h : SwB ds n k) (g : SwB es m k) : SwB (ds ++ es) (n + m) k := ⟨fun d hd => by
  rcases List.mem_append.mp hd with hd | hd
  · exact h.all d hd
  · exact g.all d hd, by
  have := h.light
  have := g.light
  rw [wt_app]
  omega⟩
theorem SwB.cut {ds : List PyData} {n k : Nat} (i j : Nat) (h : SwB ds n k) : SwB ((ds.drop i).take j) n k := ⟨fun d hd => h.all d (List.mem_of_mem_drop (List.mem_of_mem_take hd)), by
  have := h.light
  have := wt_cut i ds
  have := wt_cut j (ds.drop i)
  omega⟩
theorem SwB.rev {ds : List PyData} {n k : Nat} (h : SwB ds n k) : SwB ds.reverse n k := ⟨fun d hd => h.all d (List.mem_reverse.mp hd), by rw [wt_rev]; exact h.light⟩
theorem SwB.one {d : PyData} {n k : Nat} (h : Sw d n k) : SwB [d] (n + 1) k := ⟨fun e he => by
  rw [List.mem_singleton.mp he]
  exact ⟨h.can, h.deep, h.short⟩, by
  have := h.light
  simp only [PyData.weightAll]
  omega⟩
theorem SwB.get {ds : List PyData} {n k i : Nat} {d : PyData} (h : SwB ds n k) (e : ds[i]? = some d) : Sw d n k := by
  obtain ⟨a, b, c⟩ := h.all d (List.mem_of_getElem? e)
  refine ⟨a, b, c, ?_⟩
  have := h.light
  have w := wt_cut i ds
  obtain ⟨hi, ez⟩ := List.getElem?_eq_some_iff.mp e
  rw [List.drop_eq_getElem_cons hi, ez] at w
  simp only [PyData.weightAll] at w
  omega
theorem sw_intB {i : Int} (h : i.natAbs ≤ 10 ^ 29 + 1000) : Sw (.int i) 200 0 := by
  have h2 : i.natAbs < 10 ^ 30 := Nat.lt_of_le_of_lt h (by decide)
  have e := PySem.int_text_length_le10 (k := 30) (by decide) h2
  have lg : i.natAbs.log2 < 110 := PySem.Flt.log2_lt_of (by decide) (Nat.lt_of_lt_of_le h2 (by decide))
  refine ⟨?_, by simp [PyData.depth], ?_, ?_⟩
  · simp only [PyData.showable]
    exact decide_eq_true (by omega)
  · simp only [PyData.leavesShort]
    refine decide_eq_true ?_
    show (Str.ofString (toString i)).length ≤ 40
    rw [PySem.ofString_length]
    exact Nat.le_trans e (by decide)
  · simp only [PyData.weight]
    split <;> omega
theorem Same.put {H H' : Hp} {a : Addr} {o : HO} (s : Same H H') (n : H a = none) : Same H (upd H' a o) := fun b u e => by
  rw [upd_ne (ne_of_none e n)]
  exact s b u e
theorem Same.none {H H' : Hp} {a : Addr} (s : Same H H') (n : H' a = none) : H a = none := by
  cases e : H a with
  | none => rfl
  | some o => rw [s _ _ e] at n; cases n
def spLOdd (K : PySem.W.Frag) : Sp := fun vs H Q _ => ∃ (d l : Addr) (n : Nat), vs = [.ref d] ∧ Deck H d l n ∧ n < 900000 ∧
  ∀ H' v x, Fm d l H H' → Deck H' d l (n + 1) → Ov K d l H' v x → (∀ a, v = .ref a → H a = none) → Q v H'
theorem ok_LOdd {f : Addr} {fd : FuncData} (F : Fun K "_law_odd" "_law_odd" sLOdd f fd) (oLDraw : Own P w K mg base "_law_draw" 1 ["_law_deck_here", "_law_bound"] spLDraw) :
    FnOk P w K mg base CX0 2 f fd ["_law_deck_here"] (spLOdd K) := by
  refine F.ok scLOdd (fun vs H Q E h => ?_) (fun cdv A outer s H vs Q E hr h => ?_)
  · obtain ⟨d, l, n, rfl, _⟩ := h
    rfl
  · obtain ⟨d, l, n, rfl, hD, hn, q⟩ := h
    refine ⟨_, (pss_cons (ps_set (i := 1) scLOdd.nd rfl (.inl rfl) (pe_lst (pa_cons pe_non (pa_cons pe_bl (pa_cons pe_bl (pa_cons pe_int (pa_cons pe_int (pa_cons (pe_un un_neg pe_int) (pa_cons (pe_op op_pow pe_int pe_int) (pa_cons pe_str (pa_cons pe_str (pa_cons pe_str (pa_cons (pe_tup pa_nil) (pa_cons (pe_lstS pa_nil) (pa_cons pe_dnewK (pa_cons (pe_tup (pa_cons pe_int pa_nil)) (pa_cons (pe_lstS (pa_cons pe_int pa_nil)) (pa_cons (pe_tup (pa_cons pe_int (pa_cons pe_int pa_nil))) (pa_cons (pe_tup (pa_cons pe_int (pa_cons pe_int pa_nil))) pa_nil)))))))))))))))))))
    (pss_cons (ps_set (i := 1) scLOdd.nd rfl (.inl rfl) (pe_op op_cat (pv 1) (pe_lst (pa_cons (pe_tup (pa_cons pe_str (pa_cons (pe_tup pa_nil) pa_nil))) (pa_cons (pe_tup (pa_cons pe_str (pa_cons (pe_tup pa_nil) pa_nil))) (pa_cons (pe_tup (pa_cons pe_str pa_nil)) (pa_cons (pe_tup (pa_cons pe_str (pa_cons (pe_tup (pa_cons (pe_tup (pa_cons pe_int (pa_cons pe_int pa_nil))) pa_nil)) pa_nil))) (pa_cons (pe_tup (pa_cons (pe_tup (pa_cons pe_int (pa_cons pe_int pa_nil))) pa_nil)) (pa_cons (pe_tup (pa_cons pe_bl pa_nil)) (pa_cons (pe_disp (pps_cons pe_str pe_int pps_nil) (by rfl) (by rfl) (fun z => by cases z) (by decide)) pa_nil))))))))))
    (pss_one (ps_ret (pe_ix (ixLK K) (pv 1) (pe_own oLDraw (hr.mono (by decide)) (by rfl) (pa_cons (pv 0) (pa_cons pe_int pa_nil))) (fun _ _ => rfl)))))), ?_⟩
    refine ⟨_, rfl, ?_⟩
    refine ⟨10, 29, rfl, rfl, ⟨by decide, by decide, by decide⟩, ?_⟩
    refine ⟨Nat.zero_le _, fun a1 n1 => ?_⟩
    have s1 := same_upd (o := .tup []) n1
    have e1 := same_at (o := .tup []) n1
    have o1 := hD.off n1
    have D1 := hD.same s1
    generalize upd H a1 (.tup []) = J1 at s1 e1 D1 ⊢
    refine ⟨Nat.zero_le _, fun a2 n2 p2 => ?_⟩
    have s2 := same_upd (o := .lst []) n2
    have e2 := same_at (o := .lst []) n2
    have o2 := D1.off n2
    have D2 := D1.same s2
    generalize upd J1 a2 (.lst []) = J2 at s2 e2 D2 ⊢
    intro a3 n3
    have s3 := same_upd (o := .dK []) n3
    have e3 := same_at (o := .dK []) n3
    have o3 := D2.off n3
    have D3 := D2.same s3
    generalize upd J2 a3 (.dK []) = J3 at s3 e3 D3 ⊢
    refine ⟨by show 1 ≤ sizeLine; decide, fun a4 n4 => ?_⟩
    have s4 := same_upd (o := .tup [V.int 0]) n4
    have e4 := same_at (o := .tup [V.int 0]) n4
    have o4 := D3.off n4
    have D4 := D3.same s4
    generalize upd J3 a4 (.tup [V.int 0]) = J4 at s4 e4 D4 ⊢
    refine ⟨by show 1 ≤ sizeLine; decide, fun a5 n5 p5 => ?_⟩
    have s5 := same_upd (o := .lst [V.int 0]) n5
    have e5 := same_at (o := .lst [V.int 0]) n5
    have o5 := D4.off n5
    have D5 := D4.same s5
    generalize upd J4 a5 (.lst [V.int 0]) = J5 at s5 e5 D5 ⊢
    refine ⟨by show 2 ≤ sizeLine; decide, fun a6 n6 => ?_⟩
    have s6 := same_upd (o := .tup [V.int 0, V.int 0]) n6
    have e6 := same_at (o := .tup [V.int 0, V.int 0]) n6
    have o6 := D5.off n6
    have D6 := D5.same s6
    generalize upd J5 a6 (.tup [V.int 0, V.int 0]) = J6 at s6 e6 D6 ⊢
    refine ⟨by show 2 ≤ sizeLine; decide, fun a7 n7 => ?_⟩
    have s7 := same_upd (o := .tup [V.int 1, V.int 0]) n7
    have e7 := same_at (o := .tup [V.int 1, V.int 0]) n7
    have o7 := D6.off n7
    have D7 := D6.same s7
    generalize upd J6 a7 (.tup [V.int 1, V.int 0]) = J7 at s7 e7 D7 ⊢
    refine ⟨by show 17 ≤ sizeLine; decide, fun a8 n8 => ?_⟩
    have s8 := same_upd (o := .lst [V.non, V.bl true, V.bl false, V.int 0, V.int 1, V.int (-1), V.int ((10 : Int) ^ (29 : Int).toNat), V.str "", V.str "rigid", V.str "moves", V.ref a1, V.ref a2, V.ref a3, V.ref a4, V.ref a5, V.ref a6, V.ref a7]) n8
    have e8 := same_at (o := .lst [V.non, V.bl true, V.bl false, V.int 0, V.int 1, V.int (-1), V.int ((10 : Int) ^ (29 : Int).toNat), V.str "", V.str "rigid", V.str "moves", V.ref a1, V.ref a2, V.ref a3, V.ref a4, V.ref a5, V.ref a6, V.ref a7]) n8
    have o8 := D7.off n8
    have D8 := D7.same s8
    generalize upd J7 a8 (.lst [V.non, V.bl true, V.bl false, V.int 0, V.int 1, V.int (-1), V.int ((10 : Int) ^ (29 : Int).toNat), V.str "", V.str "rigid", V.str "moves", V.ref a1, V.ref a2, V.ref a3, V.ref a4, V.ref a5, V.ref a6, V.ref a7]) = J8 at s8 e8 D8 ⊢
    refine ⟨.ref a8, rfl, ?_⟩
    refine ⟨Nat.zero_le _, fun a9 n9 => ?_⟩
    have s9 := same_upd (o := .tup []) n9
    have e9 := same_at (o := .tup []) n9
    have o9 := D8.off n9
    have D9 := D8.same s9
    generalize upd J8 a9 (.tup []) = J9 at s9 e9 D9 ⊢
    refine ⟨by show 2 ≤ sizeLine; decide, fun a10 n10 => ?_⟩
    have s10 := same_upd (o := .tup [V.str "rigid", V.ref a9]) n10
    have e10 := same_at (o := .tup [V.str "rigid", V.ref a9]) n10
    have o10 := D9.off n10
    have D10 := D9.same s10
    generalize upd J9 a10 (.tup [V.str "rigid", V.ref a9]) = J10 at s10 e10 D10 ⊢
    refine ⟨Nat.zero_le _, fun a11 n11 => ?_⟩
    have s11 := same_upd (o := .tup []) n11
    have e11 := same_at (o := .tup []) n11
    have o11 := D10.off n11
    have D11 := D10.same s11
    generalize upd J10 a11 (.tup []) = J11 at s11 e11 D11 ⊢
    refine ⟨by show 2 ≤ sizeLine; decide, fun a12 n12 => ?_⟩
    have s12 := same_upd (o := .tup [V.str "moves", V.ref a11]) n12
    have e12 := same_at (o := .tup [V.str "moves", V.ref a11]) n12
    have o12 := D11.off n12
    have D12 := D11.same s12
    generalize upd J11 a12 (.tup [V.str "moves", V.ref a11]) = J12 at s12 e12 D12 ⊢
    refine ⟨by show 1 ≤ sizeLine; decide, fun a13 n13 => ?_⟩
    have s13 := same_upd (o := .tup [V.str "rigid"]) n13
    have e13 := same_at (o := .tup [V.str "rigid"]) n13
    have o13 := D12.off n13
    have D13 := D12.same s13
    generalize upd J12 a13 (.tup [V.str "rigid"]) = J13 at s13 e13 D13 ⊢
    refine ⟨by show 2 ≤ sizeLine; decide, fun a14 n14 => ?_⟩
    have s14 := same_upd (o := .tup [V.int 0, V.int 1]) n14
    have e14 := same_at (o := .tup [V.int 0, V.int 1]) n14
    have o14 := D13.off n14
    have D14 := D13.same s14
    generalize upd J13 a14 (.tup [V.int 0, V.int 1]) = J14 at s14 e14 D14 ⊢
    refine ⟨by show 1 ≤ sizeLine; decide, fun a15 n15 => ?_⟩
    have s15 := same_upd (o := .tup [V.ref a14]) n15
    have e15 := same_at (o := .tup [V.ref a14]) n15
    have o15 := D14.off n15
    have D15 := D14.same s15
    generalize upd J14 a15 (.tup [V.ref a14]) = J15 at s15 e15 D15 ⊢
    refine ⟨by show 2 ≤ sizeLine; decide, fun a16 n16 => ?_⟩
    have s16 := same_upd (o := .tup [V.str "moves", V.ref a15]) n16
    have e16 := same_at (o := .tup [V.str "moves", V.ref a15]) n16
    have o16 := D15.off n16
    have D16 := D15.same s16
    generalize upd J15 a16 (.tup [V.str "moves", V.ref a15]) = J16 at s16 e16 D16 ⊢
    refine ⟨by show 2 ≤ sizeLine; decide, fun a17 n17 => ?_⟩
    have s17 := same_upd (o := .tup [V.int 0, V.int 1]) n17
    have e17 := same_at (o := .tup [V.int 0, V.int 1]) n17
    have o17 := D16.off n17
    have D17 := D16.same s17
    generalize upd J16 a17 (.tup [V.int 0, V.int 1]) = J17 at s17 e17 D17 ⊢
    refine ⟨by show 1 ≤ sizeLine; decide, fun a18 n18 => ?_⟩
    have s18 := same_upd (o := .tup [V.ref a17]) n18
    have e18 := same_at (o := .tup [V.ref a17]) n18
    have o18 := D17.off n18
    have D18 := D17.same s18
    generalize upd J17 a18 (.tup [V.ref a17]) = J18 at s18 e18 D18 ⊢
    refine ⟨by show 1 ≤ sizeLine; decide, fun a19 n19 => ?_⟩
    have s19 := same_upd (o := .tup [V.bl true]) n19
    have e19 := same_at (o := .tup [V.bl true]) n19
    have o19 := D18.off n19
    have D19 := D18.same s19
    generalize upd J18 a19 (.tup [V.bl true]) = J19 at s19 e19 D19 ⊢
    intro a20 n20
    have s20 : Same J19 (upd (upd J19 a20 (.dK [])) a20 (.dK [(.inr "a", V.int 0)])) := Same.put (same_upd n20) n20
    refine ⟨upd_same, [(.inr "a", V.int 0)], rfl, by show 1 ≤ 15; decide, ?_⟩
    show tNil _ (upd (upd J19 a20 (.dK [])) a20 (.dK [(.inr "a", V.int 0)])) _
    have e20 : upd (upd J19 a20 (.dK [])) a20 (.dK [(.inr "a", V.int 0)]) a20 = some (.dK [(.inr "a", V.int 0)]) := upd_same
    have o20 := D19.off n20
    have D20 := D19.same s20
    generalize upd (upd J19 a20 (.dK [])) a20 (.dK [(.inr "a", V.int 0)]) = J20 at s20 e20 D20 ⊢
    refine ⟨by show 7 ≤ sizeLine; decide, fun a21 n21 => ?_⟩
    have s21 := same_upd (o := .lst [V.ref a10, V.ref a12, V.ref a13, V.ref a16, V.ref a18, V.ref a19, V.ref a20]) n21
    have e21 := same_at (o := .lst [V.ref a10, V.ref a12, V.ref a13, V.ref a16, V.ref a18, V.ref a19, V.ref a20]) n21
    have o21 := D20.off n21
    have D21 := D20.same s21
    generalize upd J20 a21 (.lst [V.ref a10, V.ref a12, V.ref a13, V.ref a16, V.ref a18, V.ref a19, V.ref a20]) = J21 at s21 e21 D21 ⊢
    refine ⟨a8, a21, _, _, rfl, rfl, (((((((((((((s9.trans s10).trans s11).trans s12).trans s13).trans s14).trans s15).trans s16).trans s17).trans s18).trans s19).trans s20).trans s21) _ _ e8), e21, by show 17 + 7 ≤ sizeLine; decide, fun L nL => ?_⟩
    have sL := same_upd (o := .lst ([V.non, V.bl true, V.bl false, V.int 0, V.int 1, V.int (-1), V.int ((10 : Int) ^ (29 : Int).toNat), V.str "", V.str "rigid", V.str "moves", V.ref a1, V.ref a2, V.ref a3, V.ref a4, V.ref a5, V.ref a6, V.ref a7] ++ [V.ref a10, V.ref a12, V.ref a13, V.ref a16, V.ref a18, V.ref a19, V.ref a20])) nL
    have eL := same_at (o := .lst ([V.non, V.bl true, V.bl false, V.int 0, V.int 1, V.int (-1), V.int ((10 : Int) ^ (29 : Int).toNat), V.str "", V.str "rigid", V.str "moves", V.ref a1, V.ref a2, V.ref a3, V.ref a4, V.ref a5, V.ref a6, V.ref a7] ++ [V.ref a10, V.ref a12, V.ref a13, V.ref a16, V.ref a18, V.ref a19, V.ref a20])) nL
    have oL := D21.off nL
    have all : ∀ v ∈ ([V.non, V.bl true, V.bl false, V.int 0, V.int 1, V.int (-1), V.int ((10 : Int) ^ (29 : Int).toNat), V.str "", V.str "rigid", V.str "moves", V.ref a1, V.ref a2, V.ref a3, V.ref a4, V.ref a5, V.ref a6, V.ref a7] ++ [V.ref a10, V.ref a12, V.ref a13, V.ref a16, V.ref a18, V.ref a19, V.ref a20]), ∃ x, Ov K d l J21 v x ∧ ∀ a, v = .ref a → H a = none := by
      intro v hv
      rcases List.mem_append.mp hv with hv | hv
      · rcases List.mem_cons.mp hv with rfl | hv
        · exact ⟨_, .dat .non (by decide) (Sm.none.sw.le (by decide) (by decide)), (fun a z => nomatch z)⟩
        rcases List.mem_cons.mp hv with rfl | hv
        · exact ⟨_, .dat (.bl _) (by decide) ((Sm.bool _).sw.le (by decide) (by decide)), (fun a z => nomatch z)⟩
        rcases List.mem_cons.mp hv with rfl | hv
        · exact ⟨_, .dat (.bl _) (by decide) ((Sm.bool _).sw.le (by decide) (by decide)), (fun a z => nomatch z)⟩
        rcases List.mem_cons.mp hv with rfl | hv
        · exact ⟨_, .dat (.int _) (by decide) ((sw_big (by decide)).le (by decide) (by decide)), (fun a z => nomatch z)⟩
        rcases List.mem_cons.mp hv with rfl | hv
        · exact ⟨_, .dat (.int _) (by decide) ((sw_big (by decide)).le (by decide) (by decide)), (fun a z => nomatch z)⟩
        rcases List.mem_cons.mp hv with rfl | hv
        · exact ⟨_, .dat (.int _) (by decide) ((sw_big (by decide)).le (by decide) (by decide)), (fun a z => nomatch z)⟩
        rcases List.mem_cons.mp hv with rfl | hv
        · exact ⟨_, .dat (.int _) (by simp [only]) ((sw_big (by decide +kernel)).le (by decide) (by decide)), (fun a z => nomatch z)⟩
        rcases List.mem_cons.mp hv with rfl | hv
        · exact ⟨_, .dat (.str _) (by decide) ⟨by decide +kernel, by decide +kernel, by decide +kernel, by decide +kernel⟩, (fun a z => nomatch z)⟩
        rcases List.mem_cons.mp hv with rfl | hv
        · exact ⟨_, .dat (.str _) (by decide) ⟨by decide +kernel, by decide +kernel, by decide +kernel, by decide +kernel⟩, (fun a z => nomatch z)⟩
        rcases List.mem_cons.mp hv with rfl | hv
        · exact ⟨_, .dat (.str _) (by decide) ⟨by decide +kernel, by decide +kernel, by decide +kernel, by decide +kernel⟩, (fun a z => nomatch z)⟩
        rcases List.mem_cons.mp hv with rfl | hv
        · exact ⟨_, .dat (.tup (SqT.of ((((((((((((((((((((s2.trans s3).trans s4).trans s5).trans s6).trans s7).trans s8).trans s9).trans s10).trans s11).trans s12).trans s13).trans s14).trans s15).trans s16).trans s17).trans s18).trans s19).trans s20).trans s21) _ _ e1)) .nil) (by decide) ⟨by decide +kernel, by decide +kernel, by decide +kernel, by decide +kernel⟩, fun a z => by cases z; exact n1⟩
        rcases List.mem_cons.mp hv with rfl | hv
        · exact ⟨_, .obj (((((((((((((((((((s3.trans s4).trans s5).trans s6).trans s7).trans s8).trans s9).trans s10).trans s11).trans s12).trans s13).trans s14).trans s15).trans s16).trans s17).trans s18).trans s19).trans s20).trans s21) _ _ e2) (.l [] (by decide) (by decide)) o2.1 o2.2 p2, fun a z => by cases z; exact Same.none s1 n2⟩
        rcases List.mem_cons.mp hv with rfl | hv
        · exact ⟨_, .obd ((((((((((((((((((s4.trans s5).trans s6).trans s7).trans s8).trans s9).trans s10).trans s11).trans s12).trans s13).trans s14).trans s15).trans s16).trans s17).trans s18).trans s19).trans s20).trans s21) _ _ e3) .d0 o3.1 o3.2, fun a z => by cases z; exact Same.none (s1.trans s2) n3⟩
        rcases List.mem_cons.mp hv with rfl | hv
        · exact ⟨_, .dat (.tup (SqT.of (((((((((((((((((s5.trans s6).trans s7).trans s8).trans s9).trans s10).trans s11).trans s12).trans s13).trans s14).trans s15).trans s16).trans s17).trans s18).trans s19).trans s20).trans s21) _ _ e4)) (.cons (.int _) .nil)) (by decide) ⟨by decide +kernel, by decide +kernel, by decide +kernel, by decide +kernel⟩, fun a z => by cases z; exact Same.none ((s1.trans s2).trans s3) n4⟩
        rcases List.mem_cons.mp hv with rfl | hv
        · exact ⟨_, .obj ((((((((((((((((s6.trans s7).trans s8).trans s9).trans s10).trans s11).trans s12).trans s13).trans s14).trans s15).trans s16).trans s17).trans s18).trans s19).trans s20).trans s21) _ _ e5) (.l [0] (by decide) (by decide)) o5.1 o5.2 p5, fun a z => by cases z; exact Same.none (((s1.trans s2).trans s3).trans s4) n5⟩
        rcases List.mem_cons.mp hv with rfl | hv
        · exact ⟨_, .dat (.tup (SqT.of (((((((((((((((s7.trans s8).trans s9).trans s10).trans s11).trans s12).trans s13).trans s14).trans s15).trans s16).trans s17).trans s18).trans s19).trans s20).trans s21) _ _ e6)) (.cons (.int _) (.cons (.int _) .nil))) (by decide) ⟨by decide +kernel, by decide +kernel, by decide +kernel, by decide +kernel⟩, fun a z => by cases z; exact Same.none ((((s1.trans s2).trans s3).trans s4).trans s5) n6⟩
        · rw [List.mem_singleton.mp hv]
          exact ⟨_, .dat (.tup (SqT.of ((((((((((((((s8.trans s9).trans s10).trans s11).trans s12).trans s13).trans s14).trans s15).trans s16).trans s17).trans s18).trans s19).trans s20).trans s21) _ _ e7)) (.cons (.int _) (.cons (.int _) .nil))) (by decide) ⟨by decide +kernel, by decide +kernel, by decide +kernel, by decide +kernel⟩, fun a z => by cases z; exact Same.none (((((s1.trans s2).trans s3).trans s4).trans s5).trans s6) n7⟩
      · rcases List.mem_cons.mp hv with rfl | hv
        · exact ⟨_, .dat (.tup (SqT.of (((((((((((s11.trans s12).trans s13).trans s14).trans s15).trans s16).trans s17).trans s18).trans s19).trans s20).trans s21) _ _ e10)) (.cons (.str _) (.cons (.tup (SqT.of ((((((((((((s10.trans s11).trans s12).trans s13).trans s14).trans s15).trans s16).trans s17).trans s18).trans s19).trans s20).trans s21) _ _ e9)) .nil) .nil))) (by decide) ⟨by decide +kernel, by decide +kernel, by decide +kernel, by decide +kernel⟩, fun a z => by cases z; exact Same.none ((((((((s1.trans s2).trans s3).trans s4).trans s5).trans s6).trans s7).trans s8).trans s9) n10⟩
        rcases List.mem_cons.mp hv with rfl | hv
        · exact ⟨_, .dat (.tup (SqT.of (((((((((s13.trans s14).trans s15).trans s16).trans s17).trans s18).trans s19).trans s20).trans s21) _ _ e12)) (.cons (.str _) (.cons (.tup (SqT.of ((((((((((s12.trans s13).trans s14).trans s15).trans s16).trans s17).trans s18).trans s19).trans s20).trans s21) _ _ e11)) .nil) .nil))) (by decide) ⟨by decide +kernel, by decide +kernel, by decide +kernel, by decide +kernel⟩, fun a z => by cases z; exact Same.none ((((((((((s1.trans s2).trans s3).trans s4).trans s5).trans s6).trans s7).trans s8).trans s9).trans s10).trans s11) n12⟩
        rcases List.mem_cons.mp hv with rfl | hv
        · exact ⟨_, .dat (.tup (SqT.of ((((((((s14.trans s15).trans s16).trans s17).trans s18).trans s19).trans s20).trans s21) _ _ e13)) (.cons (.str _) .nil)) (by decide) ⟨by decide +kernel, by decide +kernel, by decide +kernel, by decide +kernel⟩, fun a z => by cases z; exact Same.none (((((((((((s1.trans s2).trans s3).trans s4).trans s5).trans s6).trans s7).trans s8).trans s9).trans s10).trans s11).trans s12) n13⟩
        rcases List.mem_cons.mp hv with rfl | hv
        · exact ⟨_, .dat (.tup (SqT.of (((((s17.trans s18).trans s19).trans s20).trans s21) _ _ e16)) (.cons (.str _) (.cons (.tup (SqT.of ((((((s16.trans s17).trans s18).trans s19).trans s20).trans s21) _ _ e15)) (.cons (.tup (SqT.of (((((((s15.trans s16).trans s17).trans s18).trans s19).trans s20).trans s21) _ _ e14)) (.cons (.int _) (.cons (.int _) .nil))) .nil)) .nil))) (by decide) ⟨by decide +kernel, by decide +kernel, by decide +kernel, by decide +kernel⟩, fun a z => by cases z; exact Same.none ((((((((((((((s1.trans s2).trans s3).trans s4).trans s5).trans s6).trans s7).trans s8).trans s9).trans s10).trans s11).trans s12).trans s13).trans s14).trans s15) n16⟩
        rcases List.mem_cons.mp hv with rfl | hv
        · exact ⟨_, .dat (.tup (SqT.of (((s19.trans s20).trans s21) _ _ e18)) (.cons (.tup (SqT.of ((((s18.trans s19).trans s20).trans s21) _ _ e17)) (.cons (.int _) (.cons (.int _) .nil))) .nil)) (by decide) ⟨by decide +kernel, by decide +kernel, by decide +kernel, by decide +kernel⟩, fun a z => by cases z; exact Same.none ((((((((((((((((s1.trans s2).trans s3).trans s4).trans s5).trans s6).trans s7).trans s8).trans s9).trans s10).trans s11).trans s12).trans s13).trans s14).trans s15).trans s16).trans s17) n18⟩
        rcases List.mem_cons.mp hv with rfl | hv
        · exact ⟨_, .dat (.tup (SqT.of ((s20.trans s21) _ _ e19)) (.cons (.bl _) .nil)) (by decide) ⟨by decide +kernel, by decide +kernel, by decide +kernel, by decide +kernel⟩, fun a z => by cases z; exact Same.none (((((((((((((((((s1.trans s2).trans s3).trans s4).trans s5).trans s6).trans s7).trans s8).trans s9).trans s10).trans s11).trans s12).trans s13).trans s14).trans s15).trans s16).trans s17).trans s18) n19⟩
        · rw [List.mem_singleton.mp hv]
          exact ⟨_, .obd (s21 _ _ e20) .d1 o20.1 o20.2, fun a z => by cases z; exact Same.none ((((((((((((((((((s1.trans s2).trans s3).trans s4).trans s5).trans s6).trans s7).trans s8).trans s9).trans s10).trans s11).trans s12).trans s13).trans s14).trans s15).trans s16).trans s17).trans s18).trans s19) n20⟩
    have sH : Same H J21 := ((((((((((((((((((((s1.trans s2).trans s3).trans s4).trans s5).trans s6).trans s7).trans s8).trans s9).trans s10).trans s11).trans s12).trans s13).trans s14).trans s15).trans s16).trans s17).trans s18).trans s19).trans s20).trans s21)
    have lL : ([V.non, V.bl true, V.bl false, V.int 0, V.int 1, V.int (-1), V.int ((10 : Int) ^ (29 : Int).toNat), V.str "", V.str "rigid", V.str "moves", V.ref a1, V.ref a2, V.ref a3, V.ref a4, V.ref a5, V.ref a6, V.ref a7] ++ [V.ref a10, V.ref a12, V.ref a13, V.ref a16, V.ref a18, V.ref a19, V.ref a20]).length = 24 := rfl
    have D22 := D21.same sL
    generalize [V.non, V.bl true, V.bl false, V.int 0, V.int 1, V.int (-1), V.int ((10 : Int) ^ (29 : Int).toNat), V.str "", V.str "rigid", V.str "moves", V.ref a1, V.ref a2, V.ref a3, V.ref a4, V.ref a5, V.ref a6, V.ref a7] ++ [V.ref a10, V.ref a12, V.ref a13, V.ref a16, V.ref a18, V.ref a19, V.ref a20] = xs at sL eL all lL D22 ⊢
    generalize upd J21 L (.lst xs) = J22 at sL eL D22 ⊢
    refine ⟨.ref L, rfl, .ref d, rfl, d, l, n, 24, rfl, by decide, by decide, D22, by omega, fun H8 x x0 x1 f8 D8 => ?_⟩
    have hx : x.toNat < xs.length := by omega
    obtain ⟨y, oy, fr⟩ := all _ (List.getElem_mem hx)
    exact ⟨L, xs, x, xs[x.toNat], rfl, rfl, SqL.of (f8 _ _ oL.1 oL.2 eL), at_of (j := x.toNat) (by omega) (List.getElem?_eq_getElem hx), q _ _ y ((Same.fm (sH.trans sL)).trans f8) D8 ((oy.same sL).fm f8 D22) fr⟩
end
end TL
namespace TL
open PySem PySem.Spec PyProof.Rows L2
section
variable {P : Program} {w : World} {K : PySem.W.Frag} {mg : Str → Option Value} {base : Heap}
/-! ### a value with one part replaced -/
theorem catV {H : Hp} {a b : Addr} {xs ys : List V} {Q : VK} (hx : SqT K H a xs) (hy : SqT K H b ys) (hl : xs.length + ys.length ≤ 900) (q : ∀ H' z, Same H H' → SqT K H' z (xs ++ ys) → Q (.ref z) H') : rCatA K (.ref a) (.ref b) H Q := by
  refine ⟨a, b, xs, ys, rfl, rfl, hx, hy, Nat.le_of_lt (small1000 (by omega)), fun e => ?_, fun _ e => ?_, fun _ _ p np => ?_⟩
  · subst e
    exact q H b (Same.refl H) hy
  · subst e
    rw [List.append_nil] at q
    exact q H a (Same.refl H) hx
  · exact q _ p (same_upd np) (SqT.of upd_same)
theorem slV {H : Hp} {a : Addr} {xs : List V} {lo hi : Option Int} {Q : VK} (hx : SqT K H a xs) (q : ∀ H' z i j, i = HT.sIx xs.length 0 lo → j = HT.sIx xs.length xs.length hi - HT.sIx xs.length 0 lo → Same H H' → SqT K H' z ((xs.drop i).take j) → Q (.ref z) H') : rSlA K (.ref a) lo hi H Q := by
  refine ⟨a, _, rfl, hx, fun e => q _ a _ _ rfl rfl (Same.refl _) ?_, fun _ p np => ?_⟩
  · rw [e.1, e.2, List.drop_zero, Nat.sub_zero, List.take_length]
    exact hx
  · exact q _ p _ _ rfl rfl (same_upd np) (SqT.of upd_same)
theorem six_nn (n d : Nat) {i : Int} (h : 0 ≤ i) : HT.sIx n d (some i) = min i.toNat n := by
  show (if i < 0 then _ else min i.toNat n) = _
  rw [if_neg (by omega)]
def spLRep (K : PySem.W.Frag) (c : Nat) (g : Nat → Nat) : Sp := fun vs H Q _ => ∃ (d l : Addr) (n b N k : Nat) (v : V) (x : PyData), vs = [.ref d, v, .int (c : Int)] ∧ Deck H d l n ∧ n + 4 * c < 800000 ∧ b ≤ 40 ∧ Bv K d l b H v x ∧ Sw x N k ∧
  ∀ H' v' x', Fm d l H H' → Deck H' d l (n + 4 * c + 4) → Bv K d l (b + 1) H' v' x' → Sw x' (g N) (k + 4 + c) → Q v' H'
def spNo : Sp := fun _ _ _ _ => False
theorem ok_LReplacedNo {f : Addr} {fd : FuncData} (F : Fun K "_law_replaced" "_law_replaced" sLReplaced f fd) : FnOk P w K mg base CX0 2 f fd ["_law_deck_here", "_law_value", "_law_depth"] spNo :=
  F.ok scLReplaced (fun _ _ _ _ h => h.elim) (fun _ _ _ _ _ _ _ _ _ h => h.elim)
theorem ok_LReplaced {f : Addr} {fd : FuncData} {j c : Nat} {sp : Sp} {g : Nat → Nat} (F : Fun K "_law_replaced" "_law_replaced" sLReplaced f fd) (m_isinstance : mg "isinstance" = none) (m_tuple : mg "tuple" = none) (m_len : mg "len" = none) (m_list : mg "list" = none) (m_int : mg "int" = none) (m_bool : mg "bool" = none)
    (oLDraw : Own P w K mg base "_law_draw" 1 ["_law_deck_here", "_law_bound"] spLDraw) (oLOdd : Own P w K mg base "_law_odd" 2 ["_law_deck_here"] (spLOdd K))
    (oLReplaced : Own P w K mg base "_law_replaced" (j + 2) ["_law_deck_here", "_law_value", "_law_depth"] sp)
    (hs : ∀ c', c = c' + 1 → ∀ vs H Q E, spLRep K c' g vs H Q E → sp vs H Q E) (hg : ∀ N, 2 * N + 400 ≤ g N) :
    FnOk P w K mg base CX0 (j + 3) f fd ["_law_deck_here", "_law_value", "_law_depth"] (spLRep K c fun N => 2 * N + g N + 1) := by
  refine F.ok scLReplaced (fun vs H Q E h => ?_) (fun cdv A outer s H vs Q E hr h => ?_)
  · obtain ⟨d, l, n, b, N, k, v, x, rfl, _⟩ := h
    rfl
  · obtain ⟨d, l, n, b, N, k, v, x, rfl, hD, hn, hb, bv, sx, q⟩ := h
    refine ⟨_, (pss_cons (ps_if (PW.pt (pw_and (pt_val (pe_callB (isiK K) (by rfl) m_isinstance (by decide +kernel) (pa_cons (pv 1) (pa_cons (pe_bltn (v := .ty "tuple") (by rfl) m_tuple (by decide +kernel) rfl) pa_nil)))) (pw_and (pt_cmpR op_gt (pe_callB (lenK K) (by rfl) m_len (by decide +kernel) (pa_cons (pv 1) pa_nil)) pe_int (nomark _)) (pw_and (pt_cmpR op_gt (pv 2) pe_int (nomark _)) (pw_and1 (pt_cmpR op_gt (pe_own oLDraw (hr.mono (by omega)) (by rfl) (pa_cons (pv 0) (pa_cons pe_int pa_nil))) pe_int (nomark _))))))) (pss_cons (ps_set (i := 3) scLReplaced.nd rfl (.inl rfl) (pe_own oLDraw (hr.mono (by omega)) (by rfl) (pa_cons (pv 0) (pa_cons (pe_callB (lenK K) (by rfl) m_len (by decide +kernel) (pa_cons (pv 1) pa_nil)) pa_nil))))
    (pss_cons (ps_set (i := 4) scLReplaced.nd rfl (.inl rfl) (pe_own oLReplaced hr (by rfl) (pa_cons (pv 0) (pa_cons (pe_ix (ixTK K) (pv 1) (pv 3) (fun _ _ => rfl)) (pa_cons (pe_op op_sub (pv 2) pe_int) pa_nil)))))
    (pss_one (ps_ret (pe_op (catAK K) (pe_op (catAK K) (pe_slice (slTK K) (pv 1) po_none (po_some (pv 3))) (pe_tup (pa_cons (pv 4) pa_nil))) (pe_slice (slTK K) (pv 1) (po_some (pe_op op_add (pv 3) pe_int)) po_none)))))) pss_nil)
    (pss_cons (ps_set (i := 5) scLReplaced.nd rfl (.inl rfl) (pe_own oLDraw (hr.mono (by omega)) (by rfl) (pa_cons (pv 0) (pa_cons pe_int pa_nil))))
    (pss_cons (ps_if (PW.pt (pw_and (pt_val (pe_callB (isiK K) (by rfl) m_isinstance (by decide +kernel) (pa_cons (pv 1) (pa_cons (pe_bltn (v := .ty "tuple") (by rfl) m_tuple (by decide +kernel) rfl) pa_nil)))) (pw_and1 (pt_cmpR op_lt (pv 5) pe_int (nomark _))))) (pss_one (ps_ret (pe_ix (ixLK K) (pe_lst (pa_cons (pe_callTy (listSK K) (by rfl) m_list (by decide +kernel) (pa_cons (pv 1) pa_nil)) (pa_cons (pe_slice (slTK K) (pv 1) po_none (po_some (pe_un un_neg pe_int))) (pa_cons (pe_op (catAK K) (pv 1) (pe_slice (slTK K) (pv 1) po_none (po_some pe_int))) (pa_cons (revTK K (pv 1)) (pa_cons (pe_op (catAK K) (pv 1) (pe_tup (pa_cons (pe_own oLOdd (hr.mono (by omega)) (by rfl) (pa_cons (pv 0) pa_nil)) pa_nil))) pa_nil)))))) (pv 5) (fun _ _ => rfl)))) pss_nil)
    (pss_cons (ps_if (PW.pt (pw_and (pt_val (pe_callB (isiK K) (by rfl) m_isinstance (by decide +kernel) (pa_cons (pv 1) (pa_cons (pe_bltn (v := .ty "int") (by rfl) m_int (by decide +kernel) rfl) pa_nil)))) (pw_and (pt_not (pt_val (pe_callB (isiK K) (by rfl) m_isinstance (by decide +kernel) (pa_cons (pv 1) (pa_cons (pe_bltn (v := .ty "bool") (by rfl) m_bool (by decide +kernel) rfl) pa_nil))))) (pw_and1 (pt_cmpR op_lt (pv 5) pe_int (nomark _)))))) (pss_one (ps_ret (pe_ix (ixLK K) (pe_lst (pa_cons (pe_op op_add (pv 1) pe_int) (pa_cons (pe_op op_sub (pv 1) pe_int) (pa_cons (pe_op op_sub pe_int (pv 1)) (pa_cons (pe_cmpR op_eq (pv 1) pe_int (nomark _)) (pa_cons (pe_op op_add (pv 1) pe_int) pa_nil)))))) (pv 5) (fun _ _ => rfl)))) pss_nil)
    (pss_one (ps_ret (pe_own oLOdd (hr.mono (by omega)) (by rfl) (pa_cons (pv 0) pa_nil)))))))), ?_⟩
    rcases bv.tq with ⟨a, xs, ds, rfl, rfl, ha, al, len⟩ | ⟨t, ty, kt, nt⟩
    · have alen := al.length
      refine ⟨.ref a, rfl, _, _, _, _, true, rfl, .ty "tuple", ty_tup ha, kit_ty (by decide +kernel), true, rfl, ?_⟩
      refine iteT ⟨.ref a, rfl, a, _, rfl, .inr ha, _, _, rfl, rfl, _, rfl, ?_⟩
      by_cases c0 : 0 < xs.length
      · rw [decide_eq_true (show (0 : Int) < (xs.length : Int) by omega)]
        refine iteT ⟨.int c, rfl, _, _, rfl, rfl, _, rfl, ?_⟩
        by_cases cc : 0 < c
        · rw [decide_eq_true (show (0 : Int) < (c : Int) by omega)]
          refine iteT ⟨.ref d, rfl, d, l, _, 5, rfl, by decide, by decide, hD, by omega, fun H1 r r0 r1 f1 d1 => ⟨_, _, rfl, rfl, _, rfl, ?_⟩⟩
          by_cases cr : 0 < r
          · rw [decide_eq_true cr]
            refine iteT ?_
            obtain ⟨c', rfl⟩ : ∃ c', c = c' + 1 := ⟨c - 1, by omega⟩
            have al1 := al.fm f1 hD
            have ha1 := f1.kt hD _ _ ha
            refine ⟨.ref d, rfl, .ref a, rfl, a, _, rfl, .inr ha1, d, l, _, xs.length, rfl, by omega, by omega, d1, by omega, fun H2 i i0 i1 f2 d2 => ?_⟩
            have al2 := al1.fm f2 d1
            have ha2 := f2.kt (K := K) d1 _ _ ha1
            have hi : i.toNat < xs.length := by omega
            obtain ⟨y, hy, by_⟩ := al2.get (List.getElem?_eq_getElem hi)
            refine ⟨.ref d, rfl, .ref a, rfl, .int i, rfl, a, _, i, xs[i.toNat], rfl, rfl, ha2, at_of (j := i.toNat) (by omega) (List.getElem?_eq_getElem hi), .int ((c' + 1 : Nat) : Int), rfl, _, _, rfl, rfl, ?_⟩
            have f02 := f1.trans f2
            refine hs c' rfl _ _ _ _ ⟨d, l, _, b, N, k, _, y, ?_, d2, by omega, hb, by_, sx.parts.get hy, fun H3 u z f3 d3 bz sz => ?_⟩
            · show [V.ref d, xs[i.toNat], V.int (((c' + 1 : Nat) : Int) - 1)] = _
              rw [show (((c' + 1 : Nat) : Int) - 1) = (c' : Int) by omega]
            have al3 := (al2.fm f3 d2).le (Nat.le_succ b)
            have ha3 := f3.kt (K := K) d2 _ _ ha2
            refine ⟨.ref a, rfl, ?_⟩
            dsimp only [tNoPart]
            refine ⟨.int i, rfl, i, rfl, slV ha3 fun H4 p4 i4 j4 ei4 ej4 s4 e4 => ?_⟩
            refine ⟨u, rfl, by show 1 ≤ sizeLine; decide, fun o1 no1 => ?_⟩
            have so1 := same_upd (o := .tup [u]) no1
            have l4 : ((xs.drop i4).take j4).length ≤ xs.length := by rw [List.length_take, List.length_drop]; omega
            refine catV (Same.tup so1 e4) (SqT.of (same_at (o := .tup [u]) no1)) (by show _ + 1 ≤ 900; omega) fun H5 p5 s5 e5 => ?_
            refine ⟨.ref a, rfl, ?_⟩
            dsimp only [tNoPart]
            have s35 := (s4.trans so1).trans s5
            refine ⟨.int i, rfl, _, _, rfl, rfl, i + 1, rfl, slV (Same.tup s35 ha3) fun H6 p6 i6 j6 ei6 ej6 s6 e6 => ?_⟩
            have e0 : HT.sIx xs.length 0 (none : Option Int) = 0 := rfl
            have en : HT.sIx xs.length xs.length (none : Option Int) = xs.length := rfl
            rw [e0] at ei4 ej4
            rw [six_nn _ _ i0] at ej4
            rw [six_nn _ _ (show 0 ≤ i + 1 by omega)] at ei6 ej6
            rw [en] at ej6
            have l6 : ((xs.drop i6).take j6).length ≤ xs.length - (i.toNat + 1) := by rw [List.length_take, List.length_drop]; omega
            have l4' : ((xs.drop i4).take j4).length ≤ i.toNat := by rw [List.length_take]; omega
            refine catV (Same.tup s6 e5) e6 (by rw [List.length_append]; show _ + 1 + _ ≤ 900; omega) fun H7 p7 s7 e7 => ?_
            have sZ := (s35.trans s6).trans s7
            have al7 := al3.same sZ
            have sb := sx.parts
            have hgN := hg N
            refine q _ _ _ ((f02.trans f3).trans (Same.fm sZ)) ((d3.same sZ).le (by omega)) (.tup e7 ((((al7.drop i4).take j4).append (.cons (bz.same sZ) .nil)).append ((al7.drop i6).take j6)) ?_) ?_
            · rw [List.length_append, List.length_append, List.length_singleton]
              omega
            · have w1 := wt_cut i.toNat ds
              have z1 := (sb.cut i4 j4).le (Nat.le_refl _) (show k ≤ k + 4 + c' by omega)
              have z3 := (sb.cut i6 j6).le (Nat.le_refl _) (show k ≤ k + 4 + c' by omega)
              refine ((z1.app (SwB.one sz)).app z3).tup.le ?_ (by omega)
              show _ ≤ 2 * N + g N + 1
              omega
          · rw [decide_eq_false cr]
            refine iteF ?_
            have hn1 : n + 1 + 3 ≤ n + 4 * c + 4 := by omega
            have al1 := al.fm f1 hD
            have ha1 := f1.kt hD _ _ ha
            refine ⟨.ref d, rfl, d, l, _, 7, rfl, by decide, by decide, d1, by omega, fun H2 w w0 w1 f2 d2 => ?_⟩
            have al2 := al1.fm f2 d1
            have ha2 := f2.kt (K := K) d1 _ _ ha1
            have f02 := f1.trans f2
            refine ⟨.ref a, rfl, _, _, _, _, true, rfl, .ty "tuple", ty_tup ha2, kit_ty (by decide +kernel), true, rfl, ?_⟩
            refine iteT ⟨.int w, rfl, _, _, rfl, rfl, _, rfl, ?_⟩
            by_cases c5 : w < 5
            · rw [decide_eq_true c5]
              refine iteT ?_
              clear al1 ha1 f1 d1
              -- list(value)
              refine ⟨.ref a, rfl, a, _, rfl, .inr ha2, fun v1 n1 np1 => ?_⟩
              have s1 := same_upd (o := .lst xs) n1
              have e1 := same_at (o := .lst xs) n1
              have o1 := d2.off n1
              have al3 := al2.same s1
              have ha3 := Same.tup s1 ha2
              have d3 := d2.same s1
              have f03 := f02.trans (Same.fm s1)
              generalize upd H2 v1 _ = H3 at s1 e1 al3 ha3 d3 f03 ⊢
              clear s1 n1 al2 ha2 d2 f02
              -- value[:-1]
              refine ⟨.ref a, rfl, ?_⟩
              dsimp only [tNoPart]
              refine ⟨1, rfl, -1, rfl, slV ha3 fun H4 v2 i2 j2 _ _ s4 e2 => ?_⟩
              have f04 := f03.trans (Same.fm s4)
              -- value + value[:1]
              refine ⟨.ref a, rfl, .ref a, rfl, ?_⟩
              dsimp only [tNoPart]
              refine ⟨1, rfl, slV (Same.tup s4 ha3) fun H5 p3 i3 j3 ei3 ej3 s5 e3 => ?_⟩
              have l3 : ((xs.drop i3).take j3).length ≤ 1 := by
                rw [ej3, six_nn _ _ (by decide)]
                rw [List.length_take]
                have : (1 : Int).toNat = 1 := rfl
                omega
              refine catV (Same.tup (s4.trans s5) ha3) e3 (by omega) fun H6 v3 s6 e3' => ?_
              -- value[::-1]
              have s36 := (s4.trans s5).trans s6
              refine ⟨.ref a, rfl, a, _, rfl, Same.tup s36 ha3, fun v4 n4 => ?_⟩
              have s7 := same_upd (o := .tup xs.reverse) n4
              have e4 := same_at (o := .tup xs.reverse) n4
              have s37 := s36.trans s7
              generalize upd H6 v4 _ = H7 at s7 e4 s37 ⊢
              -- value + (odd,)
              have d7 := d3.same s37
              refine ⟨.ref a, rfl, .ref d, rfl, d, l, _, rfl, d7, by omega, fun H8 o xo f8 d8 ov fr => ?_⟩
              have f08 := (f03.trans (Same.fm s37)).trans f8
              have k8 : KT K H7 H8 := f8.kt d7
              refine ⟨by show 1 ≤ sizeLine; decide, fun t nt => ?_⟩
              have st := same_upd (o := .tup [o]) nt
              have et := same_at (o := .tup [o]) nt
              have ha9 := Same.tup st (k8 _ _ (Same.tup s37 ha3))
              refine catV ha9 (SqT.of et) (by show xs.length + 1 ≤ 900; omega) fun H10 v5 s10 e5 => ?_
              have s8 := st.trans s10
              refine ⟨by show 5 ≤ sizeLine; decide, fun L nL => ?_⟩
              have sL := same_upd (o := .lst [V.ref v1, V.ref v2, V.ref v3, V.ref v4, V.ref v5]) nL
              have eL := same_at (o := .lst [V.ref v1, V.ref v2, V.ref v3, V.ref v4, V.ref v5]) nL
              have sZ := s8.trans sL
              have ff := f08.trans (Same.fm sZ)
              have dd := d8.same sZ
              have al7 := (((al3.same s37).fm f8 d7).same sZ).le (Nat.le_succ b)
              have sb := sx.parts
              have kz : KT K H7 (upd H10 L (.lst [V.ref v1, V.ref v2, V.ref v3, V.ref v4, V.ref v5])) := k8.trans (Same.kt sZ)
              have all : ∀ u ∈ [V.ref v1, V.ref v2, V.ref v3, V.ref v4, V.ref v5], ∃ x', Bv K d l (b + 1) (upd H10 L (.lst [V.ref v1, V.ref v2, V.ref v3, V.ref v4, V.ref v5])) u x' ∧ Sw x' (2 * N + g N + 1) (k + 4 + c) := fun u hu => by
                have hgN := hg N
                rcases List.mem_cons.mp hu with rfl | hu
                · exact ⟨_, .lst np1 (sZ _ _ (f8 _ _ o1.1 o1.2 (s37 _ _ e1))) o1.1 o1.2 al7 (by omega), sb.lst.le (by omega) (by omega)⟩
                rcases List.mem_cons.mp hu with rfl | hu
                · exact ⟨_, .tup (kz _ _ (Same.tup ((s5.trans s6).trans s7) e2)) ((al7.drop i2).take j2) (by rw [List.length_take, List.length_drop]; omega), (sb.cut i2 j2).tup.le (by omega) (by omega)⟩
                rcases List.mem_cons.mp hu with rfl | hu
                · exact ⟨_, .tup (kz _ _ (Same.tup s7 e3')) (al7.append ((al7.drop i3).take j3)) (by rw [List.length_append]; omega), (sb.app (sb.cut i3 j3)).tup.le (by omega) (by omega)⟩
                rcases List.mem_cons.mp hu with rfl | hu
                · exact ⟨_, .tup (kz _ _ (SqT.of e4)) al7.rev (by rw [List.length_reverse]; omega), sb.rev.tup.le (by omega) (by omega)⟩
                · rw [List.mem_singleton.mp hu]
                  refine ⟨_, .tup (Same.tup sL e5) (al7.append (.cons ((ov.1.same sZ).le (by omega)) .nil)) (by rw [List.length_append, List.length_singleton]; omega), ((sb.le (Nat.le_refl N) (show k ≤ k + 3 by omega)).app (SwB.one (ov.2.le (Nat.le_refl 300) (show 3 ≤ k + 3 by omega)))).tup.le (by omega) (by omega)⟩
              refine ⟨.int w, rfl, L, _, w, [V.ref v1, V.ref v2, V.ref v3, V.ref v4, V.ref v5][w.toNat]'(by show w.toNat < 5; omega), rfl, rfl, SqL.of eL, at_of (j := w.toNat) (by omega) (List.getElem?_eq_getElem _), ?_⟩
              obtain ⟨x', bx, sx'⟩ := all _ (List.getElem_mem (by show w.toNat < 5; omega))
              exact q _ _ x' ff (dd.le (by omega)) bx sx'
            · rw [decide_eq_false c5]
              refine iteF ?_
              refine ⟨.ref a, rfl, _, _, _, _, false, rfl, .ty "int", ty_tup ha2, kit_ty (by decide +kernel), false, rfl, iteF ?_⟩
              refine ⟨.ref d, rfl, d, l, _, rfl, d2, by omega, fun H3 o xo f3 d3 ov fr => ?_⟩
              have hgN := hg N
              exact q _ _ xo (f02.trans f3) (d3.le (by omega)) (ov.1.le (by omega)) (ov.2.le (by show 300 ≤ 2 * N + g N + 1; omega) (by omega))
        · rw [decide_eq_false (show ¬ (0 : Int) < (c : Int) by omega)]
          refine iteF ?_
          have f1 : Fm d l H H := Fm.refl
          have d1 := hD
          have al1 := al.fm f1 hD
          have ha1 := f1.kt hD _ _ ha
          refine ⟨.ref d, rfl, d, l, _, 7, rfl, by decide, by decide, d1, by omega, fun H2 w w0 w1 f2 d2 => ?_⟩
          have al2 := al1.fm f2 d1
          have ha2 := f2.kt (K := K) d1 _ _ ha1
          have f02 := f1.trans f2
          refine ⟨.ref a, rfl, _, _, _, _, true, rfl, .ty "tuple", ty_tup ha2, kit_ty (by decide +kernel), true, rfl, ?_⟩
          refine iteT ⟨.int w, rfl, _, _, rfl, rfl, _, rfl, ?_⟩
          by_cases c5 : w < 5
          · rw [decide_eq_true c5]
            refine iteT ?_
            clear al1 ha1 f1 d1
            -- list(value)
            refine ⟨.ref a, rfl, a, _, rfl, .inr ha2, fun v1 n1 np1 => ?_⟩
            have s1 := same_upd (o := .lst xs) n1
            have e1 := same_at (o := .lst xs) n1
            have o1 := d2.off n1
            have al3 := al2.same s1
            have ha3 := Same.tup s1 ha2
            have d3 := d2.same s1
            have f03 := f02.trans (Same.fm s1)
            generalize upd H2 v1 _ = H3 at s1 e1 al3 ha3 d3 f03 ⊢
            clear s1 n1 al2 ha2 d2 f02
            -- value[:-1]
            refine ⟨.ref a, rfl, ?_⟩
            dsimp only [tNoPart]
            refine ⟨1, rfl, -1, rfl, slV ha3 fun H4 v2 i2 j2 _ _ s4 e2 => ?_⟩
            have f04 := f03.trans (Same.fm s4)
            -- value + value[:1]
            refine ⟨.ref a, rfl, .ref a, rfl, ?_⟩
            dsimp only [tNoPart]
            refine ⟨1, rfl, slV (Same.tup s4 ha3) fun H5 p3 i3 j3 ei3 ej3 s5 e3 => ?_⟩
            have l3 : ((xs.drop i3).take j3).length ≤ 1 := by
              rw [ej3, six_nn _ _ (by decide)]
              rw [List.length_take]
              have : (1 : Int).toNat = 1 := rfl
              omega
            refine catV (Same.tup (s4.trans s5) ha3) e3 (by omega) fun H6 v3 s6 e3' => ?_
            -- value[::-1]
            have s36 := (s4.trans s5).trans s6
            refine ⟨.ref a, rfl, a, _, rfl, Same.tup s36 ha3, fun v4 n4 => ?_⟩
            have s7 := same_upd (o := .tup xs.reverse) n4
            have e4 := same_at (o := .tup xs.reverse) n4
            have s37 := s36.trans s7
            generalize upd H6 v4 _ = H7 at s7 e4 s37 ⊢
            -- value + (odd,)
            have d7 := d3.same s37
            refine ⟨.ref a, rfl, .ref d, rfl, d, l, _, rfl, d7, by omega, fun H8 o xo f8 d8 ov fr => ?_⟩
            have f08 := (f03.trans (Same.fm s37)).trans f8
            have k8 : KT K H7 H8 := f8.kt d7
            refine ⟨by show 1 ≤ sizeLine; decide, fun t nt => ?_⟩
            have st := same_upd (o := .tup [o]) nt
            have et := same_at (o := .tup [o]) nt
            have ha9 := Same.tup st (k8 _ _ (Same.tup s37 ha3))
            refine catV ha9 (SqT.of et) (by show xs.length + 1 ≤ 900; omega) fun H10 v5 s10 e5 => ?_
            have s8 := st.trans s10
            refine ⟨by show 5 ≤ sizeLine; decide, fun L nL => ?_⟩
            have sL := same_upd (o := .lst [V.ref v1, V.ref v2, V.ref v3, V.ref v4, V.ref v5]) nL
            have eL := same_at (o := .lst [V.ref v1, V.ref v2, V.ref v3, V.ref v4, V.ref v5]) nL
            have sZ := s8.trans sL
            have ff := f08.trans (Same.fm sZ)
            have dd := d8.same sZ
            have al7 := (((al3.same s37).fm f8 d7).same sZ).le (Nat.le_succ b)
            have sb := sx.parts
            have kz : KT K H7 (upd H10 L (.lst [V.ref v1, V.ref v2, V.ref v3, V.ref v4, V.ref v5])) := k8.trans (Same.kt sZ)
            have all : ∀ u ∈ [V.ref v1, V.ref v2, V.ref v3, V.ref v4, V.ref v5], ∃ x', Bv K d l (b + 1) (upd H10 L (.lst [V.ref v1, V.ref v2, V.ref v3, V.ref v4, V.ref v5])) u x' ∧ Sw x' (2 * N + g N + 1) (k + 4 + c) := fun u hu => by
              have hgN := hg N
              rcases List.mem_cons.mp hu with rfl | hu
              · exact ⟨_, .lst np1 (sZ _ _ (f8 _ _ o1.1 o1.2 (s37 _ _ e1))) o1.1 o1.2 al7 (by omega), sb.lst.le (by omega) (by omega)⟩
              rcases List.mem_cons.mp hu with rfl | hu
              · exact ⟨_, .tup (kz _ _ (Same.tup ((s5.trans s6).trans s7) e2)) ((al7.drop i2).take j2) (by rw [List.length_take, List.length_drop]; omega), (sb.cut i2 j2).tup.le (by omega) (by omega)⟩
              rcases List.mem_cons.mp hu with rfl | hu
              · exact ⟨_, .tup (kz _ _ (Same.tup s7 e3')) (al7.append ((al7.drop i3).take j3)) (by rw [List.length_append]; omega), (sb.app (sb.cut i3 j3)).tup.le (by omega) (by omega)⟩
              rcases List.mem_cons.mp hu with rfl | hu
              · exact ⟨_, .tup (kz _ _ (SqT.of e4)) al7.rev (by rw [List.length_reverse]; omega), sb.rev.tup.le (by omega) (by omega)⟩
              · rw [List.mem_singleton.mp hu]
                refine ⟨_, .tup (Same.tup sL e5) (al7.append (.cons ((ov.1.same sZ).le (by omega)) .nil)) (by rw [List.length_append, List.length_singleton]; omega), ((sb.le (Nat.le_refl N) (show k ≤ k + 3 by omega)).app (SwB.one (ov.2.le (Nat.le_refl 300) (show 3 ≤ k + 3 by omega)))).tup.le (by omega) (by omega)⟩
            refine ⟨.int w, rfl, L, _, w, [V.ref v1, V.ref v2, V.ref v3, V.ref v4, V.ref v5][w.toNat]'(by show w.toNat < 5; omega), rfl, rfl, SqL.of eL, at_of (j := w.toNat) (by omega) (List.getElem?_eq_getElem _), ?_⟩
            obtain ⟨x', bx, sx'⟩ := all _ (List.getElem_mem (by show w.toNat < 5; omega))
            exact q _ _ x' ff (dd.le (by omega)) bx sx'
          · rw [decide_eq_false c5]
            refine iteF ?_
            refine ⟨.ref a, rfl, _, _, _, _, false, rfl, .ty "int", ty_tup ha2, kit_ty (by decide +kernel), false, rfl, iteF ?_⟩
            refine ⟨.ref d, rfl, d, l, _, rfl, d2, by omega, fun H3 o xo f3 d3 ov fr => ?_⟩
            have hgN := hg N
            exact q _ _ xo (f02.trans f3) (d3.le (by omega)) (ov.1.le (by omega)) (ov.2.le (by show 300 ≤ 2 * N + g N + 1; omega) (by omega))
      · rw [decide_eq_false (show ¬ (0 : Int) < (xs.length : Int) by omega)]
        refine iteF ?_
        have f1 : Fm d l H H := Fm.refl
        have d1 := hD
        have al1 := al.fm f1 hD
        have ha1 := f1.kt hD _ _ ha
        refine ⟨.ref d, rfl, d, l, _, 7, rfl, by decide, by decide, d1, by omega, fun H2 w w0 w1 f2 d2 => ?_⟩
        have al2 := al1.fm f2 d1
        have ha2 := f2.kt (K := K) d1 _ _ ha1
        have f02 := f1.trans f2
        refine ⟨.ref a, rfl, _, _, _, _, true, rfl, .ty "tuple", ty_tup ha2, kit_ty (by decide +kernel), true, rfl, ?_⟩
        refine iteT ⟨.int w, rfl, _, _, rfl, rfl, _, rfl, ?_⟩
        by_cases c5 : w < 5
        · rw [decide_eq_true c5]
          refine iteT ?_
          clear al1 ha1 f1 d1
          -- list(value)
          refine ⟨.ref a, rfl, a, _, rfl, .inr ha2, fun v1 n1 np1 => ?_⟩
          have s1 := same_upd (o := .lst xs) n1
          have e1 := same_at (o := .lst xs) n1
          have o1 := d2.off n1
          have al3 := al2.same s1
          have ha3 := Same.tup s1 ha2
          have d3 := d2.same s1
          have f03 := f02.trans (Same.fm s1)
          generalize upd H2 v1 _ = H3 at s1 e1 al3 ha3 d3 f03 ⊢
          clear s1 n1 al2 ha2 d2 f02
          -- value[:-1]
          refine ⟨.ref a, rfl, ?_⟩
          dsimp only [tNoPart]
          refine ⟨1, rfl, -1, rfl, slV ha3 fun H4 v2 i2 j2 _ _ s4 e2 => ?_⟩
          have f04 := f03.trans (Same.fm s4)
          -- value + value[:1]
          refine ⟨.ref a, rfl, .ref a, rfl, ?_⟩
          dsimp only [tNoPart]
          refine ⟨1, rfl, slV (Same.tup s4 ha3) fun H5 p3 i3 j3 ei3 ej3 s5 e3 => ?_⟩
          have l3 : ((xs.drop i3).take j3).length ≤ 1 := by
            rw [ej3, six_nn _ _ (by decide)]
            rw [List.length_take]
            have : (1 : Int).toNat = 1 := rfl
            omega
          refine catV (Same.tup (s4.trans s5) ha3) e3 (by omega) fun H6 v3 s6 e3' => ?_
          -- value[::-1]
          have s36 := (s4.trans s5).trans s6
          refine ⟨.ref a, rfl, a, _, rfl, Same.tup s36 ha3, fun v4 n4 => ?_⟩
          have s7 := same_upd (o := .tup xs.reverse) n4
          have e4 := same_at (o := .tup xs.reverse) n4
          have s37 := s36.trans s7
          generalize upd H6 v4 _ = H7 at s7 e4 s37 ⊢
          -- value + (odd,)
          have d7 := d3.same s37
          refine ⟨.ref a, rfl, .ref d, rfl, d, l, _, rfl, d7, by omega, fun H8 o xo f8 d8 ov fr => ?_⟩
          have f08 := (f03.trans (Same.fm s37)).trans f8
          have k8 : KT K H7 H8 := f8.kt d7
          refine ⟨by show 1 ≤ sizeLine; decide, fun t nt => ?_⟩
          have st := same_upd (o := .tup [o]) nt
          have et := same_at (o := .tup [o]) nt
          have ha9 := Same.tup st (k8 _ _ (Same.tup s37 ha3))
          refine catV ha9 (SqT.of et) (by show xs.length + 1 ≤ 900; omega) fun H10 v5 s10 e5 => ?_
          have s8 := st.trans s10
          refine ⟨by show 5 ≤ sizeLine; decide, fun L nL => ?_⟩
          have sL := same_upd (o := .lst [V.ref v1, V.ref v2, V.ref v3, V.ref v4, V.ref v5]) nL
          have eL := same_at (o := .lst [V.ref v1, V.ref v2, V.ref v3, V.ref v4, V.ref v5]) nL
          have sZ := s8.trans sL
          have ff := f08.trans (Same.fm sZ)
          have dd := d8.same sZ
          have al7 := (((al3.same s37).fm f8 d7).same sZ).le (Nat.le_succ b)
          have sb := sx.parts
          have kz : KT K H7 (upd H10 L (.lst [V.ref v1, V.ref v2, V.ref v3, V.ref v4, V.ref v5])) := k8.trans (Same.kt sZ)
          have all : ∀ u ∈ [V.ref v1, V.ref v2, V.ref v3, V.ref v4, V.ref v5], ∃ x', Bv K d l (b + 1) (upd H10 L (.lst [V.ref v1, V.ref v2, V.ref v3, V.ref v4, V.ref v5])) u x' ∧ Sw x' (2 * N + g N + 1) (k + 4 + c) := fun u hu => by
            have hgN := hg N
            rcases List.mem_cons.mp hu with rfl | hu
            · exact ⟨_, .lst np1 (sZ _ _ (f8 _ _ o1.1 o1.2 (s37 _ _ e1))) o1.1 o1.2 al7 (by omega), sb.lst.le (by omega) (by omega)⟩
            rcases List.mem_cons.mp hu with rfl | hu
            · exact ⟨_, .tup (kz _ _ (Same.tup ((s5.trans s6).trans s7) e2)) ((al7.drop i2).take j2) (by rw [List.length_take, List.length_drop]; omega), (sb.cut i2 j2).tup.le (by omega) (by omega)⟩
            rcases List.mem_cons.mp hu with rfl | hu
            · exact ⟨_, .tup (kz _ _ (Same.tup s7 e3')) (al7.append ((al7.drop i3).take j3)) (by rw [List.length_append]; omega), (sb.app (sb.cut i3 j3)).tup.le (by omega) (by omega)⟩
            rcases List.mem_cons.mp hu with rfl | hu
            · exact ⟨_, .tup (kz _ _ (SqT.of e4)) al7.rev (by rw [List.length_reverse]; omega), sb.rev.tup.le (by omega) (by omega)⟩
            · rw [List.mem_singleton.mp hu]
              refine ⟨_, .tup (Same.tup sL e5) (al7.append (.cons ((ov.1.same sZ).le (by omega)) .nil)) (by rw [List.length_append, List.length_singleton]; omega), ((sb.le (Nat.le_refl N) (show k ≤ k + 3 by omega)).app (SwB.one (ov.2.le (Nat.le_refl 300) (show 3 ≤ k + 3 by omega)))).tup.le (by omega) (by omega)⟩
          refine ⟨.int w, rfl, L, _, w, [V.ref v1, V.ref v2, V.ref v3, V.ref v4, V.ref v5][w.toNat]'(by show w.toNat < 5; omega), rfl, rfl, SqL.of eL, at_of (j := w.toNat) (by omega) (List.getElem?_eq_getElem _), ?_⟩
          obtain ⟨x', bx, sx'⟩ := all _ (List.getElem_mem (by show w.toNat < 5; omega))
          exact q _ _ x' ff (dd.le (by omega)) bx sx'
        · rw [decide_eq_false c5]
          refine iteF ?_
          refine ⟨.ref a, rfl, _, _, _, _, false, rfl, .ty "int", ty_tup ha2, kit_ty (by decide +kernel), false, rfl, iteF ?_⟩
          refine ⟨.ref d, rfl, d, l, _, rfl, d2, by omega, fun H3 o xo f3 d3 ov fr => ?_⟩
          have hgN := hg N
          exact q _ _ xo (f02.trans f3) (d3.le (by omega)) (ov.1.le (by omega)) (ov.2.le (by show 300 ≤ 2 * N + g N + 1; omega) (by omega))
    · refine ⟨v, rfl, _, _, _, _, false, rfl, .ty "tuple", ty, kt, false, rfl, iteF ?_⟩
      have hgN := hg N
      refine ⟨.ref d, rfl, d, l, _, 7, rfl, by decide, by decide, hD, by omega, fun H1 w w0 w1 f1 d1 => ?_⟩
      have bv1 := bv.fm f1 hD
      rcases bv1.tq with ⟨a, xs, ds, _, rfl, _⟩ | ⟨t1, ty1, kt1, _⟩
      · exact absurd rfl (nt ds)
      refine ⟨v, rfl, _, _, _, _, false, rfl, .ty "tuple", ty1, kt1, false, rfl, iteF ?_⟩
      obtain ⟨ti, ka, kb, tyi, k1, k2, e⟩ := bv1.kd
      refine ⟨v, rfl, _, _, _, _, ka, rfl, .ty "int", tyi, k1, ka, rfl, ?_⟩
      cases bv with
      | int i hi =>
        have e : (ka && !kb) = true := e
        obtain ⟨ha, hb⟩ := Bool.and_eq_true_iff.mp e
        subst ha
        have hb : kb = false := by cases kb; rfl; cases hb
        subst hb
        refine iteT ⟨.int i, rfl, _, _, _, _, false, rfl, .ty "bool", tyi, k2, false, rfl, iteT ⟨.int w, rfl, _, _, rfl, rfl, _, rfl, ?_⟩⟩
        by_cases c5 : w < 5
        · rw [decide_eq_true c5]
          refine iteT ⟨.int i, rfl, i, 1, rfl, rfl, .int i, rfl, i, 1, rfl, rfl, .int i, rfl, 0, i, rfl, rfl, .int i, rfl, rfl, .int i, rfl, i, 12, rfl, rfl, by show 5 ≤ sizeLine; decide, fun L nL => ?_⟩
          generalize decide (V.int i = V.int 1) = bq at nL ⊢
          have sL := same_upd (o := .lst [V.int (i + 1), V.int (i - 1), V.int (0 - i), V.bl bq, V.int (i + 12)]) nL
          have eL := same_at (o := .lst [V.int (i + 1), V.int (i - 1), V.int (0 - i), V.bl bq, V.int (i + 12)]) nL
          have all : ∀ u ∈ [V.int (i + 1), V.int (i - 1), V.int (0 - i), V.bl bq, V.int (i + 12)], ∃ x', Bv K d l (b + 1) (upd H1 L (.lst [V.int (i + 1), V.int (i - 1), V.int (0 - i), V.bl bq, V.int (i + 12)])) u x' ∧ Sw x' (2 * N + g N + 1) (k + 4 + c) := fun u hu => by
            have okI : ∀ z : Int, z.natAbs ≤ i.natAbs + 12 → Bv K d l (b + 1) (upd H1 L (.lst [V.int (i + 1), V.int (i - 1), V.int (0 - i), V.bl bq, V.int (i + 12)])) (V.int z) (.int z) ∧ Sw (.int z) (2 * N + g N + 1) (k + 4 + c) := fun z hz => ⟨.int z (by omega), (sw_intB (by omega)).le (by omega) (by omega)⟩
            rcases List.mem_cons.mp hu with rfl | hu
            · exact ⟨_, okI _ (by omega)⟩
            rcases List.mem_cons.mp hu with rfl | hu
            · exact ⟨_, okI _ (by omega)⟩
            rcases List.mem_cons.mp hu with rfl | hu
            · exact ⟨_, okI _ (by omega)⟩
            rcases List.mem_cons.mp hu with rfl | hu
            · exact ⟨_, .bl _, (Sm.bool _).sw.le (by omega) (by omega)⟩
            · rw [List.mem_singleton.mp hu]
              exact ⟨_, okI _ (by omega)⟩
          refine ⟨.int w, rfl, L, _, w, [V.int (i + 1), V.int (i - 1), V.int (0 - i), V.bl bq, V.int (i + 12)][w.toNat]'(by show w.toNat < 5; omega), rfl, rfl, SqL.of eL, at_of (j := w.toNat) (by omega) (List.getElem?_eq_getElem _), ?_⟩
          obtain ⟨x', bx, sx'⟩ := all _ (List.getElem_mem (by show w.toNat < 5; omega))
          exact q _ _ x' (f1.trans (Same.fm sL)) ((d1.same sL).le (by omega)) bx sx'
        · rw [decide_eq_false c5]
          exact iteF ⟨.ref d, rfl, d, l, _, rfl, d1, by omega, fun H3 o xo f3 d3 ov fr => q _ _ xo (f1.trans f3) (d3.le (by omega)) (ov.1.le (by omega)) (ov.2.le (by show 300 ≤ 2 * N + g N + 1; omega) (by omega))⟩
      | _ =>
        cases ka with
        | false => exact iteF ⟨.ref d, rfl, d, l, _, rfl, d1, by omega, fun H3 o xo f3 d3 ov fr => q _ _ xo (f1.trans f3) (d3.le (by omega)) (ov.1.le (by omega)) (ov.2.le (by show 300 ≤ 2 * N + g N + 1; omega) (by omega))⟩
        | true =>
          have hb : kb = true := by
            cases kb with
            | true => rfl
            | false => cases e
          subst hb
          refine iteT ⟨_, rfl, _, _, _, _, true, rfl, .ty "bool", tyi, k2, true, rfl, iteF ?_⟩
          exact ⟨.ref d, rfl, d, l, _, rfl, d1, by omega, fun H3 o xo f3 d3 ov fr => q _ _ xo (f1.trans f3) (d3.le (by omega)) (ov.1.le (by omega)) (ov.2.le (by show 300 ≤ 2 * N + g N + 1; omega) (by omega))⟩

end
end TL
namespace TL
open PySem PySem.Spec PyProof.Rows L2
section
variable {P : Program} {w : World} {K : PySem.W.Frag} {mg : Str → Option Value} {base : Heap}
/-! ### the program: neighbours, lamps in the way -/
def spNeighboursOf (K : PySem.W.Frag) : Sp := fun vs H Q _ => ∃ (x : V) (m : Nat) (es : List (Int × Int)) (v : Int), vs = [x, .int v] ∧ m ≤ 12 ∧ IsFor m es ∧ Dp K H x (forD m es) ∧
  ∀ (H' : Hp) (y : V), Same H H' → Dp K H' y (intsD (nearL m es v)) → Q y H'
theorem dec_int (a b : Int) : decide (V.int a = V.int b) = decide (a = b) := by
  by_cases h : a = b
  · subst h; simp
  · have : ¬ V.int a = V.int b := fun z => h (V.int.inj z)
    rw [decide_eq_false h, decide_eq_false this]
theorem ok_NeighboursOf {f : Addr} {fd : FuncData} {k : Nat} (F : Fun K "neighbours_of" "neighbours_of" sNeighboursOf f fd) (m_tuple : mg "tuple" = none) :
    FnOk P w K mg base CX0 (k + 1) f fd ["forest", "vertex"] (spNeighboursOf K) := by
  refine F.ok scNeighboursOf (fun vs H Q E h => ?_) (fun cdv A outer s H vs Q E hr h => ?_)
  · obtain ⟨x, m, es, v, rfl, _⟩ := h
    rfl
  · obtain ⟨x, m, es, v, rfl, hm, isf, hx, q⟩ := h
    obtain ⟨a, b, xs, rfl, ha, hb, hA⟩ := Dp.forI hx
    have ec := isf.count
    refine ⟨_, (pss_cons (ps_asg (pv 0) (pgTK K (pgs_cons (pg_name (i := 2) scNeighboursOf.nd rfl (Or.inl rfl)) (pgs_cons (pg_name (i := 3) scNeighboursOf.nd rfl (Or.inl rfl)) pgs_nil))))
    (pss_cons (ps_setLc (i := 4) (own := [("a", 6), ("b", 7)]) (g := (gTup K 2 (gCons (gName 6) (gCons (gName 7) gNil)))) (by rfl) scNeighboursOf.nd rfl rfl (sw_true rfl rfl rfl (by decide +kernel)) (piTK K (pv 3))
      (blkOk_by (own := [("a", 6), ("b", 7)]) (N := nNeighboursOf) (sc := (defScope sNeighboursOf)) (by decide +kernel))
      (fun _ _ _ _ _ => (pgTK K (pgs_cons (pg_name (i := 6) scNeighboursOf.nd rfl (Or.inl rfl)) (pgs_cons (pg_name (i := 7) scNeighboursOf.nd rfl (Or.inl rfl)) pgs_nil)))) (fun _ _ _ _ _ => (pts_one (pt_cmpR op_eq (pv 7) (pv 1) (nomark _))))
      (fun _ _ _ _ _ => (pv 6)))
    (pss_cons (ps_setLc (i := 5) (own := [("a", 6), ("b", 7)]) (g := (gTup K 2 (gCons (gName 6) (gCons (gName 7) gNil)))) (by rfl) scNeighboursOf.nd rfl rfl (sw_true rfl rfl rfl (by decide +kernel)) (piTK K (pv 3))
      (blkOk_by (own := [("a", 6), ("b", 7)]) (N := nNeighboursOf) (sc := (defScope sNeighboursOf)) (by decide +kernel))
      (fun _ _ _ _ _ => (pgTK K (pgs_cons (pg_name (i := 6) scNeighboursOf.nd rfl (Or.inl rfl)) (pgs_cons (pg_name (i := 7) scNeighboursOf.nd rfl (Or.inl rfl)) pgs_nil)))) (fun _ _ _ _ _ => (pts_one (pt_cmpR op_eq (pv 6) (pv 1) (nomark _))))
      (fun _ _ _ _ _ => (pv 7)))
    (pss_one (ps_ret (pe_callTy (tupleK K) (by rfl) m_tuple (by decide +kernel) (pa_cons (pe_op op_cat (pv 4) (pv 5)) pa_nil))))))), ?_⟩
    refine ⟨.ref a, rfl, a, _, rfl, ha, rfl, _, _, rfl, _, _, rfl, rfl, ?_⟩
    refine ⟨.ref b, rfl, b, rfl, ⟨_, hb⟩, fun D nD => ?_⟩
    refine lc_tupP (K := K) (fun p => decide (p.2 = v)) (fun p => .int p.1) nD hb hA (fun _ _ => rfl) (fun o _ H' R s1 hR => ?_) (fun o _ _ H' R s1 hR => ?_) (fun o => only_int _) (by omega) (fun H2 ys s2 eD dy => ?_)
    · refine ⟨.int o.2, rfl, .int v, rfl, rfl, _, rfl, ?_⟩
      rw [dec_int]
      exact hR H' (Same.refl _)
    · exact ⟨.int o.1, rfl, hR H' _ (Same.refl _) (.int _)⟩
    refine ⟨.ref b, rfl, b, rfl, ⟨_, Same.tup s2 hb⟩, fun D2 nD2 => ?_⟩
    refine lc_tupP (K := K) (fun p => decide (p.1 = v)) (fun p => .int p.2) nD2 (Same.tup s2 hb) (DpAll.same s2 hA) (fun _ _ => rfl) (fun o _ H' R s1 hR => ?_) (fun o _ _ H' R s1 hR => ?_) (fun o => only_int _) (by omega) (fun H3 zs s3 eD3 dz => ?_)
    · refine ⟨.int o.1, rfl, .int v, rfl, rfl, _, rfl, ?_⟩
      rw [dec_int]
      exact hR H' (Same.refl _)
    · exact ⟨.int o.2, rfl, hR H' _ (Same.refl _) (.int _)⟩
    have e1 : ys = ((es.filter fun p => decide (p.2 = v)).map (·.1)).map V.int := DpAll.ints (by rw [List.map_map]; exact dy)
    have e2 : zs = ((es.filter fun p => decide (p.1 = v)).map (·.2)).map V.int := DpAll.ints (by rw [List.map_map]; exact dz)
    subst e1 e2
    have l1 := List.length_filter_le (fun p => decide (p.2 = v)) es
    have l2 := List.length_filter_le (fun p => decide (p.1 = v)) es
    refine ⟨.ref D, rfl, .ref D2, rfl, D, D2, _, _, rfl, rfl, s3 _ _ eD, eD3, Nat.le_of_lt (small1000 (by rw [List.length_map, List.length_map, List.length_map, List.length_map]; omega)), fun p np => ?_⟩
    rw [← List.map_append]
    have t1 := same_upd (o := .lst ((nbL es v).map V.int)) np
    refine ⟨p, _, rfl, .inl ⟨SqL.of upd_same, fun t nt => ?_⟩⟩
    have t2 := same_upd (o := .tup ((nbL es v).map V.int)) nt
    refine q _ _ (((s2.trans s3).trans t1).trans t2) ?_
    rw [← isf.nb v]
    exact Dp.ints (SqT.of upd_same)
def spBlockingLamps (K : PySem.W.Frag) : Sp := fun vs H Q _ => ∃ (x y : V) (m : Nat) (es : List (Int × Int)) (S : List Int) (u v : Int), vs = [x, y, .int u, .int v] ∧ m ≤ 12 ∧ IsFor m es ∧ Dp K H x (forD m es) ∧ Dp K H y (intsD S) ∧
  ∀ (H' : Hp) (z : V), Same H H' → Dp K H' z (intsD (oth m es S u v)) → Q z H'
theorem ok_BlockingLamps {f : Addr} {fd : FuncData} {k : Nat} (F : Fun K "blocking_lamps" "blocking_lamps" sBlockingLamps f fd) (m_tuple : mg "tuple" = none)
    (oNeighboursOf : Own P w K mg base "neighbours_of" 1 ["forest", "vertex"] (spNeighboursOf K)) :
    FnOk P w K mg base CX0 2 f fd ["forest", "setting", "u", "v"] (spBlockingLamps K) := by
  refine F.ok scBlockingLamps (fun vs H Q E h => ?_) (fun cdv A outer s H vs Q E hr h => ?_)
  · obtain ⟨x, y, m, es, S, u, v, rfl, _⟩ := h
    rfl
  · obtain ⟨x, y, m, es, S, u, v, rfl, hm, isf, hx, hy, q⟩ := h
    obtain ⟨b, rfl, hb⟩ := Dp.intsI hy
    refine ⟨_, (pss_one (ps_ret (pe_callTy (tupleK K) (by rfl) m_tuple (by decide +kernel) (pa_cons (pe_lc (own := [("vertex", 4)]) (g := (gName 4)) rfl scBlockingLamps.nd (piTK K (pe_own oNeighboursOf (hr.mono (by decide)) (by rfl) (pa_cons (pv 0) (pa_cons (pv 3) pa_nil))))
      (blkOk_by (own := [("vertex", 4)]) (N := nBlockingLamps) (sc := (defScope sBlockingLamps)) (by decide +kernel))
      (fun _ _ _ _ _ => (pg_name (i := 4) scBlockingLamps.nd rfl (Or.inl rfl))) (fun _ _ _ _ _ => (pts_one (PW.pt (pw_and (pt_cmpR (inK K) (pv 4) (pv 1) (by rfl)) (pw_and1 (pt_cmpR op_ne (pv 4) (pv 2) (nomark _)))))))
      (fun _ _ _ _ _ => (pv 4))) pa_nil)))), ?_⟩
    refine ⟨x, rfl, .int v, rfl, x, m, es, v, rfl, hm, isf, hx, fun H1 n s1 dn => ?_⟩
    obtain ⟨a, rfl, ha⟩ := Dp.intsI dn
    refine ⟨a, rfl, ⟨_, ha⟩, fun D nD => ?_⟩
    have nl := nearL_len m es v
    refine lc_tupI (K := K) (fun o => decide (o ∈ S) && !decide (o = u)) .int nD ha (fun _ => rfl) (fun o _ H' R s2 hR => ?_) (fun o _ _ H' R s2 hR => ?_) only_int (by omega) (fun H2 ys s2 eD dy => ?_)
    · refine ⟨.int o, rfl, .ref b, rfl, b, S.map V.int, rfl, .inr (Same.tup (s1.trans s2) hb), rfl, flat_ints S, _, rfl, ?_⟩
      have hR' := hR H' (Same.refl _)
      show if (if false = true then _ else inV (V.int o) (S.map V.int)) = true then _ else _
      rw [if_neg Bool.false_ne_true, inV_ints]
      refine ite2 (fun h => ?_) (fun h => ?_)
      · refine ⟨.int o, rfl, .int u, rfl, rfl, _, rfl, ?_⟩
        rw [dec_int]
        rw [h, Bool.true_and] at hR'
        exact hR'
      · rw [Bool.not_eq_true] at h
        rw [h, Bool.false_and] at hR'
        exact hR'
    · exact ⟨.int o, rfl, hR H' _ (Same.refl _) (.int o)⟩
    rw [lst_ints dy] at eD
    refine ⟨D, _, rfl, .inl ⟨SqL.of eD, fun t nt => ?_⟩⟩
    exact q _ _ ((s1.trans s2).trans (same_upd nt)) (Dp.ints (SqT.of upd_same))
/-! ### the program: exits round by round, the greatest lock -/
theorem find_at' {p : Int → Bool} {l : List Int} {i : Nat} {v : Int} (hi : l[i]? = some v) (before : ∀ u ∈ l.take i, p u = false) (hp : p v = true) : l.find? p = some v := by
  obtain ⟨h1, h2⟩ := List.getElem?_eq_some_iff.mp hi
  rw [← List.take_append_drop i l, List.find?_append, List.find?_eq_none.mpr (fun u hu => by rw [before u hu]; decide), Option.none_or, List.drop_eq_getElem_cons h1, List.find?_cons_of_pos (by rw [h2]; exact hp), h2]
def spFreeNeighbour (K : PySem.W.Frag) : Sp := fun vs H Q _ => ∃ (x y : V) (m : Nat) (es : List (Int × Int)) (L : List Int) (u : Int), vs = [x, y, .int u] ∧ m ≤ 12 ∧ IsFor m es ∧ Dp K H x (forD m es) ∧ Dp K H y (intsD L) ∧
  ∀ (H' : Hp), Same H H' → Q (pV (freeN m es L u)) H'
theorem ok_FreeNeighbour {f : Addr} {fd : FuncData} (F : Fun K "free_neighbour" "free_neighbour" sFreeNeighbour f fd) (oNeighboursOf : Own P w K mg base "neighbours_of" 1 ["forest", "vertex"] (spNeighboursOf K))
    (oBlockingLamps : Own P w K mg base "blocking_lamps" 2 ["forest", "setting", "u", "v"] (spBlockingLamps K)) :
    FnOk P w K mg base CX0 3 f fd ["forest", "left", "lamp"] (spFreeNeighbour K) := by
  refine F.ok scFreeNeighbour (fun vs H Q E h => ?_) (fun cdv A outer s H vs Q E hr h => ?_)
  · obtain ⟨x, y, m, es, L, u, rfl, _⟩ := h
    rfl
  · obtain ⟨x, y, m, es, L, u, rfl, hm, isf, hx, hy, q⟩ := h
    refine ⟨_, (pss_cons (ps_for PassesOwn.never rfl (piTK K (pe_own oNeighboursOf (hr.mono (by decide)) (by rfl) (pa_cons (pv 0) (pa_cons (pv 2) pa_nil)))) (pg_name (i := 3) scFreeNeighbour.nd rfl (Or.inl rfl))
    (pss_one (ps_if (pt_not (truthK K (pe_own oBlockingLamps (hr.mono (by decide)) (by rfl) (pa_cons (pv 0) (pa_cons (pv 1) (pa_cons (pv 2) (pa_cons (pv 3) pa_nil))))) (by intro _; rfl))) (pss_one (ps_ret (pv 3))) pss_nil)))
    (pss_one (ps_ret pe_non))), ?_⟩
    refine ⟨x, rfl, .int u, rfl, x, m, es, u, rfl, hm, isf, hx, fun H1 n s1 dn => ?_⟩
    obtain ⟨a, rfl, ha⟩ := Dp.intsI dn
    refine ⟨a, rfl, ⟨_, ha⟩, for_tup (K := K) (a := a) (xs := (nearL m es u).map V.int) (fun i σ H' => ∃ y3 : Option V, σ = [some x, some y, some (.int u), y3] ∧ Same H1 H' ∧ ∀ v ∈ (nearL m es u).take i, decide (oth m es L u v = []) = false) ?_ ?_ ?_ ?_⟩
    · exact ⟨_, rfl, Same.refl _, fun v hv => nomatch hv⟩
    · rintro i σ H' _ ⟨y3, rfl, s2, _⟩
      exact Same.tup s2 ha
    · rintro i v σ H2 hv ⟨y3, rfl, s2, no⟩
      rw [List.getElem?_map] at hv
      obtain ⟨z, hz, rfl⟩ := Option.map_eq_some_iff.mp hv
      have s12 := s1.trans s2
      refine ⟨x, rfl, y, rfl, .int u, rfl, .int z, rfl, x, y, m, es, L, u, z, rfl, hm, isf, Dp.same s12 hx, Dp.same s12 hy, fun H3 r s3 dr => ?_⟩
      obtain ⟨c, rfl, hc⟩ := Dp.intsI dr
      by_cases e : oth m es L u z = []
      · refine ⟨false, .inr (.inl ⟨_, hc, by rw [e]; rfl⟩), iteT ⟨.int z, rfl, ?_⟩⟩
        have := q H3 (s12.trans s3)
        unfold freeN at this
        rw [find_at' hz no (decide_eq_true e)] at this
        exact this
      · refine ⟨true, .inr (.inl ⟨_, hc, ?_⟩), iteF ⟨_, rfl, s2.trans s3, fun w hw => ?_⟩⟩
        · cases h : oth m es L u z with
          | nil => exact absurd h e
          | cons b t => rfl
        · rw [List.take_add_one, hz] at hw
          rcases List.mem_append.mp hw with hw | hw
          · exact no w hw
          · rw [List.mem_singleton.mp hw]
            exact decide_eq_false e
    · rintro σ H2 ⟨y3, rfl, s2, no⟩
      rw [List.length_map, List.take_length] at no
      have := q H2 (s1.trans s2)
      unfold freeN at this
      rw [List.find?_eq_none.mpr fun v hv => by rw [no v hv]; decide] at this
      exact this
/-- a dict from ints to ints, by its entries -/
def tabP (ks : List (Int × Int)) : List (Key × V) := ks.map fun p => ((Sum.inl p.1 : Key), V.int p.2)
theorem tabP_val (x : Int) : ∀ ks : List (Int × Int), (x ∉ ks.map (·.1) ∧ valV (tabP ks) (Sum.inl x) = none) ∨ ∃ v, (x, v) ∈ ks ∧ valV (tabP ks) (Sum.inl x) = some (.int v)
  | [] => .inl ⟨(fun h => nomatch h), rfl⟩
  | p :: ks => by
    have e0 : tabP (p :: ks) = ((Sum.inl p.1 : Key), V.int p.2) :: tabP ks := rfl
    rw [e0]
    by_cases e : p.1 = x
    · refine .inr ⟨p.2, ?_, valV_pos (by show (Sum.inl p.1 : Key) = Sum.inl x; rw [e])⟩
      rw [← e]
      exact List.mem_cons_self
    · have e' : ¬ (Sum.inl p.1 : Key) = Sum.inl x := fun z => e (Sum.inl.inj z)
      rw [valV_neg e']
      rcases tabP_val x ks with ⟨h1, h2⟩ | ⟨v, h1, h2⟩
      · refine .inl ⟨fun h => ?_, h2⟩
        rcases List.mem_cons.mp h with h | h
        · exact e h.symm
        · exact h1 h
      · exact .inr ⟨v, List.mem_cons_of_mem _ h1, h2⟩
theorem tabP_exV {x : Int} {ks : List (Int × Int)} (h : x ∈ ks.map (·.1)) : valV (tabP ks) (Sum.inl x) = some (.int (exV ks x)) := by
  unfold tabP exV valV
  rw [List.find?_map, Option.map_map]
  have e : ((fun kv : Key × V => decide (kv.1 = Sum.inl x)) ∘ fun p : Int × Int => ((Sum.inl p.1 : Key), V.int p.2)) = fun p : Int × Int => decide (p.1 = x) := by
    funext p
    exact decide_eq_decide.mpr ⟨fun z => Sum.inl.inj z, fun z => by rw [← z]⟩
  rw [e]
  cases hf : ks.find? (fun p => decide (p.1 = x)) with
  | some q => rfl
  | none =>
    obtain ⟨p, hp, e⟩ := List.mem_map.mp h
    exact absurd (decide_eq_true e) (List.find?_eq_none.mp hf p hp)
theorem tabP_snoc {ks : List (Int × Int)} {x : Int} (v : Int) (h : x ∉ ks.map (·.1)) : putK (tabP ks) (Sum.inl x) (V.int v) = tabP (ks ++ [(x, v)]) := by
  rcases tabP_val x ks with ⟨_, h2⟩ | ⟨v, h1, _⟩
  · rw [putK_new _ h2]
    unfold tabP
    rw [List.map_append]
    rfl
  · exact absurd (List.mem_map.mpr ⟨_, h1, rfl⟩) h
theorem lfX_lt {S : List Int} {ks ns : List (Int × Int)} (ne : ns ≠ []) (h : ∀ p ∈ ns, p.1 ∈ lfX S ks) : (lfX S (ks ++ ns)).length < (lfX S ks).length := by
  obtain ⟨p, hp⟩ := List.exists_mem_of_ne_nil _ ne
  obtain ⟨h1, h2⟩ := mem_lfX.mp (h p hp)
  unfold lfX
  refine filt_lt (fun y hy => ?_) h1 (decide_eq_false fun z => z ?_) (decide_eq_true h2)
  · have := of_decide_eq_true hy
    refine decide_eq_true fun z => this ?_
    rw [List.map_append]
    exact List.mem_append_left _ z
  · rw [List.map_append]
    exact List.mem_append_right _ (List.mem_map.mpr ⟨p, hp, rfl⟩)
def spExitsOf (K : PySem.W.Frag) : Sp := fun vs H Q _ => ∃ (x y : V) (m : Nat) (es : List (Int × Int)) (S : List Int), vs = [x, y] ∧ m ≤ 12 ∧ IsFor m es ∧ Dp K H x (forD m es) ∧ Dp K H y (intsD S) ∧ Asc S ∧ S.length ≤ 12 ∧
  ∀ (H' : Hp) (D : Addr) (ks : List (Int × Int)), Same H H' → H D = none → H' D = some (.dK (tabP ks)) → Xf m es S [] ks → Q (.ref D) H'
theorem kt_dk1 {H : Hp} {G : Addr} {kvs kvs' : List (Key × V)} (e : H G = some (.dK kvs)) : KT K H (upd H G (.dK kvs')) := by
  intro h zs qh
  rcases qh with (qh | ⟨o, qh⟩) | qh
  · refine .inl (.inl ?_)
    rw [upd_ne fun y => by rw [y, e] at qh; cases qh]
    exact qh
  · refine .inl (.inr ⟨o, ?_⟩)
    rw [upd_ne fun y => by rw [y, e] at qh; cases qh]
    exact qh
  · exact .inr qh
theorem rndX_snoc {m : Nat} {es : List (Int × Int)} {L T : List Int} {u : Int} : rndX m es L (T ++ [u]) = rndX m es L T ++ (match freeN m es L u with | some v => [(u, v)] | none => []) := by
  unfold rndX
  rw [List.filterMap_append]
  congr 1
  rw [List.filterMap_cons]
  cases freeN m es L u <;> rfl
theorem ok_ExitsOf {f : Addr} {fd : FuncData} (F : Fun K "exits_of" "exits_of" sExitsOf f fd) (m_tuple : mg "tuple" = none)
    (oFreeNeighbour : Own P w K mg base "free_neighbour" 3 ["forest", "left", "lamp"] (spFreeNeighbour K)) :
    FnOk P w K mg base CX0 4 f fd ["forest", "setting"] (spExitsOf K) := by
  refine F.ok scExitsOf (fun vs H Q E h => ?_) (fun cdv A outer s H vs Q E hr h => ?_)
  · obtain ⟨x, y, m, es, S, rfl, _⟩ := h
    rfl
  · obtain ⟨x, y, m, es, S, rfl, hm, isf, hx, hy, asc, lS, q⟩ := h
    obtain ⟨c, rfl, hc⟩ := Dp.intsI hy
    refine ⟨_, (pss_cons (ps_set (i := 2) scExitsOf.nd rfl (.inr rfl) pe_dnewK)
    (pss_cons (ps_set (i := 3) scExitsOf.nd rfl (.inl rfl) (pv 1))
    (pss_cons (ps_set (i := 4) scExitsOf.nd rfl (.inl rfl) pe_bl)
    (pss_cons (ps_while PassesOwn.never (truthK K (pv 4) (by intro _; rfl)) (pss_cons (ps_set (i := 4) scExitsOf.nd rfl (.inl rfl) pe_bl)
    (pss_cons (ps_for PassesOwn.never rfl (piTK K (pv 3)) (pg_name (i := 5) scExitsOf.nd rfl (Or.inl rfl))
    (pss_cons (ps_set (i := 6) scExitsOf.nd rfl (.inl rfl) (pe_own oFreeNeighbour (hr.mono (by decide)) (by rfl) (pa_cons (pv 0) (pa_cons (pv 3) (pa_cons (pv 5) pa_nil)))))
    (pss_one (ps_if (pt_cmpR op_notN (pv 6) pe_non (nomark _)) (pss_cons (ps_dput (hu_of hr) (pv 2) (pv 5) (pv 6) rfl)
    (pss_one (ps_set (i := 4) scExitsOf.nd rfl (.inl rfl) pe_bl))) pss_nil))))
    (pss_one (ps_set (i := 3) scExitsOf.nd rfl (.inl rfl) (pe_callTy (tupleK K) (by rfl) m_tuple (by decide +kernel) (pa_cons (pe_lc (own := [("lamp", 5)]) (g := (gName 5)) rfl scExitsOf.nd (piTK K (pv 1))
      (blkOk_by (own := [("lamp", 5)]) (N := nExitsOf) (sc := (defScope sExitsOf)) (by decide +kernel))
      (fun _ _ _ _ _ => (pg_name (i := 5) scExitsOf.nd rfl (Or.inl rfl))) (fun _ _ _ _ _ => (pts_one (pt_cmp (pc_dnotin (hu_of hr) (pv 5) (pv 2)))))
      (fun _ _ _ _ _ => (pv 5))) pa_nil)))))))
    (pss_one (ps_ret (pv 2))))))), ?_⟩
    refine fun G nG => ?_
    have sG := same_upd (o := .dK []) nG
    refine ⟨.ref c, rfl, ?_⟩
    refine while_ms (fun t σ H' => ∃ (y5 y6 : Option V) (l : Addr) (b : Bool) (ks : List (Int × Int)), σ = [some x, some (.ref c), some (.ref G), some (.ref l), some (.bl b), y5, y6] ∧ Same H H' ∧ H' G = some (.dK (tabP ks)) ∧ SqT K H' l ((lfX S ks).map V.int) ∧ XI m es S ks ∧ (∀ kf, Xf m es S ks kf → Xf m es S [] kf) ∧ (b = false → rndX m es (lfX S ks) (lfX S ks) = []) ∧ t = if b = true then (lfX S ks).length + 1 else 0) _
      ⟨_, _, c, true, [], rfl, sG, upd_same, ?_, XI.start, (fun _ h => h), (fun h => nomatch h), rfl⟩ ?_ ?_
    · have e : lfX S [] = S := List.filter_eq_self.mpr fun z _ => decide_eq_true fun h => nomatch h
      rw [e]
      exact Same.tup sG hc
    · rintro tt σ H1 ⟨y5, y6, l, b, ks, rfl, s1, eG1, hl1, xi, pre, fin, rfl⟩
      refine ⟨.bl b, rfl, b, rfl, ?_⟩
      cases b with
      | false => exact iteF ⟨.ref G, rfl, q _ G ks s1 nG eG1 (pre ks (.done (fin rfl)))⟩
      | true =>
        refine iteT ?_
        have ll : (lfX S ks).length ≤ 12 := by
          have := List.length_filter_le (fun z => decide (z ∉ ks.map (·.1))) S
          unfold lfX
          omega
        have ndl : (lfX S ks).Nodup := asc.nodup.filter _
        have lk := xi.len
        refine ⟨.ref l, rfl, l, rfl, ⟨_, hl1⟩, for_tup (K := K) (a := l) (xs := (lfX S ks).map V.int) (fun i σ H' => ∃ (y5 y6 : Option V), σ = [some x, some (.ref c), some (.ref G), some (.ref l), some (.bl (!(rndX m es (lfX S ks) ((lfX S ks).take i)).isEmpty)), y5, y6] ∧ Same H H' ∧ SqT K H' l ((lfX S ks).map V.int) ∧ H' G = some (.dK (tabP (ks ++ rndX m es (lfX S ks) ((lfX S ks).take i))))) ?_ ?_ ?_ ?_⟩
        · exact ⟨_, _, by rw [List.take_zero]; rfl, s1, hl1, by rw [List.take_zero]; show H1 G = some (.dK (tabP (ks ++ []))); rw [List.append_nil]; exact eG1⟩
        · rintro i σ H' _ ⟨y5, y6, rfl, _, h, _⟩
          exact h
        · rintro i v σ H2 hv ⟨y5, y6, rfl, s2, hl2, eG2⟩
          rw [List.getElem?_map] at hv
          obtain ⟨u, hu, rfl⟩ := Option.map_eq_some_iff.mp hv
          have mu : u ∈ lfX S ks := List.mem_of_getElem? hu
          obtain ⟨hi, eu⟩ := List.getElem?_eq_some_iff.mp hu
          have tk : (lfX S ks).take (i + 1) = (lfX S ks).take i ++ [u] := by rw [List.take_add_one, hu]; rfl
          have lr : (rndX m es (lfX S ks) ((lfX S ks).take i)).length ≤ 12 := by
            have := List.length_filterMap_le (fun x => (freeN m es (lfX S ks) x).map fun v => (x, v)) ((lfX S ks).take i)
            rw [List.length_take] at this
            unfold rndX
            omega
          have nut : u ∉ (lfX S ks).take i := fun z => by
            obtain ⟨j, hj, e⟩ := List.mem_iff_getElem.mp z
            rw [List.length_take] at hj
            rw [List.getElem_take, ← eu] at e
            have := (List.getElem_inj ndl).mp e
            omega
          have nuk : u ∉ (ks ++ rndX m es (lfX S ks) ((lfX S ks).take i)).map (·.1) := fun z => by
            rw [List.map_append] at z
            rcases List.mem_append.mp z with z | z
            · exact (mem_lfX.mp mu).2 z
            · exact nut ((rndX_fst _ _).subset z)
          refine ⟨x, rfl, .ref l, rfl, .int u, rfl, x, .ref l, m, es, lfX S ks, u, rfl, hm, isf, Dp.same s2 hx, Dp.ints hl2, fun H3 s3 => ?_⟩
          have eG3 := s3 _ _ eG2
          have hl3 := Same.tup s3 hl2
          refine ⟨pV _, rfl, rfl, _, rfl, ?_⟩
          cases hf : freeN m es (lfX S ks) u with
          | none =>
            have er : rndX m es (lfX S ks) ((lfX S ks).take (i + 1)) = rndX m es (lfX S ks) ((lfX S ks).take i) := by rw [tk, rndX_snoc, hf]; exact List.append_nil _
            exact iteF ⟨_, _, by rw [er]; rfl, s2.trans s3, hl3, by rw [er]; exact eG3⟩
          | some z =>
            have er : rndX m es (lfX S ks) ((lfX S ks).take (i + 1)) = rndX m es (lfX S ks) ((lfX S ks).take i) ++ [(u, z)] := by rw [tk, rndX_snoc, hf]
            refine iteT ⟨.int z, rfl, .ref G, rfl, .int u, rfl, G, _, rfl, DPut.k (k := Sum.inl u) eG3 (by unfold tabP; rw [List.length_map, List.length_append]; exact small1000 (by omega)), ?_⟩
            have kt : KT K H3 (upd H3 G (.dK (putK (tabP (ks ++ rndX m es (lfX S ks) ((lfX S ks).take i))) (Sum.inl u) (V.int z)))) := kt_dk1 eG3
            refine ⟨_, _, by rw [er]; cases rndX m es (lfX S ks) ((lfX S ks).take i) <;> rfl, fun h o eh => ?_, kt _ _ hl3, ?_⟩
            · rw [upd_ne (ne_of_none eh nG)]
              exact s3 _ _ (s2 _ _ eh)
            · rw [upd_same, tabP_snoc z nuk, List.append_assoc, er]
        · rintro σ H2 ⟨y5, y6, rfl, s2, hl2, eG2⟩
          rw [List.length_map, List.take_length] at eG2
          simp only [List.length_map, List.take_length]
          generalize hns : rndX m es (lfX S ks) (lfX S ks) = ns at eG2
          have xi2 : XI m es S (ks ++ ns) := by rw [← hns]; exact xi.round asc.nodup
          refine ⟨.ref c, rfl, c, rfl, ⟨_, Same.tup s2 hc⟩, fun D nD => ?_⟩
          refine lc_tupI (K := K) (fun z => decide (z ∉ (ks ++ ns).map (·.1))) .int nD (Same.tup s2 hc) (fun _ => rfl) (fun o _ H' R s3 hR => ?_) (fun o _ _ H' R s3 hR => ⟨.int o, rfl, hR H' _ (Same.refl _) (.int o)⟩) only_int (by omega) (fun H3 ys s3 eD dy => ?_)
          · have hR' := hR H' (Same.refl _)
            refine ⟨.int o, rfl, .ref G, rfl, G, _, rfl, DGet.k (k := Sum.inl o) (s3 _ _ eG2), _, rfl, ?_⟩
            rcases tabP_val o (ks ++ ns) with ⟨h1, h2⟩ | ⟨v, h1, h2⟩
            · rw [h2]
              rw [decide_eq_true h1] at hR'
              exact hR'
            · rw [h2]
              rw [decide_eq_false fun z => z (List.mem_map.mpr ⟨_, h1, rfl⟩)] at hR'
              exact hR'
          rw [lst_ints dy] at eD
          refine ⟨D, _, rfl, .inl ⟨SqL.of eD, fun t nt => ?_⟩⟩
          have st := same_upd (o := .tup (((S.filter fun z => decide (z ∉ (ks ++ ns).map (·.1)))).map V.int)) nt
          by_cases e0 : ns = []
          · subst e0
            refine ⟨0, by rw [if_pos trivial]; omega, _, _, t, false, ks ++ [], rfl, (s2.trans s3).trans st, st _ _ (s3 _ _ eG2), SqT.of upd_same, xi2, ?_, fun _ => ?_, rfl⟩
            · rw [List.append_nil]
              exact pre
            · rw [List.append_nil]
              exact hns
          · have e1 : (!ns.isEmpty) = true := by
              cases ns with
              | nil => exact absurd rfl e0
              | cons _ _ => rfl
            have lt : (lfX S (ks ++ ns)).length < (lfX S ks).length := lfX_lt e0 fun p hp => by
              rw [← hns] at hp
              exact (mem_rndX hp).1
            refine ⟨(lfX S (ks ++ ns)).length + 1, by rw [if_pos trivial]; omega, _, _, t, true, ks ++ ns, by rw [e1]; rfl, (s2.trans s3).trans st, st _ _ (s3 _ _ eG2), SqT.of upd_same, xi2, fun kf hk => ?_, (fun h => nomatch h), by rw [if_pos rfl]⟩
            refine pre kf (.step (by rw [hns]; exact e0) ?_)
            rw [hns]
            exact hk
    · rintro σ H' Q1 Q2 hQ ⟨v, e, k, hk, h⟩
      exact ⟨v, e, k, hk, hQ _ _ h⟩
def spGreatestLock (K : PySem.W.Frag) : Sp := fun vs H Q _ => ∃ (x y : V) (m : Nat) (es : List (Int × Int)) (S : List Int), vs = [x, y] ∧ m ≤ 12 ∧ IsFor m es ∧ Dp K H x (forD m es) ∧ Dp K H y (intsD S) ∧ Asc S ∧ S.length ≤ 12 ∧
  ∀ (H' : Hp) (z : V) (G : List Int), Same H H' → IsGr m es S G → Dp K H' z (intsD G) → Q z H'
theorem ok_GreatestLock {f : Addr} {fd : FuncData} (F : Fun K "greatest_lock" "greatest_lock" sGreatestLock f fd) (m_tuple : mg "tuple" = none)
    (oExitsOf : Own P w K mg base "exits_of" 4 ["forest", "setting"] (spExitsOf K)) :
    FnOk P w K mg base CX0 5 f fd ["forest", "setting"] (spGreatestLock K) := by
  refine F.ok scGreatestLock (fun vs H Q E h => ?_) (fun cdv A outer s H vs Q E hr h => ?_)
  · obtain ⟨x, y, m, es, S, rfl, _⟩ := h
    rfl
  · obtain ⟨x, y, m, es, S, rfl, hm, isf, hx, hy, asc, lS, q⟩ := h
    obtain ⟨c, rfl, hc⟩ := Dp.intsI hy
    refine ⟨_, (pss_cons (ps_set (i := 2) scGreatestLock.nd rfl (.inr rfl) (pe_own oExitsOf (hr.mono (by decide)) (by rfl) (pa_cons (pv 0) (pa_cons (pv 1) pa_nil))))
    (pss_one (ps_ret (pe_callTy (tupleK K) (by rfl) m_tuple (by decide +kernel) (pa_cons (pe_lc (own := [("lamp", 3)]) (g := (gName 3)) rfl scGreatestLock.nd (piTK K (pv 1))
      (blkOk_by (own := [("lamp", 3)]) (N := nGreatestLock) (sc := (defScope sGreatestLock)) (by decide +kernel))
      (fun _ _ _ _ _ => (pg_name (i := 3) scGreatestLock.nd rfl (Or.inl rfl))) (fun _ _ _ _ _ => (pts_one (pt_cmp (pc_dnotin (hu_of hr) (pv 3) (pv 2)))))
      (fun _ _ _ _ _ => (pv 3))) pa_nil))))), ?_⟩
    refine ⟨x, rfl, .ref c, rfl, x, .ref c, m, es, S, rfl, hm, isf, hx, hy, asc, lS, fun H1 G ks s1 nG eG xf => ?_⟩
    have gr := xf.gr asc
    refine ⟨.ref c, rfl, c, rfl, ⟨_, Same.tup s1 hc⟩, fun D nD => ?_⟩
    refine lc_tupI (K := K) (fun z => decide (z ∉ ks.map (·.1))) .int nD (Same.tup s1 hc) (fun _ => rfl) (fun o _ H' R s3 hR => ?_) (fun o _ _ H' R s3 hR => ⟨.int o, rfl, hR H' _ (Same.refl _) (.int o)⟩) only_int (by omega) (fun H3 ys s3 eD dy => ?_)
    · have hR' := hR H' (Same.refl _)
      refine ⟨.int o, rfl, .ref G, rfl, G, _, rfl, DGet.k (k := Sum.inl o) (s3 _ _ eG), _, rfl, ?_⟩
      rcases tabP_val o ks with ⟨h1, h2⟩ | ⟨v, h1, h2⟩
      · rw [h2]
        rw [decide_eq_true h1] at hR'
        exact hR'
      · rw [h2]
        rw [decide_eq_false fun z => z (List.mem_map.mpr ⟨_, h1, rfl⟩)] at hR'
        exact hR'
    rw [lst_ints dy] at eD
    refine ⟨D, _, rfl, .inl ⟨SqL.of eD, fun t nt => ?_⟩⟩
    exact q _ _ (lfX S ks) ((s1.trans s3).trans (same_upd nt)) gr (Dp.ints (SqT.of upd_same))
end
end TL
namespace TL
open PySem PySem.Spec PyProof.Rows L2
section
variable {P : Program} {w : World} {K : PySem.W.Frag} {mg : Str → Option Value} {base : Heap}
/-! ### the program: the slides by which a lamp leaves -/
def spSlidesOut (K : PySem.W.Frag) (n : Nat) : Sp := fun vs H Q _ => ∃ (x y : V) (D : Addr) (m : Nat) (es : List (Int × Int)) (S : List Int) (ks : List (Int × Int)) (u : Int), vs = [x, y, .ref D, .int u] ∧ m ≤ 12 ∧ IsFor m es ∧ Dp K H x (forD m es) ∧ Dp K H y (intsD S) ∧ IsSet m es S ∧ H D = some (.dK (tabP ks)) ∧ Xf m es S [] ks ∧ u ∈ ks.map (·.1) ∧ (ks.map (·.1)).idxOf u < n ∧
  ∀ (H' : Hp) (L : Addr) (xs : List V), Same H H' → H L = none → H' L = some (.lst xs) → DpAll K H' xs ((outL m es S (exV ks) n u).map prD) → Q (.ref L) H'
theorem ok_SlidesOut {f : Addr} {fd : FuncData} {n : Nat} (F : Fun K "slides_out" "slides_out" sSlidesOut f fd) (oBlockingLamps : Own P w K mg base "blocking_lamps" 2 ["forest", "setting", "u", "v"] (spBlockingLamps K))
    (oSlidesOut : Own P w K mg base "slides_out" (n + 2) ["forest", "setting", "exits", "lamp"] (spSlidesOut K n)) :
    FnOk P w K mg base CX0 (n + 3) f fd ["forest", "setting", "exits", "lamp"] (spSlidesOut K (n + 1)) := by
  refine F.ok scSlidesOut (fun vs H Q E h => ?_) (fun cdv A outer s H vs Q E hr h => ?_)
  · obtain ⟨x, y, D, m, es, S, ks, u, rfl, _⟩ := h
    rfl
  · obtain ⟨x, y, D, m, es, S, ks, u, rfl, hm, isf, hx, hy, sS, eD, xf, hu, hrk, q⟩ := h
    have X := xf.xr sS.asc.nodup
    have lS := sS.len
    refine ⟨_, (pss_cons (ps_set (i := 4) scSlidesOut.nd rfl (.inl rfl) (pe_lst pa_nil))
    (pss_cons (ps_for PassesOwn.never rfl (piTK K (pe_own oBlockingLamps (hr.mono (by omega)) (by rfl) (pa_cons (pv 0) (pa_cons (pv 1) (pa_cons (pv 3) (pa_cons (pe_dget (hu_of hr) (pv 2) (pv 3) (fun _ _ => rfl)) pa_nil)))))) (pg_name (i := 5) scSlidesOut.nd rfl (Or.inl rfl))
    (pss_one (ps_expr (bmK K PySem.F.plainAttrs_list PySem.F.slot_list_extend PySem.F.type_list_extend mt_extend (pv 4) (pa_cons (pe_own oSlidesOut hr (by rfl) (pa_cons (pv 0) (pa_cons (pv 1) (pa_cons (pv 2) (pa_cons (pv 5) pa_nil))))) pa_nil)))))
    (pss_cons (ps_expr (bmK K PySem.F.plainAttrs_list PySem.F.slot_list_append PySem.F.type_list_append mt_append (pv 4) (pa_cons (pe_tup (pa_cons (pv 3) (pa_cons (pe_dget (hu_of hr) (pv 2) (pv 3) (fun _ _ => rfl)) pa_nil))) pa_nil)))
    (pss_one (ps_ret (pv 4)))))), ?_⟩
    refine ⟨Nat.zero_le _, fun L nL => ?_⟩
    have sL := same_upd (o := .lst []) nL
    have eL := same_at (o := .lst []) nL
    have eD1 := sL _ _ eD
    have hv := tabP_exV hu
    refine ⟨x, rfl, y, rfl, .int u, rfl, .ref D, rfl, .int u, rfl, D, _, rfl, by rw [← hv]; exact DGet.k (k := Sum.inl u) eD1, x, y, m, es, S, u, exV ks u, rfl, hm, isf, Dp.same sL hx, Dp.same sL hy, fun H2 r s2 dr => ?_⟩
    obtain ⟨c, rfl, hc⟩ := Dp.intsI dr
    have lo : (oth m es S u (exV ks u)).length ≤ m := Nat.le_trans (List.length_filter_le _ _) (nearL_len m es _)
    have key : ∀ o ∈ oth m es S u (exV ks u), o ∈ ks.map (·.1) ∧ (ks.map (·.1)).idxOf o < n := fun o ho => by
      obtain ⟨h1, h2⟩ := X.less u hu o ho
      exact ⟨h1, by omega⟩
    have s02 := sL.trans s2
    refine ⟨c, rfl, ⟨_, hc⟩, for_tup (K := K) (a := c) (xs := (oth m es S u (exV ks u)).map V.int) (fun i σ H' => ∃ (y5 : Option V) (xs : List V), σ = [some x, some y, some (.ref D), some (.int u), some (.ref L), y5] ∧ Same H H' ∧ SqT K H' c ((oth m es S u (exV ks u)).map V.int) ∧ H' L = some (.lst xs) ∧ DpAll K H' xs ((((oth m es S u (exV ks u)).take i).flatMap (outL m es S (exV ks) n)).map prD) ∧ xs.length ≤ 12 * i) ?_ ?_ ?_ ?_⟩
    · exact ⟨_, [], rfl, s02, hc, s2 _ _ eL, .nil, Nat.zero_le _⟩
    · rintro i σ H' _ ⟨y5, xs, rfl, _, h, _⟩
      exact h
    · rintro i v σ H3 hv3 ⟨y5, xs, rfl, s3, hc3, eL3, dA, lx⟩
      rw [List.getElem?_map] at hv3
      obtain ⟨o, ho, rfl⟩ := Option.map_eq_some_iff.mp hv3
      obtain ⟨k1, k2⟩ := key o (List.mem_of_getElem? ho)
      have iL : i < (oth m es S u (exV ks u)).length := (List.getElem?_eq_some_iff.mp ho).1
      have tk : (oth m es S u (exV ks u)).take (i + 1) = (oth m es S u (exV ks u)).take i ++ [o] := by rw [List.take_add_one, ho]; rfl
      refine ⟨.ref L, rfl, .inl ⟨rfl, _, SqL.of eL3⟩, x, rfl, y, rfl, .ref D, rfl, .int o, rfl, x, y, D, m, es, S, ks, o, rfl, hm, isf, Dp.same s3 hx, Dp.same s3 hy, sS, s3 _ _ eD, xf, k1, k2, fun H4 B zs s4 nB eB dB => ?_⟩
      have lz := DpAll.length dB
      rw [List.length_map] at lz
      have lz2 := outL_len isf sS X (n := n) k1 k2
      have eL4 := s4 _ _ eL3
      have kt : KT K H4 (upd H4 L (.lst (xs ++ zs))) := kt_lst eL4
      refine ⟨L, B, xs, zs, rfl, rfl, eL4, eB, Nat.le_of_lt (small1000 (by omega)), _, xs ++ zs, rfl, fun b o eb => ?_, kt _ _ (Same.tup s4 hc3), upd_same, ?_, by rw [List.length_append]; omega⟩
      · rw [upd_ne (ne_of_none eb nL)]
        exact s4 _ _ (s3 _ _ eb)
      · rw [tk, List.flatMap_append, List.flatMap_singleton, List.map_append]
        exact DpAll.append (DpAll.kt kt (DpAll.same s4 dA) (only_prs _)) (DpAll.kt kt dB (only_prs _))
    · rintro σ H3 ⟨y5, xs, rfl, s3, hc3, eL3, dA, lx⟩
      rw [List.length_map, List.take_length] at dA
      rw [List.length_map] at lx
      refine ⟨.ref L, rfl, .inl ⟨rfl, _, SqL.of eL3⟩, .int u, rfl, .ref D, rfl, .int u, rfl, D, _, rfl, by rw [← hv]; exact DGet.k (k := Sum.inl u) (s3 _ _ eD), by show 2 ≤ sizeLine; decide, fun t nt => ?_⟩
      have st := same_upd (o := .tup [V.int u, V.int (exV ks u)]) nt
      have eL4 := st _ _ eL3
      have kt : KT K (upd H3 t (.tup [V.int u, V.int (exV ks u)])) (upd (upd H3 t (.tup [V.int u, V.int (exV ks u)])) L (.lst (xs ++ [V.ref t]))) := kt_lst eL4
      refine ⟨L, xs, .ref t, rfl, rfl, eL4, small1000 (by omega), ?_⟩
      refine ⟨.ref L, rfl, q _ L (xs ++ [V.ref t]) (fun b o eb => ?_) nL upd_same ?_⟩
      · rw [upd_ne (ne_of_none eb nL)]
        exact st _ _ (s3 _ _ eb)
      · have e : outL m es S (exV ks) (n + 1) u = (oth m es S u (exV ks u)).flatMap (outL m es S (exV ks) n) ++ [(u, exV ks u)] := rfl
        rw [e, List.map_append]
        exact DpAll.append (DpAll.kt kt (DpAll.same st dA) (only_prs _)) (.cons (Dp.kt kt (Dp.pr (SqT.of upd_same)) (only_pr _)) .nil)
theorem ok_SlidesOut0 {f : Addr} {fd : FuncData} (F : Fun K "slides_out" "slides_out" sSlidesOut f fd) : FnOk P w K mg base CX0 2 f fd ["forest", "setting", "exits", "lamp"] (spSlidesOut K 0) :=
  F.ok scSlidesOut (fun vs H Q E h => by
    obtain ⟨x, y, D, m, es, S, ks, u, _, _, _, _, _, _, _, _, _, h, _⟩ := h
    exact absurd h (Nat.not_lt_zero _)) (fun cdv A outer s H vs Q E hr h => by
    obtain ⟨x, y, D, m, es, S, ks, u, _, _, _, _, _, _, _, _, _, h, _⟩ := h
    exact absurd h (Nat.not_lt_zero _))
end
end TL
namespace TL
open PySem PySem.Spec PyProof.Rows L2
section
variable {P : Program} {w : World} {K : PySem.W.Frag} {mg : Str → Option Value} {base : Heap}
/-! ### certificates of lamps -/
theorem lcountIK (K : PySem.W.Frag) {X : Cx} (h : X.K = K := by rfl) : MtR X "list.count" (rCntI K) := h ▸ mt_lcount
def LampD (m : Nat) (es : List (Int × Int)) (S : List Int) (u : Int) (d : PyData) : Prop := ∃ (G : List Int) (ks : List (Int × Int)), IsGr m es S G ∧ Xf m es S [] ks ∧
  d = if u ∈ ks.map (·.1) then .tuple [.str (Str.ofString "moves"), prsD (outL m es S (exV ks) 13 u)] else .tuple [.str (Str.ofString "rigid"), intsD G]
theorem out_all {m : Nat} {es : List (Int × Int)} {S : List Int} {ks : List (Int × Int)} {u : Int} (f : IsFor m es) (sS : IsSet m es S) (l12 : S.length ≤ 12) (xf : Xf m es S [] ks) (hu : u ∈ ks.map (·.1)) :
    ∃ A v T, outL m es S (exV ks) 13 u = A ++ [(u, v)] ∧ u ∉ A.map (·.1) ∧ walk m es S (A ++ [(u, v)]) = some T ∧ (A ++ [(u, v)]).length ≤ S.length := by
  have X := xf.xr sS.asc.nodup
  have n1 : ¬ (0 ≤ (-1 : Int) ∧ (-1 : Int) < m) := fun h => by omega
  have lone : ∀ w, ¬ Adj es (-1) w := fun w => far_out f n1 w
  obtain ⟨_, _, ⟨A, e, na⟩, h4⟩ := out_ok f sS X 13 u (-1) hu (xf.rank sS.asc.nodup l12 hu) (by have := sS.rng u (X.lamp u hu); omega) (by have := (near_rng f (X.near u hu)).1; omega) (fun z => n1 (sS.rng _ z)) (.inr lone)
  obtain ⟨T, w, _⟩ := h4 S sS (fun z => n1 (sS.rng _ z)) fun _ _ => Iff.rfl
  have l := outL_len f sS X (n := 13) hu (xf.rank sS.asc.nodup l12 hu)
  rw [e] at w l
  exact ⟨A, _, T, e, na, w, l⟩
theorem free_iff {m : Nat} {es : List (Int × Int)} {S G : List Int} {ks : List (Int × Int)} {u : Int} (sS : IsSet m es S) (g : IsGr m es S G) (xf : Xf m es S [] ks) (hu : u ∈ S) : u ∈ ks.map (·.1) ↔ u ∉ G := by
  have e := (xf.gr sS.asc).uniq g
  rw [← e, mem_lfX]
  exact ⟨fun h z => z.2 h, fun h => Classical.byContradiction fun n => h ⟨hu, n⟩⟩
/-! ### the certificate of a lamp: nothing is raised -/
def spCheckLamp0 (K : PySem.W.Frag) : Sp := fun vs H Q _ => ∃ (y : V) (S : List Int) (u : Int), vs = [y, .int u] ∧ Dp K H y (intsD S) ∧ u ∈ S ∧ Q .non H
theorem ok_CheckLamp0 {f : Addr} {fd : FuncData} (F : Fun K "check_lamp" "check_lamp" sCheckLamp f fd) (oIsNumber : Own P w K mg base "is_number" 1 ["value"] (spIsNumber K)) :
    FnOk P w K mg base CX0 2 f fd ["setting", "value"] (spCheckLamp0 K) := by
  refine F.ok scCheckLamp (fun vs H Q E h => ?_) (fun cdv A outer s H vs Q E hr h => ?_)
  · obtain ⟨y, S, u, rfl, _⟩ := h
    rfl
  · obtain ⟨y, S, u, rfl, hy, hu, q⟩ := h
    obtain ⟨b, rfl, hb⟩ := Dp.intsI hy
    refine ⟨_, (pss_one (ps_if (PW.pt (pw_or (pt_not (pt_val (pe_own oIsNumber (hr.mono (by decide)) (by rfl) (pa_cons (pv 1) pa_nil)))) (pw_or1 (pt_cmpR (notInK K) (pv 1) (pv 0) (by rfl))))) (pss_one ps_never) pss_nil)), ?_⟩
    refine ⟨.int u, rfl, .int u, rfl, Kd.int u, true, rfl, ?_⟩
    refine iteF ⟨.int u, rfl, .ref b, rfl, b, S.map V.int, rfl, .inr hb, rfl, flat_ints S, _, rfl, ?_⟩
    show if (if true = true then !inV (V.int u) (S.map V.int) else _) = true then _ else _
    rw [if_pos rfl, inV_ints, decide_eq_true hu]
    exact iteF q
def spLampCertificate0 (K : PySem.W.Frag) : Sp := fun vs H Q _ => ∃ (x y : V) (m : Nat) (es : List (Int × Int)) (S : List Int) (u : Int), vs = [x, y, .int u] ∧ m ≤ 12 ∧ IsFor m es ∧ Dp K H x (forD m es) ∧ Dp K H y (intsD S) ∧ IsSet m es S ∧ u ∈ S ∧
  ∀ (H' : Hp) (r : V) (d : PyData), Same H H' → LampD m es S u d → Dp K H' r d → Q r H'
theorem ok_LampCertificate0 {f : Addr} {fd : FuncData} (F : Fun K "lamp_certificate" "lamp_certificate" sLampCertificate f fd) (m_tuple : mg "tuple" = none)
    (oCheckLamp : Own P w K mg base "check_lamp" 2 ["setting", "value"] (spCheckLamp0 K)) (oExitsOf : Own P w K mg base "exits_of" 4 ["forest", "setting"] (spExitsOf K)) (oSlidesOut : Own P w K mg base "slides_out" 15 ["forest", "setting", "exits", "lamp"] (spSlidesOut K 13))
    (oGreatestLock : Own P w K mg base "greatest_lock" 5 ["forest", "setting"] (spGreatestLock K)) :
    FnOk P w K mg base CX0 16 f fd ["forest", "setting", "lamp"] (spLampCertificate0 K) := by
  refine F.ok scLampCertificate (fun vs H Q E h => ?_) (fun cdv A outer s H vs Q E hr h => ?_)
  · obtain ⟨x, y, m, es, S, u, rfl, _⟩ := h
    rfl
  · obtain ⟨x, y, m, es, S, u, rfl, hm, f, hx, hy, sS, hu, q⟩ := h
    have lS := sS.len
    refine ⟨_, (pss_cons (ps_expr (pe_own oCheckLamp (hr.mono (by decide)) (by rfl) (pa_cons (pv 1) (pa_cons (pv 2) pa_nil))))
    (pss_cons (ps_set (i := 3) scLampCertificate.nd rfl (.inl rfl) (pe_own oExitsOf (hr.mono (by decide)) (by rfl) (pa_cons (pv 0) (pa_cons (pv 1) pa_nil))))
    (pss_cons (ps_if (pt_cmp (pc_din (hu_of hr) (pv 2) (pv 3))) (pss_one (ps_ret (pe_tup (pa_cons pe_str (pa_cons (pe_callTy (tupleK K) (by rfl) m_tuple (by decide +kernel) (pa_cons (pe_own oSlidesOut (hr.mono (by decide)) (by rfl) (pa_cons (pv 0) (pa_cons (pv 1) (pa_cons (pv 3) (pa_cons (pv 2) pa_nil))))) pa_nil)) pa_nil))))) pss_nil)
    (pss_one (ps_ret (pe_tup (pa_cons pe_str (pa_cons (pe_own oGreatestLock (hr.mono (by decide)) (by rfl) (pa_cons (pv 0) (pa_cons (pv 1) pa_nil))) pa_nil)))))))), ?_⟩
    refine ⟨y, rfl, .int u, rfl, y, S, u, rfl, hy, hu, ?_⟩
    refine ⟨x, rfl, y, rfl, x, y, m, es, S, rfl, hm, f, hx, hy, sS.asc, by omega, fun H1 D ks s1 nD eD xf => ?_⟩
    obtain ⟨G, gS⟩ := gr_ex (m := m) (es := es) (S := S) sS.asc
    refine ⟨.int u, rfl, .ref D, rfl, D, _, rfl, DGet.k (k := Sum.inl u) eD, _, rfl, ?_⟩
    rcases tabP_val u ks with ⟨h1, h2⟩ | ⟨v, h1, h2⟩
    · rw [h2]
      refine iteF ⟨x, rfl, y, rfl, x, y, m, es, S, rfl, hm, f, Dp.same s1 hx, Dp.same s1 hy, sS.asc, by omega, fun H2 z G s2 gS dG => ?_⟩
      refine ⟨by show 2 ≤ sizeLine; decide, fun t nt => ?_⟩
      have st := same_upd (o := .tup [V.str (Str.ofString "rigid"), z]) nt
      exact q _ _ _ ((s1.trans s2).trans st) ⟨G, ks, gS, xf, rfl⟩ (by rw [if_neg h1]; exact .tup (SqT.of upd_same) (.cons (.str _) (.cons (Dp.same st dG) .nil)))
    · rw [h2]
      have hin : u ∈ ks.map (·.1) := List.mem_map.mpr ⟨_, h1, rfl⟩
      refine iteT ⟨x, rfl, y, rfl, .ref D, rfl, .int u, rfl, x, y, D, m, es, S, ks, u, rfl, hm, f, Dp.same s1 hx, Dp.same s1 hy, sS, eD, xf, hin, xf.rank sS.asc.nodup (by omega) hin, fun H2 L xs s2 nL eL dL => ?_⟩
      refine ⟨L, _, rfl, .inl ⟨SqL.of eL, fun t nt => ?_⟩⟩
      have st := same_upd (o := .tup xs) nt
      have et := same_at (o := .tup xs) nt
      generalize upd H2 t _ = H3 at st et ⊢
      refine ⟨by show 2 ≤ sizeLine; decide, fun t2 nt2 => ?_⟩
      have st2 := same_upd (o := .tup [V.str (Str.ofString "moves"), .ref t]) nt2
      refine q _ _ _ (((s1.trans s2).trans st).trans st2) ⟨G, ks, gS, xf, rfl⟩ ?_
      rw [if_pos hin]
      exact .tup (SqT.of upd_same) (.cons (.str _) (.cons (.tup (SqT.of (st2 _ _ et)) (DpAll.same (st.trans st2) dL)) .nil))
end
end TL
namespace TL
open PySem PySem.Spec PyProof.Rows L2
section
variable {P : Program} {w : World} {K : PySem.W.Frag} {mg : Str → Option Value} {base : Heap}
/-! ### a slide, or its error -/
theorem ok_NolampInit {f : Addr} {fd : FuncData} {C : Addr} (F : Fun K "__init__" "NoLamp.__init__" sNolampInit f fd) (T : IniC K C "value") :
    FnOk P w K mg base CX0 1 f fd ["self", "value"] (spInit C "value") := by
  refine F.ok scNolampInit (fun vs H Q E h => ?_) (fun cdv A outer s H vs Q E hr h => ?_)
  · obtain ⟨a, y, rfl, _⟩ := h
    rfl
  · obtain ⟨a, y, rfl, ea, q⟩ := h
    refine ⟨_, pss_one (ps_ost (pv 0) (pv 1)), ?_⟩
    exact ⟨y, rfl, .ref a, rfl, a, C, rfl, T.oex, T.nof, .inl ⟨ea, fun dx nd ne => q dx nd ne⟩⟩
theorem ok_NotadjacentInit {f : Addr} {fd : FuncData} {C : Addr} (F : Fun K "__init__" "NotAdjacent.__init__" sNotadjacentInit f fd) (T : IniC K C "value") :
    FnOk P w K mg base CX0 1 f fd ["self", "value"] (spInit C "value") := by
  refine F.ok scNotadjacentInit (fun vs H Q E h => ?_) (fun cdv A outer s H vs Q E hr h => ?_)
  · obtain ⟨a, y, rfl, _⟩ := h
    rfl
  · obtain ⟨a, y, rfl, ea, q⟩ := h
    refine ⟨_, pss_one (ps_ost (pv 0) (pv 1)), ?_⟩
    exact ⟨y, rfl, .ref a, rfl, a, C, rfl, T.oex, T.nof, .inl ⟨ea, fun dx nd ne => q dx nd ne⟩⟩
theorem ok_BlockedInit {f : Addr} {fd : FuncData} {C : Addr} (F : Fun K "__init__" "Blocked.__init__" sBlockedInit f fd) (T : IniC K C "vertex") :
    FnOk P w K mg base CX0 1 f fd ["self", "vertex"] (spInit C "vertex") := by
  refine F.ok scBlockedInit (fun vs H Q E h => ?_) (fun cdv A outer s H vs Q E hr h => ?_)
  · obtain ⟨a, y, rfl, _⟩ := h
    rfl
  · obtain ⟨a, y, rfl, ea, q⟩ := h
    refine ⟨_, pss_one (ps_ost (pv 0) (pv 1)), ?_⟩
    exact ⟨y, rfl, .ref a, rfl, a, C, rfl, T.oex, T.nof, .inl ⟨ea, fun dx nd ne => q dx nd ne⟩⟩
/-- the value is an int of the list -/
def isIn (S : List Int) : V → Bool
  | .int i => decide (i ∈ S)
  | _ => false
theorem isIn_int {S : List Int} {v : V} (h : isIn S v = true) : ∃ i : Int, v = .int i ∧ i ∈ S := by
  cases v with
  | int i => exact ⟨i, rfl, of_decide_eq_true h⟩
  | _ => cases h
def spCheckLamp (K : PySem.W.Frag) (cNL : Addr) : Sp := fun vs H Q E => ∃ (y : V) (S : List Int) (u : V), vs = [y, u] ∧ Dp K H y (intsD S) ∧ Kd K H u ∧ (isIn S u = true → Q .non H) ∧ (isIn S u = false → Fl E H cNL "value" u)
theorem ok_CheckLamp {f : Addr} {fd : FuncData} {cNoLamp : Addr} (F : Fun K "check_lamp" "check_lamp" sCheckLamp f fd) (eNoLamp : ErrC P w K mg base "NoLamp" "value" cNoLamp) (oIsNumber : Own P w K mg base "is_number" 1 ["value"] (spIsNumber K)) :
    FnOk P w K mg base (L2.CX P w) 3 f fd ["setting", "value"] (spCheckLamp K cNoLamp) := by
  refine F.okX scCheckLamp (fun vs H Q E h => ?_) (fun cdv A outer s H vs Q E hr h => ?_)
  · obtain ⟨y, S, u, rfl, _⟩ := h
    rfl
  · obtain ⟨y, S, u, rfl, hy, ku, q1, q2⟩ := h
    obtain ⟨b, rfl, hb⟩ := Dp.intsI hy
    refine ⟨_, (pss_one (ps_if (PW.pt (pw_or (pt_not (pt_val (pe_own oIsNumber (hr.mono (by decide)) (by rfl) (pa_cons (pv 1) pa_nil)))) (pw_or1 (pt_cmpR (notInK K) (pv 1) (pv 0) (by rfl))))) (pss_one (ps_err eNoLamp (hr.mono (by decide)) (takes_of rfl rfl rfl rfl) (by rfl) (pa_cons (pv 1) pa_nil))) pss_nil)), ?_⟩
    refine ⟨u, rfl, u, rfl, ku, isN u, rfl, ?_⟩
    cases u with
    | int u =>
      refine iteF ⟨.int u, rfl, .ref b, rfl, b, S.map V.int, rfl, .inr hb, rfl, flat_ints S, _, rfl, ?_⟩
      show if (if true = true then !inV (V.int u) (S.map V.int) else _) = true then _ else _
      rw [if_pos rfl, inV_ints]
      by_cases hu : u ∈ S
      · rw [decide_eq_true hu]
        exact iteF (q1 (decide_eq_true hu))
      · rw [decide_eq_false hu]
        exact iteT ⟨.int u, rfl, errI fun H' d s e => q2 (decide_eq_false hu) H' d s e⟩
    | _ => exact iteT (iteT ⟨_, rfl, errI fun H' d s e => q2 rfl H' d s e⟩)
def spSlideLamp (K : PySem.W.Frag) (cNL cNA cB : Addr) : Sp := fun vs H Q E => ∃ (x y : V) (m : Nat) (es : List (Int × Int)) (S : List Int) (u v : V), vs = [x, y, u, v] ∧ m ≤ 12 ∧ IsFor m es ∧ Dp K H x (forD m es) ∧ Dp K H y (intsD S) ∧ IsSet m es S ∧ Kd K H u ∧ Kd K H v ∧
  (isIn S u = false → Fl E H cNL "value" u) ∧ (∀ a : Int, u = .int a → a ∈ S → (isIn (nearL m es a) v = false → Fl E H cNA "value" v) ∧ ∀ b : Int, v = .int b → b ∈ nearL m es a →
    (∀ (w : Int) (l : List Int), oth m es S a b = w :: l → Fl E H cB "vertex" (.int w)) ∧ (oth m es S a b = [] → ∀ (H' : Hp) (z : V), Same H H' → Dp K H' z (intsD (after S a b)) → Q z H'))
theorem ok_SlideLamp {f : Addr} {fd : FuncData} {cNoLamp cNotAdjacent cBlocked : Addr} (F : Fun K "slide_lamp" "slide_lamp" sSlideLamp f fd) (m_tuple : mg "tuple" = none) (m_sorted : mg "sorted" = none) (eNotAdjacent : ErrC P w K mg base "NotAdjacent" "value" cNotAdjacent) (eBlocked : ErrC P w K mg base "Blocked" "vertex" cBlocked)
    (oIsNumber : Own P w K mg base "is_number" 1 ["value"] (spIsNumber K)) (xCheckLamp : OwnX P w K mg base "check_lamp" 3 ["setting", "value"] (spCheckLamp K cNoLamp)) (oNeighboursOf : Own P w K mg base "neighbours_of" 1 ["forest", "vertex"] (spNeighboursOf K))
    (oBlockingLamps : Own P w K mg base "blocking_lamps" 2 ["forest", "setting", "u", "v"] (spBlockingLamps K)) :
    FnOk P w K mg base (L2.CX P w) 4 f fd ["forest", "setting", "u", "v"] (spSlideLamp K cNoLamp cNotAdjacent cBlocked) := by
  refine F.okX scSlideLamp (fun vs H Q E h => ?_) (fun cdv A outer s H vs Q E hr h => ?_)
  · obtain ⟨x, y, m, es, S, u, v, rfl, _⟩ := h
    rfl
  · obtain ⟨x, y, m, es, S, u, v, rfl, hm, isf, hx, hy, iss, ku, kv, q1, q2⟩ := h
    obtain ⟨b, rfl, hb⟩ := Dp.intsI hy
    have ls := iss.len
    refine ⟨_, (pss_cons (ps_expr (pe_ownX xCheckLamp (hr.mono (by decide)) (takes_of rfl rfl rfl rfl) (by rfl) (pa_cons (pv 1) (pa_cons (pv 2) pa_nil))))
    (pss_cons (ps_if (PW.pt (pw_or (pt_not (pt_val (pe_own oIsNumber (hr.mono (by decide)) (by rfl) (pa_cons (pv 3) pa_nil)))) (pw_or1 (pt_cmpR (notInK K) (pv 3) (pe_own oNeighboursOf (hr.mono (by decide)) (by rfl) (pa_cons (pv 0) (pa_cons (pv 2) pa_nil))) (by rfl))))) (pss_one (ps_err eNotAdjacent (hr.mono (by decide)) (takes_of rfl rfl rfl rfl) (by rfl) (pa_cons (pv 3) pa_nil))) pss_nil)
    (pss_cons (ps_set (i := 4) scSlideLamp.nd rfl (.inl rfl) (pe_own oBlockingLamps (hr.mono (by decide)) (by rfl) (pa_cons (pv 0) (pa_cons (pv 1) (pa_cons (pv 2) (pa_cons (pv 3) pa_nil))))))
    (pss_cons (ps_if (truthK K (pv 4) (by intro _; rfl)) (pss_one (ps_err eBlocked (hr.mono (by decide)) (takes_of rfl rfl rfl rfl) (by rfl) (pa_cons (pe_ix (ixTK K) (pv 4) pe_int (fun _ _ => rfl)) pa_nil))) pss_nil)
    (pss_one (ps_ret (pe_callTy (tupleK K) (by rfl) m_tuple (by decide +kernel) (pa_cons (pe_callB (sortK K hr.units) (by rfl) m_sorted (by decide +kernel) (pa_cons (pe_lc (own := [("lamp", 5)]) (g := (gName 5)) (tt := tYes) rfl scSlideLamp.nd (piTK K (pv 1))
      (blkOk_by (own := [("lamp", 5)]) (N := nSlideLamp) (sc := (defScope sSlideLamp)) (by decide +kernel))
      (fun _ _ _ _ _ => (pg_name (i := 5) scSlideLamp.nd rfl (Or.inl rfl))) (fun _ _ _ _ _ => pts_nil)
      (fun _ _ _ _ _ => (pe_ifExp (pt_cmpR op_eq (pv 5) (pv 2) (nomark _)) (pv 3) (pv 5)))) pa_nil)) pa_nil)))))))), ?_⟩
    -- u
    refine ⟨.ref b, rfl, u, rfl, .ref b, S, u, rfl, hy, ku, fun hu => ?_, fun hu H' dd s e => q1 hu H' dd s e⟩
    obtain ⟨u, rfl, hu'⟩ := isIn_int hu
    have hu : u ∈ S := hu'
    obtain ⟨q3, q4⟩ := q2 u rfl hu
    -- v
    refine ⟨v, rfl, v, rfl, kv, isN v, rfl, ?_⟩
    cases v with
    | int v =>
      refine iteF ⟨.int v, rfl, x, rfl, .int u, rfl, x, m, es, u, rfl, hm, isf, hx, fun H1 n s1 dn => ?_⟩
      obtain ⟨a, rfl, ha⟩ := Dp.intsI dn
      refine ⟨a, _, rfl, .inr ha, rfl, flat_ints _, _, rfl, ?_⟩
      show if (if true = true then !inV (V.int v) ((nearL m es u).map V.int) else _) = true then _ else _
      rw [if_pos rfl, inV_ints]
      by_cases hv : v ∈ nearL m es u
      rotate_left
      · rw [decide_eq_false hv]
        exact iteT ⟨.int v, rfl, errI fun H' d s e => q3 (decide_eq_false hv) H' d (s1.trans s) e⟩
      rw [decide_eq_true hv]
      refine iteF ?_
      obtain ⟨q5, q6⟩ := q4 v rfl hv
      -- blocking
      refine ⟨x, rfl, .ref b, rfl, .int u, rfl, .int v, rfl, x, _, m, es, S, u, v, rfl, hm, isf, Dp.same s1 hx, Dp.same s1 hy, fun H2 z s2 dz => ?_⟩
      have s12 := s1.trans s2
      obtain ⟨c, rfl, hc⟩ := Dp.intsI dz
      cases ho : oth m es S u v with
      | cons w l =>
        rw [ho] at hc
        refine ⟨.ref c, rfl, true, .inr (.inl ⟨_, hc, rfl⟩), iteT ?_⟩
        exact ⟨.ref c, rfl, c, _, 0, .int w, rfl, rfl, hc, atI_nat (j := 0) rfl, errI fun H' d s e => q5 w l ho H' d (s12.trans s) e⟩
      | nil =>
        rw [ho] at hc
        refine ⟨.ref c, rfl, false, .inr (.inl ⟨_, hc, rfl⟩), iteF ?_⟩
        -- the setting
        refine ⟨.ref b, rfl, b, rfl, ⟨_, Same.tup s12 hb⟩, fun D nD => ?_⟩
        refine lc_tupI (K := K) (fun _ => true) (fun l => .int (if l = u then v else l)) nD (Same.tup s12 hb) (fun _ => rfl) (fun o _ H' R s3 hR => ?_) (fun o _ _ H' R s3 hR => ?_) (fun o => only_int _) (by omega) (fun H3 ys s3 eD dy => ?_)
        · exact hR H' (Same.refl _)
        · refine ⟨.int o, rfl, .int u, rfl, rfl, _, rfl, ?_⟩
          rw [dec_int]
          have h2 := hR H' (.int (if o = u then v else o)) (Same.refl _) (.int _)
          refine ite2 (fun h => ?_) (fun h => ?_)
          · rw [if_pos (of_decide_eq_true h)] at h2
            exact ⟨.int v, rfl, h2⟩
          · rw [if_neg fun z => h (decide_eq_true z)] at h2
            exact ⟨.int o, rfl, h2⟩
        have e1 : ys = (S.map fun l => if l = u then v else l).map V.int := DpAll.ints (by
          rw [List.map_map]
          have e : (S.filter fun _ => true) = S := List.filter_eq_self.mpr fun _ _ => rfl
          rw [e] at dy
          exact dy)
        subst e1
        refine sortInts (SqL.of eD) fun p np => ?_
        rw [after_eq iss.asc.nodup hu]
        have t1 := same_upd (o := .lst ((after S u v).map V.int)) np
        refine ⟨p, _, rfl, .inl ⟨SqL.of upd_same, fun t nt => ?_⟩⟩
        exact q6 ho _ _ (((s12.trans s3).trans t1).trans (same_upd nt)) (Dp.ints (SqT.of upd_same))
    | _ => exact iteT (iteT ⟨_, rfl, errI fun H' d s e => q3 rfl H' d s e⟩)
/-! ### the possible slides -/
def spPossibleSlides (K : PySem.W.Frag) : Sp := fun vs H Q _ => ∃ (x y : V) (m : Nat) (es : List (Int × Int)) (S : List Int), vs = [x, y] ∧ m ≤ 12 ∧ IsFor m es ∧ Dp K H x (forD m es) ∧ Dp K H y (intsD S) ∧
  IsSet m es S ∧ ∀ (H' : Hp) (z : V), Same H H' → Dp K H' z (prsD (slidesP m es S)) → Q z H'
theorem ok_PossibleSlides {f : Addr} {fd : FuncData} (F : Fun K "possible_slides" "possible_slides" sPossibleSlides f fd) (m_tuple : mg "tuple" = none)
    (oNeighboursOf : Own P w K mg base "neighbours_of" 1 ["forest", "vertex"] (spNeighboursOf K))
    (oBlockingLamps : Own P w K mg base "blocking_lamps" 2 ["forest", "setting", "u", "v"] (spBlockingLamps K)) :
    FnOk P w K mg base CX0 3 f fd ["forest", "setting"] (spPossibleSlides K) := by
  refine F.ok scPossibleSlides (fun vs H Q E h => ?_) (fun cdv A outer s H vs Q E hr h => ?_)
  · obtain ⟨x, y, m, es, S, rfl, _⟩ := h
    rfl
  · obtain ⟨x, y, m, es, S, rfl, hm, isf, hx, hy, iss, q⟩ := h
    obtain ⟨b, rfl, hb⟩ := Dp.intsI hy
    have ls := iss.len
    refine ⟨_, (pss_cons (ps_setLc2 (i := 2) (own := [("u", 3), ("v", 4)]) (vs1 := [4]) (g := (gName 3)) (g1 := (gName 4)) (tt := tYes) (tt1 := tYes) (by rfl) scPossibleSlides.nd rfl rfl (sw_true rfl rfl rfl (by decide +kernel)) (piTK K (pv 1))
      (blkOk_by (own := [("u", 3), ("v", 4)]) (N := nPossibleSlides) (sc := (defScope sPossibleSlides)) (by decide +kernel)) (by decide)
      (fun _ _ _ _ _ => (pg_name (i := 3) scPossibleSlides.nd rfl (Or.inl rfl)))
      (fun _ _ _ _ _ => pts_nil)
      (fun _ _ _ _ _ => (piTK K (pe_own oNeighboursOf (hr.mono (by decide)) (by rfl) (pa_cons (pv 0) (pa_cons (pv 3) pa_nil)))))
      (fun _ _ _ _ _ => (pg_name (i := 4) scPossibleSlides.nd rfl (Or.inl rfl)))
      (fun _ _ _ _ _ => pts_nil)
      (fun _ _ _ _ _ => (pe_tup (pa_cons (pv 3) (pa_cons (pv 4) pa_nil)))))
    (pss_one (ps_ret (pe_callTy (tupleK K) (by rfl) m_tuple (by decide +kernel) (pa_cons (pe_lc (own := [("u", 3), ("v", 4)]) (g := (gTup K 2 (gCons (gName 3) (gCons (gName 4) gNil)))) rfl scPossibleSlides.nd (piLK K (pv 2))
      (blkOk_by (own := [("u", 3), ("v", 4)]) (N := nPossibleSlides) (sc := (defScope sPossibleSlides)) (by decide +kernel))
      (fun _ _ _ _ _ => (pgTK K (pgs_cons (pg_name (i := 3) scPossibleSlides.nd rfl (Or.inl rfl)) (pgs_cons (pg_name (i := 4) scPossibleSlides.nd rfl (Or.inl rfl)) pgs_nil)))) (fun _ _ _ _ _ => (pts_one (pt_not (truthK K (pe_own oBlockingLamps (hr.mono (by decide)) (by rfl) (pa_cons (pv 0) (pa_cons (pv 1) (pa_cons (pv 3) (pa_cons (pv 4) pa_nil))))) (by intro _; rfl)))))
      (fun _ _ _ _ _ => (pe_tup (pa_cons (pv 3) (pa_cons (pv 4) pa_nil))))) pa_nil))))), ?_⟩
    refine ⟨.ref b, rfl, b, rfl, ⟨_, hb⟩, fun D nD => ?_⟩
    refine lc2_tup (K := K) (S := S) (nearL m es) (fun u v => prD (u, v)) nD hb (fun _ => rfl) (fun _ _ => rfl) (fun u _ H' R s1 hR => ?_) (fun u _ v _ H' R s1 hR => ?_) (fun u v => only_pr _) (by omega) (fun u _ => by have := nearL_len m es u; omega) (fun H2 ys s2 eD dy => ?_)
    · refine ⟨x, rfl, .int u, rfl, x, m, es, u, rfl, hm, isf, Dp.same s1 hx, fun H2 n s2 dn => ?_⟩
      obtain ⟨a, rfl, ha⟩ := Dp.intsI dn
      exact ⟨a, rfl, ⟨_, ha⟩, hR H2 a s2 ha⟩
    · refine ⟨.int u, rfl, .int v, rfl, by show 2 ≤ sizeLine; decide, fun t nt => hR _ _ (same_upd nt) (Dp.pr (SqT.of upd_same))⟩
    have e1 : (S.flatMap fun u => (nearL m es u).map fun v => prD (u, v)) = (stepsL m es S).map prD := by
      unfold stepsL
      rw [List.map_flatMap]
      congr 1
      funext u
      rw [List.map_map]
      rfl
    rw [e1] at dy
    have sl := steps_len m es S
    have sl2 : S.length * m ≤ 12 * 12 := Nat.mul_le_mul (by omega) hm
    refine ⟨.ref D, rfl, D, rfl, ⟨_, SqL.of eD⟩, fun C nC => ?_⟩
    refine lc_listP (K := K) (fun p => decide (oth m es S p.1 p.2 = [])) prD nC (SqL.of eD) dy (fun _ _ => rfl) (fun o _ H' R s3 hR => ?_) (fun o _ _ H' R s3 hR => ?_) only_pr (by omega) (fun H3 zs s3 eC dz => ?_)
    · have s23 := s2.trans s3
      refine ⟨x, rfl, .ref b, rfl, .int o.1, rfl, .int o.2, rfl, x, _, m, es, S, o.1, o.2, rfl, hm, isf, Dp.same s23 hx, Dp.same s23 hy, fun H4 z s4 dz => ?_⟩
      obtain ⟨c, rfl, hc⟩ := Dp.intsI dz
      refine ⟨_, .inr (.inl ⟨_, hc, rfl⟩), ?_⟩
      have h2 := hR H4 s4
      cases e : oth m es S o.1 o.2 with
      | nil =>
        rw [decide_eq_true e] at h2
        exact h2
      | cons z r =>
        rw [decide_eq_false (by rw [e]; exact fun z => nomatch z)] at h2
        exact h2
    · refine ⟨.int o.1, rfl, .int o.2, rfl, by show 2 ≤ sizeLine; decide, fun t nt => hR _ _ (same_upd nt) (Dp.pr (SqT.of upd_same))⟩
    refine ⟨C, zs, rfl, .inl ⟨SqL.of eC, fun t nt => ?_⟩⟩
    have st := same_upd (o := .tup zs) nt
    exact q _ _ ((s2.trans s3).trans st) (.tup (SqT.of upd_same) (DpAll.same st dz))
/-! ### slides of any kind followed -/
theorem ok_BadslidesInit {f : Addr} {fd : FuncData} {C : Addr} (F : Fun K "__init__" "BadSlides.__init__" sBadslidesInit f fd) (T : IniC K C "index") :
    FnOk P w K mg base CX0 1 f fd ["self", "index"] (spInit C "index") := by
  refine F.ok scBadslidesInit (fun vs H Q E h => ?_) (fun cdv A outer s H vs Q E hr h => ?_)
  · obtain ⟨a, y, rfl, _⟩ := h
    rfl
  · obtain ⟨a, y, rfl, ea, q⟩ := h
    refine ⟨_, pss_one (ps_ost (pv 0) (pv 1)), ?_⟩
    exact ⟨y, rfl, .ref a, rfl, a, C, rfl, T.oex, T.nof, .inl ⟨ea, fun dx nd ne => q dx nd ne⟩⟩
/-- how an item looks -/
inductive Iw (K : PySem.W.Frag) (H : Hp) : V → Option (V × V) → Prop
  | no {v : V} {t : Value} (h : TyX K H v t) (k : PySem.W.kitOne K t (.type "tuple") = some false) : Iw K H v none
  | len {a : Addr} {xs : List V} (h : SqT K H a xs) (l : xs.length ≠ 2) : Iw K H (.ref a) none
  | two {a : Addr} {u v : V} (h : SqT K H a [u, v]) (ku : Kd K H u) (kv : Kd K H v) : Iw K H (.ref a) (some (u, v))
theorem Iw.same {H H' : Hp} (s : Same H H') {v : V} {o : Option (V × V)} (h : Iw K H v o) : Iw K H' v o := by
  cases h with
  | no h k => exact .no (tyX_same s h) k
  | len h l => exact .len (Same.tup s h) l
  | two h ku kv => exact .two (Same.tup s h) (ku.same s) (kv.same s)
def prV : Option (V × V) → Option (Int × Int)
  | some (.int a, .int b) => some (a, b)
  | _ => none
theorem prV_some {o : Option (V × V)} {p : Int × Int} (h : prV o = some p) : o = some (.int p.1, .int p.2) := by
  unfold prV at h
  split at h
  · cases h; rfl
  · cases h
def posB (m : Nat) (es : List (Int × Int)) (S : List Int) (o : Option (V × V)) : Bool := match prV o with
  | some p => decide (p ∈ slidesP m es S)
  | none => false
theorem posB_true {m : Nat} {es : List (Int × Int)} {S : List Int} {o : Option (V × V)} (h : posB m es S o = true) : ∃ p : Int × Int, o = some (.int p.1, .int p.2) ∧ p ∈ slidesP m es S := by
  unfold posB at h
  split at h
  · rename_i p e
    exact ⟨p, prV_some e, of_decide_eq_true h⟩
  · cases h
def spIsPair (K : PySem.W.Frag) : Sp := fun vs H Q _ => ∃ (z : V) (o : Option (V × V)), vs = [z] ∧ Iw K H z o ∧ Q (.bl o.isSome) H
theorem ok_IsPair {f : Addr} {fd : FuncData} {k : Nat} (F : Fun K "is_pair" "is_pair" sIsPair f fd) (m_isinstance : mg "isinstance" = none) (m_tuple : mg "tuple" = none) (m_len : mg "len" = none) :
    FnOk P w K mg base CX0 (k + 1) f fd ["value"] (spIsPair K) := by
  refine F.ok scIsPair (fun vs H Q E h => ?_) (fun cdv A outer s H vs Q E hr h => ?_)
  · obtain ⟨z, o, rfl, _⟩ := h
    rfl
  · obtain ⟨z, o, rfl, hz, q⟩ := h
    refine ⟨_, (pss_one (ps_ret (pe_and (pe_callB (isiK K) (by rfl) m_isinstance (by decide +kernel) (pa_cons (pv 0) (pa_cons (pe_bltn (v := .ty "tuple") (by rfl) m_tuple (by decide +kernel) rfl) pa_nil))) (pe_one (pe_cmpR op_eq (pe_callB (lenK K) (by rfl) m_len (by decide +kernel) (pa_cons (pv 0) pa_nil)) pe_int (nomark _)))))), ?_⟩
    cases hz with
    | no h k => exact ⟨z, rfl, _, _, _, _, false, rfl, .ty "tuple", h, k, false, rfl, iteF q⟩
    | @len a xs h l =>
      refine ⟨.ref a, rfl, _, _, _, _, true, rfl, .ty "tuple", ty_tup h, kit_ty (by decide +kernel), true, rfl, iteT ?_⟩
      refine ⟨.ref a, rfl, a, _, rfl, .inr h, rfl, ?_⟩
      rw [decide_eq_false (by intro z; exact l (by injection z with z; omega))]
      exact q
    | @two a u v h ku kv =>
      refine ⟨.ref a, rfl, _, _, _, _, true, rfl, .ty "tuple", ty_tup h, kit_ty (by decide +kernel), true, rfl, iteT ?_⟩
      exact ⟨.ref a, rfl, a, _, rfl, .inr h, rfl, q⟩
def spIsPossible (K : PySem.W.Frag) : Sp := fun vs H Q _ => ∃ (x y z : V) (m : Nat) (es : List (Int × Int)) (S : List Int) (o : Option (V × V)), vs = [x, y, z] ∧ m ≤ 12 ∧ IsFor m es ∧ Dp K H x (forD m es) ∧ Dp K H y (intsD S) ∧ IsSet m es S ∧ Iw K H z o ∧
  ∀ H', Same H H' → Q (.bl (posB m es S o)) H'
theorem ok_IsPossible {f : Addr} {fd : FuncData} (F : Fun K "is_possible" "is_possible" sIsPossible f fd) (oIsPair : Own P w K mg base "is_pair" 1 ["value"] (spIsPair K)) (oIsNumber : Own P w K mg base "is_number" 1 ["value"] (spIsNumber K))
    (oPossibleSlides : Own P w K mg base "possible_slides" 3 ["forest", "setting"] (spPossibleSlides K)) :
    FnOk P w K mg base CX0 4 f fd ["forest", "setting", "value"] (spIsPossible K) := by
  refine F.ok scIsPossible (fun vs H Q E h => ?_) (fun cdv A outer s H vs Q E hr h => ?_)
  · obtain ⟨x, y, z, m, es, S, o, rfl, _⟩ := h
    rfl
  · obtain ⟨x, y, z, m, es, S, o, rfl, hm, isf, hx, hy, iss, hz, q⟩ := h
    refine ⟨_, (pss_cons (ps_if (pt_not (pt_val (pe_own oIsPair (hr.mono (by decide)) (by rfl) (pa_cons (pv 2) pa_nil)))) (pss_one (ps_ret pe_bl)) pss_nil)
    (pss_cons (ps_asg (pv 2) (pgTK K (pgs_cons (pg_name (i := 3) scIsPossible.nd rfl (Or.inl rfl)) (pgs_cons (pg_name (i := 4) scIsPossible.nd rfl (Or.inl rfl)) pgs_nil))))
    (pss_one (ps_ret (pe_and (pe_own oIsNumber (hr.mono (by decide)) (by rfl) (pa_cons (pv 3) pa_nil)) (pe_and (pe_own oIsNumber (hr.mono (by decide)) (by rfl) (pa_cons (pv 4) pa_nil)) (pe_one (pe_cmpR (inDK K hr.units) (pv 2) (pe_own oPossibleSlides (hr.mono (by decide)) (by rfl) (pa_cons (pv 0) (pa_cons (pv 1) pa_nil))) (by rfl))))))))), ?_⟩
    refine ⟨z, rfl, z, o, rfl, hz, o.isSome, rfl, ?_⟩
    cases hz with
    | no h k => exact iteT (q H (Same.refl H))
    | len h l => exact iteT (q H (Same.refl H))
    | @two a u v h ku kv =>
      refine iteF ?_
      refine ⟨.ref a, rfl, a, _, rfl, h, rfl, _, _, rfl, _, _, rfl, rfl, ?_⟩
      refine ⟨u, rfl, u, rfl, ku, isN u, rfl, ?_⟩
      cases u with
      | int a1 =>
        refine iteT ⟨v, rfl, v, rfl, kv, isN v, rfl, ?_⟩
        cases v with
        | int b1 =>
          refine iteT ?_
          refine ⟨.ref a, rfl, x, rfl, y, rfl, x, y, m, es, S, rfl, hm, isf, hx, hy, iss, fun H' r s1 dr => ?_⟩
          refine ⟨prD (a1, b1), (slidesP m es S).map prD, Dp.same s1 (Dp.pr h), .inr dr, lay_prs _, lay_pr _, dep_pr _, ?_⟩
          have h2 : Q (.bl (decide ((a1, b1) ∈ slidesP m es S))) H' := q H' s1
          rw [← any_pr] at h2
          exact h2
        | _ => exact iteF (q H (Same.refl H))
      | _ => exact iteF (q H (Same.refl H))
/-- the slides followed: where they go wrong, or the setting at the end -/
def follB (m : Nat) (es : List (Int × Int)) : List Int → List (Option (V × V)) → Nat → V ⊕ List Int
  | S, [], _ => .inr S
  | S, o :: os, k => match prV o with
    | some p => if p ∈ slidesP m es S then follB m es (after S p.1 p.2) os (k + 1) else .inl (.int (k : Int))
    | none => .inl (.int (k : Int))
theorem follB_no {m : Nat} {es : List (Int × Int)} {S : List Int} {o : Option (V × V)} {os : List (Option (V × V))} {k : Nat} (h : posB m es S o = false) : follB m es S (o :: os) k = .inl (.int (k : Int)) := by
  unfold posB at h
  show (match prV o with | some p => if p ∈ slidesP m es S then follB m es (after S p.1 p.2) os (k + 1) else .inl (.int (k : Int)) | none => .inl (.int (k : Int))) = _
  cases e : prV o with
  | none => rfl
  | some p =>
    rw [e] at h
    exact if_neg (of_decide_eq_false h)
theorem follB_yes {m : Nat} {es : List (Int × Int)} {S : List Int} {p : Int × Int} {os : List (Option (V × V))} {k : Nat} (h : p ∈ slidesP m es S) : follB m es S (some (.int p.1, .int p.2) :: os) k = follB m es (after S p.1 p.2) os (k + 1) := if_pos h
/-- a list of items -/
inductive Iws (K : PySem.W.Frag) (H : Hp) : List V → List (Option (V × V)) → Prop
  | nil : Iws K H [] []
  | cons {v : V} {vs : List V} {o : Option (V × V)} {os : List (Option (V × V))} (h : Iw K H v o) (t : Iws K H vs os) : Iws K H (v :: vs) (o :: os)
theorem Iws.same {H H' : Hp} (s : Same H H') : ∀ {vs : List V} {os : List (Option (V × V))}, Iws K H vs os → Iws K H' vs os
  | _, _, .nil => .nil
  | _, _, .cons h t => .cons (h.same s) (t.same s)
theorem Iws.drop {H : Hp} : ∀ {vs : List V} {os : List (Option (V × V))} (i : Nat) {v : V}, Iws K H vs os → vs[i]? = some v → ∃ o, os.drop i = o :: os.drop (i + 1) ∧ Iw K H v o
  | _, _, i, _, .nil, h => by cases i <;> cases h
  | _, _, 0, _, .cons h t, e => by cases e; exact ⟨_, rfl, h⟩
  | _, _, i + 1, _, .cons h t, e => by
    obtain ⟨o, h1, h2⟩ := Iws.drop i t e
    exact ⟨o, h1, h2⟩
theorem Iws.len {H : Hp} : ∀ {vs : List V} {os : List (Option (V × V))}, Iws K H vs os → vs.length = os.length
  | _, _, .nil => rfl
  | _, _, .cons _ t => congrArg (· + 1) t.len
/-- how the slides look -/
inductive Sv (K : PySem.W.Frag) (H : Hp) : V → Option (List (Option (V × V))) → Prop
  | no {v : V} {t : Value} (h : TyX K H v t) (k : PySem.W.kitOne K t (.type "tuple") = some false) : Sv K H v none
  | yes {a : Addr} {xs : List V} {os : List (Option (V × V))} (h : SqT K H a xs) (i : Iws K H xs os) (l : xs.length ≤ 400) : Sv K H (.ref a) (some os)
theorem Sv.same {H H' : Hp} (s : Same H H') {v : V} {o : Option (List (Option (V × V)))} (h : Sv K H v o) : Sv K H' v o := by
  cases h with
  | no h k => exact .no (tyX_same s h) k
  | yes h i l => exact .yes (Same.tup s h) (i.same s) l
def follO (m : Nat) (es : List (Int × Int)) (S : List Int) : Option (List (Option (V × V))) → V ⊕ List Int
  | none => .inl .non
  | some os => follB m es S os 0
def spFollow (K : PySem.W.Frag) (cBS : Addr) : Sp := fun vs H Q E => ∃ (x y z : V) (m : Nat) (es : List (Int × Int)) (S : List Int) (so : Option (List (Option (V × V)))), vs = [x, y, z] ∧ m ≤ 12 ∧ IsFor m es ∧ Dp K H x (forD m es) ∧ Dp K H y (intsD S) ∧ IsSet m es S ∧ Sv K H z so ∧
  (∀ v, follO m es S so = .inl v → Fl E H cBS "index" v) ∧ (∀ T, follO m es S so = .inr T → IsSet m es T → ∀ (H' : Hp) (r : V), Same H H' → Dp K H' r (intsD T) → Q r H')
theorem ok_Follow {f : Addr} {fd : FuncData} {cNoLamp cNotAdjacent cBlocked cBadSlides : Addr} (F : Fun K "follow" "follow" sFollow f fd) (m_isinstance : mg "isinstance" = none) (m_tuple : mg "tuple" = none) (m_enumerate : mg "enumerate" = none) (eBadSlides : ErrC P w K mg base "BadSlides" "index" cBadSlides)
    (oIsPossible : Own P w K mg base "is_possible" 4 ["forest", "setting", "value"] (spIsPossible K)) (xSlideLamp : OwnX P w K mg base "slide_lamp" 4 ["forest", "setting", "u", "v"] (spSlideLamp K cNoLamp cNotAdjacent cBlocked)) :
    FnOk P w K mg base (L2.CX P w) 5 f fd ["forest", "setting", "slides"] (spFollow K cBadSlides) := by
  refine F.okX scFollow (fun vs H Q E h => ?_) (fun cdv A outer s H vs Q E hr h => ?_)
  · obtain ⟨x, y, z, m, es, S, so, rfl, _⟩ := h
    rfl
  · obtain ⟨x, y, z, m, es, S, so, rfl, hm, isf, hx, hy, iss, hz, q1, q2⟩ := h
    refine ⟨_, (pss_cons (ps_if (pt_not (pt_val (pe_callB (isiK K) (by rfl) m_isinstance (by decide +kernel) (pa_cons (pv 2) (pa_cons (pe_bltn (v := .ty "tuple") (by rfl) m_tuple (by decide +kernel) rfl) pa_nil))))) (pss_one (ps_err eBadSlides (hr.mono (by decide)) (takes_of rfl rfl rfl rfl) (by rfl) (pa_cons pe_non pa_nil))) pss_nil)
    (pss_cons (ps_set (i := 3) scFollow.nd rfl (.inl rfl) (pv 1))
    (pss_cons (ps_for (passes_of rfl) rfl (pi_enumT K (by rfl) m_enumerate (pa_cons (pv 2) pa_nil)) (pgTK K (pgs_cons (pg_name (i := 4) scFollow.nd rfl (Or.inl rfl)) (pgs_cons (pg_name (i := 5) scFollow.nd rfl (Or.inl rfl)) pgs_nil)))
    (pss_cons (ps_if (pt_not (pt_val (pe_own oIsPossible (hr.mono (by decide)) (by rfl) (pa_cons (pv 0) (pa_cons (pv 3) (pa_cons (pv 5) pa_nil)))))) (pss_one (ps_err eBadSlides (hr.mono (by decide)) (takes_of rfl rfl rfl rfl) (by rfl) (pa_cons (pv 4) pa_nil))) pss_nil)
    (pss_cons (ps_asg (pv 5) (pgTK K (pgs_cons (pg_name (i := 6) scFollow.nd rfl (Or.inl rfl)) (pgs_cons (pg_name (i := 7) scFollow.nd rfl (Or.inl rfl)) pgs_nil))))
    (pss_one (ps_set (i := 3) scFollow.nd rfl (.inl rfl) (pe_ownX xSlideLamp (hr.mono (by decide)) (takes_of rfl rfl rfl rfl) (by rfl) (pa_cons (pv 0) (pa_cons (pv 3) (pa_cons (pv 6) (pa_cons (pv 7) pa_nil))))))))))
    (pss_one (ps_ret (pv 3)))))), ?_⟩
    cases hz with
    | no h k => exact ⟨z, rfl, _, _, _, _, false, rfl, .ty "tuple", h, k, false, rfl, iteT (errI fun H' d s e => q1 _ rfl H' d s e)⟩
    | @yes a xs os ha hi lx =>
    refine ⟨.ref a, rfl, _, _, _, _, true, rfl, .ty "tuple", ty_tup ha, kit_ty (by decide +kernel), true, rfl, iteF ?_⟩
    refine ⟨y, rfl, .ref a, rfl, a, xs, rfl, ha, for_enumT (K := K) (a := a) (xs := xs) (fun i σ H' => ∃ (y4 y5 y6 y7 : Option V) (r : V) (R : List Int), σ = [some x, some y, some (.ref a), some r, y4, y5, y6, y7] ∧ Same H H' ∧
      Dp K H' r (intsD R) ∧ IsSet m es R ∧ follB m es S os 0 = follB m es R (os.drop i) i) ?_ ?_ ?_ ?_⟩
    · exact ⟨none, none, none, none, y, S, rfl, Same.refl _, hy, iss, rfl⟩
    · rintro i σ H' ⟨y4, y5, y6, y7, r, R, rfl, s1, _⟩
      exact Same.tup s1 ha
    · rintro i v t σ H1 hv nt ⟨y4, y5, y6, y7, r, R, rfl, s1, dr, isr, hwr⟩
      have st := same_upd (o := .tup [.int (i : Nat), v]) nt
      obtain ⟨o, ho, hio⟩ := hi.drop i hv
      rw [ho] at hwr
      have s2 := s1.trans st
      have hx2 := Dp.same s2 hx
      have dr2 := Dp.same st dr
      refine ⟨t, _, rfl, SqT.of upd_same, rfl, _, _, rfl, _, _, rfl, rfl, ?_⟩
      refine ⟨x, rfl, r, rfl, v, rfl, x, r, v, m, es, R, o, rfl, hm, isf, hx2, dr2, isr, hio.same s2, fun H2 s3 => ⟨posB m es R o, rfl, ?_⟩⟩
      cases hp : posB m es R o with
      | false =>
        rw [follB_no hp] at hwr
        exact iteT ⟨.int (i : Int), rfl, errI fun H' d s e => q1 _ hwr H' d ((s2.trans s3).trans s) e⟩
      | true =>
        refine iteF ?_
        obtain ⟨p, rfl, pin⟩ := posB_true hp
        rw [follB_yes pin] at hwr
        obtain ⟨b, rfl, hb⟩ : ∃ b, v = .ref b ∧ SqT K H b [.int p.1, .int p.2] := by
          cases hio with
          | two h _ _ => exact ⟨_, rfl, h⟩
        refine ⟨.ref b, rfl, b, _, rfl, Same.tup (s2.trans s3) hb, rfl, _, _, rfl, _, _, rfl, rfl, ?_⟩
        obtain ⟨hu, hv2, hoo⟩ := mem_slidesP.mp (show (p.1, p.2) ∈ slidesP m es R from pin)
        refine ⟨x, rfl, r, rfl, .int p.1, rfl, .int p.2, rfl, x, r, m, es, R, .int p.1, .int p.2, rfl, hm, isf, Dp.same s3 hx2, Dp.same s3 dr2, isr, Kd.int _, Kd.int _, fun z => ?_, fun a' ea ha' => ⟨fun z => ?_, fun b' eb hb' => ⟨fun w l z => ?_, fun _ H3 r' s4 dr' => ?_⟩⟩⟩
        · exact absurd z (by show ¬ decide (p.1 ∈ R) = false; rw [decide_eq_true hu]; decide)
        · cases ea
          exact absurd z (by show ¬ decide (p.2 ∈ nearL m es p.1) = false; rw [decide_eq_true hv2]; decide)
        · cases ea
          cases eb
          rw [hoo] at z
          cases z
        · cases ea
          cases eb
          exact ⟨_, _, _, _, r', after R p.1 p.2, rfl, (s2.trans s3).trans s4, dr', IsSet.slide isf isr pin, hwr⟩
    · rintro σ H1 ⟨y4, y5, y6, y7, r, R, rfl, s1, dr, isr, hwr⟩
      rw [hi.len, List.drop_length] at hwr
      exact ⟨r, rfl, q2 R hwr isr H1 r s1 dr⟩
end
end TL
namespace TL
open PySem PySem.Spec PyProof.Rows L2
section
variable {P : Program} {w : World} {K : PySem.W.Frag} {mg : Str → Option Value} {base : Heap}
theorem DpAll.boolsT {H : Hp} : ∀ {xs : List V} {bs : List Bool}, DpAll K H xs (bs.map .bool) → xs = bs.map V.bl
  | [], [], _ => rfl
  | _ :: _, b :: bs, .cons h a => by
    cases h
    rw [DpAll.boolsT a]
    rfl
theorem lock_iff {m : Nat} {es : List (Int × Int)} (f : IsFor m es) {T : List Int} : (∀ v ∈ rng m, ((nearL m es v).filter fun o => decide (o ∈ T)).length ≠ 1) ↔ Cl m es T := by
  constructor
  · intro h
    refine Cl.of fun x hx v hv => ?_
    have rv := (mem_nearL.mp hv).1
    have h1 := h v (mem_rng.mpr rv)
    have mx : x ∈ (nearL m es v).filter fun o => decide (o ∈ T) := List.mem_filter.mpr ⟨(mem_nearL_comm f).mp hv, decide_eq_true hx⟩
    have nd : ((nearL m es v).filter fun o => decide (o ∈ T)).Nodup := (nearL_asc m es v).nodup.filter _
    have mem : ∀ y, y ∈ (nearL m es v).filter (fun o => decide (o ∈ T)) → y ∈ nearL m es v ∧ y ∈ T := fun y hy => ⟨(List.mem_filter.mp hy).1, of_decide_eq_true (List.mem_filter.mp hy).2⟩
    generalize (nearL m es v).filter (fun o => decide (o ∈ T)) = F at h1 mx nd mem
    match F, h1, mx, nd, mem with
    | [], _, mx, _, _ => exact nomatch mx
    | [a], h1, _, _, _ => exact absurd rfl h1
    | a :: b :: r, _, mx, nd, mem =>
      have nab : a ≠ b := fun e => (List.nodup_cons.mp nd).1 (e ▸ List.mem_cons_self)
      by_cases e : a = x
      · obtain ⟨h2, h3⟩ := mem b (List.mem_cons_of_mem _ List.mem_cons_self)
        exact ⟨b, h3, fun z => nab (e.trans z.symm), h2⟩
      · obtain ⟨h2, h3⟩ := mem a List.mem_cons_self
        exact ⟨a, h3, e, h2⟩
  · intro h v hv h1
    obtain ⟨x, e⟩ := List.length_eq_one_iff.mp h1
    have mx : x ∈ (nearL m es v).filter fun o => decide (o ∈ T) := by rw [e]; exact List.mem_singleton.mpr rfl
    obtain ⟨h2, h3⟩ := List.mem_filter.mp mx
    obtain ⟨y, y1, y2, y3⟩ := h.other (of_decide_eq_true h3) ((mem_nearL_comm f).mp h2)
    have my : y ∈ (nearL m es v).filter fun o => decide (o ∈ T) := List.mem_filter.mpr ⟨y3, decide_eq_true y1⟩
    rw [e] at my
    exact y2 (List.mem_singleton.mp my)
/-! ### settings judged: values of any kind -/
def vx (m : Nat) : V → Bool
  | .int i => decide (0 ≤ i ∧ i < (m : Int))
  | _ => false
def spIsVertex (K : PySem.W.Frag) : Sp := fun vs H Q _ => ∃ (n : Nat) (v : V), vs = [.int (n : Int), v] ∧ Kd K H v ∧ Q (.bl (vx n v)) H
theorem ok_IsVertex {f : Addr} {fd : FuncData} (F : Fun K "is_vertex" "is_vertex" sIsVertex f fd) (oIsNumber : Own P w K mg base "is_number" 1 ["value"] (spIsNumber K)) :
    FnOk P w K mg base CX0 2 f fd ["n", "value"] (spIsVertex K) := by
  refine F.ok scIsVertex (fun vs H Q E h => ?_) (fun cdv A outer s H vs Q E hr h => ?_)
  · obtain ⟨n, v, rfl, _⟩ := h
    rfl
  · obtain ⟨n, v, rfl, kd, q⟩ := h
    refine ⟨_, (pss_one (ps_ret (pe_and (pe_own oIsNumber (hr.mono (by decide)) (by rfl) (pa_cons (pv 1) pa_nil)) (pe_one (pe_chain op_le op_lt pe_int (pv 1) (pv 0)))))), ?_⟩
    refine ⟨v, rfl, v, rfl, kd, isN v, rfl, ?_⟩
    cases v with
    | int v =>
      refine iteT ?_
      refine ⟨.int v, rfl, _, _, rfl, rfl, _, rfl, ite2 (fun h => ?_) (fun h => ?_)⟩
      · have h := of_decide_eq_true h
        refine ⟨.int n, rfl, _, _, rfl, rfl, ?_⟩
        have e : vx n (.int v) = decide (v < (n : Int)) := by
          show decide (0 ≤ v ∧ v < (n : Int)) = _
          by_cases h2 : v < (n : Int)
          · rw [decide_eq_true h2, decide_eq_true (show 0 ≤ v ∧ v < (n : Int) from ⟨h, h2⟩)]
          · rw [decide_eq_false h2, decide_eq_false (show ¬ (0 ≤ v ∧ v < (n : Int)) from fun z => h2 z.2)]
        rw [e] at q
        exact q
      · have h : ¬ 0 ≤ v := fun z => h (decide_eq_true z)
        have e : vx n (.int v) = false := decide_eq_false (show ¬ (0 ≤ v ∧ v < (n : Int)) from fun z => h z.1)
        rw [e] at q
        exact q
    | _ => exact iteF q
/-- an ascending tuple of vertices, from a least one on -/
def ascV (m : Nat) : Int → List V → Bool
  | _, [] => true
  | t, v :: r => match v with
    | .int i => decide (0 ≤ i ∧ i < (m : Int)) && (decide (t ≤ i) && ascV m (i + 1) r)
    | _ => false
theorem ascV_iff (m : Nat) : ∀ (xs : List V) (t : Int), ascV m t xs = true ↔ ∃ ns : List Int, xs = ns.map V.int ∧ Asc ns ∧ ∀ v ∈ ns, t ≤ v ∧ 0 ≤ v ∧ v < (m : Int)
  | [], t => ⟨fun _ => ⟨[], rfl, .nil, fun _ h => nomatch h⟩, fun _ => rfl⟩
  | v :: r, t => by
    constructor
    · intro h
      cases v with
      | int i =>
        have h : (decide (0 ≤ i ∧ i < (m : Int)) && (decide (t ≤ i) && ascV m (i + 1) r)) = true := h
        rw [Bool.and_eq_true, Bool.and_eq_true, decide_eq_true_iff, decide_eq_true_iff] at h
        obtain ⟨h1, h2, h3⟩ := h
        obtain ⟨ns, rfl, asc, hn⟩ := (ascV_iff m r (i + 1)).mp h3
        refine ⟨i :: ns, rfl, List.pairwise_cons.mpr ⟨fun b hb => by have := hn b hb; omega, asc⟩, fun v hv => ?_⟩
        rcases List.mem_cons.mp hv with rfl | hv
        · exact ⟨h2, h1⟩
        · have := hn v hv
          omega
      | _ => exact nomatch h
    · rintro ⟨ns, e, asc, hn⟩
      cases ns with
      | nil => cases e
      | cons i ns =>
        rw [List.map_cons] at e
        injection e with e1 e2
        subst e1 e2
        obtain ⟨p1, p2⟩ := List.pairwise_cons.mp asc
        have hi := hn i List.mem_cons_self
        show (decide (0 ≤ i ∧ i < (m : Int)) && (decide (t ≤ i) && ascV m (i + 1) (ns.map V.int))) = true
        rw [decide_eq_true hi.2, decide_eq_true hi.1, Bool.true_and, Bool.true_and]
        exact (ascV_iff m _ _).mpr ⟨ns, rfl, p2, fun v hv => ⟨by have := p1 v hv; omega, (hn v (List.mem_cons_of_mem _ hv)).2⟩⟩
/-- how a value looks: no tuple, or a tuple of such items -/
inductive Vw (K : PySem.W.Frag) (H : Hp) : V → Option (List V) → Prop
  | no {v : V} {t : Value} : TyX K H v t → PySem.W.kitOne K t (.type "tuple") = some false → Vw K H v none
  | yes {a : Addr} {xs : List V} : SqT K H a xs → (∀ y ∈ xs, Kd K H y) → xs.length ≤ 400 → Vw K H (.ref a) (some xs)
theorem Vw.same {H H' : Hp} (s : Same H H') {v : V} {o : Option (List V)} (h : Vw K H v o) : Vw K H' v o := by
  cases h with
  | no t k => exact .no (tyX_same s t) k
  | yes h k l => exact .yes (Same.tup s h) (fun y hy => (k y hy).same s) l
theorem Vw.ty {H : Hp} {v : V} {o : Option (List V)} (h : Vw K H v o) : ∃ t, TyX K H v t ∧ PySem.W.kitOne K t (.type "tuple") = some o.isSome := by
  cases h with
  | no t k => exact ⟨_, t, k⟩
  | yes h k l =>
    have h2 : PySem.W.kitOne K (.type "tuple") (.type "tuple") = some true := kit_ty (by decide +kernel)
    exact ⟨_, ty_tup h, h2⟩
def ascO (m : Nat) : Option (List V) → Bool
  | none => false
  | some xs => ascV m 0 xs
def setO (m : Nat) (es : List (Int × Int)) : Option (List V) → Bool
  | none => false
  | some xs => ascV m 0 xs && !(es.any fun p => inV (.int p.1) xs && inV (.int p.2) xs)
def spIsAscending (K : PySem.W.Frag) : Sp := fun vs H Q _ => ∃ (v : V) (m : Nat) (o : Option (List V)), vs = [.int (m : Int), v] ∧ Vw K H v o ∧ Q (.bl (ascO m o)) H
theorem ok_IsAscending {f : Addr} {fd : FuncData} (F : Fun K "is_ascending" "is_ascending" sIsAscending f fd) (m_isinstance : mg "isinstance" = none) (m_tuple : mg "tuple" = none) (oIsVertex : Own P w K mg base "is_vertex" 2 ["n", "value"] (spIsVertex K)) :
    FnOk P w K mg base CX0 3 f fd ["n", "value"] (spIsAscending K) := by
  refine F.ok scIsAscending (fun vs H Q E h => ?_) (fun cdv A outer s H vs Q E hr h => ?_)
  · obtain ⟨v, m, o, rfl, _⟩ := h
    rfl
  · obtain ⟨v, m, o, rfl, hv, q⟩ := h
    obtain ⟨t, ty, kt⟩ := hv.ty
    refine ⟨_, (pss_cons (ps_if (pt_not (pt_val (pe_callB (isiK K) (by rfl) m_isinstance (by decide +kernel) (pa_cons (pv 1) (pa_cons (pe_bltn (v := .ty "tuple") (by rfl) m_tuple (by decide +kernel) rfl) pa_nil))))) (pss_one (ps_ret pe_bl)) pss_nil)
    (pss_cons (ps_set (i := 2) scIsAscending.nd rfl (.inl rfl) pe_int)
    (pss_cons (ps_for PassesOwn.never rfl (piTK K (pv 1)) (pg_name (i := 3) scIsAscending.nd rfl (Or.inl rfl))
    (pss_cons (ps_if (PW.pt (pw_or (pt_not (pt_val (pe_own oIsVertex (hr.mono (by decide)) (by rfl) (pa_cons (pv 0) (pa_cons (pv 3) pa_nil))))) (pw_or1 (pt_cmpR op_lt (pv 3) (pv 2) (nomark _))))) (pss_one (ps_ret pe_bl)) pss_nil)
    (pss_one (ps_set (i := 2) scIsAscending.nd rfl (.inl rfl) (pe_op op_add (pv 3) pe_int)))))
    (pss_one (ps_ret pe_bl))))), ?_⟩
    refine ⟨v, rfl, _, _, _, _, o.isSome, rfl, .ty "tuple", ty, kt, o.isSome, rfl, ?_⟩
    cases hv with
    | no _ _ => exact iteT q
    | @yes a xs ha kd lx =>
    refine iteF ?_
    refine ⟨.ref a, rfl, a, rfl, ⟨_, ha⟩, for_tup (K := K) (a := a) (xs := xs) (fun i σ H' => ∃ (y3 : Option V) (t : Int), σ = [some (.int (m : Int)), some (.ref a), some (.int t), y3] ∧ H' = H ∧ ascV m 0 xs = ascV m t (xs.drop i)) ?_ ?_ ?_ ?_⟩
    · exact ⟨_, 0, rfl, rfl, rfl⟩
    · rintro i σ H' _ ⟨y3, t, rfl, rfl, _⟩
      exact ha
    · rintro i v σ H2 hv ⟨y3, t, rfl, rfl, ht⟩
      obtain ⟨hi, ez⟩ := List.getElem?_eq_some_iff.mp hv
      have ed : xs.drop i = v :: xs.drop (i + 1) := by rw [List.drop_eq_getElem_cons hi, ez]
      rw [ed] at ht
      have q' : ascV m 0 xs = false → Q (.bl false) H2 := fun e => by
        have := q
        show Q (.bl false) H2
        rw [← e]
        exact this
      refine ⟨.int (m : Int), rfl, v, rfl, m, v, rfl, kd v (List.mem_of_getElem? hv), vx m v, rfl, ?_⟩
      cases v with
      | int z =>
        have ht : ascV m 0 xs = (decide (0 ≤ z ∧ z < (m : Int)) && (decide (t ≤ z) && ascV m (z + 1) (xs.drop (i + 1)))) := ht
        show if (!decide (0 ≤ z ∧ z < (m : Int))) = true then _ else _
        by_cases hz : 0 ≤ z ∧ z < (m : Int)
        · rw [decide_eq_true hz] at ht ⊢
          refine iteF ⟨.int z, rfl, .int t, rfl, _, _, rfl, rfl, _, rfl, ?_⟩
          by_cases c : z < t
          · rw [decide_eq_true c]
            rw [decide_eq_false (show ¬ t ≤ z by omega)] at ht
            exact iteT (q' ht)
          · rw [decide_eq_false c]
            rw [decide_eq_true (show t ≤ z by omega)] at ht
            exact iteF ⟨.int z, rfl, _, _, rfl, rfl, _, z + 1, rfl, rfl, ht⟩
        · rw [decide_eq_false hz] at ht ⊢
          exact iteT (q' ht)
      | _ => exact iteT (q' ht)
    · rintro σ H2 ⟨y3, t, rfl, rfl, ht⟩
      rw [List.drop_length] at ht
      have : ascV m 0 xs = true := ht
      have q2 : Q (.bl (ascV m 0 xs)) H2 := q
      rw [this] at q2
      exact q2
def spIsSetting (K : PySem.W.Frag) : Sp := fun vs H Q _ => ∃ (x v : V) (m : Nat) (es : List (Int × Int)) (o : Option (List V)), vs = [x, v] ∧ m ≤ 12 ∧ IsFor m es ∧ Dp K H x (forD m es) ∧ Vw K H v o ∧ ∀ H', Same H H' → Q (.bl (setO m es o)) H'
theorem ok_IsSetting {f : Addr} {fd : FuncData} (F : Fun K "is_setting" "is_setting" sIsSetting f fd) (m_any : mg "any" = none) (oIsAscending : Own P w K mg base "is_ascending" 3 ["n", "value"] (spIsAscending K)) :
    FnOk P w K mg base CX0 4 f fd ["forest", "value"] (spIsSetting K) := by
  refine F.ok scIsSetting (fun vs H Q E h => ?_) (fun cdv A outer s H vs Q E hr h => ?_)
  · obtain ⟨x, v, m, es, o, rfl, _⟩ := h
    rfl
  · obtain ⟨x, v, m, es, o, rfl, hm, isf, hx, hv, q⟩ := h
    obtain ⟨a, b, xs, rfl, ha, hb, hA⟩ := Dp.forI hx
    have ec := isf.count
    refine ⟨_, (pss_cons (ps_asg (pv 0) (pgTK K (pgs_cons (pg_name (i := 2) scIsSetting.nd rfl (Or.inl rfl)) (pgs_cons (pg_name (i := 3) scIsSetting.nd rfl (Or.inl rfl)) pgs_nil))))
    (pss_cons (ps_if (pt_not (pt_val (pe_own oIsAscending (hr.mono (by decide)) (by rfl) (pa_cons (pv 2) (pa_cons (pv 1) pa_nil))))) (pss_one (ps_ret pe_bl)) pss_nil)
    (pss_one (ps_ret (pe_not (pe_callB (anyK K rfl) (by rfl) m_any (by decide +kernel) (pa_cons (pe_lc (own := [("a", 4), ("b", 5)]) (g := (gTup K 2 (gCons (gName 4) (gCons (gName 5) gNil)))) (tt := tYes) rfl scIsSetting.nd (piTK K (pv 3))
      (blkOk_by (own := [("a", 4), ("b", 5)]) (N := nIsSetting) (sc := (defScope sIsSetting)) (by decide +kernel))
      (fun _ _ _ _ _ => (pgTK K (pgs_cons (pg_name (i := 4) scIsSetting.nd rfl (Or.inl rfl)) (pgs_cons (pg_name (i := 5) scIsSetting.nd rfl (Or.inl rfl)) pgs_nil)))) (fun _ _ _ _ _ => pts_nil)
      (fun _ _ _ _ _ => (pe_and (pe_cmpR (inK K) (pv 4) (pv 1) (by rfl)) (pe_one (pe_cmpR (inK K) (pv 5) (pv 1) (by rfl)))))) pa_nil))))))), ?_⟩
    refine ⟨.ref a, rfl, a, _, rfl, ha, rfl, _, _, rfl, _, _, rfl, rfl, ?_⟩
    refine ⟨.int (m : Int), rfl, v, rfl, v, m, o, rfl, hv, ascO m o, rfl, ?_⟩
    cases hv with
    | no _ _ => exact iteT (q H (Same.refl H))
    | @yes c ys hc kd ly =>
    cases hs : ascV m 0 ys with
    | false =>
      have e : setO m es (some ys) = false := by
        show (ascV m 0 ys && _) = false
        rw [hs]
        rfl
      have q' := q H (Same.refl H)
      rw [e] at q'
      show if (!ascV m 0 ys) = true then _ else _
      rw [hs]
      exact iteT q'
    | true =>
      show if (!ascV m 0 ys) = true then _ else _
      rw [hs]
      refine iteF ?_
      obtain ⟨S, rfl, asc, rg⟩ := (ascV_iff m ys 0).mp hs
      refine ⟨.ref b, rfl, b, rfl, ⟨_, hb⟩, fun D nD => ?_⟩
      refine lc_tupP (K := K) (fun _ => true) (fun p => .bool (decide (p.1 ∈ S) && decide (p.2 ∈ S))) nD hb hA (fun _ _ => rfl) (fun o _ H' R s1 hR => hR H' (Same.refl _)) (fun o _ _ H' R s1 hR => ?_) (fun o => by simp [only]) (by omega) (fun H2 ys s2 eD dy => ?_)
      · have hR' := hR H' _ (Same.refl _) (.bl _)
        refine ⟨.int o.1, rfl, .ref c, rfl, c, S.map V.int, rfl, .inr (Same.tup s1 hc), rfl, flat_ints S, decide (o.1 ∈ S), ?_, ite2 (fun h => ?_) (fun h => ?_)⟩
        · show V.bl (if false = true then _ else inV (V.int o.1) (S.map V.int)) = _
          rw [if_neg Bool.false_ne_true, inV_ints]
        · refine ⟨.int o.2, rfl, .ref c, rfl, c, S.map V.int, rfl, .inr (Same.tup s1 hc), rfl, flat_ints S, ?_⟩
          show R (.bl (if false = true then _ else inV (V.int o.2) (S.map V.int))) _
          rw [if_neg Bool.false_ne_true, inV_ints]
          rw [h, Bool.true_and] at hR'
          exact hR'
        · rw [Bool.eq_false_iff.mpr h, Bool.false_and] at hR'
          exact hR'
      rw [filt_true] at dy
      have e1 : ys = (es.map fun p => decide (p.1 ∈ S) && decide (p.2 ∈ S)).map V.bl := DpAll.boolsT (by rw [List.map_map]; exact dy)
      subst e1
      refine ⟨D, _, rfl, SqL.of eD, _, rfl, ?_⟩
      have e : setO m es (some (S.map V.int)) = !((es.map fun p => decide (p.1 ∈ S) && decide (p.2 ∈ S)).any id) := by
        show (ascV m 0 (S.map V.int) && !_) = _
        rw [hs, Bool.true_and, List.any_map]
        congr 1
        refine congrArg (fun g => es.any g) (funext fun p => ?_)
        rw [inV_ints, inV_ints]
        rfl
      have q' := q _ s2
      rw [e] at q'
      exact q'
/-! ### locks judged: values of any kind -/
theorem setO_iff {m : Nat} {es : List (Int × Int)} (f : IsFor m es) {xs : List V} : setO m es (some xs) = true ↔ ∃ T : List Int, xs = T.map V.int ∧ IsSet m es T := by
  show (ascV m 0 xs && !(es.any fun p => inV (.int p.1) xs && inV (.int p.2) xs)) = true ↔ _
  rw [Bool.and_eq_true, ascV_iff]
  constructor
  · rintro ⟨⟨T, rfl, asc, rg⟩, h⟩
    refine ⟨T, rfl, asc, fun v hv => (rg v hv).2, fun u hu v hv z => ?_⟩
    have rz := f.rng _ z
    rw [Bool.not_eq_true', List.any_eq_false] at h
    refine h _ z ?_
    have m1 : (ordP u v).1 ∈ T := by unfold ordP; split <;> assumption
    have m2 : (ordP u v).2 ∈ T := by unfold ordP; split <;> assumption
    rw [inV_ints, inV_ints, decide_eq_true m1, decide_eq_true m2]
    rfl
  · rintro ⟨T, rfl, iss⟩
    refine ⟨⟨T, rfl, iss.asc, fun v hv => ⟨(iss.rng v hv).1, iss.rng v hv⟩⟩, ?_⟩
    rw [Bool.not_eq_true', List.any_eq_false]
    intro p hp h
    rw [inV_ints, inV_ints] at h
    obtain ⟨h1, h2⟩ := Bool.and_eq_true_iff.mp h
    have rp := f.rng p hp
    have := iss.free p.1 (of_decide_eq_true h1) p.2 (of_decide_eq_true h2)
    rw [ordP_eq (by omega)] at this
    exact this hp
/-- a value that looks so is a lock -/
def LkO (m : Nat) (es : List (Int × Int)) (S : List Int) : Option (List V) → Prop
  | none => False
  | some xs => ∃ T : List Int, xs = T.map V.int ∧ Asc T ∧ (∀ v ∈ T, v ∈ S) ∧ Cl m es T
def spChosenNeighbours (K : PySem.W.Frag) : Sp := fun vs H Q _ => ∃ (x y : V) (m : Nat) (es : List (Int × Int)) (L : List Int) (v : Int), vs = [x, y, .int v] ∧ m ≤ 12 ∧ IsFor m es ∧ Dp K H x (forD m es) ∧ Dp K H y (intsD L) ∧
  ∀ (H' : Hp) (D : Addr), Same H H' → H' D = some (.lst (((nearL m es v).filter fun o => decide (o ∈ L)).map V.int)) → Q (.ref D) H'
theorem ok_ChosenNeighbours {f : Addr} {fd : FuncData} (F : Fun K "chosen_neighbours" "chosen_neighbours" sChosenNeighbours f fd) (oNeighboursOf : Own P w K mg base "neighbours_of" 1 ["forest", "vertex"] (spNeighboursOf K)) :
    FnOk P w K mg base CX0 2 f fd ["forest", "chosen", "vertex"] (spChosenNeighbours K) := by
  refine F.ok scChosenNeighbours (fun vs H Q E h => ?_) (fun cdv A outer s H vs Q E hr h => ?_)
  · obtain ⟨x, y, m, es, L, v, rfl, _⟩ := h
    rfl
  · obtain ⟨x, y, m, es, L, v, rfl, hm, isf, hx, hy, q⟩ := h
    obtain ⟨c, rfl, hc⟩ := Dp.intsI hy
    have nl := nearL_len m es v
    refine ⟨_, (pss_one (ps_ret (pe_lc (own := [("other", 3)]) (g := (gName 3)) rfl scChosenNeighbours.nd (piTK K (pe_own oNeighboursOf (hr.mono (by decide)) (by rfl) (pa_cons (pv 0) (pa_cons (pv 2) pa_nil))))
      (blkOk_by (own := [("other", 3)]) (N := nChosenNeighbours) (sc := (defScope sChosenNeighbours)) (by decide +kernel))
      (fun _ _ _ _ _ => (pg_name (i := 3) scChosenNeighbours.nd rfl (Or.inl rfl))) (fun _ _ _ _ _ => (pts_one (pt_cmpR (inK K) (pv 3) (pv 1) (by rfl))))
      (fun _ _ _ _ _ => (pv 3))))), ?_⟩
    refine ⟨x, rfl, .int v, rfl, x, m, es, v, rfl, hm, isf, hx, fun H1 n s1 dn => ?_⟩
    obtain ⟨a, rfl, ha⟩ := Dp.intsI dn
    refine ⟨a, rfl, ⟨_, ha⟩, fun D nD => ?_⟩
    refine lc_tupI (K := K) (fun o => decide (o ∈ L)) .int nD ha (fun _ => rfl) (fun o _ H' R s6 hR => ?_) (fun o _ _ H' R s6 hR => ⟨.int o, rfl, hR H' _ (Same.refl _) (.int o)⟩) only_int (by omega) (fun H4 ws s4 eC dw => ?_)
    · refine ⟨.int o, rfl, .ref c, rfl, c, L.map V.int, rfl, .inr (Same.tup (s1.trans s6) hc), rfl, flat_ints L, _, rfl, ?_⟩
      show R (if false = true then _ else inV (V.int o) (L.map V.int)) _
      rw [if_neg Bool.false_ne_true, inV_ints]
      exact hR _ (Same.refl _)
    rw [lst_ints dw] at eC
    exact q _ D (s1.trans s4) eC
def spIsLock (K : PySem.W.Frag) : Sp := fun vs H Q _ => ∃ (x y z : V) (m : Nat) (es : List (Int × Int)) (S : List Int) (o : Option (List V)), vs = [x, y, z] ∧ m ≤ 12 ∧ IsFor m es ∧ Dp K H x (forD m es) ∧ Dp K H y (intsD S) ∧ IsSet m es S ∧ Vw K H z o ∧
  ∀ (H' : Hp) (b : Bool), Same H H' → (b = true ↔ LkO m es S o) → Q (.bl b) H'
theorem ok_IsLock {f : Addr} {fd : FuncData} (F : Fun K "is_lock" "is_lock" sIsLock f fd) (m_any : mg "any" = none) (m_len : mg "len" = none) (m_range : mg "range" = none) (oIsSetting : Own P w K mg base "is_setting" 4 ["forest", "value"] (spIsSetting K))
    (oChosenNeighbours : Own P w K mg base "chosen_neighbours" 2 ["forest", "chosen", "vertex"] (spChosenNeighbours K)) :
    FnOk P w K mg base CX0 5 f fd ["forest", "setting", "value"] (spIsLock K) := by
  refine F.ok scIsLock (fun vs H Q E h => ?_) (fun cdv A outer s H vs Q E hr h => ?_)
  · obtain ⟨x, y, z, m, es, S, o, rfl, _⟩ := h
    rfl
  · obtain ⟨x, y, z, m, es, S, o, rfl, hm, isf, hx, hy, isS, hz, q⟩ := h
    obtain ⟨a, b, xs, rfl, ha, hb, hA⟩ := Dp.forI hx
    obtain ⟨c, rfl, hc⟩ := Dp.intsI hy
    refine ⟨_, (pss_cons (ps_if (pt_not (pt_val (pe_own oIsSetting (hr.mono (by decide)) (by rfl) (pa_cons (pv 0) (pa_cons (pv 2) pa_nil))))) (pss_one (ps_ret pe_bl)) pss_nil)
    (pss_cons (ps_if (pt_val (pe_callB (anyK K rfl) (by rfl) m_any (by decide +kernel) (pa_cons (pe_lc (own := [("vertex", 5)]) (g := (gName 5)) (tt := tYes) rfl scIsLock.nd (piTK K (pv 2))
      (blkOk_by (own := [("vertex", 5)]) (N := nIsLock) (sc := (defScope sIsLock)) (by decide +kernel))
      (fun _ _ _ _ _ => (pg_name (i := 5) scIsLock.nd rfl (Or.inl rfl))) (fun _ _ _ _ _ => pts_nil)
      (fun _ _ _ _ _ => (pe_cmpR (notInK K) (pv 5) (pv 1) (by rfl)))) pa_nil))) (pss_one (ps_ret pe_bl)) pss_nil)
    (pss_cons (ps_asg (pv 0) (pgTK K (pgs_cons (pg_name (i := 3) scIsLock.nd rfl (Or.inl rfl)) (pgs_cons (pg_name (i := 4) scIsLock.nd rfl (Or.inl rfl)) pgs_nil))))
    (pss_one (ps_ret (pe_not (pe_callB (anyK K rfl) (by rfl) m_any (by decide +kernel) (pa_cons (pe_lc (own := [("vertex", 5)]) (g := (gName 5)) (tt := tYes) rfl scIsLock.nd (pi_range1 (by rfl) m_range (pa_cons (pv 3) pa_nil))
      (blkOk_by (own := [("vertex", 5)]) (N := nIsLock) (sc := (defScope sIsLock)) (by decide +kernel))
      (fun _ _ _ _ _ => (pg_name (i := 5) scIsLock.nd rfl (Or.inl rfl))) (fun _ _ _ _ _ => pts_nil)
      (fun _ _ _ _ _ => (pe_cmpR op_eq (pe_callB (lenK K) (by rfl) m_len (by decide +kernel) (pa_cons (pe_own oChosenNeighbours (hr.mono (by decide)) (by rfl) (pa_cons (pv 0) (pa_cons (pv 2) (pa_cons (pv 5) pa_nil)))) pa_nil)) pe_int (nomark _)))) pa_nil)))))))), ?_⟩
    refine ⟨.ref a, rfl, z, rfl, .ref a, z, m, es, o, rfl, hm, isf, hx, hz, fun H1 s1 => ⟨_, rfl, ?_⟩⟩
    cases hso : setO m es o with
    | false =>
      refine iteT (q _ false s1 ⟨(fun z => nomatch z), fun lk => ?_⟩)
      cases o with
      | none => exact lk.elim
      | some zs =>
        obtain ⟨T, rfl, asc, sub, _⟩ := lk
        have : setO m es (some (T.map V.int)) = true := (setO_iff isf).mpr ⟨T, rfl, asc, fun v hv => isS.rng v (sub v hv), fun u hu v hv => isS.free u (sub u hu) v (sub v hv)⟩
        rw [this] at hso
        cases hso
    | true =>
    refine iteF ?_
    cases hz with
    | no _ _ => cases hso
    | @yes e zs he kd lz =>
    obtain ⟨T, rfl, iss⟩ := (setO_iff isf).mp hso
    have lT := iss.len
    refine ⟨.ref e, rfl, e, rfl, ⟨_, Same.tup s1 he⟩, fun D nD => ?_⟩
    refine lc_tupI (K := K) (fun _ => true) (fun o => .bool (!decide (o ∈ S))) nD (Same.tup s1 he) (fun _ => rfl) (fun o _ H' R s2 hR => hR H' (Same.refl _)) (fun o _ _ H' R s2 hR => ?_) (fun o => by simp [only]) (by omega) (fun H2 ys s2 eD dy => ?_)
    · refine ⟨.int o, rfl, .ref c, rfl, c, S.map V.int, rfl, .inr (Same.tup (s1.trans s2) hc), rfl, flat_ints S, ?_⟩
      show R (.bl (if true = true then !inV (V.int o) (S.map V.int) else _)) _
      rw [if_pos rfl, inV_ints]
      exact hR H' _ (Same.refl _) (.bl _)
    rw [filt_true] at dy
    have e1 : ys = (T.map fun o => !decide (o ∈ S)).map V.bl := DpAll.boolsT (by rw [List.map_map]; exact dy)
    subst e1
    have s12 := s1.trans s2
    refine ⟨D, _, rfl, SqL.of eD, _, rfl, ite2 (fun h => ?_) (fun h => ?_)⟩
    · refine q _ false s12 ⟨fun z => (nomatch z), fun z => ?_⟩
      obtain ⟨T', eT, asc, sub, _⟩ := z
      have eT : T = T' := List.map_inj_right (f := V.int) (fun _ _ h => by injection h) |>.mp eT
      subst eT
      rw [List.any_map, List.any_eq_true] at h
      obtain ⟨o, ho, h⟩ := h
      have h : (!decide (o ∈ S)) = true := h
      rw [decide_eq_true (sub o ho)] at h
      cases h
    · have sub : ∀ x ∈ T, x ∈ S := fun o ho => by
        by_cases hs : o ∈ S
        · exact hs
        · exact absurd (List.any_eq_true.mpr ⟨true, List.mem_map.mpr ⟨o, ho, by rw [decide_eq_false hs]; rfl⟩, rfl⟩) h
      refine ⟨.ref a, rfl, a, _, rfl, Same.tup s12 ha, rfl, _, _, rfl, _, _, rfl, rfl, ?_⟩
      refine ⟨.int (m : Int), rfl, (m : Int), rfl, by omega, by omega, fun C nC => ?_⟩
      rw [Int.toNat_natCast]
      refine lc_rng (K := K) (m := m) (fun _ => true) (fun v => .bool (decide (((nearL m es v).filter fun o => decide (o ∈ T)).length = 1))) nC (fun _ => rfl) (fun o _ H' R s3 hR => hR H' (Same.refl _)) (fun o _ _ H' R s3 hR => ?_) (fun o => by simp [only]) (by omega) (fun H3 ys s3 eC dy => ?_)
      · have s13 := s12.trans s3
        refine ⟨.ref a, rfl, .ref e, rfl, .int o, rfl, .ref a, .ref e, m, es, T, o, rfl, hm, isf, Dp.same s13 hx, Dp.ints (Same.tup s13 he), fun H4 N s4 eN => ?_⟩
        refine ⟨N, _, rfl, .inl (SqL.of eN), rfl, ?_⟩
        have hR' := hR H4 _ s4 (.bl _)
        rw [List.length_map, dec_int]
        rw [decide_eq_decide.mpr (show (((nearL m es o).filter fun o => decide (o ∈ T)).length : Int) = 1 ↔ ((nearL m es o).filter fun o => decide (o ∈ T)).length = 1 by omega)]
        exact hR'
      rw [filt_true] at dy
      have e2 : ys = ((rng m).map fun v => decide (((nearL m es v).filter fun o => decide (o ∈ T)).length = 1)).map V.bl := DpAll.boolsT (by rw [List.map_map]; exact dy)
      subst e2
      refine ⟨C, _, rfl, SqL.of eC, _, rfl, ?_⟩
      refine q _ _ (s12.trans s3) ?_
      rw [Bool.not_eq_true', List.any_map, List.any_eq_false]
      constructor
      · intro h
        exact ⟨T, rfl, iss.asc, sub, (lock_iff isf).mp fun v hv e => h v hv (decide_eq_true e)⟩
      · rintro ⟨T', eT, _, _, cl⟩ v hv e
        have eT : T = T' := List.map_inj_right (f := V.int) (fun _ _ h => by injection h) |>.mp eT
        subst eT
        exact (lock_iff isf).mpr cl v hv (of_decide_eq_true e)
end
end TL
namespace TL
open PySem PySem.Spec PyProof.Rows L2
section
variable {P : Program} {w : World} {K : PySem.W.Frag} {mg : Str → Option Value} {base : Heap}
/-! ### the law's own rigid lamps -/
theorem asc_full {a b : List Int} (ha : Asc a) (hb : Asc b) (s : ∀ x ∈ a, x ∈ b) (l : b.length ≤ a.length) : a = b := by
  refine asc_ext ha hb fun x => ⟨s x, fun hx => ?_⟩
  by_cases h : x ∈ a
  · exact h
  · exfalso
    have nd : (x :: a).Nodup := List.nodup_cons.mpr ⟨h, ha.nodup⟩
    have := nd.length_le_of_subset (l₂ := b) fun y hy => by
      rcases List.mem_cons.mp hy with rfl | hy
      · exact hx
      · exact s y hy
    rw [List.length_cons] at this
    omega
theorem asc_erase : ∀ {l : List Int} (k : Nat), Asc l → Asc (l.eraseIdx k) := fun k h => h.sublist (List.eraseIdx_sublist _ _)
theorem first_at {l : List Int} (nd : l.Nodup) {x : Int} (hx : x ∈ l) : ∃ j, l[j]? = some x ∧ (∀ i : Nat, i < j → l[i]? ≠ some x) ∧ j < l.length := by
  obtain ⟨j, hj⟩ := List.getElem?_of_mem hx
  obtain ⟨h1, h2⟩ := List.getElem?_eq_some_iff.mp hj
  refine ⟨j, hj, fun i hi z => ?_, h1⟩
  obtain ⟨h3, h4⟩ := List.getElem?_eq_some_iff.mp z
  have := (List.getElem_inj nd).mp (h4.trans h2.symm)
  omega
def spLRigid (K : PySem.W.Frag) : Sp := fun vs H Q _ => ∃ (x y : V) (m : Nat) (es : List (Int × Int)) (S : List Int), vs = [x, y] ∧ m ≤ 12 ∧ IsFor m es ∧ IsSet m es S ∧ Dp K H x (forD m es) ∧ Dp K H y (intsD S) ∧
  ∀ (H' : Hp) (z : V) (G : List Int), Same H H' → IsGr m es S G → Dp K H' z (intsD G) → Q z H'
theorem eqv_listsG (a b : List Int) : PyData.eqv (.list (a.map .int)) (.list (b.map .int)) = decide (a = b) := by
  have key : ∀ a b : List Int, PyData.eqvAll (a.map .int) (b.map .int) = decide (a = b) := by
    intro a
    induction a with
    | nil => intro b; cases b <;> simp [PyData.eqvAll]
    | cons x a ih =>
      intro b
      cases b with
      | nil => simp [PyData.eqvAll]
      | cons y b =>
        rw [List.map_cons, List.map_cons]
        simp only [PyData.eqvAll, PyData.eqv, ih]
        by_cases h1 : x = y
        · by_cases h2 : a = b
          · subst h1 h2; simp
          · simp [h1, h2]
        · simp [h1]
  simp only [PyData.eqv, key]
theorem ok_LRigid {f : Addr} {fd : FuncData} (F : Fun K "_law_rigid" "_law_rigid" sLRigid f fd) (m_len : mg "len" = none) (m_list : mg "list" = none) (m_tuple : mg "tuple" = none) (oLNear : Own P w K mg base "_law_near" 1 ["_law_forest_here", "_law_vertex"] (spLNear K)) :
    FnOk P w K mg base CX0 2 f fd ["_law_forest_here", "_law_setting_here"] (spLRigid K) := by
  refine F.ok scLRigid (fun vs H Q E h => ?_) (fun cdv A outer s H vs Q E hr h => ?_)
  · obtain ⟨x, y, m, es, S, rfl, _⟩ := h
    rfl
  · obtain ⟨x, y, m, es, S, rfl, hm, isf, iss, hx, hy, q⟩ := h
    obtain ⟨c, rfl, hc⟩ := Dp.intsI hy
    have lS := iss.len
    refine ⟨_, (pss_cons (ps_set (i := 2) scLRigid.nd rfl (.inr rfl) (pe_callTy (listK K) (by rfl) m_list (by decide +kernel) (pa_cons (pv 1) pa_nil)))
    (pss_cons (ps_set (i := 3) scLRigid.nd rfl (.inl rfl) (pe_op op_add (pe_callB (lenK K) (by rfl) m_len (by decide +kernel) (pa_cons (pv 2) pa_nil)) pe_int))
    (pss_cons (ps_while PassesOwn.never (pt_cmpR op_lt (pe_callB (lenK K) (by rfl) m_len (by decide +kernel) (pa_cons (pv 2) pa_nil)) (pv 3) (nomark _)) (pss_cons (ps_set (i := 3) scLRigid.nd rfl (.inl rfl) (pe_callB (lenK K) (by rfl) m_len (by decide +kernel) (pa_cons (pv 2) pa_nil)))
    (pss_one (ps_for PassesOwn.never rfl (piLK K (pe_callTy (listK K) (by rfl) m_list (by decide +kernel) (pa_cons (pv 2) pa_nil))) (pg_name (i := 4) scLRigid.nd rfl (Or.inl rfl))
    (pss_one (ps_for PassesOwn.never rfl (piLK K (pe_own oLNear (hr.mono (by decide)) (by rfl) (pa_cons (pv 0) (pa_cons (pv 4) pa_nil)))) (pg_name (i := 5) scLRigid.nd rfl (Or.inl rfl))
    (pss_cons (ps_setLc (i := 6) (own := [("_law_other", 7)]) (g := (gName 7)) (by rfl) scLRigid.nd rfl rfl (sw_true rfl rfl rfl (by decide +kernel)) (piLK K (pe_own oLNear (hr.mono (by decide)) (by rfl) (pa_cons (pv 0) (pa_cons (pv 5) pa_nil))))
      (blkOk_by (own := [("_law_other", 7)]) (N := nLRigid) (sc := (defScope sLRigid)) (by decide +kernel))
      (fun _ _ _ _ _ => (pg_name (i := 7) scLRigid.nd rfl (Or.inl rfl))) (fun _ _ _ _ _ => (pts_one (pt_cmpR (inK K) (pv 7) (pv 2) (by rfl))))
      (fun _ _ _ _ _ => (pv 7)))
    (pss_one (ps_if (pt_cmpR (eqDK K hr.units) (pv 6) (pe_lst (pa_cons (pv 4) pa_nil)) (nomark _)) (pss_one (ps_expr (bmK K PySem.F.plainAttrs_list PySem.F.slot_list_remove PySem.F.type_list_remove mt_remove (pv 2) (pa_cons (pv 4) pa_nil)))) pss_nil)))))))))
    (pss_one (ps_ret (pe_callTy (tupleK K) (by rfl) m_tuple (by decide +kernel) (pa_cons (pv 2) pa_nil))))))), ?_⟩
    refine ⟨.ref c, rfl, c, _, rfl, .inr hc, fun L nL => ?_⟩
    have sL := same_upd (o := .lst (S.map V.int)) nL
    have eL := same_at (o := .lst (S.map V.int)) nL
    generalize upd _ L (.lst (S.map V.int)) = H1 at sL eL ⊢
    refine ⟨.ref L, rfl, L, _, rfl, .inl (SqL.of eL), _, _, rfl, rfl, ?_⟩
    dsimp only [gName]
    rw [List.length_map]
    refine while_ms (fun t σ H' => ∃ (y4 y5 y6 : Option V) (ls : List Int) (n : Nat), σ = [some x, some (.ref c), some (.ref L), some (.int (n : Int)), y4, y5, y6, none] ∧ Same H H' ∧ H' L = some (.lst (ls.map V.int)) ∧ Asc ls ∧ (∀ u ∈ ls, u ∈ S) ∧ (∀ T : List Int, (∀ x ∈ T, x ∈ S) → Cl m es T → ∀ x ∈ T, x ∈ ls) ∧ ls.length ≤ n ∧ (ls.length = n → Cl m es ls) ∧ t = 2 * ls.length + (if ls.length < n then 1 else 0)) _
      ⟨_, _, _, S, S.length + 1, by rw [show ((S.length + 1 : Nat) : Int) = (S.length : Int) + 1 by omega]; rfl, sL, eL, iss.asc, fun _ h => h, (fun T hT _ x hx => hT x hx), by omega, fun h => absurd h (by omega), rfl⟩ ?_ ?_
    · rintro tt σ H2 ⟨y4, y5, y6, ls, n, rfl, s2, eL2, asc, sub, mx, le, cl, rfl⟩
      have lls : ls.length ≤ 12 := by
        have := asc.nodup.length_le_of_subset sub
        omega
      refine ⟨.ref L, rfl, L, _, rfl, .inl (SqL.of eL2), .int (n : Int), rfl, _, _, rfl, rfl, _, rfl, ?_⟩
      rw [List.length_map]
      by_cases hlt : ls.length < n
      · rw [decide_eq_true (show ((ls.length : Nat) : Int) < (n : Int) by omega), if_pos hlt]
        refine iteT ⟨.ref L, rfl, L, _, rfl, .inl (SqL.of eL2), ?_⟩
        dsimp only [gName]
        rw [List.length_map]
        refine ⟨.ref L, rfl, L, _, rfl, .inl (SqL.of eL2), fun B nB => ?_⟩
        have sB := same_upd (o := .lst (ls.map V.int)) nB
        have eB := same_at (o := .lst (ls.map V.int)) nB
        have eL3 := sB _ _ eL2
        have nLB : L ≠ B := ne_of_none eL2 nB
        generalize upd H2 B (.lst (ls.map V.int)) = H3 at sB eB eL3 ⊢
        have s03 := s2.trans sB
        -- one round: what has been removed or found fixed
        refine ⟨B, rfl, ⟨_, SqL.of eB⟩, for_list (K := K) (a := B) (xs := ls.map V.int) (fun i σ H' => ∃ (y4 y5 y6 : Option V) (rs : List Int), σ = [some x, some (.ref c), some (.ref L), some (.int (ls.length : Int)), y4, y5, y6, none] ∧ Same H H' ∧ H' L = some (.lst (rs.map V.int)) ∧ H' B = some (.lst (ls.map V.int)) ∧ Asc rs ∧ (∀ u ∈ rs, u ∈ ls) ∧ (∀ T : List Int, (∀ x ∈ T, x ∈ S) → Cl m es T → ∀ x ∈ T, x ∈ rs) ∧ (rs = ls → ∀ u ∈ ls.take i, ∀ v ∈ nearL m es u, oth m es ls u v ≠ [])) ?_ ?_ ?_ ?_⟩
        · exact ⟨_, _, _, ls, rfl, s03, eL3, eB, asc, fun _ h => h, mx, fun _ u hu => nomatch hu⟩
        · rintro i σ H' _ ⟨y4, y5, y6, rs, rfl, _, _, e, _⟩
          exact SqL.of e
        · rintro i z σ H4 hz ⟨y4, y5, y6, rs, rfl, s4, eL4, eB4, ascr, subr, mx, done⟩
          rw [List.getElem?_map] at hz
          obtain ⟨u, hu, rfl⟩ := Option.map_eq_some_iff.mp hz
          have mu : u ∈ ls := List.mem_of_getElem? hu
          have tk : ls.take (i + 1) = ls.take i ++ [u] := by rw [List.take_add_one, hu]; rfl
          refine ⟨x, rfl, .int u, rfl, x, m, es, u, rfl, by omega, isf, Dp.same s4 hx, fun H5 N s5 nN eN => ?_⟩
          have nBN : B ≠ N := ne_of_none eB4 nN
          have nLN : L ≠ N := ne_of_none eL4 nN
          refine ⟨N, rfl, ⟨_, SqL.of eN⟩, for_list (K := K) (a := N) (xs := (nearL m es u).map V.int) (fun j σ H' => ∃ (y5 y6 : Option V) (rs : List Int), σ = [some x, some (.ref c), some (.ref L), some (.int (ls.length : Int)), some (.int u), y5, y6, none] ∧ Same H H' ∧ H' L = some (.lst (rs.map V.int)) ∧ H' B = some (.lst (ls.map V.int)) ∧ H' N = some (.lst ((nearL m es u).map V.int)) ∧ Asc rs ∧ (∀ u ∈ rs, u ∈ ls) ∧ (∀ T : List Int, (∀ x ∈ T, x ∈ S) → Cl m es T → ∀ x ∈ T, x ∈ rs) ∧
            (rs = ls → (∀ u ∈ ls.take i, ∀ v ∈ nearL m es u, oth m es ls u v ≠ []) ∧ ∀ v ∈ (nearL m es u).take j, oth m es ls u v ≠ [])) ?_ ?_ ?_ ?_⟩
          · exact ⟨_, _, rs, rfl, s4.trans s5, s5 _ _ eL4, s5 _ _ eB4, eN, ascr, subr, mx, fun e => ⟨done e, fun v hv => nomatch hv⟩⟩
          · rintro j σ H' _ ⟨y5, y6, rs, rfl, _, _, _, e, _⟩
            exact SqL.of e
          · rintro j z σ H6 hz ⟨y5, y6, rs, rfl, s6, eL6, eB6, eN6, ascr, subr, mx, done⟩
            rw [List.getElem?_map] at hz
            obtain ⟨v, hv, rfl⟩ := Option.map_eq_some_iff.mp hz
            have mv : v ∈ nearL m es u := List.mem_of_getElem? hv
            have tkj : (nearL m es u).take (j + 1) = (nearL m es u).take j ++ [v] := by rw [List.take_add_one, hv]; rfl
            have nl := nearL_len m es v
            refine ⟨x, rfl, .int v, rfl, x, m, es, v, rfl, by omega, isf, Dp.same s6 hx, fun H7 M s7 nM eM => ?_⟩
            refine ⟨M, rfl, ⟨_, SqL.of eM⟩, fun C nC => ?_⟩
            refine lc_listI (K := K) (fun o => decide (o ∈ rs)) .int nC (SqL.of eM) (fun _ => rfl) (fun o _ H' R s8 hR => ?_) (fun o _ _ H' R s8 hR => ⟨.int o, rfl, hR H' _ (Same.refl _) (.int o)⟩) only_int (by omega) (fun H8 ws s8 eC dw => ?_)
            · refine ⟨.int o, rfl, .ref L, rfl, L, rs.map V.int, rfl, .inl (SqL.of (s8 _ _ (s7 _ _ eL6))), rfl, flat_ints rs, _, rfl, ?_⟩
              show R (if false = true then _ else inV (V.int o) (rs.map V.int)) _
              rw [if_neg Bool.false_ne_true, inV_ints]
              exact hR _ (Same.refl _)
            rw [lst_ints dw] at eC
            refine ⟨.ref C, rfl, .int u, rfl, by show 1 ≤ sizeLine; decide, fun p np => ?_⟩
            have sp := same_upd (o := .lst [V.int u]) np
            have s68 := (s7.trans s8).trans sp
            refine ⟨.list (((nearL m es v).filter fun o => decide (o ∈ rs)).map .int), .list ([u].map .int), .lst (SqL.of (sp _ _ eC)) (DpAll.of_ints _), .lst (SqL.of upd_same) (DpAll.of_ints [u]), shaped_ints _, shaped_ints [u], _, rfl, ?_⟩
            rw [eqv_listsG]
            have eL8 := s68 _ _ eL6
            have eB8 := s68 _ _ eB6
            have eN8 := s68 _ _ eN6
            have s08 := s6.trans s68
            generalize upd H8 p (.lst [V.int u]) = H9 at eL8 eB8 eN8 s08 ⊢
            by_cases hq : (nearL m es v).filter (fun o => decide (o ∈ rs)) = [u]
            · rw [decide_eq_true hq]
              have ur : u ∈ rs := by
                have : u ∈ (nearL m es v).filter (fun o => decide (o ∈ rs)) := by rw [hq]; exact List.mem_singleton.mpr rfl
                exact of_decide_eq_true (List.mem_filter.mp this).2
              obtain ⟨k, hk1, hk2, hk3⟩ := first_at ascr.nodup ur
              refine iteT ⟨.ref L, rfl, .inl ⟨rfl, _, SqL.of eL8⟩, .int u, rfl, L, rs, u, k, rfl, rfl, eL8, hk1, hk2, ?_⟩
              refine ⟨_, _, rs.eraseIdx k, rfl, fun h o eh => ?_, upd_same, by rw [upd_ne nLB.symm]; exact eB8, by rw [upd_ne nLN.symm]; exact eN8, asc_erase k ascr, fun w hw => subr w (List.mem_of_mem_eraseIdx hw), fun T hT cT g hg => ?_, fun e => ?_⟩
              · rw [upd_ne (ne_of_none eh nL)]
                exact s08 _ _ eh
              · have hzr := mx T hT cT g hg
                have ne : g ≠ u := fun ez => by
                  subst ez
                  obtain ⟨y, y1, y2, y3⟩ := cT.other hg mv
                  have : y ∈ (nearL m es v).filter (fun o => decide (o ∈ rs)) := List.mem_filter.mpr ⟨y3, decide_eq_true (mx T hT cT y y1)⟩
                  rw [hq] at this
                  exact y2 (List.mem_singleton.mp this)
                obtain ⟨i', hi'⟩ := List.getElem?_of_mem hzr
                refine List.mem_eraseIdx_iff_getElem?.mpr ⟨i', fun ei => ne ?_, hi'⟩
                rw [ei, hk1] at hi'
                exact (Option.some.inj hi').symm
              · exfalso
                have h1 := List.length_eraseIdx_of_lt hk3
                have h2 := ascr.nodup.length_le_of_subset subr
                rw [e] at h1
                omega
            · rw [decide_eq_false hq]
              refine iteF ⟨_, _, rs, rfl, s08, eL8, eB8, eN8, ascr, subr, mx, fun e => ⟨(done e).1, fun w hw => ?_⟩⟩
              rw [tkj] at hw
              rcases List.mem_append.mp hw with hw | hw
              · exact (done e).2 w hw
              · rw [List.mem_singleton.mp hw]
                subst e
                intro z
                refine hq ?_
                refine asc_ext ((nearL_asc m es v).filter _) (List.pairwise_singleton _ _) fun o => ?_
                rw [List.mem_filter, decide_eq_true_eq, List.mem_singleton]
                constructor
                · rintro ⟨h1, h2⟩
                  by_cases ho : o = u
                  · exact ho
                  · have : o ∈ oth m es rs u v := mem_oth.mpr ⟨h1, h2, ho⟩
                    rw [z] at this
                    cases this
                · rintro rfl
                  exact ⟨(mem_nearL_comm isf).mp mv, mu⟩
          · rintro σ H6 ⟨y5, y6, rs, rfl, s6, eL6, eB6, eN6, ascr, subr, mx, done⟩
            rw [List.length_map, List.take_length] at done
            refine ⟨_, _, _, rs, rfl, s6, eL6, eB6, ascr, subr, mx, fun e w hw => ?_⟩
            rw [tk] at hw
            rcases List.mem_append.mp hw with hw | hw
            · exact (done e).1 w hw
            · rw [List.mem_singleton.mp hw]
              exact (done e).2
        · rintro σ H4 ⟨y4, y5, y6, rs, rfl, s4, eL4, eB4, ascr, subr, mx, done⟩
          rw [List.length_map, List.take_length] at done
          have lr := ascr.nodup.length_le_of_subset subr
          refine ⟨_, ?_, _, _, _, rs, ls.length, rfl, s4, eL4, ascr, fun u hu => sub u (subr u hu), mx, lr, fun e => ?_, rfl⟩
          · split <;> omega
          · have er : rs = ls := asc_full ascr asc subr (by omega)
            rw [er]
            exact done er
      · rw [decide_eq_false (show ¬ ((ls.length : Nat) : Int) < (n : Int) by omega)]
        refine iteF ⟨.ref L, rfl, L, _, rfl, .inl ⟨SqL.of eL2, fun t nt => ?_⟩⟩
        exact q _ _ ls (s2.trans (same_upd nt)) ⟨asc, sub, cl (by omega), mx⟩ (Dp.ints (SqT.of upd_same))
    · rintro σ H' Q1 Q2 hQ ⟨v, e, l1, l2, h1, h2, v2, e2, i1, i2, h3, h4, k, hk, h5⟩
      exact ⟨v, e, l1, l2, h1, h2, v2, e2, i1, i2, h3, h4, k, hk, hQ _ _ h5⟩
end
end TL
namespace TL
open PySem PySem.Spec PyProof.Rows L2
section
variable {P : Program} {w : World} {K : PySem.W.Frag} {mg : Str → Option Value} {base : Heap}
theorem eqv_lists (a b : List Int) : PyData.eqv (.list (a.map .int)) (.list (b.map .int)) = decide (a = b) := by
  have key : ∀ a b : List Int, PyData.eqvAll (a.map .int) (b.map .int) = decide (a = b) := by
    intro a
    induction a with
    | nil => intro b; cases b <;> simp [PyData.eqvAll]
    | cons x a ih =>
      intro b
      cases b with
      | nil => simp [PyData.eqvAll]
      | cons y b =>
        rw [List.map_cons, List.map_cons]
        simp only [PyData.eqvAll, PyData.eqv, ih]
        by_cases h1 : x = y
        · by_cases h2 : a = b
          · subst h1 h2; simp
          · simp [h1, h2]
        · simp [h1]
  simp only [PyData.eqv, key]
theorem mem_adjfree {m : Nat} {es : List (Int × Int)} {S : List Int} {u v : Int} : (u, v) ∈ slidesP m es S ↔ u ∈ S ∧ v ∈ nearL m es u ∧ oth m es S u v = [] := mem_slidesP
def spLCanSlide (K : PySem.W.Frag) : Sp := fun vs H Q _ => ∃ (x y : V) (m : Nat) (es : List (Int × Int)) (S : List Int) (u v : Int), vs = [x, y, .int u, .int v] ∧ m ≤ 12 ∧ IsFor m es ∧ IsSet m es S ∧ Dp K H x (forD m es) ∧ Dp K H y (intsD S) ∧ ∀ H', Same H H' → Q (.bl (decide ((u, v) ∈ slidesP m es S))) H'
theorem ok_LCanSlide {f : Addr} {fd : FuncData} (F : Fun K "_law_can_slide" "_law_can_slide" sLCanSlide f fd) (oLNear : Own P w K mg base "_law_near" 1 ["_law_forest_here", "_law_vertex"] (spLNear K)) :
    FnOk P w K mg base CX0 2 f fd ["_law_forest_here", "_law_setting_here", "_law_u", "_law_v"] (spLCanSlide K) := by
  refine F.ok scLCanSlide (fun vs H Q E h => ?_) (fun cdv A outer s H vs Q E hr h => ?_)
  · obtain ⟨x, y, m, es, S, u, v, rfl, _⟩ := h
    rfl
  · obtain ⟨x, y, m, es, S, u, v, rfl, hm, isf, iss, hx, hy, q⟩ := h
    obtain ⟨c, rfl, hc⟩ := Dp.intsI hy
    have nl := nearL_len m es v
    have no : ¬ (u, v) ∈ slidesP m es S → ∀ H', Same H H' → Q (.bl false) H' := fun n H' s => by
      have := q H' s
      rw [decide_eq_false n] at this
      exact this
    refine ⟨_, (pss_cons (ps_if (PW.pt (pw_or (pt_cmpR (notInK K) (pv 2) (pv 1) (by rfl)) (pw_or (pt_cmpR (inK K) (pv 3) (pv 1) (by rfl)) (pw_or1 (pt_cmpR (notInK K) (pv 3) (pe_own oLNear (hr.mono (by decide)) (by rfl) (pa_cons (pv 0) (pa_cons (pv 2) pa_nil))) (by rfl)))))) (pss_one (ps_ret pe_bl)) pss_nil)
    (pss_one (ps_ret (pe_cmpR (eqDK K hr.units) (pe_lc (own := [("_law_other", 4)]) (g := (gName 4)) rfl scLCanSlide.nd (piLK K (pe_own oLNear (hr.mono (by decide)) (by rfl) (pa_cons (pv 0) (pa_cons (pv 3) pa_nil))))
      (blkOk_by (own := [("_law_other", 4)]) (N := nLCanSlide) (sc := (defScope sLCanSlide)) (by decide +kernel))
      (fun _ _ _ _ _ => (pg_name (i := 4) scLCanSlide.nd rfl (Or.inl rfl))) (fun _ _ _ _ _ => (pts_one (pt_cmpR (inK K) (pv 4) (pv 1) (by rfl))))
      (fun _ _ _ _ _ => (pv 4))) (pe_lst (pa_cons (pv 2) pa_nil)) (nomark _))))), ?_⟩
    refine ⟨.int u, rfl, .ref c, rfl, c, S.map V.int, rfl, .inr hc, rfl, flat_ints S, _, rfl, ?_⟩
    show if (if true = true then !inV (V.int u) (S.map V.int) else _) = true then _ else _
    rw [if_pos rfl, inV_ints]
    by_cases hu : u ∈ S
    case neg =>
      rw [decide_eq_false hu]
      exact iteT (no (fun z => hu (mem_adjfree.mp z).1) _ (Same.refl _))
    rw [decide_eq_true hu]
    refine iteF ⟨.int v, rfl, .ref c, rfl, c, S.map V.int, rfl, .inr hc, rfl, flat_ints S, _, rfl, ?_⟩
    show if (if false = true then _ else inV (V.int v) (S.map V.int)) = true then _ else _
    rw [if_neg Bool.false_ne_true, inV_ints]
    by_cases nv : v ∈ S
    case pos =>
      rw [decide_eq_true nv]
      exact iteT (no (fun z => adj_free iss hu (mem_adjfree.mp z).2.1 nv) _ (Same.refl _))
    rw [decide_eq_false nv]
    refine iteF ⟨.int v, rfl, x, rfl, .int u, rfl, x, m, es, u, rfl, by omega, isf, hx, fun H1 N s1 nN eN => ?_⟩
    refine ⟨N, (nearL m es u).map V.int, rfl, .inl (SqL.of eN), rfl, flat_ints _, _, rfl, ?_⟩
    show if (if true = true then !inV (V.int v) ((nearL m es u).map V.int) else _) = true then _ else _
    rw [if_pos rfl, inV_ints]
    by_cases hv : v ∈ nearL m es u
    case neg =>
      rw [decide_eq_false hv]
      exact iteT (no (fun z => hv (mem_adjfree.mp z).2.1) _ s1)
    rw [decide_eq_true hv]
    refine iteF ⟨x, rfl, .int v, rfl, x, m, es, v, rfl, by omega, isf, Dp.same s1 hx, fun H2 M s2 nM eM => ?_⟩
    refine ⟨M, rfl, ⟨_, SqL.of eM⟩, fun C nC => ?_⟩
    refine lc_listI (K := K) (fun o => decide (o ∈ S)) .int nC (SqL.of eM) (fun _ => rfl) (fun o _ H' R s8 hR => ?_) (fun o _ _ H' R s8 hR => ⟨.int o, rfl, hR H' _ (Same.refl _) (.int o)⟩) only_int (by omega) (fun H3 ws s3 eC dw => ?_)
    · refine ⟨.int o, rfl, .ref c, rfl, c, S.map V.int, rfl, .inr (Same.tup ((s1.trans s2).trans s8) hc), rfl, flat_ints S, _, rfl, ?_⟩
      show R (if false = true then _ else inV (V.int o) (S.map V.int)) _
      rw [if_neg Bool.false_ne_true, inV_ints]
      exact hR _ (Same.refl _)
    rw [lst_ints dw] at eC
    refine ⟨.int u, rfl, by show 1 ≤ sizeLine; decide, fun p np => ?_⟩
    have sp := same_upd (o := .lst [V.int u]) np
    refine ⟨.list (((nearL m es v).filter fun o => decide (o ∈ S)).map .int), .list ([u].map .int), .lst (SqL.of (sp _ _ eC)) (DpAll.of_ints _), .lst (SqL.of upd_same) (DpAll.of_ints [u]), shaped_ints _, shaped_ints [u], ?_⟩
    rw [eqv_lists]
    have e : decide ((nearL m es v).filter (fun o => decide (o ∈ S)) = [u]) = decide (oth m es S u v = []) := by
      refine decide_eq_decide.mpr ⟨fun z => List.eq_nil_iff_forall_not_mem.mpr fun o ho => ?_, fun z => ?_⟩
      · obtain ⟨h1, h2, h3⟩ := mem_oth.mp ho
        have : o ∈ (nearL m es v).filter (fun o => decide (o ∈ S)) := List.mem_filter.mpr ⟨h1, decide_eq_true h2⟩
        rw [z] at this
        exact h3 (List.mem_singleton.mp this)
      · refine asc_ext ((nearL_asc m es v).filter _) (List.pairwise_singleton _ _) fun o => ?_
        rw [List.mem_filter, decide_eq_true_eq, List.mem_singleton]
        constructor
        · rintro ⟨h1, h2⟩
          by_cases ho : o = u
          · exact ho
          · have : o ∈ oth m es S u v := mem_oth.mpr ⟨h1, h2, ho⟩
            rw [z] at this
            cases this
        · rintro rfl
          exact ⟨(mem_nearL_comm isf).mp hv, hu⟩
    rw [e]
    have := q _ (((s1.trans s2).trans s3).trans sp)
    rw [decide_eq_decide.mpr (show (u, v) ∈ slidesP m es S ↔ oth m es S u v = [] from ⟨fun z => (mem_adjfree.mp z).2.2, fun z => mem_adjfree.mpr ⟨hu, hv, z⟩⟩)] at this
    exact this
def spLAfter (K : PySem.W.Frag) : Sp := fun vs H Q _ => ∃ (y : V) (S : List Int) (u v : Int), vs = [y, .int u, .int v] ∧ Dp K H y (intsD S) ∧ S.length ≤ 12 ∧ ∀ (H' : Hp) (r : V), Same H H' → Dp K H' r (intsD (after S u v)) → Q r H'
theorem ok_LAfter {f : Addr} {fd : FuncData} {k : Nat} (F : Fun K "_law_after" "_law_after" sLAfter f fd) (m_tuple : mg "tuple" = none) (m_sorted : mg "sorted" = none) : FnOk P w K mg base CX0 (k + 1) f fd ["_law_setting_here", "_law_u", "_law_v"] (spLAfter K) := by
  refine F.ok scLAfter (fun vs H Q E h => ?_) (fun cdv A outer s H vs Q E hr h => ?_)
  · obtain ⟨y, S, u, v, rfl, _⟩ := h
    rfl
  · obtain ⟨y, S, u, v, rfl, hy, lS, q⟩ := h
    obtain ⟨c, rfl, hc⟩ := Dp.intsI hy
    refine ⟨_, (pss_one (ps_ret (pe_callTy (tupleK K) (by rfl) m_tuple (by decide +kernel) (pa_cons (pe_callB (sortK K hr.units) (by rfl) m_sorted (by decide +kernel) (pa_cons (pe_op op_cat (pe_lc (own := [("_law_lamp", 3)]) (g := (gName 3)) rfl scLAfter.nd (piTK K (pv 0))
      (blkOk_by (own := [("_law_lamp", 3)]) (N := nLAfter) (sc := (defScope sLAfter)) (by decide +kernel))
      (fun _ _ _ _ _ => (pg_name (i := 3) scLAfter.nd rfl (Or.inl rfl))) (fun _ _ _ _ _ => (pts_one (pt_cmpR op_ne (pv 3) (pv 1) (nomark _))))
      (fun _ _ _ _ _ => (pv 3))) (pe_lst (pa_cons (pv 2) pa_nil))) pa_nil)) pa_nil)))), ?_⟩
    refine ⟨.ref c, rfl, c, rfl, ⟨_, hc⟩, fun D nD => ?_⟩
    refine lc_tupI (K := K) (fun o => !decide (o = u)) .int nD hc (fun _ => rfl) (fun o _ H' R s2 hR => ?_) (fun o _ _ H' R s2 hR => ⟨.int o, rfl, hR H' _ (Same.refl _) (.int o)⟩) only_int (by omega) (fun H2 ys s2 eD dy => ?_)
    · refine ⟨.int o, rfl, .int u, rfl, rfl, _, rfl, ?_⟩
      rw [dec_int]
      exact hR _ (Same.refl _)
    rw [lst_ints dy] at eD
    have lf := List.length_filter_le (fun o => !decide (o = u)) S
    refine ⟨.int v, rfl, by show 1 ≤ sizeLine; decide, fun p np => ?_⟩
    have sp := same_upd (o := .lst [V.int v]) np
    refine ⟨D, p, _, _, rfl, rfl, sp _ _ eD, upd_same, Nat.le_of_lt (small1000 (by rw [List.length_map]; show (S.filter fun o => !decide (o = u)).length + 1 ≤ 1000; omega)), fun t nt => ?_⟩
    have e : (S.filter fun o => !decide (o = u)).map V.int ++ [V.int v] = ((S.filter fun o => !decide (o = u)) ++ [v]).map V.int := by rw [List.map_append]; rfl
    rw [e]
    have st := same_upd (o := .lst (((S.filter fun o => !decide (o = u)) ++ [v]).map V.int)) nt
    refine sortInts (SqL.of upd_same) fun g ng => ?_
    have sg := same_upd (o := .lst ((srtI ((S.filter fun o => !decide (o = u)) ++ [v])).map V.int)) ng
    refine ⟨g, _, rfl, .inl ⟨SqL.of upd_same, fun z nz => ?_⟩⟩
    exact q _ _ ((((s2.trans sp).trans st).trans sg).trans (same_upd nz)) (Dp.ints (SqT.of upd_same))
/-! ### the law follows slides of any kind -/
def spLFollowed (K : PySem.W.Frag) : Sp := fun vs H Q _ => ∃ (x y z : V) (m : Nat) (es : List (Int × Int)) (S : List Int) (os : List (Option (V × V))), vs = [x, y, z] ∧ m ≤ 12 ∧ IsFor m es ∧ Dp K H x (forD m es) ∧ Dp K H y (intsD S) ∧ IsSet m es S ∧ Sv K H z (some os) ∧
  (∀ v, follB m es S os 0 = .inl v → ∀ H', Same H H' → Q .non H') ∧ ∀ T, follB m es S os 0 = .inr T → ∀ H' r, Same H H' → IsSet m es T → Dp K H' r (intsD T) → Q r H'
theorem ok_LFollowed {f : Addr} {fd : FuncData} (F : Fun K "_law_followed" "_law_followed" sLFollowed f fd) (m_isinstance : mg "isinstance" = none) (m_tuple : mg "tuple" = none) (m_len : mg "len" = none) (m_int : mg "int" = none) (m_bool : mg "bool" = none)
    (oLCanSlide : Own P w K mg base "_law_can_slide" 2 ["_law_forest_here", "_law_setting_here", "_law_u", "_law_v"] (spLCanSlide K)) (oLAfter : Own P w K mg base "_law_after" 1 ["_law_setting_here", "_law_u", "_law_v"] (spLAfter K)) :
    FnOk P w K mg base CX0 3 f fd ["_law_forest_here", "_law_setting_here", "_law_slides"] (spLFollowed K) := by
  refine F.ok scLFollowed (fun vs H Q E h => ?_) (fun cdv A outer s H vs Q E hr h => ?_)
  · obtain ⟨x, y, z, m, es, S, os, rfl, _⟩ := h
    rfl
  · obtain ⟨x, y, z, m, es, S, os, rfl, hm, isf, hx, hy, iss, hz, q1, q2⟩ := h
    obtain ⟨a, xs, rfl, ha, hi, lx⟩ : ∃ a xs, z = .ref a ∧ SqT K H a xs ∧ Iws K H xs os ∧ xs.length ≤ 400 := by
      cases hz with
      | yes h i l => exact ⟨_, _, rfl, h, i, l⟩
    refine ⟨_, (pss_cons (ps_for PassesOwn.never rfl (piTK K (pv 2)) (pg_name (i := 3) scLFollowed.nd rfl (Or.inl rfl))
    (pss_cons (ps_if (PW.pt (pw_or (pt_not (pt_val (pe_callB (isiK K) (by rfl) m_isinstance (by decide +kernel) (pa_cons (pv 3) (pa_cons (pe_bltn (v := .ty "tuple") (by rfl) m_tuple (by decide +kernel) rfl) pa_nil))))) (pw_or1 (pt_cmpR op_ne (pe_callB (lenK K) (by rfl) m_len (by decide +kernel) (pa_cons (pv 3) pa_nil)) pe_int (nomark _))))) (pss_one (ps_ret pe_non)) pss_nil)
    (pss_cons (ps_for PassesOwn.never rfl (piTK K (pv 3)) (pg_name (i := 4) scLFollowed.nd rfl (Or.inl rfl))
    (pss_one (ps_if (PW.pt (pw_or (pt_not (pt_val (pe_callB (isiK K) (by rfl) m_isinstance (by decide +kernel) (pa_cons (pv 4) (pa_cons (pe_bltn (v := .ty "int") (by rfl) m_int (by decide +kernel) rfl) pa_nil))))) (pw_or1 (pt_val (pe_callB (isiK K) (by rfl) m_isinstance (by decide +kernel) (pa_cons (pv 4) (pa_cons (pe_bltn (v := .ty "bool") (by rfl) m_bool (by decide +kernel) rfl) pa_nil))))))) (pss_one (ps_ret pe_non)) pss_nil)))
    (pss_cons (ps_if (pt_not (pt_val (pe_own oLCanSlide (hr.mono (by decide)) (by rfl) (pa_cons (pv 0) (pa_cons (pv 1) (pa_cons (pe_ix (ixTK K) (pv 3) pe_int (fun _ _ => rfl)) (pa_cons (pe_ix (ixTK K) (pv 3) pe_int (fun _ _ => rfl)) pa_nil))))))) (pss_one (ps_ret pe_non)) pss_nil)
    (pss_one (ps_set (i := 1) scLFollowed.nd rfl (.inl rfl) (pe_own oLAfter (hr.mono (by decide)) (by rfl) (pa_cons (pv 1) (pa_cons (pe_ix (ixTK K) (pv 3) pe_int (fun _ _ => rfl)) (pa_cons (pe_ix (ixTK K) (pv 3) pe_int (fun _ _ => rfl)) pa_nil))))))))))
    (pss_one (ps_ret (pv 1)))), ?_⟩
    refine ⟨.ref a, rfl, a, rfl, ⟨_, ha⟩, for_tup (K := K) (a := a) (xs := xs) (fun i σ H' => ∃ (y3 y4 : Option V) (r : V) (R : List Int), σ = [some x, some r, some (.ref a), y3, y4] ∧ Same H H' ∧
      Dp K H' r (intsD R) ∧ IsSet m es R ∧ follB m es S os 0 = follB m es R (os.drop i) i) ?_ ?_ ?_ ?_⟩
    · exact ⟨none, none, y, S, rfl, Same.refl _, hy, iss, rfl⟩
    · rintro i σ H' _ ⟨y3, y4, r, R, rfl, s1, _⟩
      exact Same.tup s1 ha
    · rintro i v σ H1 hv ⟨y3, y4, r, R, rfl, s1, dr, isr, hwr⟩
      obtain ⟨o, ho, hio⟩ := hi.drop i hv
      rw [ho] at hwr
      have hio := hio.same s1
      have bad : posB m es R o = false → Q .non H1 := fun hp => q1 _ (by rw [hwr]; exact follB_no hp) _ s1
      have bad2 : posB m es R o = false → ∀ H', Same H1 H' → Q .non H' := fun hp H' s => q1 _ (by rw [hwr]; exact follB_no hp) _ (s1.trans s)
      have lR := isr.len
      cases hio with
      | no h k => exact ⟨v, rfl, _, _, _, _, false, rfl, .ty "tuple", h, k, false, rfl, iteT (bad rfl)⟩
      | @len b ys h l =>
        refine ⟨.ref b, rfl, _, _, _, _, true, rfl, .ty "tuple", ty_tup h, kit_ty (by decide +kernel), true, rfl, iteF ?_⟩
        refine ⟨.ref b, rfl, b, _, rfl, .inr h, rfl, true, ?_, iteT (bad rfl)⟩
        rw [decide_eq_false (by intro z; exact l (by injection z with z; omega))]
        rfl
      | @two b u v h ku kv =>
        refine ⟨.ref b, rfl, _, _, _, _, true, rfl, .ty "tuple", ty_tup h, kit_ty (by decide +kernel), true, rfl, iteF ?_⟩
        refine ⟨.ref b, rfl, b, _, rfl, .inr h, rfl, false, rfl, iteF ?_⟩
        refine ⟨.ref b, rfl, b, rfl, ⟨_, h⟩, for_tup (K := K) (a := b) (xs := [u, v]) (fun j σ H' => ∃ (y4 : Option V), σ = [some x, some r, some (.ref a), some (.ref b), y4] ∧ H' = H1 ∧ ∀ k : Nat, k < j → ∀ c, [u, v][k]? = some c → isN c = true) ?_ ?_ ?_ ?_⟩
        · exact ⟨_, rfl, rfl, fun k hk => absurd hk (Nat.not_lt_zero _)⟩
        · rintro j σ H' _ ⟨y4, rfl, rfl, _⟩
          exact h
        · rintro j c σ H' hc ⟨y4, rfl, rfl, hn⟩
          obtain ⟨t, ka, kb, ty, k1, k2, e⟩ : Kd K H' c := by
            rcases List.mem_cons.mp (List.mem_of_getElem? hc) with e | e
            · rw [e]; exact ku
            · rw [List.mem_singleton.mp e]; exact kv
          have bad3 : isN c = false → Q .non H' := fun z => bad (by
            unfold posB
            have : prV (some (u, v)) = none := by
              rcases List.mem_cons.mp (List.mem_of_getElem? hc) with e | e
              · subst e
                cases c <;> first | rfl | cases z
              · have e := List.mem_singleton.mp e
                subst e
                cases c <;> first | (cases u <;> rfl) | cases z
            rw [this])
          refine ⟨c, rfl, _, _, _, _, ka, rfl, .ty "int", ty, k1, ka, rfl, ?_⟩
          cases ka with
          | false =>
            exact iteT (bad3 e.symm)
          | true =>
            refine iteF ⟨c, rfl, _, _, _, _, kb, rfl, .ty "bool", ty, k2, kb, rfl, ?_⟩
            cases kb with
            | true => exact iteT (bad3 e.symm)
            | false =>
              refine iteF ⟨_, rfl, rfl, fun k hk c' hc' => ?_⟩
              by_cases ek : k = j
              · subst ek
                rw [hc] at hc'
                cases hc'
                exact e.symm
              · exact hn k (by omega) c' hc'
        · rintro σ H' ⟨y4, rfl, rfl, hn⟩
          have n0 := hn 0 (by show 0 < 2; decide) u rfl
          have n1 := hn 1 (by show 1 < 2; decide) v rfl
          obtain ⟨i1, rfl⟩ : ∃ i1 : Int, u = .int i1 := by cases u <;> first | exact ⟨_, rfl⟩ | cases n0
          obtain ⟨i2, rfl⟩ : ∃ i2 : Int, v = .int i2 := by cases v <;> first | exact ⟨_, rfl⟩ | cases n1
          refine ⟨x, rfl, r, rfl, .ref b, rfl, b, _, 0, .int i1, rfl, rfl, h, atI_nat (j := 0) rfl, .ref b, rfl, b, _, 1, .int i2, rfl, rfl, h, atI_nat (j := 1) rfl, x, r, m, es, R, i1, i2, rfl, hm, isf, isr, Dp.same s1 hx, dr, fun H2 s2 => ?_⟩
          refine ⟨decide ((i1, i2) ∈ slidesP m es R), rfl, ?_⟩
          by_cases pin : (i1, i2) ∈ slidesP m es R
          · rw [decide_eq_true pin]
            refine iteF ?_
            have hb2 := Same.tup s2 h
            have hw2 : follB m es S os 0 = follB m es (after R i1 i2) (os.drop (i + 1)) (i + 1) := by rw [hwr]; exact follB_yes (p := (i1, i2)) pin
            refine ⟨r, rfl, .ref b, rfl, b, _, 0, .int i1, rfl, rfl, hb2, atI_nat (j := 0) rfl, .ref b, rfl, b, _, 1, .int i2, rfl, rfl, hb2, atI_nat (j := 1) rfl, r, R, i1, i2, rfl, Dp.same s2 dr, by omega, fun H3 r' s3 dr' => ?_⟩
            exact ⟨_, _, r', after R i1 i2, rfl, (s1.trans s2).trans s3, dr', IsSet.slide isf isr pin, hw2⟩
          · rw [decide_eq_false pin]
            exact iteT (bad2 (by show decide _ = false; exact decide_eq_false pin) _ s2)
    · rintro σ H1 ⟨y3, y4, r, R, rfl, s1, dr, isr, hwr⟩
      rw [hi.len, List.drop_length] at hwr
      exact ⟨r, rfl, q2 R hwr H1 r s1 isr dr⟩
end
end TL
namespace TL
open PySem PySem.Spec PyProof.Rows L2
section
variable {P : Program} {w : World} {K : PySem.W.Frag} {mg : Str → Option Value} {base : Heap}
/-! ### a lamp that moves: slides of any kind -/
def itV (p : Int × Int) : Option (V × V) := some (.int p.1, .int p.2)
theorem follB_inr {m : Nat} {es : List (Int × Int)} : ∀ {os : List (Option (V × V))} {S T : List Int} {k : Nat}, follB m es S os k = .inr T → ∃ ps : List (Int × Int), os = ps.map itV ∧ walk m es S ps = some T
  | [], S, T, k, h => by
    cases h
    exact ⟨[], rfl, rfl⟩
  | o :: os, S, T, k, h => by
    cases hp : posB m es S o with
    | false =>
      rw [follB_no hp] at h
      cases h
    | true =>
      obtain ⟨p, rfl, pin⟩ := posB_true hp
      rw [follB_yes pin] at h
      obtain ⟨ps, rfl, hw⟩ := follB_inr h
      exact ⟨p :: ps, rfl, by rw [walk_push pin]; exact hw⟩
theorem follB_walk {m : Nat} {es : List (Int × Int)} : ∀ {ps : List (Int × Int)} {S T : List Int} {k : Nat}, walk m es S ps = some T → follB m es S (ps.map itV) k = .inr T
  | [], S, T, k, h => by
    cases h
    rfl
  | p :: ps, S, T, k, h => by
    obtain ⟨pin, h2⟩ := walk_cons h
    rw [List.map_cons]
    show follB m es S (some (.int p.1, .int p.2) :: ps.map itV) k = _
    rw [follB_yes pin]
    exact follB_walk h2
theorem itV_inj : ∀ {ps qs : List (Int × Int)}, ps.map itV = qs.map itV → ps = qs
  | [], [], _ => rfl
  | [], _ :: _, h => nomatch h
  | _ :: _, [], h => nomatch h
  | p :: ps, q :: qs, h => by
    rw [List.map_cons, List.map_cons] at h
    injection h with h1 h2
    rw [itV_inj h2]
    obtain ⟨a, b⟩ := p
    obtain ⟨c, d⟩ := q
    injection h1 with h1
    injection h1 with h3 h4
    injection h3 with h3
    injection h4 with h4
    rw [show a = c from h3, show b = d from h4]
theorem Iws.prs {H : Hp} : ∀ {ps : List (Int × Int)} {xs : List V}, Iws K H xs (ps.map itV) → DpAll K H xs (ps.map prD)
  | [], _, h => by
    cases h
    exact .nil
  | p :: ps, _, h => by
    cases h with
    | cons h t =>
      cases h with
      | two h _ _ => exact .cons (Dp.pr h) (Iws.prs t)
theorem cut_last (l : List V) (z : V) : cutV (l ++ [z]) (some (-1)) none = [z] := by
  unfold cutV
  have e : HT.sIx (l ++ [z]).length 0 (some (-1)) = l.length := by
    show (if (-1 : Int) < 0 then ((-1 : Int) + ((l ++ [z]).length : Int)).toNat else min (-1 : Int).toNat (l ++ [z]).length) = _
    rw [if_pos (by decide), List.length_append, List.length_singleton]
    omega
  rw [e, HT.sIx_none, List.drop_left, List.length_append, List.length_singleton, Nat.add_sub_cancel_left]
  rfl
/-- what shows that a lamp moves -/
def MvO (m : Nat) (es : List (Int × Int)) (S : List Int) (u : Int) : Option (List (Option (V × V))) → Prop
  | none => False
  | some os => ∃ ps : List (Int × Int), os = ps.map itV ∧ (∃ T, walk m es S ps = some T) ∧ ∃ A v, ps = A ++ [(u, v)] ∧ u ∉ A.map (·.1)
theorem MvO.no {m : Nat} {es : List (Int × Int)} {S : List Int} {u : Int} {so : Option (List (Option (V × V)))} {v : V} (h : follO m es S so = .inl v) : ¬ MvO m es S u so := by
  cases so with
  | none => exact fun z => z
  | some os =>
    rintro ⟨ps, rfl, ⟨T, hw⟩, _⟩
    have h : follB m es S (ps.map itV) 0 = .inl v := h
    rw [follB_walk hw] at h
    cases h
def spMovesLamp (K : PySem.W.Frag) : Sp := fun vs H Q _ => ∃ (x y z : V) (m : Nat) (es : List (Int × Int)) (S : List Int) (u : Int) (so : Option (List (Option (V × V)))), vs = [x, y, .int u, z] ∧ m ≤ 12 ∧ IsFor m es ∧ Dp K H x (forD m es) ∧ Dp K H y (intsD S) ∧ IsSet m es S ∧ Sv K H z so ∧
  ∀ (H' : Hp) (b : Bool), Same H H' → (b = true ↔ MvO m es S u so) → Q (.bl b) H'
theorem ok_MovesLamp {f : Addr} {fd : FuncData} {cBadSlides : Addr} (F : Fun K "moves_lamp" "moves_lamp" sMovesLamp f fd) (m_BadSlides : mg "BadSlides" = some (.ref cBadSlides)) (ex : PySem.W.exmOne K (.ref cBadSlides) (.ref cBadSlides) = some true)
    (xFollow : OwnX P w K mg base "follow" 5 ["forest", "setting", "slides"] (spFollow K cBadSlides)) :
    FnOk P w K mg base CX0 6 f fd ["forest", "setting", "lamp", "value"] (spMovesLamp K) := by
  refine F.ok scMovesLamp (fun vs H Q E h => ?_) (fun cdv A outer s H vs Q E hr h => ?_)
  · obtain ⟨x, y, z, m, es, S, u, so, rfl, _⟩ := h
    rfl
  · obtain ⟨x, y, z, m, es, S, u, so, rfl, hm, isf, hx, hy, sS, hz, q⟩ := h
    refine ⟨_, (pss_cons (ps_try_only (Wout := fun _ _ _ _ => False) rfl rfl ⟨by rfl, by decide, .inl m_BadSlides⟩ takes0
    (fun W pn xe tk pw => (pss_one (ps_expr (pe_ownX xFollow (hr.mono (by decide)) tk (by rfl) (pa_cons (pv 0) (pa_cons (pv 1) (pa_cons (pv 3) pa_nil)))))))
    (fun a0 oe cls d0 pn hz hf => (pss_one (ps_ret pe_bl))))
    (pss_cons (ps_setLc (i := 4) (own := [("u", 5), ("v", 6)]) (g := (gTup K 2 (gCons (gName 5) (gCons (gName 6) gNil)))) (tt := tYes) (by rfl) scMovesLamp.nd rfl rfl (sw_true rfl rfl rfl (by decide +kernel)) (piTK K (pv 3))
      (blkOk_by (own := [("u", 5), ("v", 6)]) (N := nMovesLamp) (sc := (defScope sMovesLamp)) (by decide +kernel))
      (fun _ _ _ _ _ => (pgTK K (pgs_cons (pg_name (i := 5) scMovesLamp.nd rfl (Or.inl rfl)) (pgs_cons (pg_name (i := 6) scMovesLamp.nd rfl (Or.inl rfl)) pgs_nil)))) (fun _ _ _ _ _ => pts_nil)
      (fun _ _ _ _ _ => (pv 5)))
    (pss_one (ps_ret (pe_and (pe_cmpR (eqDK K hr.units) (pe_slice (slLK K) (pv 4) (po_some (pe_un un_neg pe_int)) po_none) (pe_lst (pa_cons (pv 2) pa_nil)) (nomark _)) (pe_one (pe_cmpR op_eq (bmK K PySem.F.plainAttrs_list PySem.F.slot_list_count PySem.F.type_list_count (lcountIK K) (pv 4) (pa_cons (pv 2) pa_nil)) pe_int (nomark _)))))))), ?_⟩
    refine ⟨x, rfl, y, rfl, z, rfl, x, y, z, m, es, S, so, rfl, hm, isf, hx, hy, sS, hz, fun v hv H' dd s1 e1 => ?_, fun T hT isT H1 r s1 dr => ?_⟩
    · exact ⟨true, ex, fun _ a0 na => q _ false s1 ⟨(fun z => nomatch z), fun z => absurd z (MvO.no hv)⟩, fun z => nomatch z⟩
    cases hz with
    | no h k => cases hT
    | @yes a xs os ha hi lx =>
    obtain ⟨ps, rfl, hw⟩ := follB_inr hT
    have hA := Iws.prs (hi.same s1)
    have lp : ps.length ≤ 400 := by
      have := hi.len
      rw [List.length_map] at this
      omega
    refine ⟨.ref a, rfl, a, rfl, ⟨_, Same.tup s1 ha⟩, fun D nD => ?_⟩
    refine lc_tupP (K := K) (fun _ => true) (fun p => .int p.1) nD (Same.tup s1 ha) hA (fun _ _ => rfl) (fun o _ H' R s2 hR => hR H' (Same.refl _)) (fun o _ _ H' R s2 hR => ⟨.int o.1, rfl, hR H' _ (Same.refl _) (.int o.1)⟩) (fun o => only_int _) (by omega) (fun H2 ys s2 eD dy => ?_)
    rw [filt_true] at dy
    have ey : ys = (ps.map (·.1)).map V.int := DpAll.ints (by rw [List.map_map]; exact dy)
    subst ey
    have s12 := s1.trans s2
    dsimp only [tNoPart]
    refine ⟨.ref D, rfl, 1, rfl, -1, rfl, ?_⟩
    dsimp only [tNoPart]
    refine ⟨D, _, rfl, SqL.of eD, fun p np => ?_⟩
    obtain ⟨ls, el, hl⟩ : ∃ ls : List Int, cutV ((ps.map (·.1)).map V.int) (some (-1)) none = ls.map V.int ∧ (ls = [u] ↔ ∃ A v, ps = A ++ [(u, v)]) := by
      rcases List.eq_nil_or_concat ps with rfl | ⟨A, ⟨u2, v2⟩, rfl⟩
      · refine ⟨[], rfl, ⟨(fun z => nomatch z), fun ⟨A, v, z⟩ => ?_⟩⟩
        have := congrArg List.length z
        rw [List.length_append, List.length_singleton] at this
        exact absurd this (by show ¬ 0 = _; omega)
      · rw [List.concat_eq_append]
        refine ⟨[u2], ?_, ⟨fun z => ?_, fun ⟨A', v, z⟩ => ?_⟩⟩
        · rw [List.map_append, List.map_append]
          exact cut_last _ _
        · injection z with z
          exact ⟨A, v2, by rw [z]⟩
        · have := congrArg List.getLast? z
          rw [List.getLast?_append, List.getLast?_append] at this
          have e : some (u2, v2) = some (u, v) := this
          injection e with e
          injection e with e1 e2
          rw [e1]
    rw [el]
    have sp := same_upd (o := .lst (ls.map V.int)) np
    have ep := same_at (o := .lst (ls.map V.int)) np
    generalize upd H2 p _ = H3 at sp ep ⊢
    refine ⟨.int u, rfl, by show 1 ≤ sizeLine; decide, fun g ng => ?_⟩
    have sg := same_upd (o := .lst [V.int u]) ng
    refine ⟨.list (ls.map .int), .list ([u].map .int), .lst (SqL.of (sg _ _ ep)) (DpAll.of_ints ls), .lst (SqL.of upd_same) (.cons (.int u) .nil), shaped_ints ls, shaped_ints [u], ?_⟩
    rw [eqv_lists]
    have s14 := (s12.trans sp).trans sg
    have eD4 := (sp.trans sg) _ _ eD
    refine ⟨decide (ls = [u]), rfl, ite2 (fun h => ?_) (fun h => ?_)⟩
    · obtain ⟨A, v, ep⟩ := hl.mp (of_decide_eq_true h)
      refine ⟨.ref D, rfl, .inl ⟨rfl, _, SqL.of eD4⟩, .int u, rfl, D, ps.map (·.1), u, rfl, rfl, SqL.of eD4, ?_⟩
      refine ⟨rfl, q _ _ s14 ?_⟩
      rw [dec_int]
      have ec : (ps.map (·.1)).count u = (A.map (·.1)).count u + 1 := by
        rw [ep, List.map_append, List.count_append]
        simp
      rw [decide_eq_true_iff]
      constructor
      · intro z
        refine ⟨ps, rfl, ⟨T, hw⟩, A, v, ep, fun hm => ?_⟩
        have := List.count_pos_iff.mpr hm
        omega
      · rintro ⟨ps', e', _, A', v', e2, no⟩
        have e' := itV_inj e'
        subst e'
        rw [ep] at e2
        have := List.append_inj_left' e2 rfl
        subst this
        have := List.count_eq_zero.mpr no
        omega
    · have hf : decide (ls = [u]) = false := Bool.eq_false_iff.mpr h
      refine q _ false s14 ⟨(fun z => nomatch z), ?_⟩
      rintro ⟨ps', e', _, A', v', e2, no⟩
      have e' := itV_inj e'
      subst e'
      exact absurd (hl.mpr ⟨A', v', e2⟩) (of_decide_eq_false hf)
/-! ### certificates of lamps judged -/
def inO (u : Int) : Option (List V) → Prop
  | none => False
  | some xs => V.int u ∈ xs
/-- what a pair (k, p) shows of a lamp -/
def HlO (m : Nat) (es : List (Int × Int)) (S : List Int) (u : Int) (k : V) (op : Option (List V)) (so : Option (List (Option (V × V)))) : Prop :=
  (k = .str (Str.ofString "rigid") ∧ LkO m es S op ∧ inO u op) ∨ (k = .str (Str.ofString "moves") ∧ MvO m es S u so)
def HlQ (m : Nat) (es : List (Int × Int)) (S : List Int) (u : Int) (op : Option (List V)) (so : Option (List (Option (V × V)))) : Option (V × V) → Prop
  | none => False
  | some (k, _) => HlO m es S u k op so
def isStr : V → Bool
  | .str _ => true
  | _ => false
/-- how the parts of a value look -/
def Lk (K : PySem.W.Frag) (H : Hp) (op : Option (List V)) (so : Option (List (Option (V × V)))) (oi : Option (V × V)) : Prop :=
  ∀ k p, oi = some (k, p) → (∀ z, TxV K H k z (decide (k = .str z))) ∧ Vw K H p op ∧ Sv K H p so ∧ ∃ t, TyX K H k t ∧ PySem.W.kitOne K t (.type "str") = some (isStr k)
def spLampHolds (K : PySem.W.Frag) : Sp := fun vs H Q _ => ∃ (x y r : V) (m : Nat) (es : List (Int × Int)) (S : List Int) (u : Int) (oi : Option (V × V)) (op : Option (List V)) (so : Option (List (Option (V × V)))), vs = [x, y, .int u, r] ∧ m ≤ 12 ∧ IsFor m es ∧ Dp K H x (forD m es) ∧ Dp K H y (intsD S) ∧ IsSet m es S ∧ Iw K H r oi ∧ Lk K H op so oi ∧
  ∀ (H' : Hp) (b : Bool), Same H H' → (b = true ↔ HlQ m es S u op so oi) → Q (.bl b) H'
theorem rig_mov : (V.str (Str.ofString "moves") : V) ≠ .str (Str.ofString "rigid") := by decide +kernel
theorem ok_LampHolds {f : Addr} {fd : FuncData} (F : Fun K "lamp_holds" "lamp_holds" sLampHolds f fd) (oIsPair : Own P w K mg base "is_pair" 1 ["value"] (spIsPair K)) (oIsLock : Own P w K mg base "is_lock" 5 ["forest", "setting", "value"] (spIsLock K))
    (oMovesLamp : Own P w K mg base "moves_lamp" 6 ["forest", "setting", "lamp", "value"] (spMovesLamp K)) :
    FnOk P w K mg base CX0 7 f fd ["forest", "setting", "lamp", "value"] (spLampHolds K) := by
  refine F.ok scLampHolds (fun vs H Q E h => ?_) (fun cdv A outer s H vs Q E hr h => ?_)
  · obtain ⟨x, y, r, m, es, S, u, oi, op, so, rfl, _⟩ := h
    rfl
  · obtain ⟨x, y, r, m, es, S, u, oi, op, so, rfl, hm, isf, hx, hy, sS, hr2, lk, q⟩ := h
    refine ⟨_, (pss_cons (ps_if (pt_not (pt_val (pe_own oIsPair (hr.mono (by decide)) (by rfl) (pa_cons (pv 3) pa_nil)))) (pss_one (ps_ret pe_bl)) pss_nil)
    (pss_cons (ps_asg (pv 3) (pgTK K (pgs_cons (pg_name (i := 4) scLampHolds.nd rfl (Or.inl rfl)) (pgs_cons (pg_name (i := 5) scLampHolds.nd rfl (Or.inl rfl)) pgs_nil))))
    (pss_cons (ps_if (pt_cmpR (eqTK K hr.units) (pv 4) pe_str (nomark _)) (pss_one (ps_ret (pe_and (pe_own oIsLock (hr.mono (by decide)) (by rfl) (pa_cons (pv 0) (pa_cons (pv 1) (pa_cons (pv 5) pa_nil)))) (pe_one (pe_cmpR (inK K) (pv 2) (pv 5) (by rfl)))))) pss_nil)
    (pss_one (ps_ret (pe_and (pe_cmpR (eqTK K hr.units) (pv 4) pe_str (nomark _)) (pe_one (pe_own oMovesLamp (hr.mono (by decide)) (by rfl) (pa_cons (pv 0) (pa_cons (pv 1) (pa_cons (pv 2) (pa_cons (pv 5) pa_nil)))))))))))), ?_⟩
    refine ⟨r, rfl, r, oi, rfl, hr2, oi.isSome, rfl, ?_⟩
    cases hr2 with
    | no h k => exact iteT (q _ false (Same.refl H) ⟨(fun z => nomatch z), fun z => z.elim⟩)
    | len h l => exact iteT (q _ false (Same.refl H) ⟨(fun z => nomatch z), fun z => z.elim⟩)
    | @two a k p h kk kp =>
      obtain ⟨tx, hp, sp, _⟩ := lk k p rfl
      refine iteF ?_
      refine ⟨.ref a, rfl, a, _, rfl, h, rfl, _, _, rfl, _, _, rfl, rfl, ?_⟩
      refine ⟨k, rfl, _, _, rfl, tx _, _, rfl, ?_⟩
      by_cases ck : k = .str (Str.ofString "rigid")
      · rw [decide_eq_true ck]
        refine iteT ⟨x, rfl, y, rfl, p, rfl, x, y, p, m, es, S, op, rfl, hm, isf, hx, hy, sS, hp, fun H1 b s1 hb => ⟨b, rfl, ?_⟩⟩
        cases b with
        | false =>
          rw [if_neg Bool.false_ne_true]
          refine q _ false s1 ⟨(fun z => nomatch z), fun z => ?_⟩
          rcases z with ⟨_, l, _⟩ | ⟨e, _⟩
          · exact hb.mpr l
          · exact absurd (e.symm.trans ck) rig_mov
        | true =>
          rw [if_pos rfl]
          have lkk := hb.mp rfl
          cases hp with
          | no _ _ => exact lkk.elim
          | @yes pa xs hpa _ _ =>
            obtain ⟨T, rfl, asc, sub, cl⟩ := id lkk
            refine ⟨.int u, rfl, .ref pa, rfl, pa, T.map V.int, rfl, .inr (Same.tup s1 hpa), rfl, flat_ints T, ?_⟩
            show Q (.bl (if false = true then _ else inV (V.int u) (T.map V.int))) _
            rw [if_neg Bool.false_ne_true, inV_ints]
            refine q _ _ s1 ⟨fun z => .inl ⟨ck, lkk, List.mem_map.mpr ⟨u, of_decide_eq_true z, rfl⟩⟩, fun z => ?_⟩
            rcases z with ⟨_, _, i⟩ | ⟨e, _⟩
            · obtain ⟨i', hi, ei⟩ := List.mem_map.mp (show V.int u ∈ T.map V.int from i)
              cases ei
              exact decide_eq_true hi
            · exact absurd (e.symm.trans ck) rig_mov
      · rw [decide_eq_false ck]
        refine iteF ⟨k, rfl, _, _, rfl, tx _, _, rfl, ?_⟩
        by_cases cm : k = .str (Str.ofString "moves")
        · rw [decide_eq_true cm, if_pos rfl]
          refine ⟨x, rfl, y, rfl, .int u, rfl, p, rfl, x, y, p, m, es, S, u, so, rfl, hm, isf, hx, hy, sS, sp, fun H1 b s1 hb => q _ b s1 (hb.trans ⟨fun z => .inr ⟨cm, z⟩, fun z => ?_⟩)⟩
          rcases z with ⟨e, _⟩ | ⟨_, z⟩
          · exact absurd e ck
          · exact z
        · rw [decide_eq_false cm, if_neg Bool.false_ne_true]
          refine q _ false (Same.refl H) ⟨(fun z => nomatch z), fun z => ?_⟩
          rcases z with ⟨e, _⟩ | ⟨e, _⟩
          · exact absurd e ck
          · exact absurd e cm
end
end TL
namespace TL
open PySem PySem.Spec PyProof.Rows L2
section
variable {P : Program} {w : World} {K : PySem.W.Frag} {mg : Str → Option Value} {base : Heap}
def spLIsLock (K : PySem.W.Frag) : Sp := fun vs H Q _ => ∃ (x y : V) (m : Nat) (es : List (Int × Int)) (T : List Int), vs = [x, y] ∧ m ≤ 12 ∧ IsFor m es ∧ Dp K H x (forD m es) ∧ Dp K H y (intsD T) ∧ ∀ (H' : Hp) (b : Bool), Same H H' → (b = true ↔ Cl m es T) → Q (.bl b) H'
theorem ok_LIsLock {f : Addr} {fd : FuncData} (F : Fun K "_law_is_lock" "_law_is_lock" sLIsLock f fd) (m_len : mg "len" = none) (m_range : mg "range" = none) (oLNear : Own P w K mg base "_law_near" 1 ["_law_forest_here", "_law_vertex"] (spLNear K)) :
    FnOk P w K mg base CX0 2 f fd ["_law_forest_here", "_law_lamps"] (spLIsLock K) := by
  refine F.ok scLIsLock (fun vs H Q E h => ?_) (fun cdv A outer s H vs Q E hr h => ?_)
  · obtain ⟨x, y, m, es, T, rfl, _⟩ := h
    rfl
  · obtain ⟨x, y, m, es, T, rfl, hm, isf, hx, hy, q⟩ := h
    obtain ⟨fa, fb, fxs, rfl, hfa, hfb, hfA⟩ := Dp.forI hx
    obtain ⟨c, rfl, hc⟩ := Dp.intsI hy
    refine ⟨_, (pss_cons (ps_for PassesOwn.never rfl (pi_range1 (by rfl) m_range (pa_cons (pe_ix (ixTK K) (pv 0) pe_int (fun _ _ => rfl)) pa_nil)) (pg_name (i := 2) scLIsLock.nd rfl (Or.inl rfl))
    (pss_one (ps_if (pt_cmpR op_eq (pe_callB (lenK K) (by rfl) m_len (by decide +kernel) (pa_cons (pe_lc (own := [("_law_other", 3)]) (g := (gName 3)) rfl scLIsLock.nd (piLK K (pe_own oLNear (hr.mono (by decide)) (by rfl) (pa_cons (pv 0) (pa_cons (pv 2) pa_nil))))
      (blkOk_by (own := [("_law_other", 3)]) (N := nLIsLock) (sc := (defScope sLIsLock)) (by decide +kernel))
      (fun _ _ _ _ _ => (pg_name (i := 3) scLIsLock.nd rfl (Or.inl rfl))) (fun _ _ _ _ _ => (pts_one (pt_cmpR (inK K) (pv 3) (pv 1) (by rfl))))
      (fun _ _ _ _ _ => (pv 3))) pa_nil)) pe_int (nomark _)) (pss_one (ps_ret pe_bl)) pss_nil)))
    (pss_one (ps_ret pe_bl))), ?_⟩
    refine ⟨.ref fa, rfl, fa, _, 0, .int (m : Int), rfl, rfl, hfa, atI_nat (j := 0) rfl, (m : Int), rfl, by omega, by omega, for_range (lo := 0) (n := (m : Int).toNat) (fun i σ H' => ∃ (y2 : Option V), σ = [some (.ref fa), some (.ref c), y2, none] ∧ Same H H' ∧ ∀ j : Nat, j < i → ((nearL m es (j : Int)).filter fun o => decide (o ∈ T)).length ≠ 1) ?_ ?_ ?_⟩
    · exact ⟨_, rfl, Same.refl _, fun j hj => absurd hj (Nat.not_lt_zero _)⟩
    · rintro i σ H1 hi ⟨y2, rfl, s1, no⟩
      rw [Int.toNat_natCast] at hi
      rw [Int.zero_add]
      have nl := nearL_len m es (i : Int)
      refine ⟨.ref fa, rfl, .int (i : Int), rfl, .ref fa, m, es, (i : Int), rfl, by omega, isf, Dp.same s1 hx, fun H2 N s2 nN eN => ?_⟩
      refine ⟨N, rfl, ⟨_, SqL.of eN⟩, fun C nC => ?_⟩
      refine lc_listI (K := K) (fun o => decide (o ∈ T)) .int nC (SqL.of eN) (fun _ => rfl) (fun o _ H' R s6 hR => ?_) (fun o _ _ H' R s6 hR => ⟨.int o, rfl, hR H' _ (Same.refl _) (.int o)⟩) only_int (by omega) (fun H4 ws s4 eC dw => ?_)
      · refine ⟨.int o, rfl, .ref c, rfl, c, T.map V.int, rfl, .inr (Same.tup ((s1.trans s2).trans s6) hc), rfl, flat_ints T, _, rfl, ?_⟩
        show R (if false = true then _ else inV (V.int o) (T.map V.int)) _
        rw [if_neg Bool.false_ne_true, inV_ints]
        exact hR _ (Same.refl _)
      rw [lst_ints dw] at eC
      refine ⟨C, _, rfl, .inl (SqL.of eC), rfl, _, rfl, ?_⟩
      rw [List.length_map, dec_int]
      by_cases e : ((nearL m es (i : Int)).filter fun o => decide (o ∈ T)).length = 1
      · rw [decide_eq_true (by omega)]
        refine iteT (q _ false ((s1.trans s2).trans s4) ⟨(fun z => nomatch z), fun z => ?_⟩)
        exact absurd e ((lock_iff isf).mpr z (i : Int) (mem_rng.mpr (by omega)))
      · rw [decide_eq_false (by omega)]
        refine iteF ⟨_, rfl, (s1.trans s2).trans s4, fun j hj => ?_⟩
        by_cases ej : j = i
        · subst ej; exact e
        · exact no j (by omega)
    · rintro σ H1 ⟨y2, rfl, s1, no⟩
      rw [Int.toNat_natCast] at no
      refine q _ true s1 ⟨fun _ => (lock_iff isf).mp fun v hv => ?_, fun _ => rfl⟩
      have rv := mem_rng.mp hv
      have := no v.toNat (by omega)
      rw [show ((v.toNat : Nat) : Int) = v by omega] at this
      exact this

/-! ### the law's judgment -/
theorem take_next {xs : List V} {i : Nat} {v : V} (h : xs[i]? = some v) : xs.take (i + 1) = xs.take i ++ [v] := by
  obtain ⟨hi, e⟩ := List.getElem?_eq_some_iff.mp h
  rw [← e, List.take_append_getElem hi]
theorem LkO.get {m : Nat} {es : List (Int × Int)} {S : List Int} {xs : List V} (h : LkO m es S (some xs)) {i : Nat} {v : V} (e : xs[i]? = some v) : ∃ z : Int, v = .int z ∧ z ∈ S := by
  obtain ⟨T, rfl, _, sub, _⟩ := h
  rw [List.getElem?_map] at e
  obtain ⟨z, hz, rfl⟩ := Option.map_eq_some_iff.mp e
  exact ⟨z, rfl, sub z (List.mem_of_getElem? hz)⟩
theorem LkO.lt {m : Nat} {es : List (Int × Int)} {S : List Int} {xs : List V} (h : LkO m es S (some xs)) {i : Nat} {p v : Int} (e1 : xs[i]? = some (.int p)) (e2 : xs[i + 1]? = some (.int v)) : p < v := by
  obtain ⟨T, rfl, asc, _⟩ := h
  rw [List.getElem?_map] at e1 e2
  obtain ⟨z1, h1, q1⟩ := Option.map_eq_some_iff.mp e1
  obtain ⟨z2, h2, q2⟩ := Option.map_eq_some_iff.mp e2
  cases q1
  cases q2
  obtain ⟨l1, g1⟩ := List.getElem?_eq_some_iff.mp h1
  obtain ⟨l2, g2⟩ := List.getElem?_eq_some_iff.mp h2
  have := List.pairwise_iff_getElem.mp asc i (i + 1) l1 l2 (by omega)
  rw [g1, g2] at this
  exact this
def spLIsLockOf (K : PySem.W.Frag) : Sp := fun vs H Q _ => ∃ (x y z : V) (m : Nat) (es : List (Int × Int)) (S : List Int) (o : Option (List V)), vs = [x, y, z] ∧ m ≤ 12 ∧ IsFor m es ∧ Dp K H x (forD m es) ∧ Dp K H y (intsD S) ∧ IsSet m es S ∧ Vw K H z o ∧
  ∀ (H' : Hp) (b : Bool), Same H H' → (b = true ↔ LkO m es S o) → Q (.bl b) H'
theorem ok_LIsLockOf {f : Addr} {fd : FuncData} (F : Fun K "_law_is_lock_of" "_law_is_lock_of" sLIsLockOf f fd) (m_isinstance : mg "isinstance" = none) (m_tuple : mg "tuple" = none) (m_int : mg "int" = none) (m_bool : mg "bool" = none) (m_enumerate : mg "enumerate" = none)
    (oLIsLock : Own P w K mg base "_law_is_lock" 2 ["_law_forest_here", "_law_lamps"] (spLIsLock K)) :
    FnOk P w K mg base CX0 3 f fd ["_law_forest_here", "_law_setting_here", "_law_value"] (spLIsLockOf K) := by
  refine F.ok scLIsLockOf (fun vs H Q E h => ?_) (fun cdv A outer s H vs Q E hr h => ?_)
  · obtain ⟨x, y, z, m, es, S, o, rfl, _⟩ := h
    rfl
  · obtain ⟨x, y, z, m, es, S, o, rfl, hm, isf, hx, hy, isS, hz, q⟩ := h
    obtain ⟨yb, rfl, hyb⟩ := Dp.intsI hy
    refine ⟨_, (pss_cons (ps_if (pt_not (pt_val (pe_callB (isiK K) (by rfl) m_isinstance (by decide +kernel) (pa_cons (pv 2) (pa_cons (pe_bltn (v := .ty "tuple") (by rfl) m_tuple (by decide +kernel) rfl) pa_nil))))) (pss_one (ps_ret pe_bl)) pss_nil)
    (pss_cons (ps_for PassesOwn.never rfl (pi_enumT K (by rfl) m_enumerate (pa_cons (pv 2) pa_nil)) (pgTK K (pgs_cons (pg_name (i := 3) scLIsLockOf.nd rfl (Or.inl rfl)) (pgs_cons (pg_name (i := 4) scLIsLockOf.nd rfl (Or.inl rfl)) pgs_nil)))
    (pss_cons (ps_if (PW.pt (pw_or (pt_not (pt_val (pe_callB (isiK K) (by rfl) m_isinstance (by decide +kernel) (pa_cons (pv 4) (pa_cons (pe_bltn (v := .ty "int") (by rfl) m_int (by decide +kernel) rfl) pa_nil))))) (pw_or (pt_val (pe_callB (isiK K) (by rfl) m_isinstance (by decide +kernel) (pa_cons (pv 4) (pa_cons (pe_bltn (v := .ty "bool") (by rfl) m_bool (by decide +kernel) rfl) pa_nil)))) (pw_or1 (pt_cmpR (notInK K) (pv 4) (pv 1) (by rfl)))))) (pss_one (ps_ret pe_bl)) pss_nil)
    (pss_one (ps_if (PW.pt (pw_and (pt_cmpR op_gt (pv 3) pe_int (nomark _)) (pw_and1 (pt_cmpR op_ge (pe_ix (ixTK K) (pv 2) (pe_op op_sub (pv 3) pe_int) (fun _ _ => rfl)) (pv 4) (nomark _))))) (pss_one (ps_ret pe_bl)) pss_nil))))
    (pss_one (ps_ret (pe_own oLIsLock (hr.mono (by decide)) (by rfl) (pa_cons (pv 0) (pa_cons (pv 2) pa_nil))))))), ?_⟩
    cases hz with
    | no h k => exact ⟨z, rfl, _, _, _, _, false, rfl, .ty "tuple", h, k, false, rfl, iteT (q _ false (Same.refl H) ⟨(fun z => nomatch z), fun z => z.elim⟩)⟩
    | @yes a xs ha kd lx =>
    refine ⟨.ref a, rfl, _, _, _, _, true, rfl, .ty "tuple", ty_tup ha, kit_ty (by decide +kernel), true, rfl, iteF ?_⟩
    refine ⟨.ref a, rfl, a, xs, rfl, ha, for_enumT (K := K) (a := a) (xs := xs) (fun i σ H' => ∃ (y3 y4 : Option V) (ns : List Int), σ = [some x, some (.ref yb), some (.ref a), y3, y4] ∧ Same H H' ∧
      xs.take i = ns.map V.int ∧ Asc ns ∧ ∀ v ∈ ns, v ∈ S) ?_ ?_ ?_ ?_⟩
    · exact ⟨none, none, [], rfl, Same.refl _, rfl, .nil, fun _ h => nomatch h⟩
    · rintro i σ H' ⟨y3, y4, ns, rfl, s1, _⟩
      exact Same.tup s1 ha
    · rintro i v t σ H1 hv nt ⟨y3, y4, ns, rfl, s1, tk, asc, sub⟩
      have st := same_upd (o := .tup [.int (i : Nat), v]) nt
      have s2 := s1.trans st
      obtain ⟨ti, ka, kb, tyi, k1, k2, e⟩ := (kd v (List.mem_of_getElem? hv)).same s2
      refine ⟨t, _, rfl, SqT.of upd_same, rfl, _, _, rfl, _, _, rfl, rfl, ?_⟩
      refine ⟨v, rfl, _, _, _, _, ka, rfl, .ty "int", tyi, k1, ka, rfl, ?_⟩
      have bad : (∀ z : Int, v = .int z → z ∉ S) → Q (.bl false) (upd H1 t (.tup [.int (i : Nat), v])) := fun no => q _ false s2 ⟨(fun z => nomatch z), fun lk => by
        obtain ⟨z, ez, hz⟩ := lk.get hv
        exact absurd hz (no z ez)⟩
      cases v with
      | int z =>
        have e : (ka && !kb) = true := e
        obtain ⟨ha', hb'⟩ := Bool.and_eq_true_iff.mp e
        subst ha'
        have hb' : kb = false := by cases kb; rfl; cases hb'
        subst hb'
        refine iteF ⟨.int z, rfl, _, _, _, _, false, rfl, .ty "bool", tyi, k2, false, rfl, iteF ⟨.int z, rfl, .ref yb, rfl, yb, S.map V.int, rfl, .inr (Same.tup s2 hyb), rfl, flat_ints S, _, rfl, ?_⟩⟩
        show if (if true = true then !inV (V.int z) (S.map V.int) else _) = true then _ else _
        rw [if_pos rfl, inV_ints]
        by_cases hz : z ∈ S
        · rw [decide_eq_true hz]
          refine iteF ⟨.int i, rfl, _, _, rfl, rfl, _, rfl, ?_⟩
          by_cases i0 : 0 < i
          · rw [decide_eq_true (show (0 : Int) < (i : Int) by omega)]
            obtain ⟨j, rfl⟩ : ∃ j, i = j + 1 := ⟨i - 1, by omega⟩
            have hil : j + 1 < xs.length := (List.getElem?_eq_some_iff.mp hv).1
            have hj : j < xs.length := by omega
            obtain ⟨p, hp⟩ : ∃ p : Int, xs[j]? = some (.int p) := by
              have : (xs.take (j + 1))[j]? = xs[j]? := List.getElem?_take_of_lt (by omega)
              rw [tk, List.getElem?_map] at this
              rw [← this]
              have lns : j < ns.length := by
                have := congrArg List.length tk
                rw [List.length_take, List.length_map] at this
                omega
              rw [List.getElem?_eq_getElem lns]
              exact ⟨_, rfl⟩
            refine iteT ⟨.ref a, rfl, .int ((j + 1 : Nat) : Int), rfl, _, _, rfl, rfl, a, _, ((j + 1 : Nat) : Int) - 1, .int p, rfl, rfl, Same.tup s2 ha, at_of (j := j) (by omega) hp, .int z, rfl, _, _, rfl, rfl, _, rfl, ?_⟩
            by_cases c : z ≤ p
            · rw [decide_eq_true c]
              refine iteT (q _ false s2 ⟨(fun z => nomatch z), fun lk => ?_⟩)
              have := lk.lt hp hv
              omega
            · rw [decide_eq_false c]
              refine iteF ⟨_, _, ns ++ [z], rfl, s2, by rw [take_next hv, tk, List.map_append]; rfl, ?_, fun v hv => ?_⟩
              · refine List.pairwise_append.mpr ⟨asc, List.pairwise_singleton _ _, fun a ha b hb => ?_⟩
                rw [List.mem_singleton.mp hb]
                obtain ⟨r, hr⟩ := List.getElem?_of_mem ha
                have lr : r < ns.length := (List.getElem?_eq_some_iff.mp hr).1
                have lns : ns.length = j + 1 := by
                  have := congrArg List.length tk
                  rw [List.length_take, List.length_map] at this
                  omega
                have hjn : ns[j]? = some p := by
                  have e1 : (xs.take (j + 1))[j]? = xs[j]? := List.getElem?_take_of_lt (by omega)
                  rw [tk, List.getElem?_map, hp] at e1
                  obtain ⟨p', h1, h2⟩ := Option.map_eq_some_iff.mp e1
                  cases h2
                  exact h1
                obtain ⟨l1, g1⟩ := List.getElem?_eq_some_iff.mp hr
                obtain ⟨l2, g2⟩ := List.getElem?_eq_some_iff.mp hjn
                by_cases er : r = j
                · subst er
                  rw [g1] at g2
                  omega
                · have := List.pairwise_iff_getElem.mp asc r j l1 l2 (by omega)
                  rw [g1, g2] at this
                  omega
              · rcases List.mem_append.mp hv with h | h
                · exact sub v h
                · rw [List.mem_singleton.mp h]; exact hz
          · rw [decide_eq_false (show ¬ (0 : Int) < (i : Int) by omega)]
            have i0 : i = 0 := by omega
            subst i0
            refine iteF ⟨_, _, ns ++ [z], rfl, s2, by rw [take_next hv, tk, List.map_append]; rfl, ?_, fun v hv => ?_⟩
            · have : ns = [] := by
                rw [List.take_zero] at tk
                cases ns with
                | nil => rfl
                | cons _ _ => cases tk
              subst this
              exact List.pairwise_singleton _ _
            · rcases List.mem_append.mp hv with h | h
              · exact sub v h
              · rw [List.mem_singleton.mp h]; exact hz
        · rw [decide_eq_false hz]
          exact iteT (bad fun z' ez => by cases ez; exact hz)
      | _ =>
        cases ka with
        | false => exact iteT (bad fun z' ez => nomatch ez)
        | true =>
          have hb : kb = true := by
            cases kb with
            | true => rfl
            | false => cases e
          subst hb
          refine iteF ⟨_, rfl, _, _, _, _, true, rfl, .ty "bool", tyi, k2, true, rfl, iteT ?_⟩
          exact bad fun z' ez => nomatch ez
    · rintro σ H1 ⟨y3, y4, ns, rfl, s1, tk, asc, sub⟩
      rw [List.take_length] at tk
      subst tk
      refine ⟨x, rfl, .ref a, rfl, x, .ref a, m, es, ns, rfl, hm, isf, Dp.same s1 hx, Dp.ints (Same.tup s1 ha), fun H2 b s2 hb => ?_⟩
      refine q _ b (s1.trans s2) (hb.trans ⟨fun cl => ⟨ns, rfl, asc, sub, cl⟩, ?_⟩)
      rintro ⟨T, eT, _, _, cl⟩
      have eT : ns = T := List.map_inj_right (f := V.int) (fun _ _ h => by injection h) |>.mp eT
      subst eT
      exact cl
/-! ### the law's judgment -/
def spLDue (K : PySem.W.Frag) : Sp := fun vs H Q _ => ∃ (x y r : V) (m : Nat) (es : List (Int × Int)) (S : List Int) (u : Int) (oi : Option (V × V)) (op : Option (List V)) (so : Option (List (Option (V × V)))), vs = [x, y, .int u, r] ∧ m ≤ 12 ∧ IsFor m es ∧ Dp K H x (forD m es) ∧ Dp K H y (intsD S) ∧ IsSet m es S ∧ Iw K H r oi ∧ Lk K H op so oi ∧
  ∀ (H' : Hp) (b : Bool), Same H H' → (b = true ↔ HlQ m es S u op so oi) → Q (.bl b) H'
theorem ok_LDue {f : Addr} {fd : FuncData} (F : Fun K "_law_due" "_law_due" sLDue f fd) (m_isinstance : mg "isinstance" = none) (m_tuple : mg "tuple" = none) (m_len : mg "len" = none) (m_str : mg "str" = none) (m_enumerate : mg "enumerate" = none)
    (oLIsLockOf : Own P w K mg base "_law_is_lock_of" 3 ["_law_forest_here", "_law_setting_here", "_law_value"] (spLIsLockOf K)) (oLFollowed : Own P w K mg base "_law_followed" 3 ["_law_forest_here", "_law_setting_here", "_law_slides"] (spLFollowed K)) :
    FnOk P w K mg base CX0 4 f fd ["_law_forest_here", "_law_setting_here", "_law_lamp", "_law_value"] (spLDue K) := by
  refine F.ok scLDue (fun vs H Q E h => ?_) (fun cdv A outer s H vs Q E hr h => ?_)
  · obtain ⟨x, y, r, m, es, S, u, oi, op, so, rfl, _⟩ := h
    rfl
  · obtain ⟨x, y, r, m, es, S, u, oi, op, so, rfl, hm, isf, hx, hy, sS, hr2, lk, q⟩ := h
    refine ⟨_, (pss_cons (ps_if (PW.pt (pw_or (pt_not (pt_val (pe_callB (isiK K) (by rfl) m_isinstance (by decide +kernel) (pa_cons (pv 3) (pa_cons (pe_bltn (v := .ty "tuple") (by rfl) m_tuple (by decide +kernel) rfl) pa_nil))))) (pw_or (pt_cmpR op_ne (pe_callB (lenK K) (by rfl) m_len (by decide +kernel) (pa_cons (pv 3) pa_nil)) pe_int (nomark _)) (pw_or1 (pt_not (pt_val (pe_callB (isiK K) (by rfl) m_isinstance (by decide +kernel) (pa_cons (pe_ix (ixTK K) (pv 3) pe_int (fun _ _ => rfl)) (pa_cons (pe_bltn (v := .ty "str") (by rfl) m_str (by decide +kernel) rfl) pa_nil))))))))) (pss_one (ps_ret pe_bl)) pss_nil)
    (pss_cons (ps_if (pt_cmpR op_eq (pe_ix (ixTK K) (pv 3) pe_int (fun _ _ => rfl)) pe_str (nomark _)) (pss_one (ps_ret (pe_and (pe_own oLIsLockOf (hr.mono (by decide)) (by rfl) (pa_cons (pv 0) (pa_cons (pv 1) (pa_cons (pe_ix (ixTK K) (pv 3) pe_int (fun _ _ => rfl)) pa_nil)))) (pe_one (pe_cmpR (inK K) (pv 2) (pe_ix (ixTK K) (pv 3) pe_int (fun _ _ => rfl)) (by rfl)))))) pss_nil)
    (pss_cons (ps_if (PW.pt (pw_or (pt_cmpR op_ne (pe_ix (ixTK K) (pv 3) pe_int (fun _ _ => rfl)) pe_str (nomark _)) (pw_or (pt_not (pt_val (pe_callB (isiK K) (by rfl) m_isinstance (by decide +kernel) (pa_cons (pe_ix (ixTK K) (pv 3) pe_int (fun _ _ => rfl)) (pa_cons (pe_bltn (v := .ty "tuple") (by rfl) m_tuple (by decide +kernel) rfl) pa_nil))))) (pw_or1 (pt_cmpR (eqEK K hr.units) (pe_ix (ixTK K) (pv 3) pe_int (fun _ _ => rfl)) (pe_tup pa_nil) (nomark _)))))) (pss_one (ps_ret pe_bl)) pss_nil)
    (pss_cons (ps_if (pt_cmpR op_isN (pe_own oLFollowed (hr.mono (by decide)) (by rfl) (pa_cons (pv 0) (pa_cons (pv 1) (pa_cons (pe_ix (ixTK K) (pv 3) pe_int (fun _ _ => rfl)) pa_nil)))) pe_non (nomark _)) (pss_one (ps_ret pe_bl)) pss_nil)
    (pss_one (ps_ret (pe_cmpR (eqDK K hr.units) (pe_lc (own := [("_law_k", 4), ("_law_slide", 5)]) (g := (gTup K 2 (gCons (gName 4) (gCons (gName 5) gNil)))) rfl scLDue.nd (pi_enumT K (by rfl) m_enumerate (pa_cons (pe_ix (ixTK K) (pv 3) pe_int (fun _ _ => rfl)) pa_nil))
      (blkOk_by (own := [("_law_k", 4), ("_law_slide", 5)]) (N := nLDue) (sc := (defScope sLDue)) (by decide +kernel))
      (fun _ _ _ _ _ => (pgTK K (pgs_cons (pg_name (i := 4) scLDue.nd rfl (Or.inl rfl)) (pgs_cons (pg_name (i := 5) scLDue.nd rfl (Or.inl rfl)) pgs_nil)))) (fun _ _ _ _ _ => (pts_one (pt_cmpR op_eq (pe_ix (ixTK K) (pv 5) pe_int (fun _ _ => rfl)) (pv 2) (nomark _))))
      (fun _ _ _ _ _ => (pv 4))) (pe_lst (pa_cons (pe_op op_sub (pe_callB (lenK K) (by rfl) m_len (by decide +kernel) (pa_cons (pe_ix (ixTK K) (pv 3) pe_int (fun _ _ => rfl)) pa_nil)) pe_int) pa_nil)) (nomark _)))))))), ?_⟩
    cases hr2 with
    | no h k => exact ⟨r, rfl, _, _, _, _, false, rfl, .ty "tuple", h, k, false, rfl, iteT (q _ false (Same.refl H) ⟨(fun z => nomatch z), fun z => z.elim⟩)⟩
    | @len a xs h l =>
      refine ⟨.ref a, rfl, _, _, _, _, true, rfl, .ty "tuple", ty_tup h, kit_ty (by decide +kernel), true, rfl, iteF ?_⟩
      refine ⟨.ref a, rfl, a, _, rfl, .inr h, rfl, true, ?_, iteT (q _ false (Same.refl H) ⟨(fun z => nomatch z), fun z => z.elim⟩)⟩
      rw [decide_eq_false (by intro z; exact l (by injection z with z; omega))]
      rfl
    | @two a k p h kk kp =>
      obtain ⟨_, hp, sp, t, tk, ts⟩ := lk k p rfl
      refine ⟨.ref a, rfl, _, _, _, _, true, rfl, .ty "tuple", ty_tup h, kit_ty (by decide +kernel), true, rfl, iteF ?_⟩
      refine ⟨.ref a, rfl, a, _, rfl, .inr h, rfl, false, rfl, iteF ?_⟩
      refine ⟨.ref a, rfl, a, _, 0, k, rfl, rfl, h, atI_nat (j := 0) rfl, _, _, _, _, _, rfl, .ty "str", tk, ts, _, rfl, ?_⟩
      by_cases ks : ∃ c, k = .str c
      case neg =>
        have : isStr k = false := by
          cases k <;> first | rfl | exact absurd ⟨_, rfl⟩ ks
        rw [this]
        refine iteT (q _ false (Same.refl H) ⟨(fun z => nomatch z), fun z => ?_⟩)
        rcases z with ⟨e, _⟩ | ⟨e, _⟩
        · exact absurd ⟨_, e⟩ ks
        · exact absurd ⟨_, e⟩ ks
      obtain ⟨c, rfl⟩ := ks
      refine iteF ?_
      refine ⟨.ref a, rfl, a, _, 0, .str c, rfl, rfl, h, atI_nat (j := 0) rfl, rfl, _, rfl, ?_⟩
      by_cases ck : c = Str.ofString "rigid"
      · rw [decide_eq_true (show V.str c = V.str (Str.ofString "rigid") by rw [ck])]
        refine iteT ⟨x, rfl, y, rfl, .ref a, rfl, a, _, 1, p, rfl, rfl, h, atI_nat (j := 1) rfl, x, y, p, m, es, S, op, rfl, hm, isf, hx, hy, sS, hp, fun H1 b s1 hb => ⟨b, rfl, ?_⟩⟩
        have ck : V.str c = V.str (Str.ofString "rigid") := by rw [ck]
        cases b with
        | false =>
          rw [if_neg Bool.false_ne_true]
          refine q _ false s1 ⟨(fun z => nomatch z), fun z => ?_⟩
          rcases z with ⟨_, l, _⟩ | ⟨e, _⟩
          · exact hb.mpr l
          · exact absurd (e.symm.trans ck) rig_mov
        | true =>
          rw [if_pos rfl]
          have lkk := hb.mp rfl
          cases hp with
          | no _ _ => exact lkk.elim
          | @yes pa xs hpa _ _ =>
            obtain ⟨T, rfl, asc, sub, cl⟩ := id lkk
            refine ⟨.int u, rfl, .ref a, rfl, a, _, 1, .ref pa, rfl, rfl, Same.tup s1 h, atI_nat (j := 1) rfl, pa, T.map V.int, rfl, .inr (Same.tup s1 hpa), rfl, flat_ints T, ?_⟩
            show Q (.bl (if false = true then _ else inV (V.int u) (T.map V.int))) _
            rw [if_neg Bool.false_ne_true, inV_ints]
            refine q _ _ s1 ⟨fun z => .inl ⟨ck, lkk, List.mem_map.mpr ⟨u, of_decide_eq_true z, rfl⟩⟩, fun z => ?_⟩
            rcases z with ⟨_, _, i⟩ | ⟨e, _⟩
            · obtain ⟨i', hi, ei⟩ := List.mem_map.mp (show V.int u ∈ T.map V.int from i)
              cases ei
              exact decide_eq_true hi
            · exact absurd (e.symm.trans ck) rig_mov
      · have ck : V.str c ≠ V.str (Str.ofString "rigid") := fun z => ck (by injection z)
        rw [decide_eq_false ck]
        refine iteF ⟨.ref a, rfl, a, _, 0, .str c, rfl, rfl, h, atI_nat (j := 0) rfl, rfl, _, rfl, ?_⟩
        have no : (c = Str.ofString "moves" → ¬ MvO m es S u so) → ∀ H', Same H H' → Q (.bl false) H' := fun n H' s => q _ false s ⟨(fun z => nomatch z), fun z => by
          rcases z with ⟨e, _⟩ | ⟨e, z⟩
          · exact absurd e ck
          · exact absurd z (n (by injection e))⟩
        by_cases cm : c = Str.ofString "moves"
        case neg =>
          rw [decide_eq_false (show ¬ V.str c = V.str (Str.ofString "moves") from fun z => cm (by injection z))]
          exact iteT (no (fun z => absurd z cm) _ (Same.refl H))
        rw [decide_eq_true (show V.str c = V.str (Str.ofString "moves") by rw [cm])]
        refine iteF ?_
        cases sp with
        | no h2 k2 => exact ⟨.ref a, rfl, a, _, 1, p, rfl, rfl, h, atI_nat (j := 1) rfl, _, _, _, _, false, rfl, .ty "tuple", h2, k2, false, rfl, iteT (no (fun _ z => z) _ (Same.refl H))⟩
        | @yes pa xs os hpa hi lx =>
        refine ⟨.ref a, rfl, a, _, 1, .ref pa, rfl, rfl, h, atI_nat (j := 1) rfl, _, _, _, _, true, rfl, .ty "tuple", ty_tup hpa, kit_ty (by decide +kernel), true, rfl, iteF ?_⟩
        refine ⟨.ref a, rfl, a, _, 1, .ref pa, rfl, rfl, h, atI_nat (j := 1) rfl, Nat.zero_le _, fun e ne => ?_⟩
        have se := same_upd (o := .tup []) ne
        have ee := same_at (o := .tup []) ne
        generalize upd H e _ = H1 at se ee ⊢
        have h1 := Same.tup se h
        have hpa1 := Same.tup se hpa
        refine ⟨pa, e, xs, rfl, rfl, hpa1, SqT.of ee, _, rfl, ?_⟩
        have lxo := hi.len
        cases xs with
        | nil =>
          refine iteT (no (fun _ z => ?_) _ se)
          obtain ⟨ps, e1, _, A, v, e2, _⟩ := z
          rw [e1, e2, List.length_map, List.length_append, List.length_singleton] at lxo
          exact absurd lxo (by show ¬ 0 = _; omega)
        | cons x0 xs0 =>
        refine iteF ?_
        generalize hxs : x0 :: xs0 = xs at hpa hpa1 hi lx lxo ⊢
        refine ⟨x, rfl, y, rfl, .ref a, rfl, a, _, 1, .ref pa, rfl, rfl, h1, atI_nat (j := 1) rfl, x, y, .ref pa, m, es, S, os, rfl, hm, isf, Dp.same se hx, Dp.same se hy, sS, .yes hpa1 (hi.same se) lx, fun v hv H2 s2 => ⟨rfl, _, rfl, iteT (no (fun _ => MvO.no (so := some os) hv) _ (se.trans s2))⟩, fun T hT H2 r2 s2 isT dr => ?_⟩
        obtain ⟨rb, rfl, _⟩ := Dp.intsI dr
        refine ⟨rfl, _, rfl, iteF ?_⟩
        have s02 := se.trans s2
        have h2 := Same.tup s2 h1
        have hpa2 := Same.tup s2 hpa1
        obtain ⟨ps, rfl, hw⟩ := follB_inr hT
        have hA := Iws.prs (hi.same s02)
        rw [List.length_map] at lxo
        refine ⟨.ref a, rfl, a, _, 1, .ref pa, rfl, rfl, h2, atI_nat (j := 1) rfl, pa, xs, rfl, hpa2, fun D nD => ?_⟩
        have sD := same_upd (o := .lst []) nD
        refine lc_enumT (K := K) (a := pa) (xs := xs) (fun i H' => Same H2 H' ∧ H' D = some (.lst (((List.range i).filter fun k => decide ((ps.getD k (0, 0)).1 = u)).map fun k : Nat => V.int (k : Int)))) ⟨sD, upd_same⟩ (fun i H' _ p => Same.tup p.1 hpa2) ?_ ?_
        · rintro i z t H' hz nt ⟨s', eD⟩
          have st := same_upd (o := .tup [V.int (i : Nat), z]) nt
          have et := same_at (o := .tup [V.int (i : Nat), z]) nt
          obtain ⟨zd, hzd, dz⟩ := DpAll.get hA hz
          rw [List.getElem?_map] at hzd
          obtain ⟨p, hp, rfl⟩ := Option.map_eq_some_iff.mp hzd
          obtain ⟨hil, _⟩ := List.getElem?_eq_some_iff.mp hz
          obtain ⟨zb, rfl, hzb⟩ := Dp.prI (Dp.same (s'.trans st) dz)
          have eD2 := st _ _ eD
          have s'2 := s'.trans st
          have tD : t ≠ D := (ne_of_none eD nt).symm
          generalize upd H' t _ = H3 at st et hzb eD2 s'2 ⊢
          have gp : (ps.getD i (0, 0)).1 = p.1 := by rw [List.getD_eq_getElem?_getD, hp]; rfl
          have ll : ((((List.range i).filter fun k => decide ((ps.getD k (0, 0)).1 = u)).map fun k : Nat => V.int (k : Int))).length ≤ 400 := by
            rw [List.length_map]
            refine Nat.le_trans (List.length_filter_le _ _) ?_
            rw [List.length_range]
            omega
          refine ⟨t, _, rfl, SqT.of et, rfl, _, _, rfl, _, _, rfl, rfl, rfl, ?_⟩
          refine ⟨.ref zb, rfl, zb, _, 0, .int p.1, rfl, rfl, hzb, atI_nat (j := 0) rfl, .int u, rfl, rfl, _, rfl, ?_⟩
          rw [dec_int, List.range_succ, List.filter_append, List.map_append]
          by_cases c : p.1 = u
          · rw [List.filter_cons_of_pos (by rw [gp]; exact decide_eq_true c), List.filter_nil]
            refine ite2 (fun _ => ⟨.int (i : Int), rfl, _, eD2, small1000 (by omega), fun h o eh => ?_, upd_same⟩) (fun h => absurd (decide_eq_true c) h)
            rw [upd_ne (ne_of_none eh nD)]
            exact s'2 _ _ eh
          · rw [List.filter_cons_of_neg (by rw [gp, decide_eq_false c]; decide), List.filter_nil, List.map_nil, List.append_nil]
            exact ite2 (fun h => absurd (of_decide_eq_true h) c) (fun _ => ⟨s'2, eD2⟩)
        · rintro H' ⟨s', eD⟩
          have em : (((List.range xs.length).filter fun k => decide ((ps.getD k (0, 0)).1 = u)).map fun k : Nat => V.int (k : Int)) = (((List.range xs.length).filter fun k => decide ((ps.getD k (0, 0)).1 = u)).map fun k : Nat => (k : Int)).map V.int := by rw [List.map_map]; rfl
          rw [em] at eD
          refine ⟨.ref a, rfl, a, _, 1, .ref pa, rfl, rfl, Same.tup s' h2, atI_nat (j := 1) rfl, pa, _, rfl, .inr (Same.tup s' hpa2), _, _, rfl, rfl, by show 1 ≤ sizeLine; decide, fun B nB => ?_⟩
          have sB := same_upd (o := .lst [V.int ((xs.length : Int) - 1)]) nB
          refine ⟨.list ((((List.range xs.length).filter fun k => decide ((ps.getD k (0, 0)).1 = u)).map fun k : Nat => (k : Int)).map .int), .list ([(xs.length : Int) - 1].map .int), .lst (SqL.of (sB _ _ eD)) (DpAll.of_ints _), .lst (SqL.of upd_same) (.cons (.int _) .nil), shaped_ints _, shaped_ints _, ?_⟩
          rw [eqv_lists]
          refine q _ _ ((s02.trans s').trans sB) ?_
          rw [decide_eq_true_iff]
          have base : (∃ A v, ps = A ++ [(u, v)] ∧ u ∉ A.map (·.1)) ↔ HlQ m es S u op (some (ps.map itV)) (some (V.str c, V.ref pa)) := by
            constructor
            · exact fun z => .inr ⟨by rw [cm], ps, rfl, ⟨T, hw⟩, z⟩
            · rintro (⟨e, _⟩ | ⟨_, ps', e', _, z⟩)
              · exact absurd e ck
              · rw [itV_inj e']
                exact z
          rw [← base]
          rcases List.eq_nil_or_concat ps with rfl | ⟨A, ⟨u2, v2⟩, rfl⟩
          · rw [← hxs] at lxo
            exact absurd lxo (by show ¬ _ + 1 = 0; omega)
          rw [List.concat_eq_append] at lxo ⊢
          rw [List.length_append, List.length_singleton] at lxo
          have gl : ((A ++ [(u2, v2)]).getD A.length (0, 0)).1 = u2 := by rw [List.getD_eq_getElem?_getD, List.getElem?_append_right (Nat.le_refl _), Nat.sub_self]; rfl
          have gk : ∀ k (hk : k < A.length), (A ++ [(u2, v2)]).getD k (0, 0) = A[k] := fun k hk => by rw [List.getD_eq_getElem?_getD, List.getElem?_append_left hk, List.getElem?_eq_getElem hk]; rfl
          constructor
          · intro hf
            have m1 : ((A.length : Nat) : Int) ∈ ((List.range xs.length).filter fun k => decide (((A ++ [(u2, v2)]).getD k (0, 0)).1 = u)).map fun k : Nat => (k : Int) := by
              rw [hf, List.mem_singleton]
              omega
            obtain ⟨k, hk, ek⟩ := List.mem_map.mp m1
            have ek : k = A.length := by omega
            subst ek
            have := of_decide_eq_true (List.mem_filter.mp hk).2
            rw [gl] at this
            subst this
            refine ⟨A, v2, rfl, fun hm => ?_⟩
            obtain ⟨pr, hpr, epr⟩ := List.mem_map.mp hm
            obtain ⟨k, hk2, ek2⟩ := List.getElem_of_mem hpr
            have m2 : ((k : Nat) : Int) ∈ ((List.range xs.length).filter fun k => decide (((A ++ [(u2, v2)]).getD k (0, 0)).1 = u2)).map fun k : Nat => (k : Int) :=
              List.mem_map.mpr ⟨k, List.mem_filter.mpr ⟨List.mem_range.mpr (by omega), decide_eq_true (by rw [gk k hk2, ek2]; exact epr)⟩, rfl⟩
            rw [hf, List.mem_singleton] at m2
            omega
          · rintro ⟨A', v', e2, no⟩
            have e3 := List.append_inj' e2 rfl
            obtain ⟨e3, e4⟩ := e3
            subst e3
            injection e4 with e4
            injection e4 with e4 e5
            subst e4
            rw [lxo, List.range_succ, List.filter_append, List.filter_cons_of_pos (by rw [gl]; exact decide_eq_true rfl), List.filter_nil]
            rw [show ((List.range A.length).filter fun k => decide (((A ++ [(u2, v2)]).getD k (0, 0)).1 = u2)) = [] by
              rw [List.filter_eq_nil_iff]
              intro k hk z
              have hk := List.mem_range.mp hk
              have z := of_decide_eq_true z
              rw [gk k hk] at z
              exact no (List.mem_map.mpr ⟨A[k], List.getElem_mem hk, z⟩)]
            show [((A.length : Nat) : Int)] = [((A.length + 1 : Nat) : Int) - 1]
            congr 1
            omega
end
end TL
namespace TL
open PySem PySem.Spec PyProof.Rows L2
section
variable {P : Program} {w : World} {K : PySem.W.Frag} {mg : Str → Option Value} {base : Heap}
/-! ### a walk -/
theorem atI_last {xs : List V} {v : V} {n : Nat} (hn : xs.length = n + 1) (h : xs[n]? = some v) : atI xs (-1) = some v := by
  unfold atI ixN
  rw [if_neg (by decide), if_pos (by omega)]
  have e : ((-1 : Int) + (xs.length : Int)).toNat = n := by omega
  rw [e]
  exact h
theorem eqv_edges (es : List (Int × Int)) : PyData.eqv (.list (es.map prD)) (.list []) = decide (es = []) := by
  cases es with
  | nil => rfl
  | cons _ _ => rfl
theorem shaped_edges (es : List (Int × Int)) : SeqAt.shaped (.list (es.map prD)) = true := by
  have h1 : PyData.depthAll (es.map prD) ≤ 1 := by
    induction es with
    | nil => simp [PyData.depthAll]
    | cons p l ih =>
      simp only [List.map_cons, PyData.depthAll]
      exact Nat.max_le.mpr ⟨by simp [prD, PyData.depth, PyData.depthAll], ih⟩
  unfold SeqAt.shaped
  rw [show (PyData.list (es.map prD)).canLay0 = true from lay_prs es, Bool.true_and]
  refine decide_eq_true ?_
  simp only [PyData.depth]
  omega
theorem shaped_e : SeqAt.shaped (.tuple []) = true := by decide +kernel
theorem shaped_prs (ps : List (Int × Int)) : SeqAt.shaped (prsD ps) = true := by
  have h : (prsD ps).depth ≤ 64 := by
    have : ∀ l : List (Int × Int), PyData.depthAll (l.map prD) ≤ 1 := by
      intro l
      induction l with
      | nil => simp [PyData.depthAll]
      | cons p l ih =>
        simp only [List.map_cons, PyData.depthAll]
        exact Nat.max_le.mpr ⟨by simp [prD, PyData.depth, PyData.depthAll], ih⟩
    have := this ps
    simp only [prsD, PyData.depth]
    omega
  unfold SeqAt.shaped
  rw [decide_eq_true h, Bool.and_true]
  simp only [prsD, PyData.canLay0]
  exact lay_prs ps
theorem eqv_tupE (ps : List (Int × Int)) : PyData.eqv (prsD ps) (.tuple []) = decide (ps = []) := by
  cases ps with
  | nil => rfl
  | cons _ _ => rfl
def okP (p : Int × Int) : Prop := (0 ≤ p.1 ∧ p.1 ≤ 13) ∧ 0 ≤ p.2 ∧ p.2 ≤ 13
def spLWalk (K : PySem.W.Frag) : Sp := fun vs H Q _ => ∃ (d l : Addr) (n : Nat) (x y : V) (m : Nat) (es : List (Int × Int)) (S : List Int) (u0 : Int), vs = [.ref d, x, y, .int u0] ∧ Deck H d l n ∧ n < 800000 ∧ m ≤ 12 ∧ IsFor m es ∧ Dp K H x (forD m es) ∧ Dp K H y (intsD S) ∧ IsSet m es S ∧
  ∀ (H' : Hp) (z : V) (ps : List (Int × Int)), Fm d l H H' → Deck H' d l (n + 20) → Dp K H' z (prsD ps) → ps.length ≤ 9 → (∀ p ∈ ps, okP p) → Q z H'
theorem ok_LWalk {f : Addr} {fd : FuncData} (F : Fun K "_law_walk" "_law_walk" sLWalk f fd) (m_range : mg "range" = none) (m_len : mg "len" = none)
    (oLDraw : Own P w K mg base "_law_draw" 1 ["_law_deck_here", "_law_bound"] spLDraw) (oLNear : Own P w K mg base "_law_near" 1 ["_law_forest_here", "_law_vertex"] (spLNear K))
    (oLCanSlide : Own P w K mg base "_law_can_slide" 2 ["_law_forest_here", "_law_setting_here", "_law_u", "_law_v"] (spLCanSlide K)) (oLAfter : Own P w K mg base "_law_after" 1 ["_law_setting_here", "_law_u", "_law_v"] (spLAfter K)) :
    FnOk P w K mg base CX0 3 f fd ["_law_deck_here", "_law_forest_here", "_law_setting_here", "_law_lamp"] (spLWalk K) := by
  refine F.ok scLWalk (fun vs H Q E h => ?_) (fun cdv A outer s H vs Q E hr h => ?_)
  · obtain ⟨d, l, n, x, y, m, es, S, u0, rfl, _⟩ := h
    rfl
  · obtain ⟨d, l, n, x, y, m, es, S, u0, rfl, hD, hn, hm, isf, hx, hy, iss, q⟩ := h
    refine ⟨_, (pss_cons (ps_set (i := 4) scLWalk.nd rfl (.inl rfl) (pe_tup pa_nil))
    (pss_cons (ps_for PassesOwn.never rfl (pi_range1 (by rfl) m_range (pa_cons (pe_own oLDraw (hr.mono (by decide)) (by rfl) (pa_cons (pv 0) (pa_cons pe_int pa_nil))) pa_nil)) (pg_name (i := 5) scLWalk.nd rfl (Or.inl rfl))
    (pss_cons (ps_set (i := 6) scLWalk.nd rfl (.inl rfl) (pe_lst pa_nil))
    (pss_cons (ps_for PassesOwn.never rfl (piTK K (pv 2)) (pg_name (i := 7) scLWalk.nd rfl (Or.inr rfl))
    (pss_one (ps_set (i := 6) scLWalk.nd rfl (.inl rfl) (pe_op op_cat (pv 6) (pe_lc (own := [("_law_v", 8)]) (g := (gName 8)) rfl scLWalk.nd (piLK K (pe_own oLNear (hr.mono (by decide)) (by rfl) (pa_cons (pv 1) (pa_cons (pv 7) pa_nil))))
      (blkOk_by (own := [("_law_v", 8)]) (N := nLWalk) (sc := (defScope sLWalk)) (by decide +kernel))
      (fun _ _ _ _ _ => (pg_name (i := 8) scLWalk.nd rfl (Or.inl rfl))) (fun _ _ _ _ _ => (pts_one (pt_val (pe_own oLCanSlide (hr.mono (by decide)) (by rfl) (pa_cons (pv 1) (pa_cons (pv 2) (pa_cons (pv 7) (pa_cons (pv 8) pa_nil))))))))
      (fun _ _ _ _ _ => (pe_tup (pa_cons (pv 7) (pa_cons (pv 8) pa_nil)))))))))
    (pss_cons (ps_if (PW.pt (pw_or (pt_cmpR (eqDK K hr.units) (pv 6) (pe_lst pa_nil) (nomark _)) (pw_or1 (PW.pt (pw_and (pt_cmpR (neDK K hr.units) (pv 4) (pe_tup pa_nil) (nomark _)) (pw_and (pt_cmpR op_eq (pe_ix (ixTK K) (pe_ix (ixTK K) (pv 4) (pe_un un_neg pe_int) (fun _ _ => rfl)) pe_int (fun _ _ => rfl)) (pv 3) (nomark _)) (pw_and1 (pt_cmpR op_gt (pe_own oLDraw (hr.mono (by decide)) (by rfl) (pa_cons (pv 0) (pa_cons pe_int pa_nil))) pe_int (nomark _))))))))) (pss_one (ps_ret (pv 4))) pss_nil)
    (pss_cons (ps_asg (pe_ix (ixLK K) (pv 6) (pe_own oLDraw (hr.mono (by decide)) (by rfl) (pa_cons (pv 0) (pa_cons (pe_callB (lenK K) (by rfl) m_len (by decide +kernel) (pa_cons (pv 6) pa_nil)) pa_nil))) (fun _ _ => rfl)) (pgTK K (pgs_cons (pg_name (i := 7) scLWalk.nd rfl (Or.inr rfl)) (pgs_cons (pg_name (i := 8) scLWalk.nd rfl (Or.inl rfl)) pgs_nil))))
    (pss_cons (ps_set (i := 4) scLWalk.nd rfl (.inl rfl) (pe_op (catAK K) (pv 4) (pe_tup (pa_cons (pe_tup (pa_cons (pv 7) (pa_cons (pv 8) pa_nil))) pa_nil))))
    (pss_one (ps_set (i := 2) scLWalk.nd rfl (.inr rfl) (pe_own oLAfter (hr.mono (by decide)) (by rfl) (pa_cons (pv 2) (pa_cons (pv 7) (pa_cons (pv 8) pa_nil))))))))))))
    (pss_one (ps_ret (pv 4))))), ?_⟩
    refine ⟨Nat.zero_le _, fun L nL => ?_⟩
    have sL := same_upd (o := .tup []) nL
    have eL := same_at (o := .tup []) nL
    refine ⟨.ref d, rfl, d, l, _, 9, rfl, by decide, by decide, hD.same sL, by omega, fun H1 r r0 r1 f1 d1 => ?_⟩
    have f01 : Fm d l H H1 := (Same.fm sL).trans f1
    have k01 : KT K H H1 := f01.kt hD
    refine ⟨r, rfl, by omega, by omega, for_range (lo := 0) (n := r.toNat) (fun j σ H' => ∃ (y5 y6 y7 y8 : Option V) (z rr : V) (R : List Int) (ps : List (Int × Int)), σ = [some (.ref d), some x, some rr, some (.int u0), some z, y5, y6, y7, y8] ∧
      Fm d l H H' ∧ Deck H' d l (n + 1 + 2 * j) ∧ Dp K H' x (forD m es) ∧ Dp K H' rr (intsD R) ∧ IsSet m es R ∧ Dp K H' z (prsD ps) ∧ ps.length ≤ j ∧ ∀ p ∈ ps, okP p) ?_ ?_ ?_⟩
    · exact ⟨none, none, none, none, .ref L, y, S, [], rfl, f01, d1, Dp.kt k01 hx (only_forD _ _), Dp.kt k01 hy (only_intsD _), iss, .tup (f1.kt (hD.same sL) _ _ (SqT.of eL)) .nil, Nat.le_refl _, fun _ h => nomatch h⟩
    · rintro j σ H2 hj ⟨y5, y6, y7, y8, z, rr, R, ps, rfl, f2, d2, hx2, dr, isr, dz, lp, rp⟩
      have lR := isr.len
      obtain ⟨rb, rfl, hrb⟩ := Dp.intsI dr
      refine ⟨Nat.zero_le _, fun O0 nO => ?_⟩
      have sO := same_upd (o := .lst []) nO
      have eO := same_at (o := .lst []) nO
      refine ⟨.ref rb, rfl, rb, rfl, ⟨_, Same.tup sO hrb⟩, for_tup (K := K) (a := rb) (xs := R.map V.int) (fun i σ H' => ∃ (y7 y8 : Option V) (O : Addr) (ys : List V) (qs : List (Int × Int)), σ = [some (.ref d), some x, some (.ref rb), some (.int u0), some z, some (.int (0 + (j : Int))), some (.ref O), y7, y8] ∧
        Same H2 H' ∧ H' O = some (.lst ys) ∧ O ≠ d ∧ O ≠ l ∧ DpAll K H' ys (qs.map prD) ∧ qs.length ≤ 12 * i ∧ ∀ p ∈ qs, p ∈ slidesP m es R) ?_ ?_ ?_ ?_⟩
      · have oO := d2.off nO
        exact ⟨_, _, O0, [], [], rfl, sO, eO, oO.1, oO.2, .nil, Nat.zero_le _, fun _ h => nomatch h⟩
      · rintro i σ H' _ ⟨y7, y8, O, ys, qs, rfl, s1, _⟩
        exact Same.tup s1 hrb
      · rintro i v σ H3 hv ⟨y7, y8, O, ys, qs, rfl, s3, eO3, o1, o2, dys, lq, hq⟩
        rw [List.getElem?_map] at hv
        obtain ⟨u, hu, rfl⟩ := Option.map_eq_some_iff.mp hv
        have hil := (List.getElem?_eq_some_iff.mp hu).1
        have hx3 := Dp.same s3 hx2
        refine ⟨.ref O, rfl, x, rfl, .int u, rfl, x, m, es, u, rfl, by omega, isf, hx3, fun H4 N s4 nN eN => ?_⟩
        have nl := nearL_len m es u
        have s24 := s3.trans s4
        refine ⟨N, rfl, ⟨_, SqL.of eN⟩, fun C nC => ?_⟩
        refine lc_listI (K := K) (fun v => decide ((u, v) ∈ slidesP m es R)) (fun v => prD (u, v)) nC (SqL.of eN) (fun _ => rfl) (fun o _ H' Rr s8 hR => ?_) (fun o _ _ H' Rr s8 hR => ?_) (fun o => only_pr _) (by omega) (fun H5 ws s5 eC dw => ?_)
        · exact ⟨x, rfl, .ref rb, rfl, .int u, rfl, .int o, rfl, x, .ref rb, m, es, R, u, o, rfl, hm, isf, isr, Dp.same (s4.trans s8) hx3, Dp.ints (Same.tup (s24.trans s8) hrb), fun H'' s => ⟨_, rfl, hR _ s⟩⟩
        · exact ⟨.int u, rfl, .int o, rfl, by show 2 ≤ sizeLine; decide, fun t nt => hR _ _ (same_upd nt) (Dp.pr (SqT.of upd_same))⟩
        have s25 := s24.trans s5
        have eO5 := (s4.trans s5) _ _ eO3
        have lw : ws.length ≤ 12 := by
          have h1 := DpAll.length dw
          rw [List.length_map] at h1
          have h2 := List.length_filter_le (fun v => decide ((u, v) ∈ slidesP m es R)) (nearL m es u)
          omega
        have ly : ys.length = qs.length := by rw [DpAll.length dys, List.length_map]
        refine ⟨O, C, _, _, rfl, rfl, eO5, eC, Nat.le_of_lt (small1000 (by omega)), fun P0 nP => ?_⟩
        have sP := same_upd (o := .lst (ys ++ ws)) nP
        have oP := (d2.same s25).off nP
        refine ⟨_, _, P0, ys ++ ws, qs ++ ((nearL m es u).filter fun v => decide ((u, v) ∈ slidesP m es R)).map (fun v => (u, v)), rfl, s25.trans sP, same_at nP, oP.1, oP.2, ?_, ?_, fun p hp => ?_⟩
        · rw [List.map_append]
          refine DpAll.same sP (DpAll.append (DpAll.same (s4.trans s5) dys) ?_)
          rw [List.map_map]
          exact dw
        · have h1 := DpAll.length dw
          rw [List.length_map] at h1
          rw [List.length_append, List.length_map]
          omega
        · rcases List.mem_append.mp hp with hp | hp
          · exact hq p hp
          · obtain ⟨v, hv, rfl⟩ := List.mem_map.mp hp
            exact of_decide_eq_true (List.mem_filter.mp hv).2
      · rintro σ H3 ⟨y7, y8, O, ys, qs, rfl, s3, eO3, o1, o2, dys, lq, hq⟩
        rw [List.length_map] at lq
        have lyq : ys.length = qs.length := by rw [DpAll.length dys, List.length_map]
        refine ⟨.ref O, rfl, Nat.zero_le _, fun e1 n1 => ?_⟩
        have sA := same_upd (o := .lst []) n1
        have s4 := s3.trans sA
        have eO4 := sA _ _ eO3
        refine ⟨.list (qs.map prD), .list [], .lst (SqL.of eO4) (DpAll.same sA dys), .lst (SqL.of upd_same) .nil, shaped_edges qs, by decide +kernel, _, rfl, ?_⟩
        rw [eqv_edges]
        have dys4 := DpAll.same sA dys
        generalize upd H3 e1 _ = H4 at sA s4 eO4 dys4 ⊢
        by_cases hq0 : qs = []
        · rw [decide_eq_true hq0]
          exact iteT ⟨z, rfl, q _ z ps (f2.trans (Same.fm s4)) ((d2.same s4).le (by omega)) (Dp.same s4 dz) (by omega) rp⟩
        rw [decide_eq_false hq0]
        have lq0 : 0 < qs.length := List.length_pos_iff.mpr hq0
        refine iteF ⟨z, rfl, Nat.zero_le _, fun e2 n2 => ?_⟩
        have sB := same_upd (o := .tup []) n2
        have s5 := s4.trans sB
        have dz5 := Dp.same s5 dz
        refine ⟨prsD ps, .tuple [], dz5, .tup (SqT.of upd_same) .nil, shaped_prs ps, shaped_e, _, rfl, ?_⟩
        rw [eqv_tupE]
        have eOX := sB _ _ eO4
        have dysX := DpAll.same sB dys4
        have fX := f2.trans (Same.fm s5)
        have dX := d2.same s5
        have hxX := Dp.same s5 hx2
        have hrbX := Same.tup s5 hrb
        generalize upd H4 e2 _ = HX at sB s5 dz5 eOX dysX fX dX hxX hrbX ⊢
        by_cases hp0 : ps = []
        · rw [decide_eq_true hp0]
          refine iteF ?_
          refine ⟨.ref O, rfl, .ref d, rfl, .ref O, rfl, O, _, rfl, .inl (SqL.of eOX), d, l, _, ys.length, rfl, by omega, by omega, dX, by omega, fun H8 i i0 i1 f8 d8 => ?_⟩
          have eO8 := f8 _ _ o1 o2 eOX
          have k8 : KT K HX H8 := f8.kt dX
          have dys8 := DpAll.kt k8 dysX (only_prs _)
          have hi : i.toNat < ys.length := by omega
          obtain ⟨pd, hpd, dp⟩ := DpAll.get dys8 (List.getElem?_eq_getElem hi)
          rw [List.getElem?_map] at hpd
          obtain ⟨p, hp, rfl⟩ := Option.map_eq_some_iff.mp hpd
          have pin := hq p (List.mem_of_getElem? hp)
          obtain ⟨vb, ev, hvb⟩ := Dp.prI dp
          refine ⟨O, ys, i, .ref vb, rfl, rfl, SqL.of eO8, at_of (j := i.toNat) (by omega) (by rw [List.getElem?_eq_getElem hi, ev]), vb, _, rfl, hvb, rfl, _, _, rfl, _, _, rfl, rfl, ?_⟩
          obtain ⟨sa9, xs, ez9, hsa, hsA⟩ := Dp.tupI (Dp.kt k8 dz5 (only_prsD _))
          cases ez9
          have lxs : xs.length = ps.length := by rw [DpAll.length hsA, List.length_map]
          refine ⟨_, rfl, .int p.1, rfl, .int p.2, rfl, by show 2 ≤ sizeLine; decide, fun t1 nt1 => ⟨by show 1 ≤ sizeLine; decide, fun t2 nt2 => ?_⟩⟩
          have st1 := same_upd (o := .tup [V.int p.1, V.int p.2]) nt1
          have et1 := same_at (o := .tup [V.int p.1, V.int p.2]) nt1
          have st2 := same_upd (o := .tup [V.ref t1]) nt2
          have et2 := same_at (o := .tup [V.ref t1]) nt2
          refine catV (Same.tup (st1.trans st2) hsa) (SqT.of et2) (by show xs.length + 1 ≤ 900; omega) fun H9 z9 s9 e9 => ?_
          have s89 := (st1.trans st2).trans s9
          refine ⟨.ref rb, rfl, .int p.1, rfl, .int p.2, rfl, .ref rb, R, p.1, p.2, rfl, Dp.ints (Same.tup s89 (k8 _ _ hrbX)), by omega, fun H10 r' s10 dr' => ?_⟩
          have sZ := s89.trans s10
          have sl := mem_slidesP.mp (show (p.1, p.2) ∈ slidesP m es R from pin)
          have rp1 := isr.rng p.1 sl.1
          have rp2 := (near_rng isf sl.2.1).1
          refine ⟨_, _, _, _, .ref z9, r', after R p.1 p.2, ps ++ [p], rfl, (fX.trans f8).trans (Same.fm sZ), (d8.same sZ).le (by omega), Dp.same sZ (Dp.kt k8 hxX (only_forD _ _)), dr', IsSet.slide isf isr pin, ?_, by rw [List.length_append, List.length_singleton]; omega, fun p' hp' => ?_⟩
          · refine Dp.same s10 (.tup e9 ?_)
            rw [List.map_append]
            exact DpAll.append (DpAll.same s89 hsA) (.cons (Dp.same (st2.trans s9) (Dp.pr (SqT.of et1))) .nil)
          · rcases List.mem_append.mp hp' with h | h
            · exact rp p' h
            · rw [List.mem_singleton.mp h]
              exact ⟨by omega, by omega⟩
        · rw [decide_eq_false hp0]
          rcases List.eq_nil_or_concat ps with e0 | ⟨A0, ⟨pu, pv⟩, e0⟩
          · exact absurd e0 hp0
          rw [List.concat_eq_append] at e0
          obtain ⟨sa, xs, rfl, hsa, hsA⟩ := Dp.tupI dz5
          have lxs : xs.length = A0.length + 1 := by rw [DpAll.length hsA, List.length_map, e0, List.length_append, List.length_singleton]
          have hl : A0.length < xs.length := by omega
          obtain ⟨zd, hzd, dzl⟩ := DpAll.get hsA (List.getElem?_eq_getElem hl)
          rw [List.getElem?_map, e0, List.getElem?_append_right (Nat.le_refl _), Nat.sub_self] at hzd
          cases hzd
          obtain ⟨lb, elb, hlb⟩ := Dp.prI dzl
          refine iteT ⟨.ref sa, rfl, 1, rfl, sa, xs, -1, .ref lb, rfl, rfl, hsa, atI_last lxs (by rw [List.getElem?_eq_getElem hl, elb]), lb, _, 0, .int pu, rfl, rfl, hlb, atI_nat (j := 0) rfl, .int u0, rfl, rfl, _, rfl, ?_⟩
          by_cases cu : V.int pu = V.int u0
          · rw [decide_eq_true cu]
            refine iteT ⟨.ref d, rfl, d, l, _, 4, rfl, by decide, by decide, dX, by omega, fun H6 r2 r20 r21 f6 d6 => ⟨_, _, rfl, rfl, _, rfl, ?_⟩⟩
            have k6 : KT K HX H6 := f6.kt dX
            have dz6 := Dp.kt k6 dz5 (only_prsD _)
            refine ite2 (fun _ => ⟨.ref sa, rfl, q _ _ ps (fX.trans f6) (d6.le (by omega)) dz6 (by omega) rp⟩) (fun _ => ?_)
            have eO6 := f6 _ _ o1 o2 eOX
            have dys6 := DpAll.kt k6 dysX (only_prs _)
            have fY := fX.trans f6
            have hx6 := Dp.kt k6 hxX (only_forD _ _)
            have hrb6 := k6 _ _ hrbX
            clear hsa hsA elb hlb dzl lxs hl
            refine ⟨.ref O, rfl, .ref d, rfl, .ref O, rfl, O, _, rfl, .inl (SqL.of eO6), d, l, _, ys.length, rfl, by omega, by omega, d6, by omega, fun H8 i i0 i1 f8 d8 => ?_⟩
            have eO8 := f8 _ _ o1 o2 eO6
            have k8 : KT K H6 H8 := f8.kt d6
            have dys8 := DpAll.kt k8 dys6 (only_prs _)
            have hi : i.toNat < ys.length := by omega
            obtain ⟨pd, hpd, dp⟩ := DpAll.get dys8 (List.getElem?_eq_getElem hi)
            rw [List.getElem?_map] at hpd
            obtain ⟨p, hp, rfl⟩ := Option.map_eq_some_iff.mp hpd
            have pin := hq p (List.mem_of_getElem? hp)
            obtain ⟨vb, ev, hvb⟩ := Dp.prI dp
            refine ⟨O, ys, i, .ref vb, rfl, rfl, SqL.of eO8, at_of (j := i.toNat) (by omega) (by rw [List.getElem?_eq_getElem hi, ev]), vb, _, rfl, hvb, rfl, _, _, rfl, _, _, rfl, rfl, ?_⟩
            obtain ⟨sa9, xs, ez9, hsa, hsA⟩ := Dp.tupI (Dp.kt k8 dz6 (only_prsD _))
            cases ez9
            have lxs : xs.length = ps.length := by rw [DpAll.length hsA, List.length_map]
            refine ⟨_, rfl, .int p.1, rfl, .int p.2, rfl, by show 2 ≤ sizeLine; decide, fun t1 nt1 => ⟨by show 1 ≤ sizeLine; decide, fun t2 nt2 => ?_⟩⟩
            have st1 := same_upd (o := .tup [V.int p.1, V.int p.2]) nt1
            have et1 := same_at (o := .tup [V.int p.1, V.int p.2]) nt1
            have st2 := same_upd (o := .tup [V.ref t1]) nt2
            have et2 := same_at (o := .tup [V.ref t1]) nt2
            refine catV (Same.tup (st1.trans st2) hsa) (SqT.of et2) (by show xs.length + 1 ≤ 900; omega) fun H9 z9 s9 e9 => ?_
            have s89 := (st1.trans st2).trans s9
            refine ⟨.ref rb, rfl, .int p.1, rfl, .int p.2, rfl, .ref rb, R, p.1, p.2, rfl, Dp.ints (Same.tup s89 (k8 _ _ hrb6)), by omega, fun H10 r' s10 dr' => ?_⟩
            have sZ := s89.trans s10
            have sl := mem_slidesP.mp (show (p.1, p.2) ∈ slidesP m es R from pin)
            have rp1 := isr.rng p.1 sl.1
            have rp2 := (near_rng isf sl.2.1).1
            refine ⟨_, _, _, _, .ref z9, r', after R p.1 p.2, ps ++ [p], rfl, (fY.trans f8).trans (Same.fm sZ), (d8.same sZ).le (by omega), Dp.same sZ (Dp.kt k8 hx6 (only_forD _ _)), dr', IsSet.slide isf isr pin, ?_, by rw [List.length_append, List.length_singleton]; omega, fun p' hp' => ?_⟩
            · refine Dp.same s10 (.tup e9 ?_)
              rw [List.map_append]
              exact DpAll.append (DpAll.same s89 hsA) (.cons (Dp.same (st2.trans s9) (Dp.pr (SqT.of et1))) .nil)
            · rcases List.mem_append.mp hp' with h | h
              · exact rp p' h
              · rw [List.mem_singleton.mp h]
                exact ⟨by omega, by omega⟩
          · rw [decide_eq_false cu]
            refine iteF ?_
            clear hsa hsA elb hlb dzl lxs hl
            refine ⟨.ref O, rfl, .ref d, rfl, .ref O, rfl, O, _, rfl, .inl (SqL.of eOX), d, l, _, ys.length, rfl, by omega, by omega, dX, by omega, fun H8 i i0 i1 f8 d8 => ?_⟩
            have eO8 := f8 _ _ o1 o2 eOX
            have k8 : KT K HX H8 := f8.kt dX
            have dys8 := DpAll.kt k8 dysX (only_prs _)
            have hi : i.toNat < ys.length := by omega
            obtain ⟨pd, hpd, dp⟩ := DpAll.get dys8 (List.getElem?_eq_getElem hi)
            rw [List.getElem?_map] at hpd
            obtain ⟨p, hp, rfl⟩ := Option.map_eq_some_iff.mp hpd
            have pin := hq p (List.mem_of_getElem? hp)
            obtain ⟨vb, ev, hvb⟩ := Dp.prI dp
            refine ⟨O, ys, i, .ref vb, rfl, rfl, SqL.of eO8, at_of (j := i.toNat) (by omega) (by rw [List.getElem?_eq_getElem hi, ev]), vb, _, rfl, hvb, rfl, _, _, rfl, _, _, rfl, rfl, ?_⟩
            obtain ⟨sa9, xs, ez9, hsa, hsA⟩ := Dp.tupI (Dp.kt k8 dz5 (only_prsD _))
            cases ez9
            have lxs : xs.length = ps.length := by rw [DpAll.length hsA, List.length_map]
            refine ⟨_, rfl, .int p.1, rfl, .int p.2, rfl, by show 2 ≤ sizeLine; decide, fun t1 nt1 => ⟨by show 1 ≤ sizeLine; decide, fun t2 nt2 => ?_⟩⟩
            have st1 := same_upd (o := .tup [V.int p.1, V.int p.2]) nt1
            have et1 := same_at (o := .tup [V.int p.1, V.int p.2]) nt1
            have st2 := same_upd (o := .tup [V.ref t1]) nt2
            have et2 := same_at (o := .tup [V.ref t1]) nt2
            refine catV (Same.tup (st1.trans st2) hsa) (SqT.of et2) (by show xs.length + 1 ≤ 900; omega) fun H9 z9 s9 e9 => ?_
            have s89 := (st1.trans st2).trans s9
            refine ⟨.ref rb, rfl, .int p.1, rfl, .int p.2, rfl, .ref rb, R, p.1, p.2, rfl, Dp.ints (Same.tup s89 (k8 _ _ hrbX)), by omega, fun H10 r' s10 dr' => ?_⟩
            have sZ := s89.trans s10
            have sl := mem_slidesP.mp (show (p.1, p.2) ∈ slidesP m es R from pin)
            have rp1 := isr.rng p.1 sl.1
            have rp2 := (near_rng isf sl.2.1).1
            refine ⟨_, _, _, _, .ref z9, r', after R p.1 p.2, ps ++ [p], rfl, (fX.trans f8).trans (Same.fm sZ), (d8.same sZ).le (by omega), Dp.same sZ (Dp.kt k8 hxX (only_forD _ _)), dr', IsSet.slide isf isr pin, ?_, by rw [List.length_append, List.length_singleton]; omega, fun p' hp' => ?_⟩
            · refine Dp.same s10 (.tup e9 ?_)
              rw [List.map_append]
              exact DpAll.append (DpAll.same s89 hsA) (.cons (Dp.same (st2.trans s9) (Dp.pr (SqT.of et1))) .nil)
            · rcases List.mem_append.mp hp' with h | h
              · exact rp p' h
              · rw [List.mem_singleton.mp h]
                exact ⟨by omega, by omega⟩
    · rintro σ H2 ⟨y5, y6, y7, y8, z, rr, R, ps, rfl, f2, d2, hx2, dr, isr, dz, lp, rp⟩
      exact ⟨z, rfl, q H2 z ps f2 (d2.le (by omega)) dz (by omega) rp⟩
end
end TL
namespace TL
open PySem PySem.Spec PyProof.Rows L2
section
variable {P : Program} {w : World} {K : PySem.W.Frag} {mg : Str → Option Value} {base : Heap}
/-! ### how values look -/
def Gv (K : PySem.W.Frag) (d l : Addr) (H : Hp) (v : V) : Prop := ∃ x, Bv K d l 2 H v x ∧ Sw x 60000 30
section
variable {d l : Addr} {H H' : Hp} {v : V}
theorem Gv.same (s : Same H H') (h : Gv K d l H v) : Gv K d l H' v := by
  obtain ⟨x, a, b⟩ := h
  exact ⟨x, a.same s, b⟩
theorem Gv.fm {n : Nat} (f : Fm d l H H') (D : Deck H d l n) (h : Gv K d l H v) : Gv K d l H' v := by
  obtain ⟨x, a, b⟩ := h
  exact ⟨x, a.fm f D, b⟩
theorem bvSet {b : Nat} {a : Addr} {S : List Int} (h : SqT K H a (S.map V.int)) (rg : ∀ i ∈ S, 0 ≤ i ∧ i ≤ 13) (ls : S.length ≤ 12) : Bv K d l b H (.ref a) (intsD S) ∧ Sw (intsD S) 300 3 :=
  ⟨.tup h (bvInts S fun i hi => by have := rg i hi; omega) (by rw [List.length_map]; omega), (Sm.ints (fun i hi => by have := rg i hi; unfold sm; omega) (by omega)).sw.le (by decide) (by decide)⟩
theorem Gv.ints {a : Addr} {S : List Int} (h : SqT K H a (S.map V.int)) (rg : ∀ i ∈ S, 0 ≤ i ∧ i ≤ 13) (ls : S.length ≤ 12) : Gv K d l H (.ref a) := by
  obtain ⟨a, b⟩ := bvSet (d := d) (l := l) (b := 2) h rg ls
  exact ⟨_, a, b.le (by decide) (by decide)⟩
theorem Gv.lst {a : Addr} {S : List Int} (np : a ≠ sysModules) (h : H a = some (.lst (S.map V.int))) (h1 : a ≠ d) (h2 : a ≠ l) (rg : ∀ i ∈ S, 0 ≤ i ∧ i ≤ 13) (ls : S.length ≤ 12) : Gv K d l H (.ref a) := by
  refine ⟨_, .lst np h h1 h2 (bvInts S fun i hi => by have := rg i hi; omega) (by rw [List.length_map]; omega), ?_⟩
  exact (Sw.lst (n := 10) (k := 0) (m := 12) (fun z hz => by
    obtain ⟨i, hi, rfl⟩ := List.mem_map.mp hz
    have := rg i hi
    exact (Sm.int (by unfold sm; omega)).sw) (by rw [List.length_map]; exact ls)).le (by decide) (by decide)
theorem Fm.putN {a : Addr} {o : HO} (h : Fm d l H H') (ha : H a = none) : Fm d l H (upd H' a o) := fun b u n1 n2 e => by
  rw [upd_ne (ne_of_none e ha)]
  exact h b u n1 n2 e
end
mutual
theorem dq_of {H : Hp} : ∀ {v : V} {x : PyData}, Dp K H v x → only x = true → Dq K H v x
  | _, _, .non, _ => .non
  | _, _, .bl b, _ => .bl b
  | _, _, .int i, _ => .int i
  | _, _, .str x, _ => .str x
  | _, _, .lst _ _, q => by simp [only] at q
  | _, _, .tup h a, q => .tup h (dqA_of a (by simpa only [only] using q))
theorem dqA_of {H : Hp} : ∀ {vs : List V} {xs : List PyData}, DpAll K H vs xs → onlyAll xs = true → DqAll K H vs xs
  | _, _, .nil, _ => .nil
  | _, _, .cons h a, q => by
    simp only [onlyAll, Bool.and_eq_true] at q
    exact .cons (dq_of h q.1) (dqA_of a q.2)
end
theorem shows_bool (b : Bool) : Shows (.bool b) := by
  cases b <;> exact ⟨by decide +kernel, by decide +kernel, by decide +kernel, by decide +kernel⟩
noncomputable def lkB (m : Nat) (es : List (Int × Int)) (S T : List Int) : Bool := @decide ((∀ x ∈ T, x ∈ S) ∧ Cl m es T) (Classical.propDecidable _)
theorem Bv.vw {d l : Addr} {b : Nat} {H : Hp} {v : V} {x : PyData} (h : Bv K d l b H v x) (hb : b ≤ 100) : ∃ o, Vw K H v o := by
  rcases h.tq with ⟨a, xs, ds, rfl, _, ha, al, len⟩ | ⟨t, ty, kt, _⟩
  · exact ⟨_, .yes ha al.kd (by omega)⟩
  · exact ⟨_, .no ty kt⟩
section
variable {d l : Addr} {b : Nat} {H H' : Hp}
theorem Bv.iw {v : V} {x : PyData} (h : Bv K d l b H v x) : ∃ oi, Iw K H v oi := by
  rcases h.tq with ⟨a, xs, ds, rfl, _, ha, al, len⟩ | ⟨t, ty, kt, _⟩
  · by_cases l2 : xs.length = 2
    · match xs, l2, ha, al with
      | [k, p], _, ha, al => exact ⟨_, .two ha (al.kd k (by simp)) (al.kd p (by simp))⟩
    · exact ⟨_, .len ha l2⟩
  · exact ⟨_, .no ty kt⟩
theorem BvAll.iws : ∀ {vs : List V} {xs : List PyData}, BvAll K d l b H vs xs → ∃ os, Iws K H vs os
  | _, _, .nil => ⟨[], .nil⟩
  | _, _, .cons p q => by
    obtain ⟨o, ho⟩ := p.iw
    obtain ⟨os, hos⟩ := BvAll.iws q
    exact ⟨_, .cons ho hos⟩
theorem Bv.sv {v : V} {x : PyData} (h : Bv K d l b H v x) (hb : b ≤ 100) : ∃ so, Sv K H v so := by
  rcases h.tq with ⟨a, xs, ds, rfl, _, ha, al, len⟩ | ⟨t, ty, kt, _⟩
  · obtain ⟨os, hos⟩ := al.iws
    exact ⟨_, .yes ha hos (by omega)⟩
  · exact ⟨_, .no ty kt⟩
theorem Bv.txv {v : V} {x : PyData} (h : Bv K d l b H v x) (z : Str) : TxV K H v z (decide (v = .str z)) := by
  cases h with
  | non => exact .sc rfl
  | bl b => exact .sc rfl
  | int i => exact .sc rfl
  | str x => exact .sc rfl
  | tup h a n => rw [decide_eq_false (fun z => nomatch z)]; exact .tup h
  | lst np e => rw [decide_eq_false (fun z => nomatch z)]; exact .lst e
  | dct e o => cases o <;> (rw [decide_eq_false (fun z => nomatch z)]; exact .dct e)
theorem Bv.ks {v : V} {x : PyData} (h : Bv K d l b H v x) : ∃ t, TyX K H v t ∧ PySem.W.kitOne K t (.type "str") = some (isStr v) := by
  cases h with
  | non => exact ⟨_, .base .non, show PySem.W.kitOne K _ (.type "str") = some false from kit_ty (by decide +kernel)⟩
  | bl b => exact ⟨_, .base (.bl b), show PySem.W.kitOne K _ (.type "str") = some false from kit_ty (by decide +kernel)⟩
  | int i => exact ⟨_, .base (.int _), show PySem.W.kitOne K _ (.type "str") = some false from kit_ty (by decide +kernel)⟩
  | str x => exact ⟨_, .base (.str _), show PySem.W.kitOne K _ (.type "str") = some true from kit_ty (by decide +kernel)⟩
  | tup h a n => exact ⟨_, ty_tup h, show PySem.W.kitOne K _ (.type "str") = some false from kit_ty (by decide +kernel)⟩
  | lst np e => exact ⟨_, .base (.lst e), show PySem.W.kitOne K _ (.type "str") = some false from kit_ty (by decide +kernel)⟩
  | dct e o => cases o <;> exact ⟨_, .base (.dK e), show PySem.W.kitOne K _ (.type "str") = some false from kit_ty (by decide +kernel)⟩
theorem Bv.lk {v : V} {x : PyData} (h : Bv K d l b H v x) (hb : b ≤ 100) : ∃ oi op so, Iw K H v oi ∧ Lk K H op so oi := by
  rcases h.tq with ⟨a, xs, ds, rfl, _, ha, al, len⟩ | ⟨t, ty, kt, _⟩
  · by_cases l2 : xs.length = 2
    · match xs, l2, ha, al with
      | [k, p], _, ha, al =>
        obtain ⟨xk, _, bk⟩ := al.get (i := 0) (v := k) rfl
        obtain ⟨xp, _, bp⟩ := al.get (i := 1) (v := p) rfl
        obtain ⟨op, hop⟩ := bp.vw hb
        obtain ⟨so, hso⟩ := bp.sv hb
        refine ⟨_, op, so, .two ha (al.kd k (by simp)) (al.kd p (by simp)), fun k' p' e => ?_⟩
        injection e with e
        injection e with e1 e2
        subst e1 e2
        exact ⟨bk.txv, hop, hso, bk.ks⟩
    · exact ⟨_, none, none, .len ha l2, fun _ _ e => nomatch e⟩
  · exact ⟨_, none, none, .no ty kt, fun _ _ e => nomatch e⟩
end
theorem TxV.same {H H' : Hp} (s : Same H H') {v : V} {z : Str} {b : Bool} (h : TxV K H v z b) : TxV K H' v z b := by
  cases h with
  | sc h => exact .sc h
  | lst h => exact .lst (s _ _ h)
  | tup h => exact .tup (Same.tup s h)
  | dct h => exact .dct (s _ _ h)
theorem Lk.same {H H' : Hp} (s : Same H H') {op : Option (List V)} {so : Option (List (Option (V × V)))} {oi : Option (V × V)} (h : Lk K H op so oi) : Lk K H' op so oi := fun k p e => by
  obtain ⟨h1, h2, h3, t, h4, h5⟩ := h k p e
  exact ⟨fun z => (h1 z).same s, h2.same s, h3.same s, t, tyX_same s h4, h5⟩
/-! ### the values at first -/
theorem ib_ints : ∀ ns : List Int, (∀ n ∈ ns, n.natAbs ≤ 100) → ibAll (ns.map PyData.int) = true
  | [], _ => rfl
  | n :: ns, h => by
    have h1 := h n List.mem_cons_self
    simp only [List.map_cons, ibAll, ib, Bool.and_eq_true]
    exact ⟨decide_eq_true (by omega), ib_ints ns fun m hm => h m (List.mem_cons_of_mem _ hm)⟩
theorem ib_prs : ∀ ps : List (Int × Int), (∀ p ∈ ps, okP p) → ibAll (ps.map prD) = true
  | [], _ => rfl
  | p :: ps, h => by
    have h1 := h p List.mem_cons_self
    unfold okP at h1
    simp only [List.map_cons, ibAll, Bool.and_eq_true]
    refine ⟨?_, ib_prs ps fun q hq => h q (List.mem_cons_of_mem _ hq)⟩
    have n1 : p.1.natAbs ≤ 10 ^ 29 := by omega
    have n2 : p.2.natAbs ≤ 10 ^ 29 := by omega
    simp [prD, ib, ibAll, n1, n2]
theorem ib_tag {c : Str} {x : PyData} (h : ib x = true) : ib (.tuple [.str c, x]) = true := by simp [ib, ibAll, h]
theorem ib_lst {xs : List PyData} (l : xs.length ≤ 20) (h : ibAll xs = true) : ib (.tuple xs) = true := by simp [ib, l, h]
theorem swTag (c : Str) (hc : Sw (.str c) 10 0) {x : PyData} (h : Sw x 276 2) : Sw (.tuple [.str c, x]) 300 3 :=
  ((SwB.one (hc.le (Nat.le_refl 10) (show 0 ≤ 2 by decide))).app (SwB.one h)).tup.le (by decide) (by decide)
theorem swPrs {ps : List (Int × Int)} (l : ps.length ≤ 12) (h : ∀ p ∈ ps, okP p) : Sw (prsD ps) 276 2 := by
  refine Sw.tup (n := 22) (k := 1) (m := 12) (fun z hz => ?_) (by rw [List.length_map]; exact l)
  obtain ⟨p, hp, rfl⟩ := List.mem_map.mp hz
  have := h p hp
  unfold okP at this
  exact Sw.tup (n := 10) (k := 0) (m := 2) (fun z hz => by
    rcases List.mem_cons.mp hz with rfl | hz
    · exact (Sm.int (by unfold sm; omega)).sw
    · rw [List.mem_singleton.mp hz]
      exact (Sm.int (by unfold sm; omega)).sw) (Nat.le_refl _)
theorem swIntsT {S : List Int} (l : S.length ≤ 12) (h : ∀ i ∈ S, 0 ≤ i ∧ i ≤ 13) : Sw (intsD S) 276 2 :=
  (Sw.tup (n := 10) (k := 0) (m := 12) (fun z hz => by
    obtain ⟨i, hi, rfl⟩ := List.mem_map.mp hz
    have := h i hi
    exact (Sm.int (by unfold sm; omega)).sw) (by rw [List.length_map]; exact l)).le (by decide) (by decide)
def tagR : Str := Str.ofString "rigid"
def tagM : Str := Str.ofString "moves"
theorem ovRig {d l : Addr} {H : Hp} {v : V} {S : List Int} (h : Dp K H v (.tuple [.str (Str.ofString "rigid"), intsD S])) (ls : S.length ≤ 12) (rg : ∀ i ∈ S, 0 ≤ i ∧ i ≤ 13) : ∃ x, Ov K d l H v x := by
  refine ⟨_, .ofDp h ?_, swTag _ ⟨by decide +kernel, by decide +kernel, by decide +kernel, by decide +kernel⟩ (swIntsT ls rg)⟩
  exact ib_tag (ib_lst (by rw [List.length_map]; omega) (ib_ints S fun i hi => by have := rg i hi; omega))
theorem ovMov {d l : Addr} {H : Hp} {v : V} {ps : List (Int × Int)} (h : Dp K H v (.tuple [.str (Str.ofString "moves"), prsD ps])) (ls : ps.length ≤ 12) (rg : ∀ p ∈ ps, okP p) : ∃ x, Ov K d l H v x := by
  refine ⟨_, .ofDp h ?_, swTag _ ⟨by decide +kernel, by decide +kernel, by decide +kernel, by decide +kernel⟩ (swPrs ls rg)⟩
  exact ib_tag (ib_lst (by rw [List.length_map]; omega) (ib_prs ps rg))
theorem walk_ok {m : Nat} {es : List (Int × Int)} (f : IsFor m es) (hm : m ≤ 12) : ∀ {ps : List (Int × Int)} {S T : List Int}, IsSet m es S → walk m es S ps = some T → ∀ p ∈ ps, okP p
  | [], _, _, _, _, p, hp => nomatch hp
  | p :: ps, S, T, iss, hw, q, hq => by
    obtain ⟨pin, h2⟩ := walk_cons hw
    rcases List.mem_cons.mp hq with rfl | hq
    · have sl := mem_slidesP.mp (show (q.1, q.2) ∈ slidesP m es S from pin)
      have r1 := iss.rng q.1 sl.1
      have r2 := (near_rng f sl.2.1).1
      exact ⟨by omega, by omega⟩
    · exact walk_ok f hm (IsSet.slide f iss pin) h2 q hq
end
end TL
namespace TL
open PySem PySem.Spec PyProof.Rows L2
section
variable {P : Program} {w : World} {K : PySem.W.Frag} {mg : Str → Option Value} {base : Heap}
/-! ### the law -/
theorem mem_cutV {xs : List V} {lo hi : Option Int} {v : V} (h : v ∈ cutV xs lo hi) : v ∈ xs := by
  unfold cutV at h
  first
  | exact List.mem_of_mem_drop (List.mem_of_mem_take h)
  | exact List.mem_of_mem_take (List.mem_of_mem_drop h)
theorem len_cutV {xs : List V} {lo hi : Option Int} : (cutV xs lo hi).length ≤ xs.length := by
  unfold cutV
  rw [List.length_take, List.length_drop]
  omega
def Ox (K : PySem.W.Frag) (d l : Addr) (H : Hp) (v : V) : Prop := ∃ x, Ov K d l H v x
theorem Ox.same {d l : Addr} {H H' : Hp} {v : V} (s : Same H H') (h : Ox K d l H v) : Ox K d l H' v := h.imp fun _ z => z.same s
theorem Ox.fm {d l : Addr} {n : Nat} {H H' : Hp} {v : V} (f : Fm d l H H') (D : Deck H d l n) (h : Ox K d l H v) : Ox K d l H' v := h.imp fun _ z => z.fm f D
theorem Ox.gv {d l : Addr} {H : Hp} {v : V} (h : Ox K d l H v) : Gv K d l H v := by
  obtain ⟨x, a, b⟩ := h
  exact ⟨x, a.le (by decide), b.le (by decide) (by decide)⟩
theorem ovCert {d l : Addr} {H : Hp} {v : V} {dc : PyData} {m : Nat} {es : List (Int × Int)} {S : List Int} {u : Int} (f : IsFor m es) (hm : m ≤ 12) (iss : IsSet m es S) (rS : ∀ i ∈ S, 0 ≤ i ∧ i ≤ 13) (h : LampD m es S u dc) (hd : Dp K H v dc) : Ox K d l H v := by
  obtain ⟨G, ks, gS, xf, ed⟩ := h
  have lS := iss.len
  by_cases hin : u ∈ ks.map (·.1)
  · rw [if_pos hin] at ed
    subst ed
    obtain ⟨A, v2, T, e, _, w, l2⟩ := out_all f iss (by omega) xf hin
    rw [e] at hd
    exact ovMov hd (by omega) (walk_ok f hm iss w)
  · rw [if_neg hin] at ed
    subst ed
    have := (gS.set iss).len
    exact ovRig hd (by omega) fun i hi => rS i (gS.sub i hi)
def spLaw (K : PySem.W.Frag) : Sp := fun vs H Q _ => ∃ (a : Addr) (ns : List Int), vs = [.ref a] ∧ SqL K H a (ns.map V.int) ∧ ns.length ≤ 63 ∧ ∀ H', Q (.bl true) H'
theorem ok_Law {f : Addr} {fd : FuncData} {g : Nat → Nat} (F : Fun K "law" "law" sLaw f fd) (m_range : mg "range" = none) (m_repr : mg "repr" = none) (m_tuple : mg "tuple" = none)
    (oLDeck : Own P w K mg base "_law_deck" 1 ["_law_script"] (spLDeck K)) (oLDraw : Own P w K mg base "_law_draw" 1 ["_law_deck_here", "_law_bound"] spLDraw) (oLForest : Own P w K mg base "_law_forest" 2 ["_law_deck_here", "_law_most"] (spLForest K))
    (oLSetting : Own P w K mg base "_law_setting" 3 ["_law_deck_here", "_law_forest_here"] (spLSetting K)) (oLRigid : Own P w K mg base "_law_rigid" 2 ["_law_forest_here", "_law_setting_here"] (spLRigid K))
    (oLampCertificate : Own P w K mg base "lamp_certificate" 16 ["forest", "setting", "lamp"] (spLampCertificate0 K)) (oLWalk : Own P w K mg base "_law_walk" 3 ["_law_deck_here", "_law_forest_here", "_law_setting_here", "_law_lamp"] (spLWalk K))
    (oLOdd : Own P w K mg base "_law_odd" 2 ["_law_deck_here"] (spLOdd K)) (oLReplaced : Own P w K mg base "_law_replaced" 7 ["_law_deck_here", "_law_value", "_law_depth"] (spLRep K 4 g)) (hg : ∀ N, g N ≤ 12 * N + 405)
    (oLampHolds : Own P w K mg base "lamp_holds" 7 ["forest", "setting", "lamp", "value"] (spLampHolds K)) (oLDue : Own P w K mg base "_law_due" 4 ["_law_forest_here", "_law_setting_here", "_law_lamp", "_law_value"] (spLDue K)) :
    FnG P w K mg base 17 f fd ["_law_script"] (spLaw K) := by
  refine okG F scLaw (fun vs H Q E h => ?_) (fun cdv A outer s H vs Q E hr gd h => ?_)
  · obtain ⟨a, ns, rfl, _⟩ := h
    rfl
  · obtain ⟨a, ns, rfl, hS, hlen, q⟩ := h
    refine ⟨_, (pss_cons (ps_set (i := 1) scLaw.nd rfl (.inr rfl) (pe_own oLDeck (hr.mono (by decide)) (by rfl) (pa_cons (pv 0) pa_nil)))
    (pss_cons (ps_for PassesOwn.never rfl (pi_range1 (by rfl) m_range (pa_cons pe_int pa_nil)) (pg_name (i := 2) scLaw.nd rfl (Or.inl rfl))
    (pss_cons (ps_set (i := 3) scLaw.nd rfl (.inr rfl) (pe_own oLForest (hr.mono (by decide)) (by rfl) (pa_cons (pv 1) (pa_cons pe_int pa_nil))))
    (pss_cons (ps_set (i := 4) scLaw.nd rfl (.inr rfl) (pe_own oLSetting (hr.mono (by decide)) (by rfl) (pa_cons (pv 1) (pa_cons (pv 3) pa_nil))))
    (pss_cons (ps_set (i := 5) scLaw.nd rfl (.inl rfl) (pe_own oLRigid (hr.mono (by decide)) (by rfl) (pa_cons (pv 3) (pa_cons (pv 4) pa_nil))))
    (pss_one (ps_for PassesOwn.never rfl (piTK K (pe_slice (slTK K) (pv 4) po_none (po_some pe_int))) (pg_name (i := 6) scLaw.nd rfl (Or.inr rfl))
    (pss_cons (ps_set (i := 7) scLaw.nd rfl (.inl rfl) (pe_lst (pa_cons (pe_own oLampCertificate (hr.mono (by decide)) (by rfl) (pa_cons (pv 3) (pa_cons (pv 4) (pa_cons (pv 6) pa_nil)))) (pa_cons (pe_tup (pa_cons pe_str (pa_cons (pv 5) pa_nil))) (pa_cons (pe_tup (pa_cons pe_str (pa_cons (pe_tup (pa_cons (pv 6) pa_nil)) pa_nil))) (pa_cons (pe_tup (pa_cons pe_str (pa_cons (pv 4) pa_nil))) pa_nil))))))
    (pss_cons (ps_expr (bmK K PySem.F.plainAttrs_list PySem.F.slot_list_append PySem.F.type_list_append mt_append (pv 7) (pa_cons (pe_tup (pa_cons pe_str (pa_cons (pe_callTy (tupleK K) (by rfl) m_tuple (by decide +kernel) (pa_cons (pe_lc (own := [("_law_other", 11)]) (g := (gName 11)) rfl scLaw.nd (piTK K (pv 5))
      (blkOk_by (own := [("_law_other", 11)]) (N := nLaw) (sc := (defScope sLaw)) (by decide +kernel))
      (fun _ _ _ _ _ => (pg_name (i := 11) scLaw.nd rfl (Or.inl rfl))) (fun _ _ _ _ _ => (pts_one (pt_cmpR op_gt (pe_own oLDraw (hr.mono (by decide)) (by rfl) (pa_cons (pv 1) (pa_cons pe_int pa_nil))) pe_int (nomark _))))
      (fun _ _ _ _ _ => (pv 11))) pa_nil)) pa_nil))) pa_nil)))
    (pss_cons (ps_set (i := 7) scLaw.nd rfl (.inl rfl) (pe_op op_cat (pv 7) (pe_lc (own := [("_law_k", 12)]) (g := (gName 12)) (tt := tYes) rfl scLaw.nd (pi_range1 (by rfl) m_range (pa_cons pe_int pa_nil))
      (blkOk_by (own := [("_law_k", 12)]) (N := nLaw) (sc := (defScope sLaw)) (by decide +kernel))
      (fun _ _ _ _ _ => (pg_name (i := 12) scLaw.nd rfl (Or.inl rfl))) (fun _ _ _ _ _ => pts_nil)
      (fun _ _ _ _ _ => (pe_tup (pa_cons pe_str (pa_cons (pe_own oLWalk (hr.mono (by decide)) (by rfl) (pa_cons (pv 1) (pa_cons (pv 3) (pa_cons (pv 4) (pa_cons (pv 6) pa_nil))))) pa_nil)))))))
    (pss_cons (ps_for PassesOwn.never rfl (piLK K (pe_op op_cat (pe_slice (slLK K) (pv 7) po_none (po_some pe_int)) (pe_slice (slLK K) (pv 7) (po_some (pe_un un_neg pe_int)) po_none))) (pg_name (i := 8) scLaw.nd rfl (Or.inl rfl))
    (pss_cons (ps_set (i := 9) scLaw.nd rfl (.inl rfl) (pe_own oLReplaced (hr.mono (by decide)) (by rfl) (pa_cons (pv 1) (pa_cons (pv 8) (pa_cons pe_int pa_nil)))))
    (pss_one (ps_set (i := 7) scLaw.nd rfl (.inl rfl) (pe_op op_cat (pv 7) (pe_lst (pa_cons (pv 9) (pa_cons (pe_own oLReplaced (hr.mono (by decide)) (by rfl) (pa_cons (pv 1) (pa_cons (pv 9) (pa_cons pe_int pa_nil)))) pa_nil))))))))
    (pss_one (ps_for PassesOwn.never rfl (piLK K (pe_op op_cat (pv 7) (pe_lst (pa_cons (pe_own oLOdd (hr.mono (by decide)) (by rfl) (pa_cons (pv 1) pa_nil)) pa_nil)))) (pg_name (i := 8) scLaw.nd rfl (Or.inl rfl))
    (pss_cons (ps_set (i := 10) scLaw.nd rfl (.inl rfl) (pe_callB (reprO K gd hr.units) (by rfl) m_repr (by decide +kernel) (pa_cons (pe_lstS (pa_cons (pv 3) (pa_cons (pv 4) (pa_cons (pv 8) pa_nil)))) pa_nil)))
    (pss_cons (ps_if (pt_cmpR op_ne (pe_callB (reprK K gd hr.units) (by rfl) m_repr (by decide +kernel) (pa_cons (pe_own oLampHolds (hr.mono (by decide)) (by rfl) (pa_cons (pv 3) (pa_cons (pv 4) (pa_cons (pv 6) (pa_cons (pv 8) pa_nil))))) pa_nil)) (pe_callB (reprK K gd hr.units) (by rfl) m_repr (by decide +kernel) (pa_cons (pe_own oLDue (hr.mono (by decide)) (by rfl) (pa_cons (pv 3) (pa_cons (pv 4) (pa_cons (pv 6) (pa_cons (pv 8) pa_nil))))) pa_nil)) (nomark _)) (pss_one (ps_ret pe_bl)) pss_nil)
    (pss_one (ps_if (pt_cmpR op_ne (pe_callB (reprO K gd hr.units) (by rfl) m_repr (by decide +kernel) (pa_cons (pe_lstS (pa_cons (pv 3) (pa_cons (pv 4) (pa_cons (pv 8) pa_nil)))) pa_nil)) (pv 10) (nomark _)) (pss_one (ps_ret pe_bl)) pss_nil))))))))))))))))
    (pss_one (ps_ret pe_bl)))), ?_⟩
    refine ⟨.ref a, rfl, a, ns, rfl, hS, hlen, fun H1 d l s1 d1 => ?_⟩
    refine ⟨5, rfl, by decide, by decide, for_range (lo := 0) (n := 5) (fun i σ H' => ∃ y2 y3 y4 y5 y6 y7 y8 y9 y10, σ = [some (.ref a), some (.ref d), y2, y3, y4, y5, y6, y7, y8, y9, y10, none, none] ∧ Deck H' d l (15000 * i)) ?_ ?_ ?_⟩
    · exact ⟨_, _, _, _, _, _, _, _, _, rfl, d1⟩
    · rintro i σ H2 hi ⟨y2, y3, y4, y5, y6, y7, y8, y9, y10, rfl, d2⟩
      refine ⟨.ref d, rfl, d, l, _, 9, rfl, by decide, d2, by omega, fun H3 x m es f3 d3 hm isf hx => ?_⟩
      refine ⟨.ref d, rfl, x, rfl, d, l, _, m, es, x, rfl, by omega, isf, hx, d3, by omega, fun H4 y S f4 d4 iss hy => ?_⟩
      have hx4 := Dp.kt (f4.kt d3) hx (only_forD _ _)
      have lS := iss.len
      have rS : ∀ i ∈ S, 0 ≤ i ∧ i ≤ 13 := fun i hi => by have := iss.rng i hi; omega
      refine ⟨x, rfl, y, rfl, x, y, m, es, S, rfl, by omega, isf, iss, hx4, hy, fun H5 z G s5 gr hz => ?_⟩
      have isG := gr.set iss
      have lG := isG.len
      have rG : ∀ i ∈ G, 0 ≤ i ∧ i ≤ 13 := fun i hi => rS i (gr.sub i hi)
      have hx5 := Dp.same s5 hx4
      have hy5 := Dp.same s5 hy
      have d5 := d4.same s5
      clear hx hx4 f3 f4 d2 d3 d4 s5 hy
      obtain ⟨yb, rfl, hyb⟩ := Dp.intsI hy5
      obtain ⟨gb, rfl, hgb⟩ := Dp.intsI hz
      refine ⟨.ref yb, rfl, ?_⟩
      dsimp only [tNoPart]
      refine ⟨4, rfl, slV hyb fun H6 tb i1 j1 ei1 ej1 s6 et => ?_⟩
      rw [← List.map_drop, ← List.map_take] at et
      have subT : ∀ v ∈ (S.drop i1).take j1, v ∈ S := fun v hv => List.mem_of_mem_drop (List.mem_of_mem_take hv)
      have lT : ((S.drop i1).take j1).length ≤ 12 := by rw [List.length_take, List.length_drop]; omega
      generalize (S.drop i1).take j1 = T at et subT lT ⊢
      have d6 := d5.same s6
      refine ⟨tb, rfl, ⟨_, et⟩, for_tup (K := K) (a := tb) (xs := T.map V.int) (D := { nx := fun σ H' => ∃ y2 y3 y4 y5 y6 y7 y8 y9 y10, σ = [some (.ref a), some (.ref d), y2, y3, y4, y5, y6, y7, y8, y9, y10, none, none] ∧ Deck H' d l (15000 * (i + 1)), rt := Q }) (fun j σ H' => ∃ y6 y7 y8 y9 y10, σ = [some (.ref a), some (.ref d), some (.int (0 + (i : Int))), some x, some (.ref yb), some (.ref gb), y6, y7, y8, y9, y10, none, none] ∧ Fm d l H6 H' ∧ Deck H' d l (15000 * i + 100 + 1000 * j)) ?_ ?_ ?_ ?_⟩
      · exact ⟨_, _, _, _, _, rfl, Fm.refl, d6.le (by omega)⟩
      · rintro j σ H' _ ⟨y6, y7, y8, y9, y10, rfl, f', _⟩
        exact f'.kt d6 _ _ et
      · rintro j v σ H7 hv ⟨y6, y7, y8, y9, y10, rfl, f7, d7⟩
        rw [List.getElem?_map] at hv
        obtain ⟨u, hu, rfl⟩ := Option.map_eq_some_iff.mp hv
        have hjl := (List.getElem?_eq_some_iff.mp hu).1
        have huS := subT u (List.mem_of_getElem? hu)
        have k7 : KT K H6 H7 := f7.kt d6
        have hx7 := Dp.kt k7 (Dp.same s6 hx5) (only_forD _ _)
        have hyb7 := k7 _ _ (Same.tup s6 hyb)
        have hgb7 := k7 _ _ (Same.tup s6 hgb)
        -- the first values
        refine ⟨x, rfl, .ref yb, rfl, .int u, rfl, x, .ref yb, m, es, S, u, rfl, by omega, isf, hx7, Dp.ints hyb7, iss, huS, fun H8 c0 dc s8 ld dcd => ?_⟩
        have o0 : Ox K d l H8 c0 := ovCert isf (by omega) iss rS ld dcd
        have d8 := d7.same s8
        have hgb8 := Same.tup s8 hgb7
        have hyb8 := Same.tup s8 hyb7
        refine ⟨.ref gb, rfl, by show 2 ≤ sizeLine; decide, fun t1 n1 => ?_⟩
        have w1 := same_upd (o := .tup [V.str (Str.ofString "rigid"), V.ref gb]) n1
        have e1 := same_at (o := .tup [V.str (Str.ofString "rigid"), V.ref gb]) n1
        refine ⟨.int u, rfl, by show 1 ≤ sizeLine; decide, fun t2 n2 => ?_⟩
        have w2 := same_upd (o := .tup [V.int u]) n2
        have e2 := same_at (o := .tup [V.int u]) n2
        refine ⟨by show 2 ≤ sizeLine; decide, fun t3 n3 => ?_⟩
        have w3 := same_upd (o := .tup [V.str (Str.ofString "rigid"), V.ref t2]) n3
        have e3 := same_at (o := .tup [V.str (Str.ofString "rigid"), V.ref t2]) n3
        refine ⟨.ref yb, rfl, by show 2 ≤ sizeLine; decide, fun t4 n4 => ?_⟩
        have w4 := same_upd (o := .tup [V.str (Str.ofString "rigid"), V.ref yb]) n4
        have e4 := same_at (o := .tup [V.str (Str.ofString "rigid"), V.ref yb]) n4
        have w24 := (w2.trans w3).trans w4
        have w14 := w1.trans w24
        have ruu : ∀ i ∈ [u], 0 ≤ i ∧ i ≤ 13 := fun i hi => by rw [List.mem_singleton.mp hi]; exact rS u huS
        have g4 : ∀ v ∈ [c0, .ref t1, .ref t3, .ref t4], Ox K d l (upd (upd (upd (upd H8 t1 (.tup [V.str (Str.ofString "rigid"), V.ref gb])) t2 (.tup [V.int u])) t3 (.tup [V.str (Str.ofString "rigid"), V.ref t2])) t4 (.tup [V.str (Str.ofString "rigid"), V.ref yb])) v := fun v hv => by
          rcases List.mem_cons.mp hv with rfl | hv
          · exact o0.same w14
          rcases List.mem_cons.mp hv with rfl | hv
          · exact ovRig (S := G) (.tup (SqT.of (w24 _ _ e1)) (.cons (.str _) (.cons (Dp.ints (Same.tup w14 hgb8)) .nil))) (by omega) rG
          rcases List.mem_cons.mp hv with rfl | hv
          · exact ovRig (S := [u]) (.tup (SqT.of (w4 _ _ e3)) (.cons (.str _) (.cons (Dp.ints (ns := [u]) (SqT.of ((w3.trans w4) _ _ e2))) .nil))) (by show 1 ≤ 12; decide) ruu
          · rw [List.mem_singleton.mp hv]
            exact ovRig (S := S) (.tup (SqT.of e4) (.cons (.str _) (.cons (Dp.ints (Same.tup w14 hyb8)) .nil))) (by omega) rS
        have l4 : [c0, V.ref t1, .ref t3, .ref t4].length = 4 := rfl
        have s12 := s8.trans w14
        have d12 := d8.same w14
        refine ⟨by show 4 ≤ sizeLine; decide, fun L nL => ?_⟩
        generalize [c0, V.ref t1, .ref t3, .ref t4] = us0 at g4 l4 ⊢
        generalize upd (upd (upd (upd H8 t1 _) t2 _) t3 _) t4 _ = H12 at g4 s12 d12 nL ⊢
        clear w1 w2 w3 w4 w24 w14 e1 e2 e3 e4 n1 n2 n3 n4 o0 d8 hgb8 hyb8 ruu dcd ld s8
        have hx12 := Dp.same s12 hx7
        have hyb12 := Same.tup s12 hyb7
        have hgb12 := Same.tup s12 hgb7
        have f12 := f7.trans (Same.fm s12)
        have oL := d12.off nL
        have sL := same_upd (o := .lst us0) nL
        have eL := same_at (o := .lst us0) nL
        have d13 := d12.same sL
        have f13 : Fm d l H12 (upd H12 L (.lst us0)) := Same.fm sL
        have hgb13 := Same.tup sL hgb12
        generalize upd H12 L _ = H13 at sL eL d13 f13 hgb13 ⊢
        -- a drawn part of the lock
        refine ⟨.ref L, rfl, .inl ⟨rfl, _, SqL.of eL⟩, .ref gb, rfl, gb, rfl, ⟨_, hgb13⟩, fun C nC => ?_⟩
        have oC := d13.off nC
        have nLC : L ≠ C := ne_of_none eL nC
        refine lc_tup (K := K) (a := gb) (xs := G.map V.int) (fun k H' => ∃ r : List Int, Fm d l H13 H' ∧ Deck H' d l (15000 * i + 100 + 1000 * j + k) ∧ H' L = some (.lst us0) ∧ H' C = some (.lst (r.map V.int)) ∧ r.length ≤ k ∧ ∀ w ∈ r, w ∈ G) ?_ ?_ ?_ ?_
        · have s0 := same_upd (o := .lst []) nC
          exact ⟨[], Same.fm s0, (d13.same s0).le (by omega), s0 _ _ eL, upd_same, Nat.le_refl _, fun _ h => nomatch h⟩
        · rintro k H' _ ⟨r, f8, _⟩
          exact f8.kt d13 _ _ hgb13
        · rintro k z H8 hz ⟨r, f8, d8, e8L, e8C, lr, sr⟩
          rw [List.getElem?_map] at hz
          obtain ⟨v, hv, rfl⟩ := Option.map_eq_some_iff.mp hz
          have hi := (List.getElem?_eq_some_iff.mp hv).1
          refine ⟨rfl, .ref d, rfl, d, l, _, 3, rfl, by decide, by decide, d8, by omega, fun H9 q0 q00 q1 f9 d9 => ⟨_, _, rfl, rfl, _, rfl, ?_⟩⟩
          refine ite2 (fun h => ?_) (fun h => ?_)
          · have e9 := f9 _ _ oC.1 oC.2 e8C
            refine ⟨.int v, rfl, r.map V.int, e9, small1000 (by rw [List.length_map]; omega), r ++ [v], (f8.trans f9).putN nC, (d9.put oC.1 oC.2).le (by omega), by rw [upd_ne nLC]; exact f9 _ _ oL.1 oL.2 e8L, by rw [upd_same, List.map_append]; rfl, by rw [List.length_append, List.length_singleton]; omega, fun w hw => ?_⟩
            rcases List.mem_append.mp hw with hw | hw
            · exact sr w hw
            · rw [List.mem_singleton.mp hw]
              exact List.mem_of_getElem? hv
          · exact ⟨r, f8.trans f9, d9.le (by omega), f9 _ _ oL.1 oL.2 e8L, f9 _ _ oC.1 oC.2 e8C, by omega, sr⟩
        rintro H14 ⟨r, f14, d14, e14L, e14C, lr, sr⟩
        rw [List.length_map] at d14 lr
        refine ⟨C, _, rfl, .inl ⟨SqL.of e14C, fun t nt => ?_⟩⟩
        have st := same_upd (o := .tup (r.map V.int)) nt
        have et2 := same_at (o := .tup (r.map V.int)) nt
        refine ⟨by show 2 ≤ sizeLine; decide, fun t2 nt2 => ?_⟩
        have st2 := same_upd (o := .tup [V.str (Str.ofString "rigid"), V.ref t]) nt2
        have e2 := same_at (o := .tup [V.str (Str.ofString "rigid"), V.ref t]) nt2
        have e15L := (st.trans st2) _ _ e14L
        refine ⟨L, _, _, rfl, rfl, e15L, small1000 (by omega), ?_⟩
        have f15 := ((f13.trans f14).trans (Same.fm (st.trans st2))).putN (o := .lst (us0 ++ [V.ref t2])) nL
        have d15 := (((d14.same st).same st2).put (o := .lst (us0 ++ [V.ref t2])) oL.1 oL.2)
        have eL15 : upd (upd (upd H14 t (.tup (r.map V.int))) t2 (.tup [V.str (Str.ofString "rigid"), V.ref t])) L (.lst (us0 ++ [V.ref t2])) L = some (.lst (us0 ++ [V.ref t2])) := upd_same
        have g5 : ∀ v ∈ us0 ++ [V.ref t2], Ox K d l (upd (upd (upd H14 t (.tup (r.map V.int))) t2 (.tup [V.str (Str.ofString "rigid"), V.ref t])) L (.lst (us0 ++ [V.ref t2]))) v := fun v hv => by
          rcases List.mem_append.mp hv with hv | hv
          · exact (g4 v hv).fm f15 d12
          · rw [List.mem_singleton.mp hv]
            exact ovRig (S := r) (.tup (kt_lst e15L _ _ (SqT.of e2)) (.cons (.str _) (.cons (Dp.ints (kt_lst e15L _ _ (SqT.of (st2 _ _ et2)))) .nil))) (by omega) fun i hi => rG i (sr i hi)
        have l5 : (us0 ++ [V.ref t2]).length = 5 := by rw [List.length_append, l4]; rfl
        generalize us0 ++ [V.ref t2] = us1 at eL15 g5 l5 f15 d15 ⊢
        generalize upd (upd (upd H14 t _) t2 _) L (.lst us1) = H15 at eL15 g5 f15 d15 ⊢
        clear g4 e15L e2 st2 nt2 et2 st nt sr lr e14C e14L d14 f14 nLC oC hgb13 f13 d13 eL sL
        have k15 : KT K H12 H15 := f15.kt d12
        have hx15 := Dp.kt k15 hx12 (only_forD _ _)
        have hyb15 := k15 _ _ hyb12
        -- walks
        refine ⟨.ref L, rfl, 3, rfl, by decide, by decide, fun D nD => ?_⟩
        have oD := d15.off nD
        have nLD : L ≠ D := ne_of_none eL15 nD
        refine lc_range (lo := 0) (n := (3 : Int).toNat) (fun k H' => ∃ ys : List V, Fm d l H15 H' ∧ Deck H' d l (15000 * i + 100 + 1000 * j + G.length + 20 * k) ∧ H' D = some (.lst ys) ∧ ys.length = k ∧ ∀ v ∈ ys, ∃ ps, Dp K H' v (.tuple [.str (Str.ofString "moves"), prsD ps]) ∧ ps.length ≤ 9 ∧ ∀ p ∈ ps, okP p) ?_ ?_ ?_
        · exact ⟨[], Fm.refl.putN nD, (d15.put oD.1 oD.2).le (by omega), upd_same, rfl, fun _ h => nomatch h⟩
        · rintro k H16 hk ⟨ys, f16, d16, eD, lys, hys⟩
          have hk : k < 3 := hk
          have k16 : KT K H15 H16 := f16.kt d15
          refine ⟨rfl, yesI (iteT ?_)⟩
          refine ⟨.ref d, rfl, x, rfl, .ref yb, rfl, .int u, rfl, d, l, _, x, .ref yb, m, es, S, u, rfl, d16, by omega, by omega, isf, Dp.kt k16 hx15 (only_forD _ _), Dp.ints (k16 _ _ hyb15), iss, fun H17 z ps f17 d17 dz lp okp => ⟨by show 2 ≤ sizeLine; decide, fun t nt => ?_⟩⟩
          have st := same_upd (o := .tup [V.str (Str.ofString "moves"), z]) nt
          have et := same_at (o := .tup [V.str (Str.ofString "moves"), z]) nt
          have eD17 := st _ _ (f17 _ _ oD.1 oD.2 eD)
          have kD := kt_lst (K := K) (ys := ys ++ [V.ref t]) eD17
          have oM : ∀ ps : List (Int × Int), only (.tuple [.str (Str.ofString "moves"), prsD ps]) = true := fun ps => by simp [only, onlyAll, only_prsD]
          refine ⟨ys, eD17, small1000 (by omega), ys ++ [V.ref t], ((f16.trans f17).trans (Same.fm st)).putN nD, (((d17.same st).put oD.1 oD.2)).le (by omega), upd_same, by rw [List.length_append, List.length_singleton, lys], fun v hv => ?_⟩
          rcases List.mem_append.mp hv with hv | hv
          · obtain ⟨ps', h1, h2⟩ := hys v hv
            exact ⟨ps', Dp.kt (((f17.kt d16).trans (Same.kt st)).trans kD) h1 (oM _), h2⟩
          · rw [List.mem_singleton.mp hv]
            exact ⟨ps, Dp.kt kD (.tup (SqT.of et) (.cons (.str _) (.cons (Dp.same st dz) .nil))) (oM _), lp, okp⟩
        rintro H16 ⟨ys, f16, d16, eD, lys, hys⟩
        have lys : ys.length = 3 := lys
        have d16 : Deck H16 d l (15000 * i + 100 + 1000 * j + G.length + 20 * 3) := d16
        have eL16 := f16 _ _ oL.1 oL.2 eL15
        refine ⟨L, D, _, _, rfl, rfl, eL16, eD, Nat.le_of_lt (small1000 (by omega)), fun P0 nP0 => ?_⟩
        have sP := same_upd (o := .lst (us1 ++ ys)) nP0
        have eP := same_at (o := .lst (us1 ++ ys)) nP0
        have oP := d16.off nP0
        have d17 := d16.same sP
        have g8 : ∀ v ∈ us1 ++ ys, Ox K d l (upd H16 P0 (.lst (us1 ++ ys))) v := fun v hv => by
          rcases List.mem_append.mp hv with hv | hv
          · exact ((g5 v hv).fm f16 d15).same sP
          · obtain ⟨ps, h1, h2, h3⟩ := hys v hv
            exact Ox.same sP (ovMov h1 (by omega) h3)
        have l8 : (us1 ++ ys).length = 8 := by rw [List.length_append]; omega
        have f17 := f15.trans (f16.trans (Same.fm sP))
        generalize us1 ++ ys = us2 at sP eP d17 g8 l8 f17 ⊢
        generalize upd H16 P0 _ = H17 at sP eP d17 g8 f17 ⊢
        clear hys eL16 eD d16 f16 g5 eL15 hx15 hyb15 k15 f15 nLD oD nD d15
        -- bent values
        refine ⟨.ref P0, rfl, ?_⟩
        delta tNoPart
        refine ⟨2, rfl, P0, _, rfl, SqL.of eP, fun p1 np1 => ?_⟩
        have v1 := same_upd (o := .lst (cutV us2 none (some 2))) np1
        have q1 := same_at (o := .lst (cutV us2 none (some 2))) np1
        refine ⟨.ref P0, rfl, 2, rfl, -2, rfl, P0, _, rfl, SqL.of (v1 _ _ eP), fun p2 np2 => ?_⟩
        have v2 := same_upd (o := .lst (cutV us2 (some (-2)) none)) np2
        have q2 := same_at (o := .lst (cutV us2 (some (-2)) none)) np2
        have mem1 : ∀ v ∈ cutV us2 none (some 2) ++ cutV us2 (some (-2)) none, v ∈ us2 := fun v hv => by
          rcases List.mem_append.mp hv with hv | hv
          · exact mem_cutV hv
          · exact mem_cutV hv
        have lW : (cutV us2 none (some 2) ++ cutV us2 (some (-2)) none).length ≤ 16 := by
          have h1 := len_cutV (xs := us2) (lo := none) (hi := some 2)
          have h2 := len_cutV (xs := us2) (lo := some (-2)) (hi := none)
          rw [List.length_append]
          omega
        refine ⟨p1, p2, _, _, rfl, rfl, v2 _ _ q1, q2, Nat.le_of_lt (small1000 (by rw [List.length_append] at lW; omega)), fun W nW => ?_⟩
        generalize cutV us2 none (some 2) ++ cutV us2 (some (-2)) none = ws at mem1 lW ⊢
        have v3 := same_upd (o := .lst ws) nW
        have eW := same_at (o := .lst ws) nW
        have sV := (v1.trans v2).trans v3
        have d18 := d17.same sV
        have oW := d18
        have f18 := f17.trans (Same.fm sV)
        have g8 : ∀ v ∈ us2, Ox K d l (upd _ W (.lst ws)) v := fun v hv => (g8 v hv).same sV
        have eP18 := sV _ _ eP
        have oW := ((d17.same v1).same v2).off nW
        generalize upd _ W (.lst ws) = H18 at eW d18 f18 g8 eP18 ⊢
        clear sV v3 v2 v1 q1 q2 nW np1 np2 eP d17 f17
        refine ⟨W, rfl, ⟨_, SqL.of eW⟩, for_list (K := K) (a := W) (xs := ws) (fun k σ H' => ∃ (y8 y9 y10 : Option V) (P' : Addr) (us : List V), σ = [some (.ref a), some (.ref d), some (.int (0 + (i : Int))), some x, some (.ref yb), some (.ref gb), some (.int u), some (.ref P'), y8, y9, y10, none, none] ∧ Fm d l H18 H' ∧ Deck H' d l (15000 * i + 100 + 1000 * j + 80 + 40 * k) ∧ H' P' = some (.lst us) ∧ P' ≠ d ∧ P' ≠ l ∧ us.length ≤ 8 + 2 * k ∧ ∀ v ∈ us, Gv K d l H' v) ?_ ?_ ?_ ?_⟩
        · exact ⟨_, _, _, P0, us2, rfl, Fm.refl, d18.le (by omega), eP18, oP.1, oP.2, by omega, fun v hv => (g8 v hv).gv⟩
        · rintro k σ H' _ ⟨y8, y9, y10, P', us, rfl, f', _⟩
          exact SqL.of (f' _ _ oW.1 oW.2 eW)
        · rintro k v σ H19 hv ⟨y8, y9, y10, P', us, rfl, f19, d19, eP19, o1, o2, lu, gu⟩
          have hk := (List.getElem?_eq_some_iff.mp hv).1
          obtain ⟨x0, b0, w0⟩ := (g8 v (mem1 v (List.mem_of_getElem? hv))).fm f19 d18
          refine ⟨.ref d, rfl, v, rfl, d, l, _, 0, 300, 3, _, _, rfl, d19, by omega, by omega, b0, w0, fun H20 u1 x1 f20 d20 b1 w1 => ?_⟩
          have eP20 := f20 _ _ o1 o2 eP19
          refine ⟨.ref P', rfl, u1, rfl, .ref d, rfl, u1, rfl, d, l, _, 1, _, _, _, _, rfl, d20, by omega, by omega, b1, w1, fun H21 u2 x2 f21 d21 b2 w2 => ?_⟩
          have eP21 := f21 _ _ o1 o2 eP20
          refine ⟨by show 2 ≤ sizeLine; decide, fun D2 nD2 => ?_⟩
          have s22 := same_upd (o := .lst [u1, u2]) nD2
          have e22 := same_at (o := .lst [u1, u2]) nD2
          have d22 := d21.same s22
          refine ⟨P', D2, _, _, rfl, rfl, s22 _ _ eP21, e22, Nat.le_of_lt (small1000 (by show us.length + 2 ≤ 1000; omega)), fun R nR => ?_⟩
          have s23 := same_upd (o := .lst (us ++ [u1, u2])) nR
          have oR := d22.off nR
          have h1 := hg 300
          have h2 := hg (g 300)
          refine ⟨_, _, _, R, us ++ [u1, u2], rfl, ((f19.trans f20).trans f21).trans (Same.fm (s22.trans s23)), (d22.same s23).le (by omega), same_at nR, oR.1, oR.2, by rw [List.length_append]; show _ + 2 ≤ _; omega, fun u hu => ?_⟩
          rcases List.mem_append.mp hu with hu | hu
          · exact (((gu u hu).fm f20 d19).fm f21 d20).same (s22.trans s23)
          rcases List.mem_cons.mp hu with rfl | hu
          · exact ⟨x1, ((b1.le (by decide)).fm f21 d20).same (s22.trans s23), w1.le (by omega) (by decide)⟩
          · rw [List.mem_singleton.mp hu]
            exact ⟨x2, b2.same (s22.trans s23), w2.le (by omega) (by decide)⟩
        · rintro σ H19 ⟨y8, y9, y10, P', us, rfl, f19, d19, eP19, o1, o2, lu, gu⟩
          refine ⟨.ref P', rfl, .ref d, rfl, d, l, _, rfl, d19, by omega, fun H20 o1v x1 f20 d20 ov1 _ => ⟨by show 1 ≤ sizeLine; decide, fun D2 nD2 => ?_⟩⟩
          have s21 := same_upd (o := .lst [o1v]) nD2
          have e21 := same_at (o := .lst [o1v]) nD2
          have eP20 := f20 _ _ o1 o2 eP19
          refine ⟨P', D2, _, _, rfl, rfl, s21 _ _ eP20, e21, Nat.le_of_lt (small1000 (by show us.length + 1 ≤ 1000; omega)), fun R nR => ?_⟩
          have s22 := same_upd (o := .lst (us ++ [o1v])) nR
          have eR := same_at (o := .lst (us ++ [o1v])) nR
          have s20 := s21.trans s22
          have gR : ∀ v ∈ us ++ [o1v], Gv K d l (upd (upd H20 D2 (.lst [o1v])) R (.lst (us ++ [o1v]))) v := fun v hv => by
            rcases List.mem_append.mp hv with hv | hv
            · exact ((gu v hv).fm f20 d19).same s20
            · rw [List.mem_singleton.mp hv]
              exact (Ox.gv ⟨x1, ov1⟩).same s20
          have d22 := d20.same s20
          have f22 : Fm d l H12 (upd (upd H20 D2 (.lst [o1v])) R (.lst (us ++ [o1v]))) := (f18.trans (f19.trans f20)).trans (Same.fm s20)
          generalize us ++ [o1v] = vs at eR gR d22 f22 ⊢
          generalize upd (upd H20 D2 _) R _ = H22 at eR gR d22 f22 ⊢
          have k22 : KT K H12 H22 := f22.kt d12
          have hx22 := Dp.kt k22 hx12 (only_forD _ _)
          have hy22 := Dp.ints (k22 _ _ hyb12)
          refine ⟨R, rfl, ⟨_, SqL.of eR⟩, for_list (K := K) (a := R) (xs := vs) (fun k σ H' => ∃ y8 y9 y10, σ = [some (.ref a), some (.ref d), some (.int (0 + (i : Int))), some x, some (.ref yb), some (.ref gb), some (.int u), some (.ref P'), y8, y9, y10, none, none] ∧ Same H22 H') ?_ ?_ ?_ ?_⟩
          · exact ⟨_, _, _, rfl, Same.refl _⟩
          · rintro k σ H' _ ⟨y8, y9, y10, rfl, s'⟩
            exact SqL.of (s' _ _ eR)
          · rintro k v σ H23 hv ⟨y8, y9, y10, rfl, s23⟩
            obtain ⟨X, bX, wX⟩ := (gR v (List.mem_of_getElem? hv)).same s23
            obtain ⟨oi, op, so, hiw, hlk⟩ := bX.lk (by decide)
            have hx6 := Dp.same s23 hx22
            have hy6 := Dp.same s23 hy22
            have sh : Sw (.list [forD m es, intsD S, X]) 90000 31 := by
              refine ((SwB.one ((isf.shows (by omega)).sw.le (m := 1000) (j := 30) (by decide) (by decide))).app ((SwB.one ((iss.shows (by omega)).sw.le (m := 1000) (j := 30) (by decide) (by decide))).app (SwB.one wX))).lst.le (by decide) (by decide)
            have rp : ∀ {H' : Hp} {c : Addr}, c ≠ sysModules → H' c = some (.lst [x, .ref yb, v]) → Same H23 H' → Dq K H' (.ref c) (.list [forD m es, intsD S, X]) := fun np e s =>
              .lst np e (.cons (dq_of (Dp.same s hx6) (only_forD _ _)) (.cons (dq_of (Dp.same s hy6) (only_intsD _)) (.cons (bX.same s).dq .nil)))
            refine ⟨x, rfl, .ref yb, rfl, v, rfl, by show 3 ≤ sizeLine; decide, fun c nc npc => ?_⟩
            have sc := same_upd (o := .lst [x, .ref yb, v]) nc
            have ec := same_at (o := .lst [x, .ref yb, v]) nc
            refine ⟨.ref c, _, rfl, .inr ⟨rp npc ec sc, sh.showsQ (by decide) (by decide)⟩, ?_⟩
            have hx7 := Dp.same sc hx6
            have hy7 := Dp.same sc hy6
            have hiw7 := hiw.same sc
            have hlk7 := hlk.same sc
            generalize upd H23 c _ = H24 at sc hx7 hy7 hiw7 hlk7 ⊢
            refine ⟨x, rfl, .ref yb, rfl, .int u, rfl, v, rfl, x, .ref yb, v, m, es, S, u, oi, op, so, rfl, by omega, isf, hx7, hy7, iss, hiw7, hlk7, fun H25 b1 s25 hb1 => ?_⟩
            refine ⟨.bl b1, .bool b1, rfl, .bl b1, shows_bool b1, ?_⟩
            refine ⟨x, rfl, .ref yb, rfl, .int u, rfl, v, rfl, x, .ref yb, v, m, es, S, u, oi, op, so, rfl, by omega, isf, Dp.same s25 hx7, Dp.same s25 hy7, iss, hiw7.same s25, hlk7.same s25, fun H26 b2 s26 hb2 => ?_⟩
            refine ⟨.bl b2, .bool b2, rfl, .bl b2, shows_bool b2, ?_⟩
            have e12 : b1 = b2 := by
              have := hb1.trans hb2.symm
              cases b1 <;> cases b2 <;> simp_all
            subst e12
            refine ⟨rfl, false, by rw [decide_eq_true rfl]; rfl, iteF ?_⟩
            have s79 := (sc.trans s25).trans s26
            refine ⟨x, rfl, .ref yb, rfl, v, rfl, by show 3 ≤ sizeLine; decide, fun c2 nc2 npc2 => ?_⟩
            have sc2 := same_upd (o := .lst [x, .ref yb, v]) nc2
            have ec2 := same_at (o := .lst [x, .ref yb, v]) nc2
            refine ⟨.ref c2, _, rfl, .inr ⟨rp npc2 ec2 (s79.trans sc2), sh.showsQ (by decide) (by decide)⟩, ?_⟩
            exact ⟨_, rfl, rfl, false, by rw [decide_eq_true rfl]; rfl, iteF ⟨_, _, _, rfl, s23.trans (s79.trans sc2)⟩⟩
          · rintro σ H23 ⟨y8, y9, y10, rfl, s23⟩
            exact ⟨_, _, _, _, _, rfl, (f12.trans f22).trans (Same.fm s23), (d22.same s23).le (by omega)⟩
      · rintro σ H7 ⟨y6, y7, y8, y9, y10, rfl, f7, d7⟩
        rw [List.length_map] at d7
        exact ⟨_, _, _, _, _, _, _, _, _, rfl, d7.le (by omega)⟩
    · rintro σ H2 ⟨y2, y3, y4, y5, y6, y7, y8, y9, y10, rfl, d2⟩
      exact q _
end
end TL
namespace TL
open PySem PySem.Spec PyProof.Rows L2
section
variable {P : Program} {w : World} {K : PySem.W.Frag} {mg : Str → Option Value} {base : Heap}
end
theorem all_mk {l : PySem.W.OpenLaw} {w : World} {K : PySem.W.Frag} {h : Heap} {mg : Str → Option Value} {fa f0 f1 f2 f3 f4 f5 f6 f7 f8 f9 f10 f11 f12 f13 f14 f15 f16 f17 f18 f19 f20 f21 f22 f23 f24 f25 f26 f27 f28 f29 f30 f31 f32 f33 f34 f35 f36 f37 : Addr} (X : K.In h) (G : h.Ns mainGlobals mg) (hfa : mg "law" = some (.ref fa))
    {od0 an0 od1 an1 od2 an2 od3 an3 od4 an4 od5 an5 od6 an6 od7 an7 od8 an8 od9 an9 od10 an10 od11 an11 od12 an12 od13 an13 od14 an14 od15 an15 od16 an16 od17 an17 od18 an18 od19 an19 od20 an20 od21 an21 od22 an22 od23 an23 od24 an24 od25 an25 od26 an26 od27 an27 od28 an28 od29 an29 od30 an30 od31 an31 od32 an32 od33 an33 od34 an34 od35 an35 od36 an36 od37 an37 : Option Addr} {sl0 sl1 sl2 sl3 sl4 sl5 sl6 sl7 sl8 sl9 sl10 sl11 sl12 sl13 sl14 sl15 sl16 sl17 sl18 sl19 sl20 sl21 sl22 sl23 sl24 sl25 sl26 sl27 sl28 sl29 sl30 sl31 sl32 sl33 sl34 sl35 sl36 sl37 : Array (Option Value)} {oc0 kV0 dc0 pm0 cd0 ct0 oc1 kV1 dc1 pm1 cd1 ct1 oc2 kV2 dc2 pm2 cd2 ct2 oc3 kV3 dc3 pm3 cd3 ct3 oc4 kV4 dc4 pm4 cd4 ct4 oc5 kV5 dc5 pm5 cd5 ct5 oc6 kV6 dc6 pm6 cd6 ct6 oc7 kV7 dc7 pm7 cd7 ct7 oc8 kV8 dc8 pm8 cd8 ct8 oc9 kV9 dc9 pm9 cd9 ct9 oc10 kV10 dc10 pm10 cd10 ct10 oc11 kV11 dc11 pm11 cd11 ct11 oc12 kV12 dc12 pm12 cd12 ct12 oc13 kV13 dc13 pm13 cd13 ct13 oc14 kV14 dc14 pm14 cd14 ct14 oc15 kV15 dc15 pm15 cd15 ct15 oc16 kV16 dc16 pm16 cd16 ct16 oc17 kV17 dc17 pm17 cd17 ct17 oc18 kV18 dc18 pm18 cd18 ct18 oc19 kV19 dc19 pm19 cd19 ct19 oc20 kV20 dc20 pm20 cd20 ct20 oc21 kV21 dc21 pm21 cd21 ct21 oc22 kV22 dc22 pm22 cd22 ct22 oc23 kV23 dc23 pm23 cd23 ct23 oc24 kV24 dc24 pm24 cd24 ct24 oc25 kV25 dc25 pm25 cd25 ct25 oc26 kV26 dc26 pm26 cd26 ct26 oc27 kV27 dc27 pm27 cd27 ct27 oc28 kV28 dc28 pm28 cd28 ct28 oc29 kV29 dc29 pm29 cd29 ct29 oc30 kV30 dc30 pm30 cd30 ct30 oc31 kV31 dc31 pm31 cd31 ct31 oc32 kV32 dc32 pm32 cd32 ct32 oc33 kV33 dc33 pm33 cd33 ct33 oc34 kV34 dc34 pm34 cd34 ct34 oc35 kV35 dc35 pm35 cd35 ct35 oc36 kV36 dc36 pm36 cd36 ct36 oc37 kV37 dc37 pm37 cd37 ct37 : Value}
    (a0 : PySem.W.nsIn K mainGlobals "is_number" = some (some (.ref f0))) (l0 : K.lookup f0 = some ⟨oc0, od0, .func (PySem.W.fnOf "is_number" "is_number" (defArgs sIsNumber) (defBody sIsNumber) (defScope sIsNumber) .none kV0 dc0 pm0 an0 cd0 ct0), sl0⟩) (c0 : PySem.W.codeIn K cd0 "is_number" = true) (k0 : PySem.W.keepIn K (.ref f0) = true)
    (a1 : PySem.W.nsIn K mainGlobals "is_pair" = some (some (.ref f1))) (l1 : K.lookup f1 = some ⟨oc1, od1, .func (PySem.W.fnOf "is_pair" "is_pair" (defArgs sIsPair) (defBody sIsPair) (defScope sIsPair) .none kV1 dc1 pm1 an1 cd1 ct1), sl1⟩) (c1 : PySem.W.codeIn K cd1 "is_pair" = true) (k1 : PySem.W.keepIn K (.ref f1) = true)
    (a2 : PySem.W.nsIn K mainGlobals "is_vertex" = some (some (.ref f2))) (l2 : K.lookup f2 = some ⟨oc2, od2, .func (PySem.W.fnOf "is_vertex" "is_vertex" (defArgs sIsVertex) (defBody sIsVertex) (defScope sIsVertex) .none kV2 dc2 pm2 an2 cd2 ct2), sl2⟩) (c2 : PySem.W.codeIn K cd2 "is_vertex" = true) (k2 : PySem.W.keepIn K (.ref f2) = true)
    (a3 : PySem.W.nsIn K mainGlobals "is_ascending" = some (some (.ref f3))) (l3 : K.lookup f3 = some ⟨oc3, od3, .func (PySem.W.fnOf "is_ascending" "is_ascending" (defArgs sIsAscending) (defBody sIsAscending) (defScope sIsAscending) .none kV3 dc3 pm3 an3 cd3 ct3), sl3⟩) (c3 : PySem.W.codeIn K cd3 "is_ascending" = true) (k3 : PySem.W.keepIn K (.ref f3) = true)
    (a4 : PySem.W.nsIn K mainGlobals "is_setting" = some (some (.ref f4))) (l4 : K.lookup f4 = some ⟨oc4, od4, .func (PySem.W.fnOf "is_setting" "is_setting" (defArgs sIsSetting) (defBody sIsSetting) (defScope sIsSetting) .none kV4 dc4 pm4 an4 cd4 ct4), sl4⟩) (c4 : PySem.W.codeIn K cd4 "is_setting" = true) (k4 : PySem.W.keepIn K (.ref f4) = true)
    (a5 : PySem.W.nsIn K mainGlobals "neighbours_of" = some (some (.ref f5))) (l5 : K.lookup f5 = some ⟨oc5, od5, .func (PySem.W.fnOf "neighbours_of" "neighbours_of" (defArgs sNeighboursOf) (defBody sNeighboursOf) (defScope sNeighboursOf) .none kV5 dc5 pm5 an5 cd5 ct5), sl5⟩) (c5 : PySem.W.codeIn K cd5 "neighbours_of" = true) (k5 : PySem.W.keepIn K (.ref f5) = true)
    (a6 : PySem.W.nsIn K mainGlobals "blocking_lamps" = some (some (.ref f6))) (l6 : K.lookup f6 = some ⟨oc6, od6, .func (PySem.W.fnOf "blocking_lamps" "blocking_lamps" (defArgs sBlockingLamps) (defBody sBlockingLamps) (defScope sBlockingLamps) .none kV6 dc6 pm6 an6 cd6 ct6), sl6⟩) (c6 : PySem.W.codeIn K cd6 "blocking_lamps" = true) (k6 : PySem.W.keepIn K (.ref f6) = true)
    (a7 : PySem.W.nsIn K mainGlobals "check_lamp" = some (some (.ref f7))) (l7 : K.lookup f7 = some ⟨oc7, od7, .func (PySem.W.fnOf "check_lamp" "check_lamp" (defArgs sCheckLamp) (defBody sCheckLamp) (defScope sCheckLamp) .none kV7 dc7 pm7 an7 cd7 ct7), sl7⟩) (c7 : PySem.W.codeIn K cd7 "check_lamp" = true) (k7 : PySem.W.keepIn K (.ref f7) = true)
    (a8 : PySem.W.nsIn K mainGlobals "slide_lamp" = some (some (.ref f8))) (l8 : K.lookup f8 = some ⟨oc8, od8, .func (PySem.W.fnOf "slide_lamp" "slide_lamp" (defArgs sSlideLamp) (defBody sSlideLamp) (defScope sSlideLamp) .none kV8 dc8 pm8 an8 cd8 ct8), sl8⟩) (c8 : PySem.W.codeIn K cd8 "slide_lamp" = true) (k8 : PySem.W.keepIn K (.ref f8) = true)
    (a9 : PySem.W.nsIn K mainGlobals "possible_slides" = some (some (.ref f9))) (l9 : K.lookup f9 = some ⟨oc9, od9, .func (PySem.W.fnOf "possible_slides" "possible_slides" (defArgs sPossibleSlides) (defBody sPossibleSlides) (defScope sPossibleSlides) .none kV9 dc9 pm9 an9 cd9 ct9), sl9⟩) (c9 : PySem.W.codeIn K cd9 "possible_slides" = true) (k9 : PySem.W.keepIn K (.ref f9) = true)
    (a10 : PySem.W.nsIn K mainGlobals "is_possible" = some (some (.ref f10))) (l10 : K.lookup f10 = some ⟨oc10, od10, .func (PySem.W.fnOf "is_possible" "is_possible" (defArgs sIsPossible) (defBody sIsPossible) (defScope sIsPossible) .none kV10 dc10 pm10 an10 cd10 ct10), sl10⟩) (c10 : PySem.W.codeIn K cd10 "is_possible" = true) (k10 : PySem.W.keepIn K (.ref f10) = true)
    (a11 : PySem.W.nsIn K mainGlobals "follow" = some (some (.ref f11))) (l11 : K.lookup f11 = some ⟨oc11, od11, .func (PySem.W.fnOf "follow" "follow" (defArgs sFollow) (defBody sFollow) (defScope sFollow) .none kV11 dc11 pm11 an11 cd11 ct11), sl11⟩) (c11 : PySem.W.codeIn K cd11 "follow" = true) (k11 : PySem.W.keepIn K (.ref f11) = true)
    (a12 : PySem.W.nsIn K mainGlobals "chosen_neighbours" = some (some (.ref f12))) (l12 : K.lookup f12 = some ⟨oc12, od12, .func (PySem.W.fnOf "chosen_neighbours" "chosen_neighbours" (defArgs sChosenNeighbours) (defBody sChosenNeighbours) (defScope sChosenNeighbours) .none kV12 dc12 pm12 an12 cd12 ct12), sl12⟩) (c12 : PySem.W.codeIn K cd12 "chosen_neighbours" = true) (k12 : PySem.W.keepIn K (.ref f12) = true)
    (a13 : PySem.W.nsIn K mainGlobals "is_lock" = some (some (.ref f13))) (l13 : K.lookup f13 = some ⟨oc13, od13, .func (PySem.W.fnOf "is_lock" "is_lock" (defArgs sIsLock) (defBody sIsLock) (defScope sIsLock) .none kV13 dc13 pm13 an13 cd13 ct13), sl13⟩) (c13 : PySem.W.codeIn K cd13 "is_lock" = true) (k13 : PySem.W.keepIn K (.ref f13) = true)
    (a14 : PySem.W.nsIn K mainGlobals "free_neighbour" = some (some (.ref f14))) (l14 : K.lookup f14 = some ⟨oc14, od14, .func (PySem.W.fnOf "free_neighbour" "free_neighbour" (defArgs sFreeNeighbour) (defBody sFreeNeighbour) (defScope sFreeNeighbour) .none kV14 dc14 pm14 an14 cd14 ct14), sl14⟩) (c14 : PySem.W.codeIn K cd14 "free_neighbour" = true) (k14 : PySem.W.keepIn K (.ref f14) = true)
    (a15 : PySem.W.nsIn K mainGlobals "exits_of" = some (some (.ref f15))) (l15 : K.lookup f15 = some ⟨oc15, od15, .func (PySem.W.fnOf "exits_of" "exits_of" (defArgs sExitsOf) (defBody sExitsOf) (defScope sExitsOf) .none kV15 dc15 pm15 an15 cd15 ct15), sl15⟩) (c15 : PySem.W.codeIn K cd15 "exits_of" = true) (k15 : PySem.W.keepIn K (.ref f15) = true)
    (a16 : PySem.W.nsIn K mainGlobals "greatest_lock" = some (some (.ref f16))) (l16 : K.lookup f16 = some ⟨oc16, od16, .func (PySem.W.fnOf "greatest_lock" "greatest_lock" (defArgs sGreatestLock) (defBody sGreatestLock) (defScope sGreatestLock) .none kV16 dc16 pm16 an16 cd16 ct16), sl16⟩) (c16 : PySem.W.codeIn K cd16 "greatest_lock" = true) (k16 : PySem.W.keepIn K (.ref f16) = true)
    (a17 : PySem.W.nsIn K mainGlobals "slides_out" = some (some (.ref f17))) (l17 : K.lookup f17 = some ⟨oc17, od17, .func (PySem.W.fnOf "slides_out" "slides_out" (defArgs sSlidesOut) (defBody sSlidesOut) (defScope sSlidesOut) .none kV17 dc17 pm17 an17 cd17 ct17), sl17⟩) (c17 : PySem.W.codeIn K cd17 "slides_out" = true) (k17 : PySem.W.keepIn K (.ref f17) = true)
    (a18 : PySem.W.nsIn K mainGlobals "lamp_certificate" = some (some (.ref f18))) (l18 : K.lookup f18 = some ⟨oc18, od18, .func (PySem.W.fnOf "lamp_certificate" "lamp_certificate" (defArgs sLampCertificate) (defBody sLampCertificate) (defScope sLampCertificate) .none kV18 dc18 pm18 an18 cd18 ct18), sl18⟩) (c18 : PySem.W.codeIn K cd18 "lamp_certificate" = true) (k18 : PySem.W.keepIn K (.ref f18) = true)
    (a19 : PySem.W.nsIn K mainGlobals "moves_lamp" = some (some (.ref f19))) (l19 : K.lookup f19 = some ⟨oc19, od19, .func (PySem.W.fnOf "moves_lamp" "moves_lamp" (defArgs sMovesLamp) (defBody sMovesLamp) (defScope sMovesLamp) .none kV19 dc19 pm19 an19 cd19 ct19), sl19⟩) (c19 : PySem.W.codeIn K cd19 "moves_lamp" = true) (k19 : PySem.W.keepIn K (.ref f19) = true)
    (a20 : PySem.W.nsIn K mainGlobals "lamp_holds" = some (some (.ref f20))) (l20 : K.lookup f20 = some ⟨oc20, od20, .func (PySem.W.fnOf "lamp_holds" "lamp_holds" (defArgs sLampHolds) (defBody sLampHolds) (defScope sLampHolds) .none kV20 dc20 pm20 an20 cd20 ct20), sl20⟩) (c20 : PySem.W.codeIn K cd20 "lamp_holds" = true) (k20 : PySem.W.keepIn K (.ref f20) = true)
    (a21 : PySem.W.nsIn K mainGlobals "_law_deck" = some (some (.ref f21))) (l21 : K.lookup f21 = some ⟨oc21, od21, .func (PySem.W.fnOf "_law_deck" "_law_deck" (defArgs sLDeck) (defBody sLDeck) (defScope sLDeck) .none kV21 dc21 pm21 an21 cd21 ct21), sl21⟩) (c21 : PySem.W.codeIn K cd21 "_law_deck" = true) (k21 : PySem.W.keepIn K (.ref f21) = true)
    (a22 : PySem.W.nsIn K mainGlobals "_law_draw" = some (some (.ref f22))) (l22 : K.lookup f22 = some ⟨oc22, od22, .func (PySem.W.fnOf "_law_draw" "_law_draw" (defArgs sLDraw) (defBody sLDraw) (defScope sLDraw) .none kV22 dc22 pm22 an22 cd22 ct22), sl22⟩) (c22 : PySem.W.codeIn K cd22 "_law_draw" = true) (k22 : PySem.W.keepIn K (.ref f22) = true)
    (a23 : PySem.W.nsIn K mainGlobals "_law_forest" = some (some (.ref f23))) (l23 : K.lookup f23 = some ⟨oc23, od23, .func (PySem.W.fnOf "_law_forest" "_law_forest" (defArgs sLForest) (defBody sLForest) (defScope sLForest) .none kV23 dc23 pm23 an23 cd23 ct23), sl23⟩) (c23 : PySem.W.codeIn K cd23 "_law_forest" = true) (k23 : PySem.W.keepIn K (.ref f23) = true)
    (a24 : PySem.W.nsIn K mainGlobals "_law_near" = some (some (.ref f24))) (l24 : K.lookup f24 = some ⟨oc24, od24, .func (PySem.W.fnOf "_law_near" "_law_near" (defArgs sLNear) (defBody sLNear) (defScope sLNear) .none kV24 dc24 pm24 an24 cd24 ct24), sl24⟩) (c24 : PySem.W.codeIn K cd24 "_law_near" = true) (k24 : PySem.W.keepIn K (.ref f24) = true)
    (a25 : PySem.W.nsIn K mainGlobals "_law_parities" = some (some (.ref f25))) (l25 : K.lookup f25 = some ⟨oc25, od25, .func (PySem.W.fnOf "_law_parities" "_law_parities" (defArgs sLParities) (defBody sLParities) (defScope sLParities) .none kV25 dc25 pm25 an25 cd25 ct25), sl25⟩) (c25 : PySem.W.codeIn K cd25 "_law_parities" = true) (k25 : PySem.W.keepIn K (.ref f25) = true)
    (a26 : PySem.W.nsIn K mainGlobals "_law_setting" = some (some (.ref f26))) (l26 : K.lookup f26 = some ⟨oc26, od26, .func (PySem.W.fnOf "_law_setting" "_law_setting" (defArgs sLSetting) (defBody sLSetting) (defScope sLSetting) .none kV26 dc26 pm26 an26 cd26 ct26), sl26⟩) (c26 : PySem.W.codeIn K cd26 "_law_setting" = true) (k26 : PySem.W.keepIn K (.ref f26) = true)
    (a27 : PySem.W.nsIn K mainGlobals "_law_is_lock" = some (some (.ref f27))) (l27 : K.lookup f27 = some ⟨oc27, od27, .func (PySem.W.fnOf "_law_is_lock" "_law_is_lock" (defArgs sLIsLock) (defBody sLIsLock) (defScope sLIsLock) .none kV27 dc27 pm27 an27 cd27 ct27), sl27⟩) (c27 : PySem.W.codeIn K cd27 "_law_is_lock" = true) (k27 : PySem.W.keepIn K (.ref f27) = true)
    (a28 : PySem.W.nsIn K mainGlobals "_law_rigid" = some (some (.ref f28))) (l28 : K.lookup f28 = some ⟨oc28, od28, .func (PySem.W.fnOf "_law_rigid" "_law_rigid" (defArgs sLRigid) (defBody sLRigid) (defScope sLRigid) .none kV28 dc28 pm28 an28 cd28 ct28), sl28⟩) (c28 : PySem.W.codeIn K cd28 "_law_rigid" = true) (k28 : PySem.W.keepIn K (.ref f28) = true)
    (a29 : PySem.W.nsIn K mainGlobals "_law_can_slide" = some (some (.ref f29))) (l29 : K.lookup f29 = some ⟨oc29, od29, .func (PySem.W.fnOf "_law_can_slide" "_law_can_slide" (defArgs sLCanSlide) (defBody sLCanSlide) (defScope sLCanSlide) .none kV29 dc29 pm29 an29 cd29 ct29), sl29⟩) (c29 : PySem.W.codeIn K cd29 "_law_can_slide" = true) (k29 : PySem.W.keepIn K (.ref f29) = true)
    (a30 : PySem.W.nsIn K mainGlobals "_law_after" = some (some (.ref f30))) (l30 : K.lookup f30 = some ⟨oc30, od30, .func (PySem.W.fnOf "_law_after" "_law_after" (defArgs sLAfter) (defBody sLAfter) (defScope sLAfter) .none kV30 dc30 pm30 an30 cd30 ct30), sl30⟩) (c30 : PySem.W.codeIn K cd30 "_law_after" = true) (k30 : PySem.W.keepIn K (.ref f30) = true)
    (a31 : PySem.W.nsIn K mainGlobals "_law_followed" = some (some (.ref f31))) (l31 : K.lookup f31 = some ⟨oc31, od31, .func (PySem.W.fnOf "_law_followed" "_law_followed" (defArgs sLFollowed) (defBody sLFollowed) (defScope sLFollowed) .none kV31 dc31 pm31 an31 cd31 ct31), sl31⟩) (c31 : PySem.W.codeIn K cd31 "_law_followed" = true) (k31 : PySem.W.keepIn K (.ref f31) = true)
    (a32 : PySem.W.nsIn K mainGlobals "_law_odd" = some (some (.ref f32))) (l32 : K.lookup f32 = some ⟨oc32, od32, .func (PySem.W.fnOf "_law_odd" "_law_odd" (defArgs sLOdd) (defBody sLOdd) (defScope sLOdd) .none kV32 dc32 pm32 an32 cd32 ct32), sl32⟩) (c32 : PySem.W.codeIn K cd32 "_law_odd" = true) (k32 : PySem.W.keepIn K (.ref f32) = true)
    (a33 : PySem.W.nsIn K mainGlobals "_law_replaced" = some (some (.ref f33))) (l33 : K.lookup f33 = some ⟨oc33, od33, .func (PySem.W.fnOf "_law_replaced" "_law_replaced" (defArgs sLReplaced) (defBody sLReplaced) (defScope sLReplaced) .none kV33 dc33 pm33 an33 cd33 ct33), sl33⟩) (c33 : PySem.W.codeIn K cd33 "_law_replaced" = true) (k33 : PySem.W.keepIn K (.ref f33) = true)
    (a34 : PySem.W.nsIn K mainGlobals "_law_is_lock_of" = some (some (.ref f34))) (l34 : K.lookup f34 = some ⟨oc34, od34, .func (PySem.W.fnOf "_law_is_lock_of" "_law_is_lock_of" (defArgs sLIsLockOf) (defBody sLIsLockOf) (defScope sLIsLockOf) .none kV34 dc34 pm34 an34 cd34 ct34), sl34⟩) (c34 : PySem.W.codeIn K cd34 "_law_is_lock_of" = true) (k34 : PySem.W.keepIn K (.ref f34) = true)
    (a35 : PySem.W.nsIn K mainGlobals "_law_due" = some (some (.ref f35))) (l35 : K.lookup f35 = some ⟨oc35, od35, .func (PySem.W.fnOf "_law_due" "_law_due" (defArgs sLDue) (defBody sLDue) (defScope sLDue) .none kV35 dc35 pm35 an35 cd35 ct35), sl35⟩) (c35 : PySem.W.codeIn K cd35 "_law_due" = true) (k35 : PySem.W.keepIn K (.ref f35) = true)
    (a36 : PySem.W.nsIn K mainGlobals "_law_walk" = some (some (.ref f36))) (l36 : K.lookup f36 = some ⟨oc36, od36, .func (PySem.W.fnOf "_law_walk" "_law_walk" (defArgs sLWalk) (defBody sLWalk) (defScope sLWalk) .none kV36 dc36 pm36 an36 cd36 ct36), sl36⟩) (c36 : PySem.W.codeIn K cd36 "_law_walk" = true) (k36 : PySem.W.keepIn K (.ref f36) = true)
    (a37 : PySem.W.nsIn K mainGlobals "law" = some (some (.ref f37))) (l37 : K.lookup f37 = some ⟨oc37, od37, .func (PySem.W.fnOf "law" "law" (defArgs sLaw) (defBody sLaw) (defScope sLaw) .none kV37 dc37 pm37 an37 cd37 ct37), sl37⟩) (c37 : PySem.W.codeIn K cd37 "law" = true) (k37 : PySem.W.keepIn K (.ref f37) = true)
    {cNoLamp iNoLamp eN0 : Addr} {en0 eq0 : Str} {eb0 em0 eu0 : List Value} {es0 : List Str} {ea0 : Bool} {ec0 : Option Bool} {ed0 : Option Addr} {e00 e10 e20 e30 e50 : Option Value}
    {iod0 ian0 : Option Addr} {isl0 : Array (Option Value)} {ioc0 ikV0 idc0 ipm0 icd0 ict0 : Value}
    (eaNoLamp : PySem.W.nsIn K mainGlobals "NoLamp" = some (some (.ref cNoLamp))) (elNoLamp : K.lookup cNoLamp = some (excClassObj en0 eq0 cNoLamp eN0 eb0 em0 true es0 eu0 ea0 ec0 ed0 e00 e10 e20 e30 e50 "ValueError.__new__")) (erNoLamp : PySem.HandSPX.refsVE em0 = true)
    (e1NoLamp : PySem.W.findIn K (.ref cNoLamp) "__setattr__" = some (some (.builtin "object.__setattr__"))) (e2NoLamp : PySem.W.subIn K (.ref cNoLamp) (.type "BaseException") = some true) (e3NoLamp : PySem.W.typeIn K (.ref cNoLamp) = some (.type "type")) (e4NoLamp : PySem.W.keepIn K (.ref cNoLamp) = true)
    (e5NoLamp : PySem.W.findIn K (.ref cNoLamp) "__getattribute__" = some (some (.builtin "BaseException.__getattribute__"))) (e6NoLamp : PySem.W.findIn K (.ref cNoLamp) "__getattr__" = some none) (e7NoLamp : PySem.W.hasDictIn K cNoLamp = true)
    (e8NoLamp : PySem.W.findIn K (.ref cNoLamp) "__class__" = some (some (.builtin "object.__class__"))) (e9NoLamp : PySem.W.specialIn K (.builtin "object.__class__") "__get__" = some (some (.builtin "getset_descriptor.__get__"))) (eANoLamp : PySem.W.takesIn K (.builtin "object.__class__") = some true) (eBNoLamp : PySem.W.mroIn K cNoLamp (.type "object") = some true)
    (eCNoLamp : PySem.W.findIn K (.ref cNoLamp) "__init__" = some (some (.ref iNoLamp))) (eDNoLamp : PySem.W.typeIn K (.ref iNoLamp) = some (.type "function")) (eENoLamp : PySem.W.findIn K (.ref cNoLamp) "value" = some none) (eFNoLamp : PySem.W.subIn K (.ref cNoLamp) (.ref cNoLamp) = some true) (eGNoLamp : PySem.W.subIn K (.ref cNoLamp) (.type "ValueError") = some true)
    (eHNoLamp : K.lookup iNoLamp = some ⟨ioc0, iod0, .func (PySem.W.fnOf "__init__" "NoLamp.__init__" (defArgs sNolampInit) (defBody sNolampInit) (defScope sNolampInit) .none ikV0 idc0 ipm0 ian0 icd0 ict0), isl0⟩) (eINoLamp : PySem.W.codeIn K icd0 "NoLamp.__init__" = true) (eJNoLamp : PySem.W.keepIn K (.ref iNoLamp) = true)
    {cNotAdjacent iNotAdjacent eN1 : Addr} {en1 eq1 : Str} {eb1 em1 eu1 : List Value} {es1 : List Str} {ea1 : Bool} {ec1 : Option Bool} {ed1 : Option Addr} {e01 e11 e21 e31 e51 : Option Value}
    {iod1 ian1 : Option Addr} {isl1 : Array (Option Value)} {ioc1 ikV1 idc1 ipm1 icd1 ict1 : Value}
    (eaNotAdjacent : PySem.W.nsIn K mainGlobals "NotAdjacent" = some (some (.ref cNotAdjacent))) (elNotAdjacent : K.lookup cNotAdjacent = some (excClassObj en1 eq1 cNotAdjacent eN1 eb1 em1 true es1 eu1 ea1 ec1 ed1 e01 e11 e21 e31 e51 "ValueError.__new__")) (erNotAdjacent : PySem.HandSPX.refsVE em1 = true)
    (e1NotAdjacent : PySem.W.findIn K (.ref cNotAdjacent) "__setattr__" = some (some (.builtin "object.__setattr__"))) (e2NotAdjacent : PySem.W.subIn K (.ref cNotAdjacent) (.type "BaseException") = some true) (e3NotAdjacent : PySem.W.typeIn K (.ref cNotAdjacent) = some (.type "type")) (e4NotAdjacent : PySem.W.keepIn K (.ref cNotAdjacent) = true)
    (e5NotAdjacent : PySem.W.findIn K (.ref cNotAdjacent) "__getattribute__" = some (some (.builtin "BaseException.__getattribute__"))) (e6NotAdjacent : PySem.W.findIn K (.ref cNotAdjacent) "__getattr__" = some none) (e7NotAdjacent : PySem.W.hasDictIn K cNotAdjacent = true)
    (e8NotAdjacent : PySem.W.findIn K (.ref cNotAdjacent) "__class__" = some (some (.builtin "object.__class__"))) (e9NotAdjacent : PySem.W.specialIn K (.builtin "object.__class__") "__get__" = some (some (.builtin "getset_descriptor.__get__"))) (eANotAdjacent : PySem.W.takesIn K (.builtin "object.__class__") = some true) (eBNotAdjacent : PySem.W.mroIn K cNotAdjacent (.type "object") = some true)
    (eCNotAdjacent : PySem.W.findIn K (.ref cNotAdjacent) "__init__" = some (some (.ref iNotAdjacent))) (eDNotAdjacent : PySem.W.typeIn K (.ref iNotAdjacent) = some (.type "function")) (eENotAdjacent : PySem.W.findIn K (.ref cNotAdjacent) "value" = some none) (eFNotAdjacent : PySem.W.subIn K (.ref cNotAdjacent) (.ref cNotAdjacent) = some true) (eGNotAdjacent : PySem.W.subIn K (.ref cNotAdjacent) (.type "ValueError") = some true)
    (eHNotAdjacent : K.lookup iNotAdjacent = some ⟨ioc1, iod1, .func (PySem.W.fnOf "__init__" "NotAdjacent.__init__" (defArgs sNotadjacentInit) (defBody sNotadjacentInit) (defScope sNotadjacentInit) .none ikV1 idc1 ipm1 ian1 icd1 ict1), isl1⟩) (eINotAdjacent : PySem.W.codeIn K icd1 "NotAdjacent.__init__" = true) (eJNotAdjacent : PySem.W.keepIn K (.ref iNotAdjacent) = true)
    {cBlocked iBlocked eN2 : Addr} {en2 eq2 : Str} {eb2 em2 eu2 : List Value} {es2 : List Str} {ea2 : Bool} {ec2 : Option Bool} {ed2 : Option Addr} {e02 e12 e22 e32 e52 : Option Value}
    {iod2 ian2 : Option Addr} {isl2 : Array (Option Value)} {ioc2 ikV2 idc2 ipm2 icd2 ict2 : Value}
    (eaBlocked : PySem.W.nsIn K mainGlobals "Blocked" = some (some (.ref cBlocked))) (elBlocked : K.lookup cBlocked = some (excClassObj en2 eq2 cBlocked eN2 eb2 em2 true es2 eu2 ea2 ec2 ed2 e02 e12 e22 e32 e52 "ValueError.__new__")) (erBlocked : PySem.HandSPX.refsVE em2 = true)
    (e1Blocked : PySem.W.findIn K (.ref cBlocked) "__setattr__" = some (some (.builtin "object.__setattr__"))) (e2Blocked : PySem.W.subIn K (.ref cBlocked) (.type "BaseException") = some true) (e3Blocked : PySem.W.typeIn K (.ref cBlocked) = some (.type "type")) (e4Blocked : PySem.W.keepIn K (.ref cBlocked) = true)
    (e5Blocked : PySem.W.findIn K (.ref cBlocked) "__getattribute__" = some (some (.builtin "BaseException.__getattribute__"))) (e6Blocked : PySem.W.findIn K (.ref cBlocked) "__getattr__" = some none) (e7Blocked : PySem.W.hasDictIn K cBlocked = true)
    (e8Blocked : PySem.W.findIn K (.ref cBlocked) "__class__" = some (some (.builtin "object.__class__"))) (e9Blocked : PySem.W.specialIn K (.builtin "object.__class__") "__get__" = some (some (.builtin "getset_descriptor.__get__"))) (eABlocked : PySem.W.takesIn K (.builtin "object.__class__") = some true) (eBBlocked : PySem.W.mroIn K cBlocked (.type "object") = some true)
    (eCBlocked : PySem.W.findIn K (.ref cBlocked) "__init__" = some (some (.ref iBlocked))) (eDBlocked : PySem.W.typeIn K (.ref iBlocked) = some (.type "function")) (eEBlocked : PySem.W.findIn K (.ref cBlocked) "vertex" = some none) (eFBlocked : PySem.W.subIn K (.ref cBlocked) (.ref cBlocked) = some true) (eGBlocked : PySem.W.subIn K (.ref cBlocked) (.type "ValueError") = some true)
    (eHBlocked : K.lookup iBlocked = some ⟨ioc2, iod2, .func (PySem.W.fnOf "__init__" "Blocked.__init__" (defArgs sBlockedInit) (defBody sBlockedInit) (defScope sBlockedInit) .none ikV2 idc2 ipm2 ian2 icd2 ict2), isl2⟩) (eIBlocked : PySem.W.codeIn K icd2 "Blocked.__init__" = true) (eJBlocked : PySem.W.keepIn K (.ref iBlocked) = true)
    {cBadSlides iBadSlides eN3 : Addr} {en3 eq3 : Str} {eb3 em3 eu3 : List Value} {es3 : List Str} {ea3 : Bool} {ec3 : Option Bool} {ed3 : Option Addr} {e03 e13 e23 e33 e53 : Option Value}
    {iod3 ian3 : Option Addr} {isl3 : Array (Option Value)} {ioc3 ikV3 idc3 ipm3 icd3 ict3 : Value}
    (eaBadSlides : PySem.W.nsIn K mainGlobals "BadSlides" = some (some (.ref cBadSlides))) (elBadSlides : K.lookup cBadSlides = some (excClassObj en3 eq3 cBadSlides eN3 eb3 em3 true es3 eu3 ea3 ec3 ed3 e03 e13 e23 e33 e53 "ValueError.__new__")) (erBadSlides : PySem.HandSPX.refsVE em3 = true)
    (e1BadSlides : PySem.W.findIn K (.ref cBadSlides) "__setattr__" = some (some (.builtin "object.__setattr__"))) (e2BadSlides : PySem.W.subIn K (.ref cBadSlides) (.type "BaseException") = some true) (e3BadSlides : PySem.W.typeIn K (.ref cBadSlides) = some (.type "type")) (e4BadSlides : PySem.W.keepIn K (.ref cBadSlides) = true)
    (e5BadSlides : PySem.W.findIn K (.ref cBadSlides) "__getattribute__" = some (some (.builtin "BaseException.__getattribute__"))) (e6BadSlides : PySem.W.findIn K (.ref cBadSlides) "__getattr__" = some none) (e7BadSlides : PySem.W.hasDictIn K cBadSlides = true)
    (e8BadSlides : PySem.W.findIn K (.ref cBadSlides) "__class__" = some (some (.builtin "object.__class__"))) (e9BadSlides : PySem.W.specialIn K (.builtin "object.__class__") "__get__" = some (some (.builtin "getset_descriptor.__get__"))) (eABadSlides : PySem.W.takesIn K (.builtin "object.__class__") = some true) (eBBadSlides : PySem.W.mroIn K cBadSlides (.type "object") = some true)
    (eCBadSlides : PySem.W.findIn K (.ref cBadSlides) "__init__" = some (some (.ref iBadSlides))) (eDBadSlides : PySem.W.typeIn K (.ref iBadSlides) = some (.type "function")) (eEBadSlides : PySem.W.findIn K (.ref cBadSlides) "index" = some none) (eFBadSlides : PySem.W.subIn K (.ref cBadSlides) (.ref cBadSlides) = some true) (eGBadSlides : PySem.W.subIn K (.ref cBadSlides) (.type "ValueError") = some true)
    (eHBadSlides : K.lookup iBadSlides = some ⟨ioc3, iod3, .func (PySem.W.fnOf "__init__" "BadSlides.__init__" (defArgs sBadslidesInit) (defBody sBadslidesInit) (defScope sBadslidesInit) .none ikV3 idc3 ipm3 ian3 icd3 ict3), isl3⟩) (eIBadSlides : PySem.W.codeIn K icd3 "BadSlides.__init__" = true) (eJBadSlides : PySem.W.keepIn K (.ref iBadSlides) = true)

    (z0 : PySem.W.nsIn K mainGlobals "abs" = some none) (z1 : PySem.W.nsIn K mainGlobals "len" = some none) (z2 : PySem.W.nsIn K mainGlobals "int" = some none) (z3 : PySem.W.nsIn K mainGlobals "list" = some none) (z4 : PySem.W.nsIn K mainGlobals "range" = some none) (z5 : PySem.W.nsIn K mainGlobals "max" = some none) (z6 : PySem.W.nsIn K mainGlobals "tuple" = some none) (z7 : PySem.W.nsIn K mainGlobals "sorted" = some none) (z8 : PySem.W.nsIn K mainGlobals "isinstance" = some none) (z9 : PySem.W.nsIn K mainGlobals "bool" = some none) (z10 : PySem.W.nsIn K mainGlobals "enumerate" = some none) (z11 : PySem.W.nsIn K mainGlobals "repr" = some none) (z12 : PySem.W.nsIn K mainGlobals "any" = some none) (z13 : PySem.W.nsIn K mainGlobals "str" = some none) :
    ∃ fd : FuncData, (∀ (s : Shared) (v : Value), BindsTo s fd ⟨[v], []⟩ [("_law_script", v)]) ∧ ∀ base : Heap, K.In base → base.Ns mainGlobals mg → FnG l.prog w K mg base 17 fa fd ["_law_script"] (spLaw K) := by
  cases hfa.symm.trans (PySem.W.mg_of X G a37)
  have FIsNumber := fun_mk (st := sIsNumber) l0 c0 k0
  have FIsPair := fun_mk (st := sIsPair) l1 c1 k1
  have FIsVertex := fun_mk (st := sIsVertex) l2 c2 k2
  have FIsAscending := fun_mk (st := sIsAscending) l3 c3 k3
  have FIsSetting := fun_mk (st := sIsSetting) l4 c4 k4
  have FNeighboursOf := fun_mk (st := sNeighboursOf) l5 c5 k5
  have FBlockingLamps := fun_mk (st := sBlockingLamps) l6 c6 k6
  have FCheckLamp := fun_mk (st := sCheckLamp) l7 c7 k7
  have FSlideLamp := fun_mk (st := sSlideLamp) l8 c8 k8
  have FPossibleSlides := fun_mk (st := sPossibleSlides) l9 c9 k9
  have FIsPossible := fun_mk (st := sIsPossible) l10 c10 k10
  have FFollow := fun_mk (st := sFollow) l11 c11 k11
  have FChosenNeighbours := fun_mk (st := sChosenNeighbours) l12 c12 k12
  have FIsLock := fun_mk (st := sIsLock) l13 c13 k13
  have FFreeNeighbour := fun_mk (st := sFreeNeighbour) l14 c14 k14
  have FExitsOf := fun_mk (st := sExitsOf) l15 c15 k15
  have FGreatestLock := fun_mk (st := sGreatestLock) l16 c16 k16
  have FSlidesOut := fun_mk (st := sSlidesOut) l17 c17 k17
  have FLampCertificate := fun_mk (st := sLampCertificate) l18 c18 k18
  have FMovesLamp := fun_mk (st := sMovesLamp) l19 c19 k19
  have FLampHolds := fun_mk (st := sLampHolds) l20 c20 k20
  have FLDeck := fun_mk (st := sLDeck) l21 c21 k21
  have FLDraw := fun_mk (st := sLDraw) l22 c22 k22
  have FLForest := fun_mk (st := sLForest) l23 c23 k23
  have FLNear := fun_mk (st := sLNear) l24 c24 k24
  have FLParities := fun_mk (st := sLParities) l25 c25 k25
  have FLSetting := fun_mk (st := sLSetting) l26 c26 k26
  have FLIsLock := fun_mk (st := sLIsLock) l27 c27 k27
  have FLRigid := fun_mk (st := sLRigid) l28 c28 k28
  have FLCanSlide := fun_mk (st := sLCanSlide) l29 c29 k29
  have FLAfter := fun_mk (st := sLAfter) l30 c30 k30
  have FLFollowed := fun_mk (st := sLFollowed) l31 c31 k31
  have FLOdd := fun_mk (st := sLOdd) l32 c32 k32
  have FLReplaced := fun_mk (st := sLReplaced) l33 c33 k33
  have FLIsLockOf := fun_mk (st := sLIsLockOf) l34 c34 k34
  have FLDue := fun_mk (st := sLDue) l35 c35 k35
  have FLWalk := fun_mk (st := sLWalk) l36 c36 k36
  have FLaw := fun_mk (st := sLaw) l37 c37 k37
  have bIsNumber := FIsNumber.binds (ps := ["value"]) fun _ _ _ _ _ _ us hl => match us, hl with | [_], _ => rfl
  have bIsPair := FIsPair.binds (ps := ["value"]) fun _ _ _ _ _ _ us hl => match us, hl with | [_], _ => rfl
  have bIsVertex := FIsVertex.binds (ps := ["n", "value"]) fun _ _ _ _ _ _ us hl => match us, hl with | [_, _], _ => rfl
  have bIsAscending := FIsAscending.binds (ps := ["n", "value"]) fun _ _ _ _ _ _ us hl => match us, hl with | [_, _], _ => rfl
  have bIsSetting := FIsSetting.binds (ps := ["forest", "value"]) fun _ _ _ _ _ _ us hl => match us, hl with | [_, _], _ => rfl
  have bNeighboursOf := FNeighboursOf.binds (ps := ["forest", "vertex"]) fun _ _ _ _ _ _ us hl => match us, hl with | [_, _], _ => rfl
  have bBlockingLamps := FBlockingLamps.binds (ps := ["forest", "setting", "u", "v"]) fun _ _ _ _ _ _ us hl => match us, hl with | [_, _, _, _], _ => rfl
  have bCheckLamp := FCheckLamp.binds (ps := ["setting", "value"]) fun _ _ _ _ _ _ us hl => match us, hl with | [_, _], _ => rfl
  have bSlideLamp := FSlideLamp.binds (ps := ["forest", "setting", "u", "v"]) fun _ _ _ _ _ _ us hl => match us, hl with | [_, _, _, _], _ => rfl
  have bPossibleSlides := FPossibleSlides.binds (ps := ["forest", "setting"]) fun _ _ _ _ _ _ us hl => match us, hl with | [_, _], _ => rfl
  have bIsPossible := FIsPossible.binds (ps := ["forest", "setting", "value"]) fun _ _ _ _ _ _ us hl => match us, hl with | [_, _, _], _ => rfl
  have bFollow := FFollow.binds (ps := ["forest", "setting", "slides"]) fun _ _ _ _ _ _ us hl => match us, hl with | [_, _, _], _ => rfl
  have bChosenNeighbours := FChosenNeighbours.binds (ps := ["forest", "chosen", "vertex"]) fun _ _ _ _ _ _ us hl => match us, hl with | [_, _, _], _ => rfl
  have bIsLock := FIsLock.binds (ps := ["forest", "setting", "value"]) fun _ _ _ _ _ _ us hl => match us, hl with | [_, _, _], _ => rfl
  have bFreeNeighbour := FFreeNeighbour.binds (ps := ["forest", "left", "lamp"]) fun _ _ _ _ _ _ us hl => match us, hl with | [_, _, _], _ => rfl
  have bExitsOf := FExitsOf.binds (ps := ["forest", "setting"]) fun _ _ _ _ _ _ us hl => match us, hl with | [_, _], _ => rfl
  have bGreatestLock := FGreatestLock.binds (ps := ["forest", "setting"]) fun _ _ _ _ _ _ us hl => match us, hl with | [_, _], _ => rfl
  have bSlidesOut := FSlidesOut.binds (ps := ["forest", "setting", "exits", "lamp"]) fun _ _ _ _ _ _ us hl => match us, hl with | [_, _, _, _], _ => rfl
  have bLampCertificate := FLampCertificate.binds (ps := ["forest", "setting", "lamp"]) fun _ _ _ _ _ _ us hl => match us, hl with | [_, _, _], _ => rfl
  have bMovesLamp := FMovesLamp.binds (ps := ["forest", "setting", "lamp", "value"]) fun _ _ _ _ _ _ us hl => match us, hl with | [_, _, _, _], _ => rfl
  have bLampHolds := FLampHolds.binds (ps := ["forest", "setting", "lamp", "value"]) fun _ _ _ _ _ _ us hl => match us, hl with | [_, _, _, _], _ => rfl
  have bLDeck := FLDeck.binds (ps := ["_law_script"]) fun _ _ _ _ _ _ us hl => match us, hl with | [_], _ => rfl
  have bLDraw := FLDraw.binds (ps := ["_law_deck_here", "_law_bound"]) fun _ _ _ _ _ _ us hl => match us, hl with | [_, _], _ => rfl
  have bLForest := FLForest.binds (ps := ["_law_deck_here", "_law_most"]) fun _ _ _ _ _ _ us hl => match us, hl with | [_, _], _ => rfl
  have bLNear := FLNear.binds (ps := ["_law_forest_here", "_law_vertex"]) fun _ _ _ _ _ _ us hl => match us, hl with | [_, _], _ => rfl
  have bLParities := FLParities.binds (ps := ["_law_forest_here"]) fun _ _ _ _ _ _ us hl => match us, hl with | [_], _ => rfl
  have bLSetting := FLSetting.binds (ps := ["_law_deck_here", "_law_forest_here"]) fun _ _ _ _ _ _ us hl => match us, hl with | [_, _], _ => rfl
  have bLIsLock := FLIsLock.binds (ps := ["_law_forest_here", "_law_lamps"]) fun _ _ _ _ _ _ us hl => match us, hl with | [_, _], _ => rfl
  have bLRigid := FLRigid.binds (ps := ["_law_forest_here", "_law_setting_here"]) fun _ _ _ _ _ _ us hl => match us, hl with | [_, _], _ => rfl
  have bLCanSlide := FLCanSlide.binds (ps := ["_law_forest_here", "_law_setting_here", "_law_u", "_law_v"]) fun _ _ _ _ _ _ us hl => match us, hl with | [_, _, _, _], _ => rfl
  have bLAfter := FLAfter.binds (ps := ["_law_setting_here", "_law_u", "_law_v"]) fun _ _ _ _ _ _ us hl => match us, hl with | [_, _, _], _ => rfl
  have bLFollowed := FLFollowed.binds (ps := ["_law_forest_here", "_law_setting_here", "_law_slides"]) fun _ _ _ _ _ _ us hl => match us, hl with | [_, _, _], _ => rfl
  have bLOdd := FLOdd.binds (ps := ["_law_deck_here"]) fun _ _ _ _ _ _ us hl => match us, hl with | [_], _ => rfl
  have bLReplaced := FLReplaced.binds (ps := ["_law_deck_here", "_law_value", "_law_depth"]) fun _ _ _ _ _ _ us hl => match us, hl with | [_, _, _], _ => rfl
  have bLIsLockOf := FLIsLockOf.binds (ps := ["_law_forest_here", "_law_setting_here", "_law_value"]) fun _ _ _ _ _ _ us hl => match us, hl with | [_, _, _], _ => rfl
  have bLDue := FLDue.binds (ps := ["_law_forest_here", "_law_setting_here", "_law_lamp", "_law_value"]) fun _ _ _ _ _ _ us hl => match us, hl with | [_, _, _, _], _ => rfl
  have bLWalk := FLWalk.binds (ps := ["_law_deck_here", "_law_forest_here", "_law_setting_here", "_law_lamp"]) fun _ _ _ _ _ _ us hl => match us, hl with | [_, _, _, _], _ => rfl
  have m_abs := PySem.W.mg_none_of X G z0
  have m_len := PySem.W.mg_none_of X G z1
  have m_int := PySem.W.mg_none_of X G z2
  have m_list := PySem.W.mg_none_of X G z3
  have m_range := PySem.W.mg_none_of X G z4
  have m_max := PySem.W.mg_none_of X G z5
  have m_tuple := PySem.W.mg_none_of X G z6
  have m_sorted := PySem.W.mg_none_of X G z7
  have m_isinstance := PySem.W.mg_none_of X G z8
  have m_bool := PySem.W.mg_none_of X G z9
  have m_enumerate := PySem.W.mg_none_of X G z10
  have m_repr := PySem.W.mg_none_of X G z11
  have m_any := PySem.W.mg_none_of X G z12
  have m_str := PySem.W.mg_none_of X G z13
  have m_NoLamp := PySem.W.mg_of X G eaNoLamp
  have FNolampInit := fun_mk (st := sNolampInit) eHNoLamp eINoLamp eJNoLamp
  have bNolampInit := FNolampInit.binds (ps := ["self", "value"]) fun _ _ _ _ _ _ us hl => match us, hl with | [_, _], _ => rfl
  have m_NotAdjacent := PySem.W.mg_of X G eaNotAdjacent
  have FNotadjacentInit := fun_mk (st := sNotadjacentInit) eHNotAdjacent eINotAdjacent eJNotAdjacent
  have bNotadjacentInit := FNotadjacentInit.binds (ps := ["self", "value"]) fun _ _ _ _ _ _ us hl => match us, hl with | [_, _], _ => rfl
  have m_Blocked := PySem.W.mg_of X G eaBlocked
  have FBlockedInit := fun_mk (st := sBlockedInit) eHBlocked eIBlocked eJBlocked
  have bBlockedInit := FBlockedInit.binds (ps := ["self", "vertex"]) fun _ _ _ _ _ _ us hl => match us, hl with | [_, _], _ => rfl
  have m_BadSlides := PySem.W.mg_of X G eaBadSlides
  have FBadslidesInit := fun_mk (st := sBadslidesInit) eHBadSlides eIBadSlides eJBadSlides
  have bBadslidesInit := FBadslidesInit.binds (ps := ["self", "index"]) fun _ _ _ _ _ _ us hl => match us, hl with | [_, _], _ => rfl
  refine ⟨PySem.W.fnOf "law" "law" (defArgs sLaw) (defBody sLaw) (defScope sLaw) .none kV37 dc37 pm37 an37 cd37 ct37, fun s v => .of_eq rfl, fun base _ _ => ?_⟩
  have eNoLamp : ErrC l.prog w K mg base "NoLamp" "value" cNoLamp := ⟨⟨⟨_, _, _, _, _, _, _, _, _, _, _, _, _, _, _, elNoLamp, erNoLamp⟩, e1NoLamp, e2NoLamp, e3NoLamp, e4NoLamp⟩, ⟨e5NoLamp, e6NoLamp, e2NoLamp, e7NoLamp⟩, ⟨e5NoLamp, e6NoLamp, e2NoLamp, e7NoLamp, e8NoLamp, e9NoLamp, eANoLamp, eBNoLamp⟩, cls_of e7NoLamp, eENoLamp, m_NoLamp, _, _, _, eCNoLamp, eDNoLamp, ok_NolampInit FNolampInit ⟨⟨⟨_, _, _, _, _, _, _, _, _, _, _, _, _, _, _, elNoLamp, erNoLamp⟩, e1NoLamp, e2NoLamp, e3NoLamp, e4NoLamp⟩, eENoLamp⟩, bNolampInit⟩
  have eNotAdjacent : ErrC l.prog w K mg base "NotAdjacent" "value" cNotAdjacent := ⟨⟨⟨_, _, _, _, _, _, _, _, _, _, _, _, _, _, _, elNotAdjacent, erNotAdjacent⟩, e1NotAdjacent, e2NotAdjacent, e3NotAdjacent, e4NotAdjacent⟩, ⟨e5NotAdjacent, e6NotAdjacent, e2NotAdjacent, e7NotAdjacent⟩, ⟨e5NotAdjacent, e6NotAdjacent, e2NotAdjacent, e7NotAdjacent, e8NotAdjacent, e9NotAdjacent, eANotAdjacent, eBNotAdjacent⟩, cls_of e7NotAdjacent, eENotAdjacent, m_NotAdjacent, _, _, _, eCNotAdjacent, eDNotAdjacent, ok_NotadjacentInit FNotadjacentInit ⟨⟨⟨_, _, _, _, _, _, _, _, _, _, _, _, _, _, _, elNotAdjacent, erNotAdjacent⟩, e1NotAdjacent, e2NotAdjacent, e3NotAdjacent, e4NotAdjacent⟩, eENotAdjacent⟩, bNotadjacentInit⟩
  have eBlocked : ErrC l.prog w K mg base "Blocked" "vertex" cBlocked := ⟨⟨⟨_, _, _, _, _, _, _, _, _, _, _, _, _, _, _, elBlocked, erBlocked⟩, e1Blocked, e2Blocked, e3Blocked, e4Blocked⟩, ⟨e5Blocked, e6Blocked, e2Blocked, e7Blocked⟩, ⟨e5Blocked, e6Blocked, e2Blocked, e7Blocked, e8Blocked, e9Blocked, eABlocked, eBBlocked⟩, cls_of e7Blocked, eEBlocked, m_Blocked, _, _, _, eCBlocked, eDBlocked, ok_BlockedInit FBlockedInit ⟨⟨⟨_, _, _, _, _, _, _, _, _, _, _, _, _, _, _, elBlocked, erBlocked⟩, e1Blocked, e2Blocked, e3Blocked, e4Blocked⟩, eEBlocked⟩, bBlockedInit⟩
  have eBadSlides : ErrC l.prog w K mg base "BadSlides" "index" cBadSlides := ⟨⟨⟨_, _, _, _, _, _, _, _, _, _, _, _, _, _, _, elBadSlides, erBadSlides⟩, e1BadSlides, e2BadSlides, e3BadSlides, e4BadSlides⟩, ⟨e5BadSlides, e6BadSlides, e2BadSlides, e7BadSlides⟩, ⟨e5BadSlides, e6BadSlides, e2BadSlides, e7BadSlides, e8BadSlides, e9BadSlides, eABadSlides, eBBadSlides⟩, cls_of e7BadSlides, eEBadSlides, m_BadSlides, _, _, _, eCBadSlides, eDBadSlides, ok_BadslidesInit FBadslidesInit ⟨⟨⟨_, _, _, _, _, _, _, _, _, _, _, _, _, _, _, elBadSlides, erBadSlides⟩, e1BadSlides, e2BadSlides, e3BadSlides, e4BadSlides⟩, eEBadSlides⟩, bBadslidesInit⟩
  have ownIsNumber := fun {k : Nat} {sp : Sp} (G0 : FnOk l.prog w K mg base CX0 k f0 _ _ sp) => (Own.mk ⟨f0, _, G0, PySem.W.mg_of X G a0, k0, bIsNumber⟩ : Own l.prog w K mg base "is_number" k ["value"] sp)
  have ownIsPair := fun {k : Nat} {sp : Sp} (G0 : FnOk l.prog w K mg base CX0 k f1 _ _ sp) => (Own.mk ⟨f1, _, G0, PySem.W.mg_of X G a1, k1, bIsPair⟩ : Own l.prog w K mg base "is_pair" k ["value"] sp)
  have ownIsVertex := fun {k : Nat} {sp : Sp} (G0 : FnOk l.prog w K mg base CX0 k f2 _ _ sp) => (Own.mk ⟨f2, _, G0, PySem.W.mg_of X G a2, k2, bIsVertex⟩ : Own l.prog w K mg base "is_vertex" k ["n", "value"] sp)
  have ownIsAscending := fun {k : Nat} {sp : Sp} (G0 : FnOk l.prog w K mg base CX0 k f3 _ _ sp) => (Own.mk ⟨f3, _, G0, PySem.W.mg_of X G a3, k3, bIsAscending⟩ : Own l.prog w K mg base "is_ascending" k ["n", "value"] sp)
  have ownIsSetting := fun {k : Nat} {sp : Sp} (G0 : FnOk l.prog w K mg base CX0 k f4 _ _ sp) => (Own.mk ⟨f4, _, G0, PySem.W.mg_of X G a4, k4, bIsSetting⟩ : Own l.prog w K mg base "is_setting" k ["forest", "value"] sp)
  have ownNeighboursOf := fun {k : Nat} {sp : Sp} (G0 : FnOk l.prog w K mg base CX0 k f5 _ _ sp) => (Own.mk ⟨f5, _, G0, PySem.W.mg_of X G a5, k5, bNeighboursOf⟩ : Own l.prog w K mg base "neighbours_of" k ["forest", "vertex"] sp)
  have ownBlockingLamps := fun {k : Nat} {sp : Sp} (G0 : FnOk l.prog w K mg base CX0 k f6 _ _ sp) => (Own.mk ⟨f6, _, G0, PySem.W.mg_of X G a6, k6, bBlockingLamps⟩ : Own l.prog w K mg base "blocking_lamps" k ["forest", "setting", "u", "v"] sp)
  have wnxCheckLamp := fun {k : Nat} {sp : Sp} (G0 : FnOk l.prog w K mg base (L2.CX l.prog w) k f7 _ _ sp) => (OwnX.mk ⟨f7, _, G0, PySem.W.mg_of X G a7, k7, bCheckLamp⟩ : OwnX l.prog w K mg base "check_lamp" k ["setting", "value"] sp)
  have ownCheckLamp := fun {k : Nat} {sp : Sp} (G0 : FnOk l.prog w K mg base CX0 k f7 _ _ sp) => (Own.mk ⟨f7, _, G0, PySem.W.mg_of X G a7, k7, bCheckLamp⟩ : Own l.prog w K mg base "check_lamp" k ["setting", "value"] sp)
  have wnxSlideLamp := fun {k : Nat} {sp : Sp} (G0 : FnOk l.prog w K mg base (L2.CX l.prog w) k f8 _ _ sp) => (OwnX.mk ⟨f8, _, G0, PySem.W.mg_of X G a8, k8, bSlideLamp⟩ : OwnX l.prog w K mg base "slide_lamp" k ["forest", "setting", "u", "v"] sp)
  have ownPossibleSlides := fun {k : Nat} {sp : Sp} (G0 : FnOk l.prog w K mg base CX0 k f9 _ _ sp) => (Own.mk ⟨f9, _, G0, PySem.W.mg_of X G a9, k9, bPossibleSlides⟩ : Own l.prog w K mg base "possible_slides" k ["forest", "setting"] sp)
  have ownIsPossible := fun {k : Nat} {sp : Sp} (G0 : FnOk l.prog w K mg base CX0 k f10 _ _ sp) => (Own.mk ⟨f10, _, G0, PySem.W.mg_of X G a10, k10, bIsPossible⟩ : Own l.prog w K mg base "is_possible" k ["forest", "setting", "value"] sp)
  have wnxFollow := fun {k : Nat} {sp : Sp} (G0 : FnOk l.prog w K mg base (L2.CX l.prog w) k f11 _ _ sp) => (OwnX.mk ⟨f11, _, G0, PySem.W.mg_of X G a11, k11, bFollow⟩ : OwnX l.prog w K mg base "follow" k ["forest", "setting", "slides"] sp)
  have ownChosenNeighbours := fun {k : Nat} {sp : Sp} (G0 : FnOk l.prog w K mg base CX0 k f12 _ _ sp) => (Own.mk ⟨f12, _, G0, PySem.W.mg_of X G a12, k12, bChosenNeighbours⟩ : Own l.prog w K mg base "chosen_neighbours" k ["forest", "chosen", "vertex"] sp)
  have ownIsLock := fun {k : Nat} {sp : Sp} (G0 : FnOk l.prog w K mg base CX0 k f13 _ _ sp) => (Own.mk ⟨f13, _, G0, PySem.W.mg_of X G a13, k13, bIsLock⟩ : Own l.prog w K mg base "is_lock" k ["forest", "setting", "value"] sp)
  have ownFreeNeighbour := fun {k : Nat} {sp : Sp} (G0 : FnOk l.prog w K mg base CX0 k f14 _ _ sp) => (Own.mk ⟨f14, _, G0, PySem.W.mg_of X G a14, k14, bFreeNeighbour⟩ : Own l.prog w K mg base "free_neighbour" k ["forest", "left", "lamp"] sp)
  have ownExitsOf := fun {k : Nat} {sp : Sp} (G0 : FnOk l.prog w K mg base CX0 k f15 _ _ sp) => (Own.mk ⟨f15, _, G0, PySem.W.mg_of X G a15, k15, bExitsOf⟩ : Own l.prog w K mg base "exits_of" k ["forest", "setting"] sp)
  have ownGreatestLock := fun {k : Nat} {sp : Sp} (G0 : FnOk l.prog w K mg base CX0 k f16 _ _ sp) => (Own.mk ⟨f16, _, G0, PySem.W.mg_of X G a16, k16, bGreatestLock⟩ : Own l.prog w K mg base "greatest_lock" k ["forest", "setting"] sp)
  have ownSlidesOut := fun {k : Nat} {sp : Sp} (G0 : FnOk l.prog w K mg base CX0 k f17 _ _ sp) => (Own.mk ⟨f17, _, G0, PySem.W.mg_of X G a17, k17, bSlidesOut⟩ : Own l.prog w K mg base "slides_out" k ["forest", "setting", "exits", "lamp"] sp)
  have ownLampCertificate := fun {k : Nat} {sp : Sp} (G0 : FnOk l.prog w K mg base CX0 k f18 _ _ sp) => (Own.mk ⟨f18, _, G0, PySem.W.mg_of X G a18, k18, bLampCertificate⟩ : Own l.prog w K mg base "lamp_certificate" k ["forest", "setting", "lamp"] sp)
  have ownMovesLamp := fun {k : Nat} {sp : Sp} (G0 : FnOk l.prog w K mg base CX0 k f19 _ _ sp) => (Own.mk ⟨f19, _, G0, PySem.W.mg_of X G a19, k19, bMovesLamp⟩ : Own l.prog w K mg base "moves_lamp" k ["forest", "setting", "lamp", "value"] sp)
  have ownLampHolds := fun {k : Nat} {sp : Sp} (G0 : FnOk l.prog w K mg base CX0 k f20 _ _ sp) => (Own.mk ⟨f20, _, G0, PySem.W.mg_of X G a20, k20, bLampHolds⟩ : Own l.prog w K mg base "lamp_holds" k ["forest", "setting", "lamp", "value"] sp)
  have ownLDeck := fun {k : Nat} {sp : Sp} (G0 : FnOk l.prog w K mg base CX0 k f21 _ _ sp) => (Own.mk ⟨f21, _, G0, PySem.W.mg_of X G a21, k21, bLDeck⟩ : Own l.prog w K mg base "_law_deck" k ["_law_script"] sp)
  have ownLDraw := fun {k : Nat} {sp : Sp} (G0 : FnOk l.prog w K mg base CX0 k f22 _ _ sp) => (Own.mk ⟨f22, _, G0, PySem.W.mg_of X G a22, k22, bLDraw⟩ : Own l.prog w K mg base "_law_draw" k ["_law_deck_here", "_law_bound"] sp)
  have ownLForest := fun {k : Nat} {sp : Sp} (G0 : FnOk l.prog w K mg base CX0 k f23 _ _ sp) => (Own.mk ⟨f23, _, G0, PySem.W.mg_of X G a23, k23, bLForest⟩ : Own l.prog w K mg base "_law_forest" k ["_law_deck_here", "_law_most"] sp)
  have ownLNear := fun {k : Nat} {sp : Sp} (G0 : FnOk l.prog w K mg base CX0 k f24 _ _ sp) => (Own.mk ⟨f24, _, G0, PySem.W.mg_of X G a24, k24, bLNear⟩ : Own l.prog w K mg base "_law_near" k ["_law_forest_here", "_law_vertex"] sp)
  have ownLParities := fun {k : Nat} {sp : Sp} (G0 : FnOk l.prog w K mg base CX0 k f25 _ _ sp) => (Own.mk ⟨f25, _, G0, PySem.W.mg_of X G a25, k25, bLParities⟩ : Own l.prog w K mg base "_law_parities" k ["_law_forest_here"] sp)
  have ownLSetting := fun {k : Nat} {sp : Sp} (G0 : FnOk l.prog w K mg base CX0 k f26 _ _ sp) => (Own.mk ⟨f26, _, G0, PySem.W.mg_of X G a26, k26, bLSetting⟩ : Own l.prog w K mg base "_law_setting" k ["_law_deck_here", "_law_forest_here"] sp)
  have ownLIsLock := fun {k : Nat} {sp : Sp} (G0 : FnOk l.prog w K mg base CX0 k f27 _ _ sp) => (Own.mk ⟨f27, _, G0, PySem.W.mg_of X G a27, k27, bLIsLock⟩ : Own l.prog w K mg base "_law_is_lock" k ["_law_forest_here", "_law_lamps"] sp)
  have ownLRigid := fun {k : Nat} {sp : Sp} (G0 : FnOk l.prog w K mg base CX0 k f28 _ _ sp) => (Own.mk ⟨f28, _, G0, PySem.W.mg_of X G a28, k28, bLRigid⟩ : Own l.prog w K mg base "_law_rigid" k ["_law_forest_here", "_law_setting_here"] sp)
  have ownLCanSlide := fun {k : Nat} {sp : Sp} (G0 : FnOk l.prog w K mg base CX0 k f29 _ _ sp) => (Own.mk ⟨f29, _, G0, PySem.W.mg_of X G a29, k29, bLCanSlide⟩ : Own l.prog w K mg base "_law_can_slide" k ["_law_forest_here", "_law_setting_here", "_law_u", "_law_v"] sp)
  have ownLAfter := fun {k : Nat} {sp : Sp} (G0 : FnOk l.prog w K mg base CX0 k f30 _ _ sp) => (Own.mk ⟨f30, _, G0, PySem.W.mg_of X G a30, k30, bLAfter⟩ : Own l.prog w K mg base "_law_after" k ["_law_setting_here", "_law_u", "_law_v"] sp)
  have ownLFollowed := fun {k : Nat} {sp : Sp} (G0 : FnOk l.prog w K mg base CX0 k f31 _ _ sp) => (Own.mk ⟨f31, _, G0, PySem.W.mg_of X G a31, k31, bLFollowed⟩ : Own l.prog w K mg base "_law_followed" k ["_law_forest_here", "_law_setting_here", "_law_slides"] sp)
  have ownLOdd := fun {k : Nat} {sp : Sp} (G0 : FnOk l.prog w K mg base CX0 k f32 _ _ sp) => (Own.mk ⟨f32, _, G0, PySem.W.mg_of X G a32, k32, bLOdd⟩ : Own l.prog w K mg base "_law_odd" k ["_law_deck_here"] sp)
  have ownLReplaced := fun {k : Nat} {sp : Sp} (G0 : FnOk l.prog w K mg base CX0 k f33 _ _ sp) => (Own.mk ⟨f33, _, G0, PySem.W.mg_of X G a33, k33, bLReplaced⟩ : Own l.prog w K mg base "_law_replaced" k ["_law_deck_here", "_law_value", "_law_depth"] sp)
  have ownLIsLockOf := fun {k : Nat} {sp : Sp} (G0 : FnOk l.prog w K mg base CX0 k f34 _ _ sp) => (Own.mk ⟨f34, _, G0, PySem.W.mg_of X G a34, k34, bLIsLockOf⟩ : Own l.prog w K mg base "_law_is_lock_of" k ["_law_forest_here", "_law_setting_here", "_law_value"] sp)
  have ownLDue := fun {k : Nat} {sp : Sp} (G0 : FnOk l.prog w K mg base CX0 k f35 _ _ sp) => (Own.mk ⟨f35, _, G0, PySem.W.mg_of X G a35, k35, bLDue⟩ : Own l.prog w K mg base "_law_due" k ["_law_forest_here", "_law_setting_here", "_law_lamp", "_law_value"] sp)
  have ownLWalk := fun {k : Nat} {sp : Sp} (G0 : FnOk l.prog w K mg base CX0 k f36 _ _ sp) => (Own.mk ⟨f36, _, G0, PySem.W.mg_of X G a36, k36, bLWalk⟩ : Own l.prog w K mg base "_law_walk" k ["_law_deck_here", "_law_forest_here", "_law_setting_here", "_law_lamp"] sp)
  have oLDraw := ownLDraw (ok_LDraw (k := 0) FLDraw m_len m_max)
  have oLDeck := ownLDeck (ok_LDeck (k := 0) FLDeck m_abs)
  have oLForest := ownLForest (ok_LForest FLForest m_list m_range m_len m_max m_tuple m_sorted oLDraw)
  have oLNear := ownLNear (ok_LNear (k := 0) FLNear)
  have oLParities := ownLParities (ok_LParities FLParities m_range m_int oLNear)
  have oLSetting := ownLSetting (ok_LSetting FLSetting m_list m_range m_len m_tuple m_sorted oLDraw oLNear oLParities)
  have oNeighboursOf := ownNeighboursOf (ok_NeighboursOf (k := 0) FNeighboursOf m_tuple)
  have oBlockingLamps := ownBlockingLamps (ok_BlockingLamps (k := 0) FBlockingLamps m_tuple oNeighboursOf)
  have oFreeNeighbour := ownFreeNeighbour (ok_FreeNeighbour FFreeNeighbour oNeighboursOf oBlockingLamps)
  have oExitsOf := ownExitsOf (ok_ExitsOf FExitsOf m_tuple oFreeNeighbour)
  have oGreatestLock := ownGreatestLock (ok_GreatestLock FGreatestLock m_tuple oExitsOf)
  have oSlidesOut0 := ownSlidesOut (ok_SlidesOut0 FSlidesOut)
  have oSlidesOut1 := ownSlidesOut (ok_SlidesOut FSlidesOut oBlockingLamps oSlidesOut0)
  have oSlidesOut2 := ownSlidesOut (ok_SlidesOut FSlidesOut oBlockingLamps oSlidesOut1)
  have oSlidesOut3 := ownSlidesOut (ok_SlidesOut FSlidesOut oBlockingLamps oSlidesOut2)
  have oSlidesOut4 := ownSlidesOut (ok_SlidesOut FSlidesOut oBlockingLamps oSlidesOut3)
  have oSlidesOut5 := ownSlidesOut (ok_SlidesOut FSlidesOut oBlockingLamps oSlidesOut4)
  have oSlidesOut6 := ownSlidesOut (ok_SlidesOut FSlidesOut oBlockingLamps oSlidesOut5)
  have oSlidesOut7 := ownSlidesOut (ok_SlidesOut FSlidesOut oBlockingLamps oSlidesOut6)
  have oSlidesOut8 := ownSlidesOut (ok_SlidesOut FSlidesOut oBlockingLamps oSlidesOut7)
  have oSlidesOut9 := ownSlidesOut (ok_SlidesOut FSlidesOut oBlockingLamps oSlidesOut8)
  have oSlidesOut10 := ownSlidesOut (ok_SlidesOut FSlidesOut oBlockingLamps oSlidesOut9)
  have oSlidesOut11 := ownSlidesOut (ok_SlidesOut FSlidesOut oBlockingLamps oSlidesOut10)
  have oSlidesOut12 := ownSlidesOut (ok_SlidesOut FSlidesOut oBlockingLamps oSlidesOut11)
  have oSlidesOut13 := ownSlidesOut (ok_SlidesOut FSlidesOut oBlockingLamps oSlidesOut12)
  have oIsNumber := ownIsNumber (ok_IsNumber (k := 0) FIsNumber m_isinstance m_int m_bool)
  have oIsVertex := ownIsVertex (ok_IsVertex FIsVertex oIsNumber)
  have oIsAscending := ownIsAscending (ok_IsAscending FIsAscending m_isinstance m_tuple oIsVertex)
  have oIsSetting := ownIsSetting (ok_IsSetting FIsSetting m_any oIsAscending)
  have oChosenNeighbours := ownChosenNeighbours (ok_ChosenNeighbours FChosenNeighbours oNeighboursOf)
  have oIsLock := ownIsLock (ok_IsLock FIsLock m_any m_len m_range oIsSetting oChosenNeighbours)
  have oCheckLamp := ownCheckLamp (ok_CheckLamp0 FCheckLamp oIsNumber)
  have oLampCertificate := ownLampCertificate (ok_LampCertificate0 FLampCertificate m_tuple oCheckLamp oExitsOf oSlidesOut13 oGreatestLock)
  have xCheckLamp := wnxCheckLamp (ok_CheckLamp FCheckLamp eNoLamp oIsNumber)
  have xSlideLamp := wnxSlideLamp (ok_SlideLamp FSlideLamp m_tuple m_sorted eNotAdjacent eBlocked oIsNumber xCheckLamp oNeighboursOf oBlockingLamps)
  have oPossibleSlides := ownPossibleSlides (ok_PossibleSlides FPossibleSlides m_tuple oNeighboursOf oBlockingLamps)
  have oIsPair := ownIsPair (ok_IsPair (k := 0) FIsPair m_isinstance m_tuple m_len)
  have oIsPossible := ownIsPossible (ok_IsPossible FIsPossible oIsPair oIsNumber oPossibleSlides)
  have xFollow := wnxFollow (ok_Follow FFollow m_isinstance m_tuple m_enumerate eBadSlides oIsPossible xSlideLamp)
  have oMovesLamp := ownMovesLamp (ok_MovesLamp FMovesLamp m_BadSlides (exm_own e2BadSlides e7BadSlides e3BadSlides eFBadSlides) xFollow)
  have oLampHolds := ownLampHolds (ok_LampHolds FLampHolds oIsPair oIsLock oMovesLamp)
  have oLOdd := ownLOdd (ok_LOdd FLOdd oLDraw)
  have oLRep := ownLReplaced (ok_LReplacedNo FLReplaced)
  have oLRep0 := ownLReplaced (ok_LReplaced (j := 0) (c := 0) (g := fun N => 2 * N + 400) FLReplaced m_isinstance m_tuple m_len m_list m_int m_bool oLDraw oLOdd oLRep (fun c' h => by omega) (fun N => Nat.le_refl _))
  have oLRep1 := ownLReplaced (ok_LReplaced (j := 1) (c := 1) FLReplaced m_isinstance m_tuple m_len m_list m_int m_bool oLDraw oLOdd oLRep0 (fun c' h vs H Q E z => by cases h; exact z) (fun N => by omega))
  have oLRep2 := ownLReplaced (ok_LReplaced (j := 2) (c := 2) FLReplaced m_isinstance m_tuple m_len m_list m_int m_bool oLDraw oLOdd oLRep1 (fun c' h vs H Q E z => by cases h; exact z) (fun N => by omega))
  have oLRep3 := ownLReplaced (ok_LReplaced (j := 3) (c := 3) FLReplaced m_isinstance m_tuple m_len m_list m_int m_bool oLDraw oLOdd oLRep2 (fun c' h vs H Q E z => by cases h; exact z) (fun N => by omega))
  have oLRep4 := ownLReplaced (ok_LReplaced (j := 4) (c := 4) FLReplaced m_isinstance m_tuple m_len m_list m_int m_bool oLDraw oLOdd oLRep3 (fun c' h vs H Q E z => by cases h; exact z) (fun N => by omega))
  have oLIsLock := ownLIsLock (ok_LIsLock FLIsLock m_len m_range oLNear)
  have oLIsLockOf := ownLIsLockOf (ok_LIsLockOf FLIsLockOf m_isinstance m_tuple m_int m_bool m_enumerate oLIsLock)
  have oLCanSlide := ownLCanSlide (ok_LCanSlide FLCanSlide oLNear)
  have oLAfter := ownLAfter (ok_LAfter (k := 0) FLAfter m_tuple m_sorted)
  have oLFollowed := ownLFollowed (ok_LFollowed FLFollowed m_isinstance m_tuple m_len m_int m_bool oLCanSlide oLAfter)
  have oLDue := ownLDue (ok_LDue FLDue m_isinstance m_tuple m_len m_str m_enumerate oLIsLockOf oLFollowed)
  have oLWalk := ownLWalk (ok_LWalk FLWalk m_range m_len oLDraw oLNear oLCanSlide oLAfter)
  have oLRigid := ownLRigid (ok_LRigid FLRigid m_len m_list m_tuple oLNear)
  exact ok_Law FLaw m_range m_repr m_tuple oLDeck oLDraw oLForest oLSetting oLRigid oLampCertificate oLWalk oLOdd oLRep4 (fun N => by omega) oLampHolds oLDue
end TL
open PySem PySem.W PyProof.Rows
set_option maxHeartbeats 0 in
theorem PySem.Challenge.cw_treelamps_k13_lamp_certificates_judged_holds : PySem.Challenge.rw_treelamps_k13_lamp_certificates_judged.Holds := by
  w_on; o_law; k_head; (case hw => w_witness2)
  k_fill
  refine TL.walk_ofG (l := PySem.Challenge.rw_treelamps_k13_lamp_certificates_judged) (n := 63) (k := 17) (x := "_law_script") (sp := fun w => TL.spLaw _) rfl (by decide) rfl ⟨rfl, by decide, by decide⟩
    (fun w h Y => PySem.W.kIn_of Y) ?F (fun _ _ a ns hl _ hS => ⟨a, ns, rfl, hS, hl, fun _ => rfl⟩)
  case F =>
    intro w mg fa h KX G hmg
    refine' TL.all_mk KX G hmg ?a0 ?l0 ?c0 ?k0 ?a1 ?l1 ?c1 ?k1 ?a2 ?l2 ?c2 ?k2 ?a3 ?l3 ?c3 ?k3 ?a4 ?l4 ?c4 ?k4 ?a5 ?l5 ?c5 ?k5 ?a6 ?l6 ?c6 ?k6 ?a7 ?l7 ?c7 ?k7 ?a8 ?l8 ?c8 ?k8 ?a9 ?l9 ?c9 ?k9 ?a10 ?l10 ?c10 ?k10 ?a11 ?l11 ?c11 ?k11 ?a12 ?l12 ?c12 ?k12 ?a13 ?l13 ?c13 ?k13 ?a14 ?l14 ?c14 ?k14 ?a15 ?l15 ?c15 ?k15 ?a16 ?l16 ?c16 ?k16 ?a17 ?l17 ?c17 ?k17 ?a18 ?l18 ?c18 ?k18 ?a19 ?l19 ?c19 ?k19 ?a20 ?l20 ?c20 ?k20 ?a21 ?l21 ?c21 ?k21 ?a22 ?l22 ?c22 ?k22 ?a23 ?l23 ?c23 ?k23 ?a24 ?l24 ?c24 ?k24 ?a25 ?l25 ?c25 ?k25 ?a26 ?l26 ?c26 ?k26 ?a27 ?l27 ?c27 ?k27 ?a28 ?l28 ?c28 ?k28 ?a29 ?l29 ?c29 ?k29 ?a30 ?l30 ?c30 ?k30 ?a31 ?l31 ?c31 ?k31 ?a32 ?l32 ?c32 ?k32 ?a33 ?l33 ?c33 ?k33 ?a34 ?l34 ?c34 ?k34 ?a35 ?l35 ?c35 ?k35 ?a36 ?l36 ?c36 ?k36 ?a37 ?l37 ?c37 ?k37 ?eaNoLamp ?elNoLamp ?erNoLamp ?e1NoLamp ?e2NoLamp ?e3NoLamp ?e4NoLamp ?e5NoLamp ?e6NoLamp ?e7NoLamp ?e8NoLamp ?e9NoLamp ?eANoLamp ?eBNoLamp ?eCNoLamp ?eDNoLamp ?eENoLamp ?eFNoLamp ?eGNoLamp ?eHNoLamp ?eINoLamp ?eJNoLamp ?eaNotAdjacent ?elNotAdjacent ?erNotAdjacent ?e1NotAdjacent ?e2NotAdjacent ?e3NotAdjacent ?e4NotAdjacent ?e5NotAdjacent ?e6NotAdjacent ?e7NotAdjacent ?e8NotAdjacent ?e9NotAdjacent ?eANotAdjacent ?eBNotAdjacent ?eCNotAdjacent ?eDNotAdjacent ?eENotAdjacent ?eFNotAdjacent ?eGNotAdjacent ?eHNotAdjacent ?eINotAdjacent ?eJNotAdjacent ?eaBlocked ?elBlocked ?erBlocked ?e1Blocked ?e2Blocked ?e3Blocked ?e4Blocked ?e5Blocked ?e6Blocked ?e7Blocked ?e8Blocked ?e9Blocked ?eABlocked ?eBBlocked ?eCBlocked ?eDBlocked ?eEBlocked ?eFBlocked ?eGBlocked ?eHBlocked ?eIBlocked ?eJBlocked ?eaBadSlides ?elBadSlides ?erBadSlides ?e1BadSlides ?e2BadSlides ?e3BadSlides ?e4BadSlides ?e5BadSlides ?e6BadSlides ?e7BadSlides ?e8BadSlides ?e9BadSlides ?eABadSlides ?eBBadSlides ?eCBadSlides ?eDBadSlides ?eEBadSlides ?eFBadSlides ?eGBadSlides ?eHBadSlides ?eIBadSlides ?eJBadSlides ?z0 ?z1 ?z2 ?z3 ?z4 ?z5 ?z6 ?z7 ?z8 ?z9 ?z10 ?z11 ?z12 ?z13
    (case a0 => k_is); (case l0 => k_is); (case c0 => k_is); (case k0 => k_is); (case a1 => k_is); (case l1 => k_is); (case c1 => k_is); (case k1 => k_is); (case a2 => k_is); (case l2 => k_is); (case c2 => k_is); (case k2 => k_is); (case a3 => k_is); (case l3 => k_is); (case c3 => k_is); (case k3 => k_is); (case a4 => k_is); (case l4 => k_is); (case c4 => k_is); (case k4 => k_is); (case a5 => k_is); (case l5 => k_is); (case c5 => k_is); (case k5 => k_is); (case a6 => k_is); (case l6 => k_is); (case c6 => k_is); (case k6 => k_is); (case a7 => k_is); (case l7 => k_is); (case c7 => k_is); (case k7 => k_is); (case a8 => k_is); (case l8 => k_is); (case c8 => k_is); (case k8 => k_is); (case a9 => k_is); (case l9 => k_is); (case c9 => k_is); (case k9 => k_is); (case a10 => k_is); (case l10 => k_is); (case c10 => k_is); (case k10 => k_is); (case a11 => k_is); (case l11 => k_is); (case c11 => k_is); (case k11 => k_is); (case a12 => k_is); (case l12 => k_is); (case c12 => k_is); (case k12 => k_is); (case a13 => k_is); (case l13 => k_is); (case c13 => k_is); (case k13 => k_is); (case a14 => k_is); (case l14 => k_is); (case c14 => k_is); (case k14 => k_is); (case a15 => k_is); (case l15 => k_is); (case c15 => k_is); (case k15 => k_is); (case a16 => k_is); (case l16 => k_is); (case c16 => k_is); (case k16 => k_is); (case a17 => k_is); (case l17 => k_is); (case c17 => k_is); (case k17 => k_is); (case a18 => k_is); (case l18 => k_is); (case c18 => k_is); (case k18 => k_is); (case a19 => k_is); (case l19 => k_is); (case c19 => k_is); (case k19 => k_is); (case a20 => k_is); (case l20 => k_is); (case c20 => k_is); (case k20 => k_is); (case a21 => k_is); (case l21 => k_is); (case c21 => k_is); (case k21 => k_is); (case a22 => k_is); (case l22 => k_is); (case c22 => k_is); (case k22 => k_is); (case a23 => k_is); (case l23 => k_is); (case c23 => k_is); (case k23 => k_is); (case a24 => k_is); (case l24 => k_is); (case c24 => k_is); (case k24 => k_is); (case a25 => k_is); (case l25 => k_is); (case c25 => k_is); (case k25 => k_is); (case a26 => k_is); (case l26 => k_is); (case c26 => k_is); (case k26 => k_is); (case a27 => k_is); (case l27 => k_is); (case c27 => k_is); (case k27 => k_is); (case a28 => k_is); (case l28 => k_is); (case c28 => k_is); (case k28 => k_is); (case a29 => k_is); (case l29 => k_is); (case c29 => k_is); (case k29 => k_is); (case a30 => k_is); (case l30 => k_is); (case c30 => k_is); (case k30 => k_is); (case a31 => k_is); (case l31 => k_is); (case c31 => k_is); (case k31 => k_is); (case a32 => k_is); (case l32 => k_is); (case c32 => k_is); (case k32 => k_is); (case a33 => k_is); (case l33 => k_is); (case c33 => k_is); (case k33 => k_is); (case a34 => k_is); (case l34 => k_is); (case c34 => k_is); (case k34 => k_is); (case a35 => k_is); (case l35 => k_is); (case c35 => k_is); (case k35 => k_is); (case a36 => k_is); (case l36 => k_is); (case c36 => k_is); (case k36 => k_is); (case a37 => k_is); (case l37 => k_is); (case c37 => k_is); (case k37 => k_is); (case eaNoLamp => k_is); (case elNoLamp => k_is); (case erNoLamp => rfl); (case e1NoLamp => k_is); (case e2NoLamp => k_is); (case e3NoLamp => k_is); (case e4NoLamp => k_is); (case e5NoLamp => k_is); (case e6NoLamp => k_is); (case e7NoLamp => k_is); (case e8NoLamp => k_is); (case e9NoLamp => k_is); (case eANoLamp => k_is); (case eBNoLamp => k_is); (case eCNoLamp => k_is); (case eDNoLamp => k_is); (case eENoLamp => k_is); (case eFNoLamp => k_is); (case eGNoLamp => k_is); (case eHNoLamp => k_is); (case eINoLamp => k_is); (case eJNoLamp => k_is); (case eaNotAdjacent => k_is); (case elNotAdjacent => k_is); (case erNotAdjacent => rfl); (case e1NotAdjacent => k_is); (case e2NotAdjacent => k_is); (case e3NotAdjacent => k_is); (case e4NotAdjacent => k_is); (case e5NotAdjacent => k_is); (case e6NotAdjacent => k_is); (case e7NotAdjacent => k_is); (case e8NotAdjacent => k_is); (case e9NotAdjacent => k_is); (case eANotAdjacent => k_is); (case eBNotAdjacent => k_is); (case eCNotAdjacent => k_is); (case eDNotAdjacent => k_is); (case eENotAdjacent => k_is); (case eFNotAdjacent => k_is); (case eGNotAdjacent => k_is); (case eHNotAdjacent => k_is); (case eINotAdjacent => k_is); (case eJNotAdjacent => k_is); (case eaBlocked => k_is); (case elBlocked => k_is); (case erBlocked => rfl); (case e1Blocked => k_is); (case e2Blocked => k_is); (case e3Blocked => k_is); (case e4Blocked => k_is); (case e5Blocked => k_is); (case e6Blocked => k_is); (case e7Blocked => k_is); (case e8Blocked => k_is); (case e9Blocked => k_is); (case eABlocked => k_is); (case eBBlocked => k_is); (case eCBlocked => k_is); (case eDBlocked => k_is); (case eEBlocked => k_is); (case eFBlocked => k_is); (case eGBlocked => k_is); (case eHBlocked => k_is); (case eIBlocked => k_is); (case eJBlocked => k_is); (case eaBadSlides => k_is); (case elBadSlides => k_is); (case erBadSlides => rfl); (case e1BadSlides => k_is); (case e2BadSlides => k_is); (case e3BadSlides => k_is); (case e4BadSlides => k_is); (case e5BadSlides => k_is); (case e6BadSlides => k_is); (case e7BadSlides => k_is); (case e8BadSlides => k_is); (case e9BadSlides => k_is); (case eABadSlides => k_is); (case eBBadSlides => k_is); (case eCBadSlides => k_is); (case eDBadSlides => k_is); (case eEBadSlides => k_is); (case eFBadSlides => k_is); (case eGBadSlides => k_is); (case eHBadSlides => k_is); (case eIBadSlides => k_is); (case eJBadSlides => k_is); (case z0 => k_is); (case z1 => k_is); (case z2 => k_is); (case z3 => k_is); (case z4 => k_is); (case z5 => k_is); (case z6 => k_is); (case z7 => k_is); (case z8 => k_is); (case z9 => k_is); (case z10 => k_is); (case z11 => k_is); (case z12 => k_is); (case z13 => k_is)
